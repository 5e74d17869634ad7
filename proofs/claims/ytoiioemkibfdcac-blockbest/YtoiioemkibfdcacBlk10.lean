/-
  passLengths: the symbols by which lengths are told go to a function, one behind the other.
-/
import Derived.Test.YtoiioemkibfdcacBlk9
import Derived.Test.YtoiioemkibfdcacPBlk
namespace Go.Proofs.Ytoiioemkibfdcac
open Go.RowKit
set_option linter.unusedVariables false
set_option maxRecDepth 100000

def lenV : Value → Nat
  | .slice _ n _ => n
  | _ => 0

theorem drew_drew (w : World) (a b : Nat) : (w.drewN a).drewN b = w.drewN (a + b) := by simp

set_option maxHeartbeats 4000000 in
theorem passLengths_any (J : List (Nat × Nat × Nat) → World → Prop) (Ki : World → World → Prop) (kf : Nat) (cf : Array Value) (b o len cap : Nat) (l : List Int) (w : World) (hK : Snk3 J Ki kf cf (lenIs l)) (hl : l.length = len) (hlen : len ≤ 1000) (hcap : len ≤ cap) (hx : ∀ x ∈ l, 0 ≤ x ∧ x ≤ 15) (hrow : ∀ W, Ki w W → Row .i64 W b o l) (hJ : J [] w) :
    Calls Try.prog 105 #[.slice (some ⟨b, o, none⟩) len cap, .func (.func kf) #[] cf] w fun e w' => e = .returned (.tuple #[]) ∧ J (lenIs l) w' ∧ Ki w w' := by
  have HK := hide hK
  have HROW := hide hrow
  have HX := hide hx
  have HL := hide hl
  have HJ := hide hJ
  clear hK hrow hx hl hJ
  go_enter Try.func105, Try.ntmps105
  go_wp2_with fail
  go_loopw [0] (fun v wr => ∃ i n c : Nat, i + n = len ∧ n ≤ c ∧ (∃ a, v = .slice a n c ∧ (0 < n → a = some ⟨b, o + i, none⟩)) ∧ Hid (∃ IS, J IS wr ∧ Ki w wr ∧ IS ++ lenIs (l.drop i) = lenIs l)) (fun v _ => lenV v)
  case atStart => exact ⟨0, len, cap, by omega, hcap, ⟨some ⟨b, o, none⟩, rfl, fun _ => rfl⟩, hide ⟨[], unhide HJ, (unhide HK).refl _, rfl⟩⟩
  case round =>
    obtain ⟨i, n, c, hi, hnc, ⟨a, rfl, ha⟩, hst⟩ := hrel
    by_cases hlt : 0 < n
    · obtain rfl := ha hlt
      obtain ⟨IS, hJ, hKi, hIS⟩ := unhide hst
      have hR := unhide HROW wr hKi
      have hil : i < l.length := by rw [unhide HL]; omega
      have hd := drop_int hil
      obtain ⟨x, hxx⟩ := Int.eq_ofNat_of_zero_le (show 0 ≤ l.getD i 0 from (unhide HX _ (by simp [List.getD, hil])).1)
      have hx15 : x ≤ 15 := by
        have := (unhide HX (l.getD i 0) (by simp [List.getD, hil])).2
        omega
      rw [hxx] at hd
      obtain ⟨r, hr⟩ : ∃ r, l.drop (i + 1) = r := ⟨_, rfl⟩
      rw [hr] at hd
      have hrl : r.length = n - 1 := by rw [← hr, List.length_drop, unhide HL]; omega
      have hc0 : wr.cell? ⟨b, o + i, none⟩ = some (.int .i64 (x : Int)) := by
        have := hR i hil
        rw [hxx] at this
        exact this
      have hcells : ∀ k : Nat, 1 ≤ k → k < n → wr.cell? ⟨b, o + i + k, none⟩ = some (.int .i64 (r.getD (k - 1) 0)) := by
        intro k hk1 hk
        have h1 := hR (i + k) (by rw [unhide HL]; omega)
        have h2 : r.getD (k - 1) 0 = l.getD (i + k) 0 := by
          rw [← hr]
          simp only [List.getD, List.getElem?_drop]
          congr 2
          omega
        rw [h2, Nat.add_assoc]
        exact h1
      have HC := hide hcells
      have HD := hide hd
      have HS := hide (And.intro hJ (And.intro hKi hIS))
      have HRL := hide hrl
      have HR := hide hr
      have hnI : (0 : Int) < (n : Int) := by omega
      clear hst hJ hKi hIS hR hd hcells hrl hr hxx ha hil
      generalize wr = wl at *
      go_wp2
      go_loopw [4] (fun v W => ∃ k q : Nat, Hid (W = wl.drewN q) ∧ 1 ≤ k ∧ k ≤ n ∧ v = .int .i64 (k : Int) ∧ Hid (headN x r = (k - 1) + headN x (r.drop (k - 1)))) (fun v _ => n - (intOf v).toNat)
      case atStart => exact ⟨1, 0, hide rfl, Nat.le_refl _, by omega, rfl, hide (by simp)⟩
      case round =>
        obtain ⟨k, q, HW, hk1, hkn, rfl, hh⟩ := hrel
        have hc0' : wr.cell? ⟨b, o + i, none⟩ = some (.int .i64 (x : Int)) := by rw [unhide HW]; exact hc0
        by_cases hk : k < n
        · have c1 : wr.cell? ⟨b, o + i + k, none⟩ = some (.int .i64 (r.getD (k - 1) 0)) := by rw [unhide HW]; exact unhide HC k hk1 hk
          have hkI : (k : Int) < (n : Int) := by omega
          by_cases he : r.getD (k - 1) 0 = x
          · rw [he] at c1
            have HN : Hid (headN x r = (k + 1 - 1) + headN x (r.drop (k + 1 - 1))) := hide (by
              have := headN_next r (k - 1) (by rw [unhide HRL]; omega) he (unhide hh)
              rw [show k - 1 + 1 = k + 1 - 1 by omega] at this
              exact this)
            clear he hh
            go_wp2
            go_quiet (fail)
            go_wp2
            go_roundw
            case rel => exact ⟨k + 1, _, hide (by rw [unhide HW]; exact drew_drew _ _ _), by omega, by omega, by go_num, HN⟩
            case measure => simp [intOf]; omega
          · have hb : (r.getD (k - 1) 0 == (x : Int)) = false := by rw [beq_eq_false_iff_ne]; exact he
            have HN : Hid (headN x r = k - 1) := hide (headN_stop r (k - 1) (by rw [unhide HRL]; omega) he (unhide hh))
            generalize r.getD (k - 1) 0 = y at c1 hb
            clear he hh
            go_wp2
            go_quiet (fail)
            have HALL : Hid (IS ++ runI x k ++ lenIs (l.drop (i + k)) = lenIs l) := hide (by
              rw [← (unhide HS).2.2, unhide HD, lenIs_cons, Int.toNat_natCast, unhide HN, show k - 1 + 1 = k by omega, ← unhide HR, List.drop_drop, show i + 1 + (k - 1) = i + k by omega, List.append_assoc])
            go_wp2_with fail
            refine (passRun_any J Ki kf cf (lenIs l) (unhide HK) x k IS (lenIs (l.drop (i + k))) _ hx15 hk1 (by omega) (unhide HALL) ((unhide HK).jd _ (by rw [unhide HW]; exact (unhide HK).jd _ (unhide HS).1))).mono ?_
            rintro e w2 ⟨rfl, hJ2, hK2⟩
            have H2 := hide (And.intro hJ2 ((unhide HK).trans (unhide HS).2.1 ((unhide HK).trans (by rw [unhide HW]; exact (unhide HK).kd wl q) ((unhide HK).trans ((unhide HK).kd wr _) hK2))))
            clear hJ2 hK2
            go_wp2
            go_roundw
            case rel => exact ⟨i + k, n - k, c - k, by omega, by omega, ⟨_, rfl, fun _ => by rw [Nat.add_assoc]⟩, hide ⟨_, (unhide H2).1, (unhide H2).2, unhide HALL⟩⟩
            case measure => simp [lenV]; omega
        · obtain rfl : k = n := by omega
          have hkI : ¬ (k : Int) < (k : Int) := by omega
          have HN : Hid (headN x r = k - 1) := hide (headN_all r (k - 1) (by rw [unhide HRL]; omega) (unhide hh))
          clear hh hkI
          go_wp2
          go_quiet (fail)
          have HALL : Hid (IS ++ runI x k ++ lenIs (l.drop (i + k)) = lenIs l) := hide (by
            rw [← (unhide HS).2.2, unhide HD, lenIs_cons, Int.toNat_natCast, unhide HN, show k - 1 + 1 = k by omega, ← unhide HR, List.drop_drop, show i + 1 + (k - 1) = i + k by omega, List.append_assoc])
          go_wp2_with fail
          refine (passRun_any J Ki kf cf (lenIs l) (unhide HK) x k IS (lenIs (l.drop (i + k))) _ hx15 hk1 (by omega) (unhide HALL) ((unhide HK).jd _ (by rw [unhide HW]; exact (unhide HK).jd _ (unhide HS).1))).mono ?_
          rintro e w2 ⟨rfl, hJ2, hK2⟩
          have H2 := hide (And.intro hJ2 ((unhide HK).trans (unhide HS).2.1 ((unhide HK).trans (by rw [unhide HW]; exact (unhide HK).kd wl q) ((unhide HK).trans ((unhide HK).kd wr _) hK2))))
          clear hJ2 hK2
          go_wp2
          go_roundw
          case rel => exact ⟨i + k, 0, c - k, by omega, by omega, ⟨_, rfl, fun h => absurd h (by omega)⟩, hide ⟨_, (unhide H2).1, (unhide H2).2, unhide HALL⟩⟩
          case measure => simp [lenV]; omega
    · obtain rfl : n = 0 := by omega
      obtain ⟨IS, hJ, hKi, hIS⟩ := unhide hst
      rw [List.drop_eq_nil_of_le (by rw [unhide HL]; omega)] at hIS
      have HF : Hid (J (lenIs l) wr ∧ Ki w wr) := hide ⟨by rw [← hIS]; simpa [lenIs, lenI] using hJ, hKi⟩
      clear hst hJ hKi hIS ha
      go_wp2
      go_end0
      exact ⟨rfl, unhide HF⟩
end Go.Proofs.Ytoiioemkibfdcac
