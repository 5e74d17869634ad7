/-
  What the reader's bit and place answer.
-/
import Derived.Test.YtmafecagcglaoaaCode8
namespace Go.Proofs.Ytmafecagcglaoaa
open Go.RowKit
set_option linter.unusedVariables false

theorem bit_step (x r : Nat) (hx : x < 256) : bits .and .i64 (wrap64 ((x : Int) / 2 ^ r)) 1 = ((x / 2 ^ r % 2 : Nat) : Int) := by
  have e : ((x : Int) / 2 ^ r) = ((x / 2 ^ r : Nat) : Int) := by push_cast; rfl
  have h : x / 2 ^ r ≤ x := Nat.div_le_self _ _
  have h1 : wrap64 ((x : Int) / 2 ^ r) = ((x / 2 ^ r : Nat) : Int) := by
    rw [e]
    generalize x / 2 ^ r = y at *
    unfold wrap64; omega
  rw [h1]
  have h2 := i64_bit (x / 2 ^ r) 0 (by omega)
  simpa using h2

set_option maxRecDepth 100000 in
theorem bit_any (b : Nat) (c f g : Nat → Nat) (ov : Value) (bb o n2 c2 p : Nat) (bs : List Nat) (w : World) (hl : bs.length = n2) (hn : n2 ≤ 6000) (hp : p < 8 * n2) (hx : ∀ j, bs.getD j 0 < 256) (hD : Rdr w b c f g ov (.slice (some ⟨bb, o, none⟩) n2 c2) p) (hB : Bytes w bb o bs) :
    Calls Try.prog 63 #[.pointer (some ⟨b, 0, none⟩)] w fun e w' => e = .returned (.int .i64 ((bitL bs p : Nat) : Int)) ∧ ∃ q, w' = (w.drewN q).setCell ⟨b, 50, none⟩ (.int .i64 ((p + 1 : Nat) : Int)) := by
  have c1 := hD.row
  have c2 := hD.at
  have f2 := hD.frozen 50
  have hj : p / 8 < bs.length := by omega
  have c3 := hB _ hj
  have hx1 := hx (p / 8)
  have hj1 : ((p / 8 : Nat) : Int) < (n2 : Int) := by omega
  have hj2 : (p : Int) / 8 < (n2 : Int) := by omega
  have H : Hid (bitL bs p = bs.getD (p / 8) 0 / 2 ^ (p % 8) % 2) := rfl
  clear hD hB hx
  generalize bs.getD (p / 8) 0 = x at *
  go_enter Try.func63, Try.ntmps63
  go_wp2
  go_quiet (fail)
  go_wp2
  go_ret
  exact ⟨ret_int (by rw [unhide H]; exact bit_step x (p % 8) hx1), nq, rfl⟩

theorem or_bit (m x : Nat) (hm : m < 65536) (hx : x < 2) : bits .or .i64 ((m : Int) * 2) ((x : Nat) : Int) = ((2 * m + x : Nat) : Int) := by
  have e : ((m : Int) * 2) = ((2 * m : Nat) : Int) := by push_cast; omega
  rw [e, i64_or_nat _ _ (by omega) (by omega)]
  have := Nat.two_pow_add_eq_or_of_lt (i := 1) (b := x) (by omega) m
  simp only [Nat.pow_one] at this
  rw [this]

theorem ordN_pre (l : List Int) : ∀ k d, ∃ r, ordN l (k + d) = ordN l k ++ r
  | k, 0 => ⟨[], by simp⟩
  | k, d + 1 => by
    obtain ⟨r, hr⟩ := ordN_pre l k d
    exact ⟨r ++ plcK l (k + d + 1) l.length, by rw [← Nat.add_assoc, ordN, hr, List.append_assoc]⟩
theorem ord_at (l : List Int) {k i : Nat} (h1 : 1 ≤ k) (h2 : k ≤ 15) (hi : i < cnt l k) : (ordN l 15)[begP l 15 k + i]? = (plcK l k l.length)[i]? := by
  obtain ⟨m, rfl⟩ : ∃ m, k = m + 1 := ⟨k - 1, by omega⟩
  obtain ⟨r, hr⟩ := ordN_pre l (m + 1) (15 - (m + 1))
  rw [show m + 1 + (15 - (m + 1)) = 15 by omega] at hr
  have e : begP l 15 (m + 1) = (ordN l m).length := by unfold begP; rw [if_pos ⟨h1, h2⟩]; rfl
  have hl := plcK_length l (m + 1) l.length (Nat.le_refl _)
  rw [List.take_length] at hl
  rw [hr, e, ordN, List.append_assoc, List.getElem?_append_right (by omega), Nat.add_sub_cancel_left, List.getElem?_append_left (by omega)]
/-- bytes that lie below block B -/
def BytesBelow (w : World) (B : Nat) (a : Option Addr) (bs : List Nat) : Prop := bs = [] ∨ ∃ b o, a = some ⟨b, o, none⟩ ∧ b < B ∧ Bytes w b o bs
theorem BytesBelow.grown {w w' : World} {B : Nat} {a : Option Addr} {bs : List Nat} (h : BytesBelow w B a bs) (hg : w.grownBy w' (some B)) (hB : B < w.heap.size) : BytesBelow w' B a bs := by
  rcases h with h | ⟨b, o, h1, h2, h3⟩
  · exact .inl h
  · refine .inr ⟨b, o, h1, h2, fun j hj => ?_⟩
    exact hg.cell (h3 j hj) (by simp; omega)

theorem own_form {w : World} {B e size n : Nat} {v : Value} {xs : List Value} (h : w.ownsRow B e size v n xs) (hn : 0 < n) : ∃ g cap, v = .slice (some ⟨g, 0, none⟩) n cap ∧ B ≤ g ∧ g < w.heap.size := by
  rcases h.2 with ⟨h1, h2⟩ | ⟨g, cap, cur, h1, h2, h3⟩
  · omega
  · exact ⟨g, cap, h1, h2, (h.lt g (by rw [h1]; rfl)).2⟩
theorem grown_drewN {a b : World} {r : Option Nat} (h : a.grownBy b r) (n : Nat) : a.grownBy (b.drewN n) r := ⟨h.os, h.tape, h.output, h.size, h.block⟩

set_option maxHeartbeats 600000 in
set_option maxRecDepth 100000 in
theorem place_gen (l : List Int) (hG : Good l) (c f bg : Nat → Nat) (os : List Nat) (no : Nat) (Hc : Hid (c = cnt l)) (Hf : Hid (f = firstN (cnt l))) (Hbg : Hid (bg = begP l 15)) (Hos : Hid (os = ordN l 15)) (Hno : Hid (os.length = no)) (b : Nat) (ov : Value) (ad : Option Addr) (n2 c2 p : Nat) (bs : List Nat) (w : World) (hl : bs.length = n2) (hn : n2 ≤ 6000) (hp : p ≤ 8 * n2) (hx : ∀ j, bs.getD j 0 < 256)
    (hD : Rdr w b c f bg ov (.slice ad n2 c2) p) (hO : w.ownsRow (b + 1) 3 1 ov no (i64s os)) (hB : BytesBelow w b ad bs) :
    Calls Try.prog 52 #[.pointer (some ⟨b, 0, none⟩)] w fun e w' => ∃ (x p' : Nat) (err : Int), e = .returned (.tuple #[.int .i64 (x : Int), .int .i64 err]) ∧ Outcome l bs p x err p' ∧ p' ≤ 8 * n2 ∧
      Rdr w' b c f bg ov (.slice ad n2 c2) p' ∧ w.grownBy w' (some b) := by
  have HL := hide hl
  have HG := hide hG
  have HX := hide hx
  have HD0 := hide hD
  have HO0 := hide hO
  have HB0 := hide hB
  have hbl := hD.lt
  clear hD hO hB hx hG
  go_enter Try.func52, Try.ntmps52
  go_wp2
  go_loopw [4, 5] (fun s i wr => ∃ k : Nat, k ≤ 15 ∧ i = .int .i64 ((k : Int) + 1) ∧ s = .int .i64 ((codeAt bs p k : Nat) : Int) ∧ p + k ≤ 8 * n2 ∧ (∀ j, 1 ≤ j → j ≤ k → ¬ Hit l bs p j) ∧ Rdr wr b c f bg ov (.slice ad n2 c2) (p + k) ∧ w.grownBy wr (some b)) (fun _ i _ => 16 - (intOf i).toNat)
  case atStart => exact ⟨0, by omega, rfl, rfl, by omega, fun j h1 h2 => by omega, unhide HD0, grown_refl _ _⟩
  case round =>
    obtain ⟨k, hk, rfl, rfl, hpk, hno, hD, hgr⟩ := hrel
    have HD := hide hD
    have HGr := hide hgr
    have HNo := hide hno
    have cr := hD.row
    have ca := hD.at
    by_cases hlt : k < 15
    · by_cases hend : p + k = 8 * n2
      · have hb1 : (((p + k : Nat) : Int) == 8 * (n2 : Int)) = true := by rw [beq_iff_eq]; omega
        clear hD hgr hno
        go_wp2
        go_quiet (fail)
        go_wp2
        go_ret2
        exact ⟨0, p + k, 7, rfl, .inr (.inl ⟨k, hlt, unhide HNo, by rw [unhide HL]; exact hend, rfl, rfl, rfl⟩), hpk, (unhide HD).drewN nq, grown_drewN (unhide HGr) nq⟩
      · have hb1 : (((p + k : Nat) : Int) == 8 * (n2 : Int)) = false := by rw [beq_eq_false_iff_ne]; omega
        obtain ⟨bb, o, rfl, hbb, hBy⟩ : ∃ bb o, ad = some ⟨bb, o, none⟩ ∧ bb < b ∧ Bytes wr bb o bs := by
          rcases (unhide HB0).grown hgr hbl with rfl | h
          · simp at hl; omega
          · exact h
        have HBy := hide hBy
        have hm0 : codeAt bs p k < 65536 := by
          have hm := codeAt_lt bs p k
          have hm15 := pow_le_16 (k := k) (by omega)
          omega
        have HA : Hid (codeAt bs p (k + 1) = 2 * codeAt bs p k + bitL bs (p + k)) := rfl
        have HH : Hid (Hit l bs p (k + 1) ↔ (f (k + 1) ≤ 2 * codeAt bs p k + bitL bs (p + k) ∧ 2 * codeAt bs p k + bitL bs (p + k) < f (k + 1) + c (k + 1))) := by
          rw [unhide Hf, unhide Hc]; exact Iff.rfl
        clear hD hgr hno hBy
        generalize codeAt bs p k = m0 at *
        go_wp2
        go_quiet (fail)
        go_wp2_with fail
        refine (bit_any b c f bg ov bb o n2 c2 (p + k) bs _ hl hn (by omega) (unhide HX) ((unhide HD).drewN nq) (unhide HBy)).mono ?_
        rintro e w2 ⟨rfl, q, hw2⟩
        have hD2 : Rdr w2 b c f bg ov (.slice (some ⟨bb, o, none⟩) n2 c2) (p + (k + 1)) := by
          rw [hw2]; exact Rdr.setAt (((unhide HD).drewN nq).drewN q) (p + k + 1)
        have hg2 : w.grownBy w2 (some b) := by
          rw [hw2]; exact grown_trans (grown_drewN (grown_drewN (unhide HGr) nq) q) (grown_setCell _ b 50 _)
        have HD2 := hide hD2
        have HG2 := hide hg2
        have hO2 := (unhide HO0).kept hg2 (.inr (own_far (unhide HO0) (by omega)))
        have HO2 := hide hO2
        have c1 := hD2.first (i := k + 1) (by omega)
        have c2' := hD2.count (i := k + 1) (by omega)
        have c3 := hD2.begin (i := k + 1) (by omega)
        have c4 := hD2.order
        have hbit := bitL_lt bs (p + k)
        have hfs : f (k + 1) ≤ 9437184 := by rw [unhide Hf]; exact first_small (cnt l) (fun n => Nat.le_trans (cnt_le l n) (unhide HG).len) (k := k) (by omega)
        have hcs : c (k + 1) ≤ 288 := by rw [unhide Hc]; exact Nat.le_trans (cnt_le l _) (unhide HG).len
        have HOL : Hid (no ≤ 288 * 15) := by rw [← unhide Hno, unhide Hos]; exact ordN_le l (unhide HG).len (k := 15) (by omega)
        have HOA : Hid (∀ i, i < c (k + 1) → os[bg (k + 1) + i]? = (plcK l (k + 1) l.length)[i]?) := fun i hi => by
          rw [unhide Hos, unhide Hbg]; exact ord_at l (k := k + 1) (i := i) (by omega) (by omega) (by rw [← unhide Hc]; exact hi)
        have HPS : Hid (∀ i, i < c (k + 1) → ∃ x, (plcK l (k + 1) l.length)[i]? = some x) := fun i hi => plc_some l (k := k + 1) (i := i) (by rw [← unhide Hc]; exact hi)
        have hor := or_bit m0 (bitL bs (p + k)) hm0 hbit
        clear hw2 hD2 hg2 hO2 HD HGr HD0 cr ca HBy
        generalize bitL bs (p + k) = xb at *
        have hm2 : 2 * m0 + xb < 131072 := by omega
        generalize 2 * m0 + xb = m at *
        generalize hF : f (k + 1) = F at *
        generalize hC : c (k + 1) = C at *
        generalize bg (k + 1) = Bg at *
        have HF := hide hF
        have HC := hide hC
        clear hF hC hbit
        by_cases h1 : F ≤ m
        · by_cases h2 : m < F + C
          · obtain ⟨d, rfl⟩ : ∃ d, m = F + d := ⟨m - F, by omega⟩
            have h1i : (0 : Int) ≤ ((F + d : Nat) : Int) - (F : Int) := by omega
            have h2i : ((F + d : Nat) : Int) - (F : Int) < (C : Int) := by omega
            have h3i : ((F + d : Nat) : Int) - (F : Int) = (d : Int) := by omega
            have hdC : d < C := by omega
            obtain ⟨x, hx⟩ := unhide HPS d hdC
            have hox := (unhide HOA d hdC).trans hx
            have hlo : Bg + d < no := by
              by_cases e : Bg + d < no
              · exact e
              · have : os[Bg + d]? = none := by simp; rw [unhide Hno]; omega
                rw [this] at hox; cases hox
            obtain ⟨og, oc, rfl, hog, hog2⟩ := own_form (unhide HO2) (by omega)
            have c5 : w2.cell? ⟨og, Bg + d, none⟩ = some (.int .i64 ((x : Nat) : Int)) := by
              rw [(unhide HO2).cellAt (Bg + d) (by omega)]
              rw [List.getElem?_map, hox]; rfl
            have HX2 := hide hx
            have hlo2 := unhide HOL
            clear hox hx
            have hlo3 : (Bg : Int) + (d : Int) < (no : Int) := by omega
            have hp8 : p + (k + 1) ≤ 8 * n2 := by omega
            have HOut : Hid (Outcome l bs p x 0 (p + (k + 1))) := by
              refine .inl ⟨k + 1, by omega, by omega, fun j a1 a2 => unhide HNo j a1 (by omega), by rw [unhide HL]; exact hp8, (unhide HH).2 ⟨by omega, by omega⟩, rfl, rfl, ?_⟩
              rw [unhide HA, ← unhide Hf, unhide HF, Nat.add_sub_cancel_left]
              exact unhide HX2
            clear h1 h2 HPS HOA HOL HX2
            go_wp2
            go_quiet (fail)
            go_wp2
            go_ret2
            exact ⟨x, p + (k + 1), 0, rfl, unhide HOut, hp8, (unhide HD2).drewN _, grown_drewN (unhide HG2) _⟩
          · have h1i : (0 : Int) ≤ (m : Int) - (F : Int) := by omega
            have h2i : ¬ ((m : Int) - (F : Int) < (C : Int)) := by omega
            have HNo2 : Hid (∀ j, 1 ≤ j → j ≤ k + 1 → ¬ Hit l bs p j) := fun j a1 a2 => by
              by_cases e : j = k + 1
              · subst e; rw [unhide HH]; omega
              · exact unhide HNo j a1 (by omega)
            clear h1 h2 HPS HOA HOL HNo
            go_wp2
            go_roundw
            case rel => exact ⟨k + 1, by omega, by go_num, by rw [unhide HA], by omega, unhide HNo2, unhide HD2, unhide HG2⟩
            case measure => simp [intOf]; omega
        · have h1i : ¬ ((0 : Int) ≤ (m : Int) - (F : Int)) := by omega
          have HNo2 : Hid (∀ j, 1 ≤ j → j ≤ k + 1 → ¬ Hit l bs p j) := fun j a1 a2 => by
            by_cases e : j = k + 1
            · subst e; rw [unhide HH]; omega
            · exact unhide HNo j a1 (by omega)
          clear h1 HPS HOA HOL HNo
          go_wp2
          go_roundw
          case rel => exact ⟨k + 1, by omega, by go_num, by rw [unhide HA], by omega, unhide HNo2, unhide HD2, unhide HG2⟩
          case measure => simp [intOf]; omega
    · obtain rfl : k = 15 := by omega
      clear hD hgr hno
      go_wp2
      go_ret2
      exact ⟨0, p + 15, 8, rfl, .inr (.inr ⟨unhide HNo, by rw [unhide HL]; exact hpk, rfl, rfl, rfl⟩), hpk, unhide HD, unhide HGr⟩

theorem place_any (l : List Int) (hG : Good l) (b : Nat) (ov : Value) (ad : Option Addr) (n2 c2 p : Nat) (bs : List Nat) (w : World) (hl : bs.length = n2) (hn : n2 ≤ 6000) (hp : p ≤ 8 * n2) (hx : ∀ j, bs.getD j 0 < 256)
    (hD : Rdr w b (cnt l) (firstN (cnt l)) (begP l 15) ov (.slice ad n2 c2) p) (hO : w.ownsRow (b + 1) 3 1 ov (ordN l 15).length (i64s (ordN l 15))) (hB : BytesBelow w b ad bs) :
    Calls Try.prog 52 #[.pointer (some ⟨b, 0, none⟩)] w fun e w' => ∃ (x p' : Nat) (err : Int), e = .returned (.tuple #[.int .i64 (x : Int), .int .i64 err]) ∧ Outcome l bs p x err p' ∧ p' ≤ 8 * n2 ∧
      Rdr w' b (cnt l) (firstN (cnt l)) (begP l 15) ov (.slice ad n2 c2) p' ∧ w.grownBy w' (some b) :=
  place_gen l hG _ _ _ _ _ (hide rfl) (hide rfl) (hide rfl) (hide rfl) (hide rfl) b ov ad n2 c2 p bs w hl hn hp hx hD hO hB
end Go.Proofs.Ytmafecagcglaoaa
