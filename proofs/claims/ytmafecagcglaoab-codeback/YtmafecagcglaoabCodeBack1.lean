/-
  The walk of the law CodeBack.
-/
import Derived.Test.YtmafecagcglaoabCoded
namespace Go.Proofs.Ytmafecagcglaoab
open Go.RowKit
set_option linter.unusedVariables false

theorem codeBack_err (v1 v2 : Value) (pe : Int) (w : World) (hpe : (pe != 0) = true) (hw : Hid (Calls Try.prog 16 #[v1, v2] w fun e w' => e = .returned (.tuple #[.slice none 0 0, .int .i64 pe]) ∧ Below w.heap.size w w')) :
    Calls Try.prog 4 #[v1, v2] w fun e w' => e = .returned (.bool true) ∧ Below w.heap.size w w' := by
  go_enter Try.func4, Try.ntmps4
  go_wp2_with fail
  refine (unhide hw).mono ?_
  rintro e w1 ⟨rfl, hB1⟩
  have HB1 := hide hB1
  clear hB1
  go_wp2_with fail
  refine (coded_any _).mono ?_
  rintro e w2 ⟨rfl, hB2⟩
  have HB2 := hide ((unhide HB1).trans (hB2.mono (unhide HB1).size))
  clear hB2
  go_wp2_with fail
  refine (coded_any _).mono ?_
  rintro e w3 ⟨rfl, hB3⟩
  have HB3 := hide ((unhide HB2).trans (hB3.mono (unhide HB2).size))
  clear hB3
  go_wp2
  go_ret
  exact ⟨rfl, unhide HB3⟩

theorem code_cell {w : World} {B g len : Nat} {l : List Int} (hO : w.ownsRow B 3 1 (.slice (some ⟨g, 0, none⟩) len len) len (i64s (codL l len))) (hl : l.length = len) {p : Nat} (hp : p < l.length) : w.cell? ⟨g, p, none⟩ = some (.int .i64 ((codeN l p : Nat) : Int)) := by
  rw [hO.cellAt p (by omega)]
  have e := codL_at l hp len
  rw [if_pos (by omega)] at e
  have hpl2 : p < (codL l len).length := by rw [codL_length]; exact hp
  have e2 : (codL l len)[p] = codeN l p := by simpa [List.getD, hpl2] using e
  simp [i64s, hpl2, e2]

set_option maxHeartbeats 2000000 in
set_option maxRecDepth 100000 in
theorem codeBack_ok (a : Option Addr) (len cap : Nat) (l : List Int) (a2 : Option Addr) (len2 cap2 : Nat) (ps : List Int) (w : World) (hl : l.length = len) (hR : RowIn .i64 w a l) (hG : Good l)
    (hl2 : ps.length = len2) (hm : len2 ≤ 3000) (hR2 : RowIn .i64 w a2 ps) (hall : ∀ j, j < len2 → okPlace l (ps.getD j 0) = true) :
    Calls Try.prog 4 #[.slice a len cap, .slice a2 len2 cap2] w fun e w' => e = .returned (.bool true) ∧ Below w.heap.size w w' := by
  have hlen := hG.len
  have HG := hide hG
  have HR := hide hR
  have HR2 := hide hR2
  have HALL := hide hall
  have HL := hide hl
  go_enter Try.func4, Try.ntmps4
  go_wp2_with fail
  refine (write_ok a len cap l a2 len2 cap2 ps w hl hR hG hl2 hm hR2 hall).mono ?_
  rintro e w1 ⟨g1, nb, rfl, hnb, hO1, hB1, hg1⟩
  have hz1 := hB1.size
  have HB1 := hide hB1
  have HY1 := hide (BytesIn.own hO1)
  have HF : Hid (AllFit (ps.map (prL l))) := fun j hj => by
    have hj' : j < ps.length := by simpa using hj
    have e : (ps.map (prL l)).getD j (0, 0) = prL l (ps.getD j 0) := by simp [List.getD, hj']
    rw [e]; exact prL_fit l hG (hall j (by omega))
  have hnb6 : nb ≤ 6000 := by
    have := atL_le (ps.map (prL l)) (unhide HF) len2 (by simp; omega)
    omega
  have HNB := hide hnb
  clear hB1 hO1 hR hR2 hG hall hnb
  go_wp2_with fail
  refine (coded_any _).mono ?_
  rintro e w2 ⟨rfl, hB2⟩
  have hz2 := hB2.size
  have HB2 := hide ((unhide HB1).trans (hB2.mono hz1))
  have HY2 := hide ((unhide HY1).below hB2 (Nat.le_refl _))
  clear hB2 HY1 HB1
  go_wp2_with fail
  refine (read_ok a len cap l (some ⟨g1, 0, none⟩) nb nb (rowL (ps.map (prL l)) len2) len2 _ hl ((unhide HR).below (unhide HB2) (Nat.le_refl _)) (unhide HG) (by rw [rowL_length, unhide HNB]; simp [hl2]) hnb6 (rowL_lt _ len2) (unhide HY2) hm).mono ?_
  rintro e w3 ⟨hB3, hw3⟩
  rcases hw3 with ⟨g3, xs, p3, rfl, hxl, hO3, hRT⟩ | ⟨xs, k, p, p', err, rfl, he, hk, hRT, hOut⟩
  rotate_left
  · subst hl2
    exact absurd (read_back_ok l (unhide HG) ps (unhide HALL) xs hk hRT hOut) he
  have hxs : xs.map (fun x : Nat => (x : Int)) = ps := by
    subst hl2
    exact list_of_getD hxl (read_back l (unhide HG) ps (unhide HALL) xs _ p3 (Nat.le_refl _) hRT).2
  have h3 := RowIn.own hO3
  rw [hxs] at h3
  have hz3 := hB3.size
  have HP3 := hide h3
  have HB3 := hide ((unhide HB2).trans (hB3.mono (by omega)))
  clear hB3 hO3 hRT hxs h3 HY2 HB2 hxl HNB HF
  go_wp2_with fail
  refine (codes_ok a len cap l _ hl ((unhide HR).below (unhide HB3) (Nat.le_refl _)) (unhide HG)).mono ?_
  rintro e w4 ⟨g4, rfl, hO4, hB4, hg4⟩
  have hz4 := hB4.size
  have HO4 := hide hO4
  have HP4 := hide ((unhide HP3).below hB4 (Nat.le_refl _))
  have HB4 := hide ((unhide HB3).trans (hB4.mono (by omega)))
  clear hB4 hO4 HP3 HB3
  go_wp2_with fail
  refine (equal_in _ _ _ _ _ _ ps ps _ hl2 hl2 (by omega) (by omega) (unhide HP4) ((unhide HR2).below (unhide HB4) (Nat.le_refl _))).mono ?_
  rintro e w5 ⟨rfl, q5, rfl⟩
  have e1 : (ps == ps) = true := by simp
  rw [e1]
  clear e1 HP4
  have hll : ((len : Int) != (len : Int)) = false := by simp
  go_wp2
  go_loopw [66] (fun vi wr => ∃ i q : Nat, i ≤ len ∧ vi = .int .i64 (i : Int) ∧ wr = w4.drewN q) (fun vi _ => len - (intOf vi).toNat)
  case atStart => exact ⟨0, q5, Nat.zero_le _, rfl, rfl⟩
  case round =>
    obtain ⟨i, q, hi, rfl, rfl⟩ := hrel
    by_cases hlt : i < len
    · have hli : i < l.length := by omega
      obtain ⟨b, o, rfl, hb, hRw⟩ : ∃ b o, a = some ⟨b, o, none⟩ ∧ b < w.heap.size ∧ Row .i64 w b o l := by
        rcases unhide HR with rfl | h
        · simp at hli
        · exact h
      have HRw := hide hRw
      have c1 := ((unhide HB4).cell (p := ⟨b, o + i, none⟩) hb).trans (hRw i hli)
      obtain ⟨m, hm2⟩ := Int.eq_ofNat_of_zero_le ((unhide HG).ok i hli).1
      rw [hm2] at c1
      have HM := hide hm2
      have hm15 : m ≤ 15 := by have := ((unhide HG).ok i hli).2; omega
      clear hm2 hRw
      go_wp2
      go_loopw [73] (fun vk wr => ∃ k q : Nat, k ≤ len ∧ vk = .int .i64 (k : Int) ∧ wr = w4.drewN q) (fun vk _ => len - (intOf vk).toNat)
      case atStart => exact ⟨0, q, Nat.zero_le _, rfl, rfl⟩
      case round =>
        obtain ⟨k, q2, hk, rfl, rfl⟩ := hrel
        by_cases hltk : k < len
        · have hlk : k < l.length := by omega
          have c2 := ((unhide HB4).cell (p := ⟨b, o + k, none⟩) hb).trans (unhide HRw k hlk)
          obtain ⟨n, hn2⟩ := Int.eq_ofNat_of_zero_le ((unhide HG).ok k hlk).1
          rw [hn2] at c2
          have HN := hide hn2
          have hn15 : n ≤ 15 := by have := ((unhide HG).ok k hlk).2; omega
          clear hn2
          by_cases hik : i = k
          · have hb1 : ((i : Int) != (k : Int)) = false := by rw [hik]; simp
            go_wp2
            go_quiet (fail)
            go_wp2
            go_roundw
            case rel => exact ⟨k + 1, _, by omega, by go_num, rfl⟩
            case measure => simp [intOf]; omega
          · have hb1 : ((i : Int) != (k : Int)) = true := by rw [bne_iff_ne]; omega
            by_cases hm0 : 0 < m
            · have hb2 : decide ((0 : Int) < (m : Int)) = true := decide_eq_true (by omega)
              by_cases hmn : m ≤ n
              · have hb3 : decide ((m : Int) ≤ (n : Int)) = true := decide_eq_true (by omega)
                obtain ⟨d, rfl⟩ : ∃ d, n = m + d := ⟨n - m, by omega⟩
                have c3 := code_cell (unhide HO4) (unhide HL) hlk
                have c4 := code_cell (unhide HO4) (unhide HL) hli
                have hpf := prefix_free l (unhide HG) hli hlk (unhide HM) (unhide HN) hik hm0 hmn
                rw [Nat.add_sub_cancel_left] at hpf
                have hX := (code_lt l (unhide HG) hlk (unhide HN) (by omega)).2.2
                have hX2 := pow_le_16 (k := m + d) (by omega)
                have hX3 : codeN l k < 65536 := by omega
                have hd : ((m : Int) + (d : Int) - (m : Int)) = (d : Int) := by omega
                have hb5 : decide ((m : Int) ≤ (m : Int) + (d : Int)) = true := decide_eq_true (by omega)
                have hb6 : (m : Int) ≤ (m : Int) + (d : Int) := by omega
                have hb4 : (((codeN l k : Nat) : Int) / 2 ^ d == ((codeN l i : Nat) : Int)) = false := by
                  rw [beq_eq_false_iff_ne, div_pow_cast]
                  omega
                clear hpf hX hX2
                generalize codeN l k = X at *
                generalize codeN l i = Y at *
                go_wp2
                go_quiet (fail)
                go_wp2
                go_roundw
                case rel => exact ⟨k + 1, _, by omega, by go_num, rfl⟩
                case measure => simp [intOf]; omega
              · have hb3 : decide ((m : Int) ≤ (n : Int)) = false := decide_eq_false (by omega)
                go_wp2
                go_quiet (fail)
                go_wp2
                go_roundw
                case rel => exact ⟨k + 1, _, by omega, by go_num, rfl⟩
                case measure => simp [intOf]; omega
            · have hb2 : decide ((0 : Int) < (m : Int)) = false := decide_eq_false (by omega)
              go_wp2
              go_quiet (fail)
              go_wp2
              go_roundw
              case rel => exact ⟨k + 1, _, by omega, by go_num, rfl⟩
              case measure => simp [intOf]; omega
        · obtain rfl : k = len := by omega
          go_wp2
          go_roundw
          case rel => exact ⟨i + 1, _, by omega, by go_num, rfl⟩
          case measure => simp [intOf]; omega
    · obtain rfl : i = len := by omega
      go_wp2
      go_ret
      exact ⟨rfl, below_drewN (unhide HB4) _⟩
end Go.Proofs.Ytmafecagcglaoab
