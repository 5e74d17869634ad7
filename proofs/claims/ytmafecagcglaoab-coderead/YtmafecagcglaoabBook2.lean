/-
  The document's own Next reads what code's reader reads.
-/
import Derived.Test.YtmafecagcglaoabBook1
import Derived.Test.YtmafecagcglaoabCode11
import Derived.Test.YtmafecagcglaoabRowOf
namespace Go.Proofs.Ytmafecagcglaoab
open Go.RowKit Go.Maps
set_option linter.unusedVariables false
set_option maxRecDepth 100000

theorem hb_inj : ∀ n c c', c < 2 ^ n → c' < 2 ^ n → hb c n = hb c' n → c = c'
  | 0, c, c', h, h', _ => by simp at h h'; omega
  | n + 1, c, c', h, h', e => by
    rw [Nat.pow_succ] at h h'
    rw [hb, hb] at e
    have e1 := List.append_inj e (by rw [hb_length, hb_length])
    have e2 := hb_inj n (c / 2) (c' / 2) (by omega) (by omega) e1.1
    have e3 : decide (c % 2 = 1) = decide (c' % 2 = 1) := by simpa using e1.2
    have e4 : (c % 2 = 1 ↔ c' % 2 = 1) := by simpa using e3
    omega
theorem plcK_inv (l : List Int) (m : Nat) : ∀ k, k ≤ l.length → ∀ i q, (plcK l m k)[i]? = some q → q < k ∧ l.getD q 0 = (m : Int) ∧ cnt (l.take q) m = i
  | 0, _, i, q, h => by simp [plcK] at h
  | k + 1, hk, i, q, h => by
    rw [plcK] at h
    have hlen := plcK_length l m k (by omega)
    by_cases hi : i < (plcK l m k).length
    · rw [List.getElem?_append_left hi] at h
      obtain ⟨a, b, c⟩ := plcK_inv l m k (by omega) i q h
      exact ⟨by omega, b, c⟩
    · rw [List.getElem?_append_right (by omega)] at h
      by_cases e : l.getD k 0 = (m : Int)
      · rw [if_pos e] at h
        have hi0 : i - (plcK l m k).length = 0 := by
          by_cases h0 : i - (plcK l m k).length = 0
          · exact h0
          · obtain ⟨j, hj⟩ : ∃ j, i - (plcK l m k).length = j + 1 := ⟨_, (Nat.succ_pred h0).symm⟩
            rw [hj] at h; simp at h
        rw [hi0] at h
        simp at h
        subst h
        exact ⟨by omega, e, by omega⟩
      · rw [if_neg e] at h
        simp at h

theorem hit_iff (l : List Int) (hG : Good l) (bs : List Nat) (p n : Nat) (h1 : 1 ≤ n) (h15 : n ≤ 15) : Hit l bs p n ↔ ∃ q, q < l.length ∧ codeT l q = hb (codeAt bs p n) n := by
  constructor
  · rintro ⟨a, b⟩
    obtain ⟨q, hq⟩ := plc_some l (k := n) (i := codeAt bs p n - firstN (cnt l) n) (by omega)
    obtain ⟨q1, q2, q3⟩ := plcK_inv l n l.length (Nat.le_refl _) _ _ hq
    refine ⟨q, q1, ?_⟩
    have e := codeN_nxt l q2
    unfold nxt at e
    rw [if_neg (by omega)] at e
    unfold codeT
    rw [q2, Int.toNat_natCast, e, q3, show firstN (cnt l) n + (codeAt bs p n - firstN (cnt l) n) = codeAt bs p n by omega]
  · rintro ⟨q, hq, e⟩
    obtain ⟨m, hm⟩ := Int.eq_ofNat_of_zero_le (hG.ok q hq).1
    have hl := congrArg List.length e
    unfold codeT at hl e
    rw [hm, Int.toNat_natCast] at hl e
    rw [hb_length, hb_length] at hl
    subst hl
    obtain ⟨c1, c2, c3⟩ := code_lt l hG hq hm (by omega)
    have := hb_inj m _ _ c3 (codeAt_lt bs p m) e
    unfold Hit
    rw [← this]
    exact ⟨c1, c2⟩
theorem hit_place (l : List Int) (hG : Good l) (bs : List Nat) (p n q : Nat) (h1 : 1 ≤ n) (hq : q < l.length) (e : codeT l q = hb (codeAt bs p n) n) : (plcK l n l.length)[codeAt bs p n - firstN (cnt l) n]? = some q := by
  obtain ⟨m, hm⟩ := Int.eq_ofNat_of_zero_le (hG.ok q hq).1
  have hl := congrArg List.length e
  unfold codeT at hl e
  rw [hm, Int.toNat_natCast] at hl e
  rw [hb_length, hb_length] at hl
  subst hl
  obtain ⟨c1, c2, c3⟩ := code_lt l hG hq hm (by omega)
  have e2 := hb_inj m _ _ c3 (codeAt_lt bs p m) e
  have e3 := codeN_nxt l hm
  unfold nxt at e3
  rw [if_neg (by omega)] at e3
  rw [← e2, show codeN l q - firstN (cnt l) m = cnt (l.take q) m by omega]
  exact plcK_at l hq hm
theorem codeT_inj (l : List Int) (hG : Good l) (s : List Bool) (hs : s ≠ []) (q q' : Nat) (hq : q < l.length) (hq' : q' < l.length) (e : codeT l q = s) (e' : codeT l q' = s) : q = q' := by
  obtain ⟨m, hm⟩ := Int.eq_ofNat_of_zero_le (hG.ok q hq).1
  obtain ⟨m', hm'⟩ := Int.eq_ofNat_of_zero_le (hG.ok q' hq').1
  have hl := congrArg List.length (e.trans e'.symm)
  have hs0 : 0 < m := by
    by_cases h : m = 0
    · subst h; unfold codeT at e; rw [hm] at e; exact absurd e.symm hs
    · omega
  have ee := e.trans e'.symm
  unfold codeT at hl ee
  rw [hm, hm', Int.toNat_natCast, Int.toNat_natCast] at hl ee
  rw [hb_length, hb_length] at hl
  subst hl
  by_cases h : q = q'
  · exact h
  · have c3 := (code_lt l hG hq hm hs0).2.2
    have c3' := (code_lt l hG hq' hm' hs0).2.2
    have := prefix_free l hG hq hq' hm hm' h hs0 (Nat.le_refl _)
    rw [Nat.sub_self, Nat.pow_zero, Nat.div_one] at this
    exact absurd (hb_inj m _ _ c3' c3 ee.symm) this
theorem pre_hb (bs : List Nat) (n2 p : Nat) : ∀ n, p + n ≤ 8 * n2 → ((rowB bs n2).drop p).take n = hb (codeAt bs p n) n
  | 0, _ => by simp [hb]
  | n + 1, h => by
    have ih := pre_hb bs n2 p n (by omega)
    have hlen := rowB_length bs n2
    have hb1 := bitL_lt bs (p + n)
    have hdl : n < ((rowB bs n2).drop p).length := by rw [List.length_drop]; omega
    rw [List.take_succ_eq_append_getElem hdl, ih, codeAt, hb, show (2 * codeAt bs p n + bitL bs (p + n)) / 2 = codeAt bs p n by omega]
    congr 2
    have e1 : ((rowB bs n2).drop p)[n] = (rowB bs n2).getD (p + n) false := by
      rw [List.getElem_drop]
      simp [List.getD, show p + n < (rowB bs n2).length by omega]
    rw [e1, rowB_getD bs n2 (p + n) (by omega), bitL_at]
    cases bitAt bs (p + n) <;> simp <;> omega
end Go.Proofs.Ytmafecagcglaoab
