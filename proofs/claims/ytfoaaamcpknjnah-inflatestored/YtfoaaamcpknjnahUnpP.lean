/-
  Codes are told apart; the next place is sought. Of bits alone.
-/
import Derived.Test.YtfoaaamcpknjnahUnp0
namespace Go.Proofs.Ytfoaaamcpknjnah
set_option linter.unusedVariables false
set_option maxRecDepth 100000

theorem hb_inj : ∀ n c c', c < 2 ^ n → c' < 2 ^ n → hb c n = hb c' n → c = c'
  | 0, c, c', h, h', _ => by simp at h h'; omega
  | n + 1, c, c', h, h', e => by
    rw [Nat.pow_succ] at h h'
    rw [hb, hb] at e
    have e1 := List.append_inj e (by rw [hb_length, hb_length])
    have e2 := hb_inj n (c / 2) (c' / 2) (by omega) (by omega) e1.1
    have e3 : decide (c % 2 = 1) = decide (c' % 2 = 1) := by simpa using e1.2
    have e4 : (c % 2 = 1 ↔ c' % 2 = 1) := by simpa using e3
    omega
theorem codeT_inj (l : List Int) (hG : Good l) (s : List Bool) (hs : s ≠ []) (q q' : Nat) (hq : q < l.length) (hq' : q' < l.length) (e : codeT l q = s) (e' : codeT l q' = s) : q = q' := by
  obtain ⟨m, hm⟩ := Int.eq_ofNat_of_zero_le (hG.ok q hq).1
  obtain ⟨m', hm'⟩ := Int.eq_ofNat_of_zero_le (hG.ok q' hq').1
  have hl := congrArg List.length (e.trans e'.symm)
  have hs0 : 0 < m := by
    by_cases h : m = 0
    · subst h; unfold codeT at e; rw [hm] at e; exact absurd e.symm hs
    · omega
  have ee := e.trans e'.symm
  unfold codeT at hl ee
  rw [hm, hm', Int.toNat_natCast, Int.toNat_natCast] at hl ee
  rw [hb_length, hb_length] at hl
  subst hl
  by_cases h : q = q'
  · exact h
  · have c3 := (code_lt l hG hq hm hs0).2.2
    have c3' := (code_lt l hG hq' hm' hs0).2.2
    have := prefix_free l hG hq hq' hm hm' h hs0 (Nat.le_refl _)
    rw [Nat.sub_self, Nat.pow_zero, Nat.div_one] at this
    exact absurd (hb_inj m _ _ c3' c3 ee.symm) this
theorem nextF_go (l : List Int) (row : List Bool) (p : Nat) : ∀ k f, (∀ j, 1 ≤ j → j ≤ k → ¬ row.length < p + j ∧ findC l ((row.drop p).take j) = none) → ∀ n, n + k = k + 1 → nextF l row p (k + f) n = nextF l row p f (n + k)
  | 0, f, _, n, _ => by simp
  | k + 1, f, h, n, hn => by
    have e := nextF_go l row p k (f + 1) (fun j h1 h2 => h j h1 (by omega)) n (by omega)
    rw [show k + 1 + f = k + (f + 1) by omega, e]
    obtain rfl : n = 1 := by omega
    obtain ⟨a1, a2⟩ := h (k + 1) (by omega) (Nat.le_refl _)
    rw [nextF, show 1 + k = k + 1 by omega, if_neg a1, a2, show 1 + (k + 1) = k + 1 + 1 by omega]
end Go.Proofs.Ytfoaaamcpknjnah
