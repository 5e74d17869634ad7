/-
  Lengths that a block tells, of bits alone: they are lengths.
-/
import Derived.Test.YtfoaaamcpknjnahIun3
namespace Go.Proofs.Ytfoaaamcpknjnah
set_option linter.unusedVariables false
set_option maxRecDepth 100000

theorem errL_08 (l : List Int) (hl : l.length ≤ 288) (h : ∀ x ∈ l, 0 ≤ x ∧ x ≤ 15) : errL l = 0 ∨ errL l = 8 := by
  unfold errL
  rw [if_neg (by omega), if_neg]
  · split
    · exact .inr rfl
    · exact .inl rfl
  · rintro ⟨j, hj, hb⟩
    have hm := h (l.getD j 0) (by rw [List.getD, List.getElem?_eq_getElem hj]; exact List.getElem_mem hj)
    have := okLen_false hb
    omega
theorem ukind_val (row : List Bool) (l : List Int) (k : Nat) (u : US) (hk : k < 19) (hl : ∀ x ∈ l, 0 ≤ x ∧ x ≤ 15) (he : (ukind row l k u).2.2.e = 0) : 0 ≤ (ukind row l k u).1 ∧ (ukind row l k u).1 ≤ 15 := by
  unfold ukind at he ⊢
  by_cases c : k = 16
  · rw [if_pos c] at he ⊢
    by_cases d : l.length = 0
    · rw [if_pos d] at he
      exact absurd he (uwrong_e (by decide))
    · rw [if_neg d]
      have hj : l.length - 1 < l.length := by omega
      exact hl _ (by rw [List.getD, List.getElem?_eq_getElem hj]; exact List.getElem_mem hj)
  · rw [if_neg c]
    split
    · exact ⟨by simp, by simp⟩
    · split
      · exact ⟨by simp, by simp⟩
      · simp only
        omega
theorem ulens_vals {row : List Bool} {S : List Int} {tot : Nat} (hS : S.length = 19) : ∀ (F : Nat) (l : List Int) (u : US), (∀ x ∈ l, 0 ≤ x ∧ x ≤ 15) → (ulens row S tot F l u).2.e = 0 → ∀ x ∈ (ulens row S tot F l u).1, 0 ≤ x ∧ x ≤ 15
  | 0, l, u, hl, h => hl
  | F + 1, l, u, hl, h => by
    by_cases hc : l.length < tot ∧ u.e = 0
    · obtain ⟨r, e⟩ := ulens_round hc.1 hc.2 h
      rw [e] at h ⊢
      refine ulens_vals hS F _ _ ?_ h
      rw [r.st]
      have hk := (uplace_p2 (k := (uplace S row u).1) (v := (uplace S row u).2) rfl r.pe).2.2.2.2.2
      have hv := ukind_val row l (uplace S row u).1 (uplace S row u).2 (by omega) hl r.ke
      intro x hx
      rcases List.mem_append.1 hx with h1 | h1
      · exact hl x h1
      · rw [List.eq_of_mem_replicate h1]
        exact hv
    · rw [ulens, if_neg hc]
      exact hl
theorem usmall_vals {row : List Bool} : ∀ (ks : List Nat) (s : List Int) (u : US), (∀ x ∈ s, 0 ≤ x ∧ x ≤ 7) → ∀ x ∈ (usmall row ks s u).1, 0 ≤ x ∧ x ≤ 7
  | [], s, u, h => h
  | k :: r, s, u, h => by
    rw [usmall]
    refine usmall_vals r _ _ ?_
    intro x hx
    have hl := ulow row 3 u
    rcases List.mem_or_eq_of_mem_set hx with h1 | h1
    · exact h x h1
    · subst h1
      omega
end Go.Proofs.Ytfoaaamcpknjnah
