/-
  The document's reader, where nothing goes wrong: an error stays. Of bits alone.
-/
import Derived.Test.YtfoaaamcpknjnahUnp0
namespace Go.Proofs.Ytfoaaamcpknjnah
set_option linter.unusedVariables false
set_option maxRecDepth 100000

theorem uget_e {row : List Bool} {n : Nat} {u : US} (h : (uget row n u).2.e = 0) : u.e = 0 := by
  unfold uget at h
  by_cases e : u.e = 0
  · exact e
  · rw [if_neg e] at h; exact h
theorem uwrong_e {x : Int} {u : US} (hx : x ≠ 0) : (uwrong x u).e ≠ 0 := by
  unfold uwrong
  by_cases e : u.e = 0
  · rw [if_pos e]; exact hx
  · rw [if_neg e]; exact e
theorem uplace_e {l : List Int} {row : List Bool} {u : US} (h : (uplace l row u).2.e = 0) : u.e = 0 := by
  unfold uplace at h
  by_cases e : u.e = 0
  · exact e
  · rw [if_neg e] at h; exact h
theorem usmall_e {row : List Bool} : ∀ {ks : List Nat} {s : List Int} {u : US}, (usmall row ks s u).2.e = 0 → u.e = 0
  | [], s, u, h => h
  | k :: r, s, u, h => by
    rw [usmall] at h
    exact uget_e (usmall_e h)
theorem usmall_len {row : List Bool} : ∀ {ks : List Nat} {s : List Int} {u : US}, (usmall row ks s u).1.length = s.length
  | [], s, u => rfl
  | k :: r, s, u => by rw [usmall, usmall_len, List.length_set]
/-- one round of lengths, where all goes well -/
structure Round (row : List Bool) (small : List Int) (tot : Nat) (l : List Int) (u : US) : Prop where
  pe : (uplace small row u).2.e = 0
  ke : (ukind row l (uplace small row u).1 (uplace small row u).2).2.2.e = 0
  le : l.length + (ukind row l (uplace small row u).1 (uplace small row u).2).2.1 ≤ tot
  st : ustep row small tot l u = (l ++ List.replicate (ukind row l (uplace small row u).1 (uplace small row u).2).2.1 (ukind row l (uplace small row u).1 (uplace small row u).2).1, (ukind row l (uplace small row u).1 (uplace small row u).2).2.2)
theorem ukind_e {row : List Bool} {l : List Int} {k : Nat} {u : US} (h : (ukind row l k u).2.2.e = 0) : u.e = 0 := by
  unfold ukind at h
  split at h
  · split at h
    · exact absurd h (uwrong_e (by decide))
    · exact uget_e h
  · split at h
    · exact uget_e h
    · split at h
      · exact uget_e h
      · exact h
theorem ulens_stop {row : List Bool} {small : List Int} {tot F : Nat} {l : List Int} {u : US} (h : u.e ≠ 0) : ulens row small tot F l u = (l, u) := by
  cases F with
  | zero => rfl
  | succ F => rw [ulens, if_neg (fun h2 => h h2.2)]
theorem ulens_round {row : List Bool} {small : List Int} {tot F : Nat} {l : List Int} {u : US} (hl : l.length < tot) (he : u.e = 0) (hF : (ulens row small tot (F + 1) l u).2.e = 0) : Round row small tot l u ∧ ulens row small tot (F + 1) l u = ulens row small tot F (ustep row small tot l u).1 (ustep row small tot l u).2 := by
  have e1 : ulens row small tot (F + 1) l u = ulens row small tot F (ustep row small tot l u).1 (ustep row small tot l u).2 := by rw [ulens, if_pos ⟨hl, he⟩]
  have e2 : (ustep row small tot l u).2.e = 0 := by
    by_cases e : (ustep row small tot l u).2.e = 0
    · exact e
    · rw [e1, ulens_stop e] at hF; exact absurd hF e
  refine ⟨?_, e1⟩
  unfold ustep umore at e2
  simp only at e2
  by_cases hc : (ukind row l (uplace small row u).1 (uplace small row u).2).2.2.e = 0 ∧ tot < l.length + (ukind row l (uplace small row u).1 (uplace small row u).2).2.1
  · rw [if_pos hc] at e2
    exact absurd e2 (uwrong_e (by decide))
  · rw [if_neg hc] at e2
    refine ⟨ukind_e e2, e2, by omega, ?_⟩
    unfold ustep umore
    rw [if_neg hc]
theorem ulens_len {row : List Bool} {small : List Int} {tot : Nat} : ∀ (F : Nat) (l : List Int) (u : US), tot ≤ l.length + F → l.length ≤ tot → u.e = 0 → (ulens row small tot F l u).2.e = 0 → (∀ l u, Round row small tot l u → 1 ≤ (ukind row l (uplace small row u).1 (uplace small row u).2).2.1) → (ulens row small tot F l u).1.length = tot
  | 0, l, u, h1, h2, he, hF, hp => by rw [ulens]; simp only; omega
  | F + 1, l, u, h1, h2, he, hF, hp => by
    by_cases hl : l.length < tot
    · obtain ⟨r, e⟩ := ulens_round hl he hF
      have h3 := hp l u r
      have h4 := r.le
      rw [e] at hF ⊢
      rw [r.st] at hF ⊢
      exact ulens_len F _ _ (by simp; omega) (by simp; omega) r.ke hF hp
    · rw [ulens, if_neg (fun h => hl h.1)]
      simp only
      omega
theorem ulow (row : List Bool) (n : Nat) (u : US) : (uget row n u).1 < 2 ^ n := by
  unfold uget
  split
  · split
    · exact Nat.two_pow_pos n
    · refine Nat.lt_of_lt_of_le (numOf_lt _) (Nat.pow_le_pow_right (by decide) ?_)
      rw [List.length_take]
      exact Nat.min_le_left _ _
  · exact Nat.two_pow_pos n
theorem ukind_pos (row : List Bool) (l : List Int) (k : Nat) (u : US) : 1 ≤ (ukind row l k u).2.1 ∧ (ukind row l k u).2.1 ≤ 138 := by
  have h2 : (uget row 2 u).1 < 2 ^ 2 := ulow row 2 u
  have h3 : (uget row 3 u).1 < 2 ^ 3 := ulow row 3 u
  have h7 : (uget row 7 u).1 < 2 ^ 7 := ulow row 7 u
  unfold ukind
  split
  · split
    · exact ⟨Nat.le_refl _, by simp⟩
    · simp only; omega
  · split
    · simp only; omega
    · split
      · simp only; omega
      · exact ⟨Nat.le_refl _, by simp⟩
end Go.Proofs.Ytfoaaamcpknjnah
