/-
  Package inflate, of bits alone: tokens as the program reads them.
-/
import Derived.Test.YtfoaaamcpknjnahDec3
import Derived.Test.YtfoaaamcpknjnahInfB
namespace Go.Proofs.Ytfoaaamcpknjnah
set_option linter.unusedVariables false

/-- what a symbol says, which is not the end -/
def istep (row : List Bool) (lb : List Int) (k : Nat) (u : US) : US :=
  if k < 256 then (if 3000 < u.out.length + 1 then { u with e := 2 } else { u with out := u.out ++ [k] })
  else if 285 < k then { u with e := 8 }
  else if (uget row (leastS k).2 u).2.e ≠ 0 then (uget row (leastS k).2 u).2
  else if (ihow row lb (uget row (leastS k).2 u).2).2.e ≠ 0 then (ihow row lb (uget row (leastS k).2 u).2).2
  else iback (ihow row lb (uget row (leastS k).2 u).2).1 ((leastS k).1 + (uget row (leastS k).2 u).1) (ihow row lb (uget row (leastS k).2 u).2).2
/-- tokens, behind a first symbol -/
def itok (row : List Bool) (la lb : List Int) : Nat → Nat → US → US
  | 0, _, u => u
  | f + 1, k, u => if k = 256 then u
    else if (istep row lb k u).e ≠ 0 then istep row lb k u
    else if (uplace la row (istep row lb k u)).2.e ≠ 0 then (uplace la row (istep row lb k u)).2
    else itok row la lb f (uplace la row (istep row lb k u)).1 (uplace la row (istep row lb k u)).2
def itoks (row : List Bool) (la lb : List Int) (f : Nat) (u : US) : US :=
  if (uplace la row u).2.e ≠ 0 then (uplace la row u).2 else itok row la lb f (uplace la row u).1 (uplace la row u).2

theorem nextF_some (l : List Int) (row : List Bool) (p : Nat) : ∀ f n, 1 ≤ n → (nextF l row p f n).2.2 = 0 → 1 ≤ (nextF l row p f n).2.1
  | 0, n, _, h => absurd (show (8 : Int) = 0 from h) (by decide)
  | f + 1, n, hn, h => by
    unfold nextF at h ⊢
    split
    · rename_i hc
      rw [if_pos hc] at h
      exact absurd (show (7 : Int) = 0 from h) (by decide)
    · rename_i hc
      rw [if_neg hc] at h
      split
      · exact hn
      · rename_i hf
        rw [hf] at h
        exact nextF_some l row p f (n + 1) (by omega) h
theorem uplace_keeps (l : List Int) (row : List Bool) (u : US) : (uplace l row u).2.out = u.out ∧ (uplace l row u).2.ks = u.ks ∧ u.p ≤ (uplace l row u).2.p := by
  unfold uplace
  split
  · exact ⟨rfl, rfl, Nat.le_add_right _ _⟩
  · exact ⟨rfl, rfl, Nat.le_refl _⟩
theorem uplace_up (l : List Int) (row : List Bool) (u : US) (he : u.e = 0) (h : (uplace l row u).2.e = 0) : u.p < (uplace l row u).2.p := by
  unfold uplace at h ⊢
  rw [if_pos he] at h ⊢
  have := nextF_some l row u.p 15 1 (Nat.le_refl _) h
  show u.p < u.p + (nextR l row u.p).2.1
  unfold nextR
  omega
theorem uget_ge (row : List Bool) (n : Nat) (u : US) : u.p ≤ (uget row n u).2.p := by
  unfold uget
  split
  · split
    · exact Nat.le_refl _
    · exact Nat.le_add_right _ _
  · exact Nat.le_refl _
theorem leastF_rng : ∀ k, k ≤ 29 → 1 ≤ (leastF k).1 ∧ (leastF k).1 ≤ 40000 ∧ (leastF k).2 ≤ 13 := by decide
theorem leastS_rng0 : ∀ j, j ≤ 28 → 1 ≤ (leastS (257 + j)).1 ∧ (leastS (257 + j)).1 ≤ 300 ∧ (leastS (257 + j)).2 ≤ 5 := by decide
theorem leastS_rng (k : Nat) (h1 : 257 ≤ k) (h2 : k ≤ 285) : 1 ≤ (leastS k).1 ∧ (leastS k).1 ≤ 300 ∧ (leastS k).2 ≤ 5 := by
  obtain ⟨j, rfl⟩ : ∃ j, k = 257 + j := ⟨k - 257, by omega⟩
  exact leastS_rng0 j (by omega)
theorem ihow_keeps (row : List Bool) (l : List Int) (u : US) (hp : u.p ≤ row.length) : (ihow row l u).2.out = u.out ∧ (ihow row l u).2.ks = u.ks ∧ u.p ≤ (ihow row l u).2.p ∧ (ihow row l u).2.p ≤ row.length := by
  obtain ⟨h1, h2, h3⟩ := uplace_keeps l row u
  have h4 := uplace_le l row u hp
  unfold ihow
  split
  · exact ⟨h1, h2, h3, h4⟩
  · split
    · exact ⟨h1, h2, h3, h4⟩
    · exact ⟨(iget_out row _ _).trans h1, (iget_ks row _ _).trans h2, Nat.le_trans h3 (uget_ge _ _ _), iget_p row _ _ h4⟩
theorem ihow_rng (row : List Bool) (l : List Int) (u : US) (h : (ihow row l u).2.e = 0) : 1 ≤ (ihow row l u).1 ∧ (ihow row l u).1 ≤ 80000 := by
  unfold ihow at h ⊢
  split
  · rename_i hc
    rw [if_pos hc] at h
    exact absurd h hc
  · rename_i hc
    rw [if_neg hc] at h
    split
    · rename_i hd
      rw [if_pos hd] at h
      exact absurd (show (8 : Int) = 0 from h) (by decide)
    · rename_i hd
      obtain ⟨a1, a2, a3⟩ := leastF_rng (uplace l row u).1 (by omega)
      have := iget_lt row (leastF (uplace l row u).1).2 (uplace l row u).2
      have h13 : 2 ^ (leastF (uplace l row u).1).2 ≤ 2 ^ 13 := Nat.pow_le_pow_right (by decide) a3
      have : (2 : Nat) ^ 13 = 8192 := by decide
      dsimp only
      omega
end Go.Proofs.Ytfoaaamcpknjnah
