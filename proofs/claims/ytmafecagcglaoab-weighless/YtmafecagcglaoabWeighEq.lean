/-
  Plain facts: what is wanted has one order alone; what the closed fact's four places come to. No program is named here.
-/
import Derived.Test.YtmafecagcglaoabWeighNum
namespace Go.Proofs.Ytmafecagcglaoab
open Go.RowKit
set_option linter.unusedVariables false

/-- two rows of the same that rise are one -/
theorem perm_eq {α : Type} {R : α → α → Prop} (asy : ∀ a b, R a b → R b a → False) : ∀ (P Q : List α), P.Perm Q → P.Pairwise R → Q.Pairwise R → P = Q
  | [], Q, h, _, _ => by rw [List.nil_perm] at h; exact h.symm
  | p :: P, [], h, _, _ => by have := h.length_eq; simp at this
  | p :: P, q :: Q, h, hp, hq => by
    rw [List.pairwise_cons] at hp hq
    have e : p = q := by
      have h1 : p ∈ q :: Q := h.mem_iff.1 List.mem_cons_self
      have h2 : q ∈ p :: P := h.mem_iff.2 List.mem_cons_self
      rcases List.mem_cons.1 h1 with h1 | h1
      · exact h1
      · rcases List.mem_cons.1 h2 with h2 | h2
        · exact h2.symm
        · exact absurd (hq.1 p h1) (fun h => asy _ _ h (hp.1 q h2))
    subst e
    rw [perm_eq asy P Q ((List.perm_cons p).1 h) hp.2 hq.2]
theorem RiseOf.one {l : List Int} {P Q : List Nat} (h : RiseOf l P) (k : RiseOf l Q) : P = Q :=
  perm_eq (R := fun a b => l.getD a 0 < l.getD b 0 ∨ (l.getD a 0 = l.getD b 0 ∧ a < b)) (fun a b h1 h2 => by omega) P Q (h.perm.trans k.perm.symm) h.srt k.srt

theorem rise4 : RiseOf [1, 1, 2, 4] [0, 1, 2, 3] := ⟨by decide, by decide⟩
theorem lens4_15 {s : List Int} (h : IsLens [1, 1, 2, 4] 15 s) : s = [3, 3, 2, 1] := by
  obtain ⟨P, hP, rfl⟩ := h
  rw [hP.one rise4]
  decide
theorem lens4_2 {s : List Int} (h : IsLens [1, 1, 2, 4] 2 s) : s = [2, 2, 2, 2] := by
  obtain ⟨P, hP, rfl⟩ := h
  rw [hP.one rise4]
  decide
theorem goodW4 (m : Nat) (h : m = 15 ∨ m = 2) : GoodW [1, 1, 2, 4] m := by
  have hok : ∀ j, j < ([1, 1, 2, 4] : List Int).length → 0 ≤ ([1, 1, 2, 4] : List Int).getD j 0 ∧ ([1, 1, 2, 4] : List Int).getD j 0 ≤ 1000000 := by
    intro j hj
    match j, hj with
    | 0, _ => decide
    | 1, _ => decide
    | 2, _ => decide
    | 3, _ => decide
  rcases h with rfl | rfl
  · exact ⟨by decide, hok, by decide, by decide, by decide⟩
  · exact ⟨by decide, hok, by decide, by decide, by decide⟩
end Go.Proofs.Ytmafecagcglaoab
