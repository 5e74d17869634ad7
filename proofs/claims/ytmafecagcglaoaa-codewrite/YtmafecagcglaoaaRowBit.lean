/-
  Numbers that are packed into a row of bits stand in it, each at its place.
-/
import Derived.Test.YtmafecagcglaoaaPack
namespace Go.Proofs.Ytmafecagcglaoaa
open Go.RowKit
set_option linter.unusedVariables false

theorem rowL_bit (ps : List (Int × Int)) : ∀ k, k ≤ ps.length →
    (∀ j i, j < k → i < (ps.getD j (0, 0)).2.toNat → bitAt (rowL ps k) (atL ps j + i) = (ps.getD j (0, 0)).1.toNat.testBit i) ∧ ∀ i, atL ps k ≤ i → bitAt (rowL ps k) i = false
  | 0, _ => by
    refine ⟨fun j i h => by omega, fun i _ => ?_⟩
    rw [rowL, bitAt, List.getD_eq_getElem?_getD, List.getElem?_replicate]
    split <;> simp
  | k + 1, hk => by
    obtain ⟨h1, h2⟩ := rowL_bit ps k (by omega)
    have hm := atL_mono ps (j := k + 1) (k := ps.length) hk
    have hlen := rowL_length ps k
    have hb := fun i => putL_bit (rowL ps k) (atL ps k) (ps.getD k (0, 0)).1.toNat (ps.getD k (0, 0)).2.toNat i (by rw [hlen]; rw [atL] at hm; omega)
    constructor
    · intro j i hj hi
      rw [rowL, hb]
      by_cases e : j = k
      · subst e
        rw [h2 _ (by omega), decide_eq_true (show atL ps j ≤ atL ps j + i ∧ atL ps j + i < atL ps j + (ps.getD j (0, 0)).2.toNat by omega)]
        simp
      · have hjk := atL_mono ps (j := j + 1) (k := k) (by omega)
        rw [atL] at hjk
        rw [h1 j i (by omega) hi, decide_eq_false (show ¬ (atL ps k ≤ atL ps j + i ∧ atL ps j + i < atL ps k + (ps.getD k (0, 0)).2.toNat) by omega)]
        simp
    · intro i hi
      rw [atL] at hi
      rw [rowL, hb, h2 i (by omega), decide_eq_false (show ¬ (atL ps k ≤ i ∧ i < atL ps k + (ps.getD k (0, 0)).2.toNat) by omega)]
      simp

end Go.Proofs.Ytmafecagcglaoaa
