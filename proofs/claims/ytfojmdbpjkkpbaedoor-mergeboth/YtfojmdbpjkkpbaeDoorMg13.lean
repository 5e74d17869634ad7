/-
  Are two slices of files alike?
-/
import Derived.Test.YtfojmdbpjkkpbaeDoorMg11
import Derived.Test.YtfojmdbpjkkpbaeDoorMg12
namespace Go.Proofs.YtfojmdbpjkkpbaeDoor
open Go.RowKit
set_option linter.unusedVariables false
theorem same_l {w : World} {v u : Value} {a b : List Fl} (h : LIn w v a) (k : LIn w u b) :
    Calls Tryd.prog 27 #[v, u] w fun e w' => e = .returned (.bool (decide (a = b))) ∧ Below w.heap.size w w' := by
  obtain ⟨ad, c, out, rfl, h2, h3⟩ := h
  obtain ⟨bd, d, out', rfl, k2, k3⟩ := k
  refine (sameFiles_any ad bd c d out out' w h2 k2 _ _ (fls_len h3) (fls_len k3)).mono ?_
  rintro e w' ⟨rfl, ha⟩
  rw [h3, k3]
  exact ⟨rfl, ha⟩
theorem same_yes {w : World} {v u : Value} {a b : List Fl} (h : LIn w v a) (k : LIn w u b) (e : a = b) :
    Calls Tryd.prog 27 #[v, u] w fun e w' => e = .returned (.bool true) ∧ Below w.heap.size w w' := by
  have := same_l h k
  rw [decide_eq_true e] at this
  exact this
end Go.Proofs.YtfojmdbpjkkpbaeDoor
