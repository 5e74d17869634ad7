/-
  A row of the call's own stays where nothing but new blocks came.
-/
import Derived.Test.YtfojmdbpjkkpbaeDoorKit
namespace Go.Proofs.YtfojmdbpjkkpbaeDoor
open Go.RowKit
set_option linter.unusedVariables false
theorem below_grown {w w' : World} (h : Below w.heap.size w w') : w.grownBy w' none := ⟨h.os, h.tape, h.output, h.size, fun k hk _ => h.block k hk⟩
theorem own_below {w w' : World} {B e size n : Nat} {v : Value} {xs : List Value} (h : w.ownsRow B e size v n xs) (hg : Below w.heap.size w w') : w'.ownsRow B e size v n xs :=
  h.kept (below_grown hg) (by cases hv : v.ownBlock with
    | none => exact .inl rfl
    | some k => exact .inr (by simp))
end Go.Proofs.YtfojmdbpjkkpbaeDoor
