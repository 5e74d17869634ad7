/-
  Package name: Check of any text.
-/
import Derived.Test.YtfojmdbpjkkpbaeDoorNmP
namespace Go.Proofs.YtfojmdbpjkkpbaeDoor
open Go.RowKit
set_option linter.unusedVariables false
set_option maxRecDepth 100000

theorem check_any (s : List UInt8) (w : World) (hs : s.length ≤ maxLen) :
    Calls Tryd.prog 13 #[.string (B s)] w fun e w' => e = .returned (.int .i64 (errN s : Nat)) ∧ Below w.heap.size w w' := by
  have c := parts_any s w hs
  generalize B s = t at *
  go_enter Tryd.func13, Tryd.ntmps13
  go_wp2_with (go_at_call 9; refine c.mono ?_; rintro e w' ⟨v, rfl, _, hb, _⟩; have HB := hide hb; clear hb)
  go_ret
  exact ⟨rfl, unhide HB⟩
end Go.Proofs.YtfojmdbpjkkpbaeDoor
