/-
  What code.Check answers.
-/
import Derived.Test.YtmafecagcglaoabCode3
namespace Go.Proofs.Ytmafecagcglaoab
open Go.RowKit
set_option linter.unusedVariables false
set_option maxRecDepth 100000

theorem codeCheck_any (a : Option Addr) (len cap : Nat) (l : List Int) (w : World) (hl : l.length = len) (hM : len ≤ 9223372036854775807) (hR : RowIn .i64 w a l) :
    Calls Try.prog 25 #[.slice a len cap] w fun e w' => e = .returned (.int .i64 (errL l)) ∧ Below w.heap.size w w' := by
  go_enter Try.func25, Try.ntmps25
  go_wp2_with fail
  refine (count_any a len cap l w hl hM hR).mono ?_
  rintro e w1 ⟨rfl, hB1⟩
  have hz := hB1.size
  have HB := hide (hB1.alloc hz (.cells (arr (cntE l)) 63))
  clear hB1
  go_wp2_with (refine store_new rfl (.tmp 3) (.tmp 8) rfl w1 (fun _ => 0) (cntE l) rfl rfl rfl ?_)
  go_ret
  exact ⟨rfl, unhide HB⟩
end Go.Proofs.Ytmafecagcglaoab
