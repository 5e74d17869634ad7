/-
  The closed fact of stage 9.
-/
import Derived.Test.YtblagchhjobefaeDoorNmJ
namespace Go.Proofs.YtblagchhjobefaeDoor
open Go.RowKit
set_option linter.unusedVariables false
set_option maxRecDepth 100000

theorem nm_c1 : errN [97, 47, 98, 46, 99] = 0 := by decide
theorem nm_c2 : spl [97, 47, 98, 46, 99] = [[97], [98, 46, 99]] := by decide
theorem nm_c3 : joinF [97] [46, 46, 47, 97, 47, 46, 47, 98] = ([], 1) := by decide
theorem nm_c4 : joinF [97] [120, 47, 46, 46, 47, 98] = ([97, 47, 98], 0) := by decide

set_option maxHeartbeats 2000000 in
theorem named_any (w : World) :
    Calls Tryd.prog 9 #[] w fun e w' => e = .returned (.bool true) ∧ Below w.heap.size w w' := by
  have c1 := fun W => parts_any [97, 47, 98, 46, 99] W (by decide)
  have c2 : ∀ W, Calls Tryd.prog 12 #[.string (B [97]), .string (B [46, 46, 47, 97, 47, 46, 47, 98])] W fun e w' => e = .returned (.tuple #[.string ⟨#[]⟩, .int .i64 1]) ∧ Below W.heap.size W w' := by
    intro W
    have c := join_any [97] [46, 46, 47, 97, 47, 46, 47, 98] W (by decide)
    rw [nm_c3] at c
    exact c
  have c3 : ∀ W, Calls Tryd.prog 12 #[.string (B [97]), .string (B [120, 47, 46, 46, 47, 98])] W fun e w' => e = .returned (.tuple #[.string ⟨#[97, 47, 98]⟩, .int .i64 0]) ∧ Below W.heap.size W w' := by
    intro W
    have c := join_any [97] [120, 47, 46, 46, 47, 98] W (by decide)
    rw [nm_c4] at c
    exact c
  rw [nm_c1, prow_ok nm_c1, nm_c2] at c1
  go_enter Tryd.func9, Tryd.ntmps9
  go_wp2_with fail
  refine (c1 _).mono ?_
  rintro e w1 ⟨v1, rfl, hr1, hb1, _⟩
  have HR1 := hide hr1
  have HB1 := hide hb1
  have hz1 := hb1.size
  clear hr1 hb1 c1
  go_wp2_with fail
  refine (c2 _).mono ?_
  rintro e w2 ⟨rfl, hb2⟩
  have HR2 := hide ((unhide HR1).below hb2)
  have hz2 := hb2.size
  have HB2 := hide ((unhide HB1).trans (hb2.mono hz1))
  clear hb2 c2
  go_wp2_with fail
  refine (c3 _).mono ?_
  rintro e w3 ⟨rfl, hb3⟩
  have HR3 := hide ((unhide HR2).below hb3)
  have hz3 := hb3.size
  have HB3 := hide ((unhide HB2).trans (hb3.mono (by omega)))
  clear hb3 c3
  have hzz : w.heap.size ≤ w3.heap.size := by omega
  go_wp2_with (go_at_call 11; refine (equalS (((unhide HR3).below (below_new _ _))) (SRow.new w3 [[97], [98, 46, 99]] (by decide))).mono ?_; rintro e w4 ⟨rfl, q, rfl⟩)
  go_ret
  exact ⟨rfl, below_drewN ((unhide HB3).alloc hzz _) q⟩
end Go.Proofs.YtblagchhjobefaeDoor
