/-
  A number's place in a row by at2.
-/
import Derived.Test.YtnhddmganijilaiDoorQ1
import Derived.OwnWalk
namespace Go.Proofs.YtnhddmganijilaiDoor
open Go.RowKit
set_option linter.unusedVariables false
set_option maxRecDepth 100000

theorem at2_burst (x : Int) (n : Nat) (w : World) (h0 : 0 < n) (hn : n ≤ 100000) : Calls Tryd.prog 19 #[.int .i64 x, .int .i64 (n : Int)] w fun e w' => ∃ t : Nat, e = .returned (.int .i64 t) ∧ t < n ∧ w' = w := by
  have hp : (0 : Int) < (n : Int) := by omega
  have h1 : -(n : Int) < x.tmod n := by have := Int.lt_tmod_of_pos x hp; omega
  have h2 : x.tmod n < n := Int.tmod_lt_of_pos x hp
  have hz : ((n : Int) == 0) = false := by rw [beq_eq_false_iff_ne]; omega
  go_enter Tryd.func19, Tryd.ntmps19
  by_cases hn : x.tmod n < 0
  · go_wp2
    go_ret
    refine ⟨(x.tmod n + n).toNat, ?_, by omega, rfl⟩
    have : ((x.tmod n + n).toNat : Int) = x.tmod n + n := by omega
    rw [this]
    rfl
  · go_wp2
    go_ret
    refine ⟨(x.tmod n).toNat, ?_, by omega, rfl⟩
    have : ((x.tmod n).toNat : Int) = x.tmod n := by omega
    rw [this]
    rfl
end Go.Proofs.YtnhddmganijilaiDoor
