/-
  Files in memory; what holds of bytes, numbers and texts that are held against each other.
-/
import Derived.Test.YtmgmganbamjnmaaDoorQ2
namespace Go.Proofs.YtmgmganbamjnmaaDoor
open Go.RowKit
set_option linter.unusedVariables false
set_option maxRecDepth 100000
theorem isNaN_int (x : Int) (w : World) : Calls Tryd.prog 43 #[.int .i64 x] w fun e w' => e = .returned (.bool false) ∧ w' = w := by
  have h : (x != x) = false := by simp
  go_enter Tryd.func43, Tryd.ntmps43
  go_wp2
  go_ret
  exact ⟨rfl, rfl⟩
theorem isNaN_str (x : ByteArray) (w : World) : Calls Tryd.prog 62 #[.string x] w fun e w' => e = .returned (.bool false) ∧ w' = w := by
  have h : (x.toList == x.toList) = true := by simp
  go_enter Tryd.func62, Tryd.ntmps62
  go_wp2
  go_ret
  exact ⟨rfl, rfl⟩
theorem cmp_int (x y : Int) (w : World) : Calls Tryd.prog 31 #[.int .i64 x, .int .i64 y] w fun e w' => e = .returned (.int .i64 (cmpI x y)) ∧ w' = w := by
  unfold cmpI
  rcases Int.lt_trichotomy x y with h | h | h
  · rw [if_pos h]
    go_enter Tryd.func31, Tryd.ntmps31
    go_wp2_with (go_at_call 43; refine (isNaN_int _ _).mono ?_; rintro e w' ⟨rfl, rfl⟩)
    go_ret
    exact ⟨rfl, rfl⟩
  · subst h
    rw [if_neg (by omega), if_neg (by omega)]
    go_enter Tryd.func31, Tryd.ntmps31
    go_wp2_with (go_at_call 43; refine (isNaN_int _ _).mono ?_; rintro e w' ⟨rfl, rfl⟩)
    go_ret
    exact ⟨rfl, rfl⟩
  · rw [if_neg (by omega), if_pos h]
    have h2 : ¬ x < y := by omega
    go_enter Tryd.func31, Tryd.ntmps31
    go_wp2_with (go_at_call 43; refine (isNaN_int _ _).mono ?_; rintro e w' ⟨rfl, rfl⟩)
    go_ret
    exact ⟨rfl, rfl⟩
theorem cmp_str (x y : List UInt8) (w : World) : Calls Tryd.prog 56 #[.string (B x), .string (B y)] w fun e w' => e = .returned (.int .i64 (cmpB x y)) ∧ w' = w := by
  have h1 : Op.bytesLess (B x).toList (B y).toList = decide (cmpB x y < 0) := by rw [toList_B, toList_B, less_cmp]
  have h2 : ((B x).toList == (B y).toList) = decide (cmpB x y = 0) := by
    rw [toList_B, toList_B, Bool.eq_iff_iff, beq_iff_eq, decide_eq_true_iff, cmpB_zero]
  rcases cmpB_three x y with h | h | h
  all_goals (
    rw [h] at h1 h2 ⊢
    simp only [Int.reduceLT, Int.reduceEq, Int.reduceNeg, decide_true, decide_false] at h1 h2
    clear h
    generalize B x = s at *
    generalize B y = t at *
    go_enter Tryd.func56, Tryd.ntmps56
    go_wp2_with (go_at_call 62; refine (isNaN_str _ _).mono ?_; rintro e w' ⟨rfl, rfl⟩)
    go_ret
    exact ⟨rfl, rfl⟩)
theorem gone_cmp (x y : Bool) (w : World) : Calls Tryd.prog 32 #[.bool x, .bool y] w fun e w' => e = .returned (.int .i64 (cmpG x y)) ∧ w' = w := by
  cases x <;> cases y
  all_goals (
    go_enter Tryd.func32, Tryd.ntmps32
    go_wp2
    go_ret
    exact ⟨rfl, rfl⟩)
theorem cmp_bytes {w : World} {a a2 : Option Addr} {c c2 : Nat} {x y : List UInt8} (h : BsIn w a c x) (h2 : BsIn w a2 c2 y) :
    Calls Tryd.prog 33 #[.slice a x.length c, .slice a2 y.length c2] w fun e w' => e = .returned (.int .i64 (cmpB x y)) ∧ w' = w := by
  have e1 := bytesOf_is h
  have e2 := bytesOf_is h2
  have e3 : (Extern.BytealgCompare.compare #[.slice a x.length c, .slice a2 y.length c2]).run Tryd.prog w = .ok (.int .i64 (cmpB x y)) w := by
    change Sem.run Tryd.prog (do pure (goInt (Extern.BytealgCompare.cmp (← Extern.Bytes.bytesOf (.slice a x.length c)) (← Extern.Bytes.bytesOf (.slice a2 y.length c2))))) w = _
    simp only [Sem.run_bind, e1, e2, Sem.run_pure, Result.andThen]
    rw [Lib.cmp_eq]
    rfl
  clear h h2 e1 e2
  go_enter Tryd.func33, Tryd.ntmps33
  go_wp2
  rw [run_callFunc_extern Tryd.func44 (by kernel_rfl) (by kernel_rfl) (by kernel_rfl) (e := Extern.BytealgCompare.compare) (by kernel_rfl), e3]
  simp only [Result.andThen]
  rw [Oper.upon_value]
  go_wp2
  go_ret
  exact ⟨rfl, rfl⟩
end Go.Proofs.YtmgmganbamjnmaaDoor
