/-
  bits.Turn.
-/
import Derived.Test.YtoiioemkibfdcacBits1
import Derived.Test.YtoiioemkibfdcacIn0
namespace Go.Proofs.Ytoiioemkibfdcac
open Go.RowKit
set_option linter.unusedVariables false

theorem turn_no (n s : Int) (w : World) (h : fitsB n s = false) :
    Calls Try.prog 99 #[.int .i64 n, .int .i64 s] w fun e w' => e = .returned (.tuple #[.int .i64 0, .int .i64 3]) ∧ w' = w := by
  go_enter Try.func99, Try.ntmps99
  go_wp2_with (go_at_call 125; refine (fits_any _ _ _).mono ?_; rintro e w' ⟨rfl, rfl⟩)
  go_ret2
  exact ⟨rfl, rfl⟩

theorem turnL_lt16 (n : Nat) {k : Nat} (h : k < 16) : turnL n k < 32768 := Nat.lt_of_lt_of_le (turnL_lt n k) (Nat.pow_le_pow_right (j := 15) (by decide) (by omega))

theorem turn_yes (n s : Nat) (w : World) (h : fitsB n s = true) (hs : s ≤ 16) (hn : n < 65536) :
    Calls Try.prog 99 #[.int .i64 n, .int .i64 s] w fun e w' => e = .returned (.tuple #[.int .i64 (turnL n s : Nat), .int .i64 0]) ∧ w' = w := by
  go_enter Try.func99, Try.ntmps99
  go_wp2_with (go_at_call 125; refine (fits_any _ _ _).mono ?_; rintro e w' ⟨rfl, rfl⟩)
  go_loop [6, 13] (fun t i => ∃ k : Nat, k ≤ s ∧ i = .int .i64 k ∧ t = .int .i64 (turnL n k : Nat)) (fun _ i => s - (intOf i).toNat)
  case atStart => exact ⟨0, Nat.zero_le _, rfl, rfl⟩
  case round =>
    obtain ⟨k, hk, rfl, rfl⟩ := hrel
    by_cases hlt : k < s
    · have hb := turnL_lt16 n (k := k) (by omega)
      have hst := turn_step (turnL n k) n k (by omega) (by omega)
      have H : Hid (turnL n (k + 1) = turnL n k * 2 ||| n / 2 ^ k % 2) := rfl
      have HS := hide hst
      clear hst
      generalize turnL n k = m at *
      go_wp2
      go_round
      case rel => exact ⟨k + 1, by omega, by go_num, by rw [H.out, unhide HS]⟩
      case measure => simp [intOf]; omega
    · have e : k = s := by omega
      subst e
      go_wp2
      go_ret2
      exact ⟨rfl, rfl⟩
end Go.Proofs.Ytoiioemkibfdcac
