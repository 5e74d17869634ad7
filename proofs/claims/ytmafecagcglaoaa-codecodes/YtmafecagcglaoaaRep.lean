/-
  The library's strings.Repeat of one nought, up to fifteen times; strings.LastIndexByte.
-/
import Derived.Test.YtmafecagcglaoaaTxt
namespace Go.Proofs.Ytmafecagcglaoaa
open Go.RowKit
set_option linter.unusedVariables false
set_option maxRecDepth 100000

theorem ext1 (s : ByteArray) : (s.extract 0 1).toList = s.data.toList.take 1 := by
  rw [Lib.toList_data]
  simp [List.extract_eq_take_drop]
theorem hpref (s : ByteArray) (b : Bool) (w : World) (hs : 1 ≤ s.size) (hb : (s.data.toList.take 1 == [48]) = b) : Calls Try.prog 59 #[.string s, .string ⟨#[48]⟩] w fun e w' => e = .returned (.bool b) ∧ w' = w := by
  have h1 : (⟨#[48]⟩ : ByteArray).size = 1 := rfl
  have hh : (1 : Int) ≤ (s.size : Int) := by omega
  have HB : Hid (((s.extract 0 1).toList == [48]) = b) := by rw [ext1]; exact hb
  clear hb
  go_enter Try.func59, Try.ntmps59
  go_wp2
  go_ret
  exact ⟨ret_bool (unhide HB), rfl⟩

theorem mul2 (w : World) : Calls Try.prog 58 #[.int .u64 1, .int .u64 2] w fun e w' => e = .returned (.tuple #[.int .u64 0, .int .u64 2]) ∧ w' = w := by
  go_enter Try.func58, Try.ntmps58
  go_wp2
  all_goals (go_ret2; exact ⟨by rfl, rfl⟩)
set_option maxHeartbeats 1000000 in
theorem rep2 (w : World) : Calls Try.prog 48 #[.string ⟨#[48]⟩, .int .i64 2] w fun e w' => e = .returned (.string (text (List.replicate 2 false))) ∧ w' = w := by
  go_enter Try.func48, Try.ntmps48
  go_wp2_with (first | (go_at_call 58; refine (mul2 _).mono ?_; rintro e w' ⟨rfl, rfl⟩) | (go_at_call 59; refine (hpref _ false _ (by decide) (by decide)).mono ?_; rintro e w' ⟨rfl, rfl⟩) | (go_at_call 59; refine (hpref _ true _ (by decide) (by decide)).mono ?_; rintro e w' ⟨rfl, rfl⟩))
  go_ret
  exact ⟨rfl, rfl⟩

theorem mul3 (w : World) : Calls Try.prog 58 #[.int .u64 1, .int .u64 3] w fun e w' => e = .returned (.tuple #[.int .u64 0, .int .u64 3]) ∧ w' = w := by
  go_enter Try.func58, Try.ntmps58
  go_wp2
  all_goals (go_ret2; exact ⟨by rfl, rfl⟩)
set_option maxHeartbeats 1000000 in
theorem rep3 (w : World) : Calls Try.prog 48 #[.string ⟨#[48]⟩, .int .i64 3] w fun e w' => e = .returned (.string (text (List.replicate 3 false))) ∧ w' = w := by
  go_enter Try.func48, Try.ntmps48
  go_wp2_with (first | (go_at_call 58; refine (mul3 _).mono ?_; rintro e w' ⟨rfl, rfl⟩) | (go_at_call 59; refine (hpref _ false _ (by decide) (by decide)).mono ?_; rintro e w' ⟨rfl, rfl⟩) | (go_at_call 59; refine (hpref _ true _ (by decide) (by decide)).mono ?_; rintro e w' ⟨rfl, rfl⟩))
  go_ret
  exact ⟨rfl, rfl⟩

theorem mul4 (w : World) : Calls Try.prog 58 #[.int .u64 1, .int .u64 4] w fun e w' => e = .returned (.tuple #[.int .u64 0, .int .u64 4]) ∧ w' = w := by
  go_enter Try.func58, Try.ntmps58
  go_wp2
  all_goals (go_ret2; exact ⟨by rfl, rfl⟩)
set_option maxHeartbeats 1000000 in
theorem rep4 (w : World) : Calls Try.prog 48 #[.string ⟨#[48]⟩, .int .i64 4] w fun e w' => e = .returned (.string (text (List.replicate 4 false))) ∧ w' = w := by
  go_enter Try.func48, Try.ntmps48
  go_wp2_with (first | (go_at_call 58; refine (mul4 _).mono ?_; rintro e w' ⟨rfl, rfl⟩) | (go_at_call 59; refine (hpref _ false _ (by decide) (by decide)).mono ?_; rintro e w' ⟨rfl, rfl⟩) | (go_at_call 59; refine (hpref _ true _ (by decide) (by decide)).mono ?_; rintro e w' ⟨rfl, rfl⟩))
  go_ret
  exact ⟨rfl, rfl⟩

theorem mul5 (w : World) : Calls Try.prog 58 #[.int .u64 1, .int .u64 5] w fun e w' => e = .returned (.tuple #[.int .u64 0, .int .u64 5]) ∧ w' = w := by
  go_enter Try.func58, Try.ntmps58
  go_wp2
  all_goals (go_ret2; exact ⟨by rfl, rfl⟩)
set_option maxHeartbeats 1000000 in
theorem rep5 (w : World) : Calls Try.prog 48 #[.string ⟨#[48]⟩, .int .i64 5] w fun e w' => e = .returned (.string (text (List.replicate 5 false))) ∧ w' = w := by
  go_enter Try.func48, Try.ntmps48
  go_wp2_with (first | (go_at_call 58; refine (mul5 _).mono ?_; rintro e w' ⟨rfl, rfl⟩) | (go_at_call 59; refine (hpref _ false _ (by decide) (by decide)).mono ?_; rintro e w' ⟨rfl, rfl⟩) | (go_at_call 59; refine (hpref _ true _ (by decide) (by decide)).mono ?_; rintro e w' ⟨rfl, rfl⟩))
  go_ret
  exact ⟨rfl, rfl⟩

theorem mul6 (w : World) : Calls Try.prog 58 #[.int .u64 1, .int .u64 6] w fun e w' => e = .returned (.tuple #[.int .u64 0, .int .u64 6]) ∧ w' = w := by
  go_enter Try.func58, Try.ntmps58
  go_wp2
  all_goals (go_ret2; exact ⟨by rfl, rfl⟩)
set_option maxHeartbeats 1000000 in
theorem rep6 (w : World) : Calls Try.prog 48 #[.string ⟨#[48]⟩, .int .i64 6] w fun e w' => e = .returned (.string (text (List.replicate 6 false))) ∧ w' = w := by
  go_enter Try.func48, Try.ntmps48
  go_wp2_with (first | (go_at_call 58; refine (mul6 _).mono ?_; rintro e w' ⟨rfl, rfl⟩) | (go_at_call 59; refine (hpref _ false _ (by decide) (by decide)).mono ?_; rintro e w' ⟨rfl, rfl⟩) | (go_at_call 59; refine (hpref _ true _ (by decide) (by decide)).mono ?_; rintro e w' ⟨rfl, rfl⟩))
  go_ret
  exact ⟨rfl, rfl⟩

theorem mul7 (w : World) : Calls Try.prog 58 #[.int .u64 1, .int .u64 7] w fun e w' => e = .returned (.tuple #[.int .u64 0, .int .u64 7]) ∧ w' = w := by
  go_enter Try.func58, Try.ntmps58
  go_wp2
  all_goals (go_ret2; exact ⟨by rfl, rfl⟩)
set_option maxHeartbeats 1000000 in
theorem rep7 (w : World) : Calls Try.prog 48 #[.string ⟨#[48]⟩, .int .i64 7] w fun e w' => e = .returned (.string (text (List.replicate 7 false))) ∧ w' = w := by
  go_enter Try.func48, Try.ntmps48
  go_wp2_with (first | (go_at_call 58; refine (mul7 _).mono ?_; rintro e w' ⟨rfl, rfl⟩) | (go_at_call 59; refine (hpref _ false _ (by decide) (by decide)).mono ?_; rintro e w' ⟨rfl, rfl⟩) | (go_at_call 59; refine (hpref _ true _ (by decide) (by decide)).mono ?_; rintro e w' ⟨rfl, rfl⟩))
  go_ret
  exact ⟨rfl, rfl⟩

theorem mul8 (w : World) : Calls Try.prog 58 #[.int .u64 1, .int .u64 8] w fun e w' => e = .returned (.tuple #[.int .u64 0, .int .u64 8]) ∧ w' = w := by
  go_enter Try.func58, Try.ntmps58
  go_wp2
  all_goals (go_ret2; exact ⟨by rfl, rfl⟩)
set_option maxHeartbeats 1000000 in
theorem rep8 (w : World) : Calls Try.prog 48 #[.string ⟨#[48]⟩, .int .i64 8] w fun e w' => e = .returned (.string (text (List.replicate 8 false))) ∧ w' = w := by
  go_enter Try.func48, Try.ntmps48
  go_wp2_with (first | (go_at_call 58; refine (mul8 _).mono ?_; rintro e w' ⟨rfl, rfl⟩) | (go_at_call 59; refine (hpref _ false _ (by decide) (by decide)).mono ?_; rintro e w' ⟨rfl, rfl⟩) | (go_at_call 59; refine (hpref _ true _ (by decide) (by decide)).mono ?_; rintro e w' ⟨rfl, rfl⟩))
  go_ret
  exact ⟨rfl, rfl⟩

theorem mul9 (w : World) : Calls Try.prog 58 #[.int .u64 1, .int .u64 9] w fun e w' => e = .returned (.tuple #[.int .u64 0, .int .u64 9]) ∧ w' = w := by
  go_enter Try.func58, Try.ntmps58
  go_wp2
  all_goals (go_ret2; exact ⟨by rfl, rfl⟩)
set_option maxHeartbeats 1000000 in
theorem rep9 (w : World) : Calls Try.prog 48 #[.string ⟨#[48]⟩, .int .i64 9] w fun e w' => e = .returned (.string (text (List.replicate 9 false))) ∧ w' = w := by
  go_enter Try.func48, Try.ntmps48
  go_wp2_with (first | (go_at_call 58; refine (mul9 _).mono ?_; rintro e w' ⟨rfl, rfl⟩) | (go_at_call 59; refine (hpref _ false _ (by decide) (by decide)).mono ?_; rintro e w' ⟨rfl, rfl⟩) | (go_at_call 59; refine (hpref _ true _ (by decide) (by decide)).mono ?_; rintro e w' ⟨rfl, rfl⟩))
  go_ret
  exact ⟨rfl, rfl⟩

theorem mul10 (w : World) : Calls Try.prog 58 #[.int .u64 1, .int .u64 10] w fun e w' => e = .returned (.tuple #[.int .u64 0, .int .u64 10]) ∧ w' = w := by
  go_enter Try.func58, Try.ntmps58
  go_wp2
  all_goals (go_ret2; exact ⟨by rfl, rfl⟩)
set_option maxHeartbeats 1000000 in
theorem rep10 (w : World) : Calls Try.prog 48 #[.string ⟨#[48]⟩, .int .i64 10] w fun e w' => e = .returned (.string (text (List.replicate 10 false))) ∧ w' = w := by
  go_enter Try.func48, Try.ntmps48
  go_wp2_with (first | (go_at_call 58; refine (mul10 _).mono ?_; rintro e w' ⟨rfl, rfl⟩) | (go_at_call 59; refine (hpref _ false _ (by decide) (by decide)).mono ?_; rintro e w' ⟨rfl, rfl⟩) | (go_at_call 59; refine (hpref _ true _ (by decide) (by decide)).mono ?_; rintro e w' ⟨rfl, rfl⟩))
  go_ret
  exact ⟨rfl, rfl⟩

theorem mul11 (w : World) : Calls Try.prog 58 #[.int .u64 1, .int .u64 11] w fun e w' => e = .returned (.tuple #[.int .u64 0, .int .u64 11]) ∧ w' = w := by
  go_enter Try.func58, Try.ntmps58
  go_wp2
  all_goals (go_ret2; exact ⟨by rfl, rfl⟩)
set_option maxHeartbeats 1000000 in
theorem rep11 (w : World) : Calls Try.prog 48 #[.string ⟨#[48]⟩, .int .i64 11] w fun e w' => e = .returned (.string (text (List.replicate 11 false))) ∧ w' = w := by
  go_enter Try.func48, Try.ntmps48
  go_wp2_with (first | (go_at_call 58; refine (mul11 _).mono ?_; rintro e w' ⟨rfl, rfl⟩) | (go_at_call 59; refine (hpref _ false _ (by decide) (by decide)).mono ?_; rintro e w' ⟨rfl, rfl⟩) | (go_at_call 59; refine (hpref _ true _ (by decide) (by decide)).mono ?_; rintro e w' ⟨rfl, rfl⟩))
  go_ret
  exact ⟨rfl, rfl⟩

theorem mul12 (w : World) : Calls Try.prog 58 #[.int .u64 1, .int .u64 12] w fun e w' => e = .returned (.tuple #[.int .u64 0, .int .u64 12]) ∧ w' = w := by
  go_enter Try.func58, Try.ntmps58
  go_wp2
  all_goals (go_ret2; exact ⟨by rfl, rfl⟩)
set_option maxHeartbeats 1000000 in
theorem rep12 (w : World) : Calls Try.prog 48 #[.string ⟨#[48]⟩, .int .i64 12] w fun e w' => e = .returned (.string (text (List.replicate 12 false))) ∧ w' = w := by
  go_enter Try.func48, Try.ntmps48
  go_wp2_with (first | (go_at_call 58; refine (mul12 _).mono ?_; rintro e w' ⟨rfl, rfl⟩) | (go_at_call 59; refine (hpref _ false _ (by decide) (by decide)).mono ?_; rintro e w' ⟨rfl, rfl⟩) | (go_at_call 59; refine (hpref _ true _ (by decide) (by decide)).mono ?_; rintro e w' ⟨rfl, rfl⟩))
  go_ret
  exact ⟨rfl, rfl⟩

theorem mul13 (w : World) : Calls Try.prog 58 #[.int .u64 1, .int .u64 13] w fun e w' => e = .returned (.tuple #[.int .u64 0, .int .u64 13]) ∧ w' = w := by
  go_enter Try.func58, Try.ntmps58
  go_wp2
  all_goals (go_ret2; exact ⟨by rfl, rfl⟩)
set_option maxHeartbeats 1000000 in
theorem rep13 (w : World) : Calls Try.prog 48 #[.string ⟨#[48]⟩, .int .i64 13] w fun e w' => e = .returned (.string (text (List.replicate 13 false))) ∧ w' = w := by
  go_enter Try.func48, Try.ntmps48
  go_wp2_with (first | (go_at_call 58; refine (mul13 _).mono ?_; rintro e w' ⟨rfl, rfl⟩) | (go_at_call 59; refine (hpref _ false _ (by decide) (by decide)).mono ?_; rintro e w' ⟨rfl, rfl⟩) | (go_at_call 59; refine (hpref _ true _ (by decide) (by decide)).mono ?_; rintro e w' ⟨rfl, rfl⟩))
  go_ret
  exact ⟨rfl, rfl⟩

theorem mul14 (w : World) : Calls Try.prog 58 #[.int .u64 1, .int .u64 14] w fun e w' => e = .returned (.tuple #[.int .u64 0, .int .u64 14]) ∧ w' = w := by
  go_enter Try.func58, Try.ntmps58
  go_wp2
  all_goals (go_ret2; exact ⟨by rfl, rfl⟩)
set_option maxHeartbeats 1000000 in
theorem rep14 (w : World) : Calls Try.prog 48 #[.string ⟨#[48]⟩, .int .i64 14] w fun e w' => e = .returned (.string (text (List.replicate 14 false))) ∧ w' = w := by
  go_enter Try.func48, Try.ntmps48
  go_wp2_with (first | (go_at_call 58; refine (mul14 _).mono ?_; rintro e w' ⟨rfl, rfl⟩) | (go_at_call 59; refine (hpref _ false _ (by decide) (by decide)).mono ?_; rintro e w' ⟨rfl, rfl⟩) | (go_at_call 59; refine (hpref _ true _ (by decide) (by decide)).mono ?_; rintro e w' ⟨rfl, rfl⟩))
  go_ret
  exact ⟨rfl, rfl⟩

theorem mul15 (w : World) : Calls Try.prog 58 #[.int .u64 1, .int .u64 15] w fun e w' => e = .returned (.tuple #[.int .u64 0, .int .u64 15]) ∧ w' = w := by
  go_enter Try.func58, Try.ntmps58
  go_wp2
  all_goals (go_ret2; exact ⟨by rfl, rfl⟩)
set_option maxHeartbeats 1000000 in
theorem rep15 (w : World) : Calls Try.prog 48 #[.string ⟨#[48]⟩, .int .i64 15] w fun e w' => e = .returned (.string (text (List.replicate 15 false))) ∧ w' = w := by
  go_enter Try.func48, Try.ntmps48
  go_wp2_with (first | (go_at_call 58; refine (mul15 _).mono ?_; rintro e w' ⟨rfl, rfl⟩) | (go_at_call 59; refine (hpref _ false _ (by decide) (by decide)).mono ?_; rintro e w' ⟨rfl, rfl⟩) | (go_at_call 59; refine (hpref _ true _ (by decide) (by decide)).mono ?_; rintro e w' ⟨rfl, rfl⟩))
  go_ret
  exact ⟨rfl, rfl⟩

theorem rep0 (w : World) : Calls Try.prog 48 #[.string ⟨#[48]⟩, .int .i64 0] w fun e w' => e = .returned (.string (text (List.replicate 0 false))) ∧ w' = w := by
  go_enter Try.func48, Try.ntmps48
  go_wp2_with fail
  go_ret
  exact ⟨rfl, rfl⟩
theorem rep1 (w : World) : Calls Try.prog 48 #[.string ⟨#[48]⟩, .int .i64 1] w fun e w' => e = .returned (.string (text (List.replicate 1 false))) ∧ w' = w := by
  go_enter Try.func48, Try.ntmps48
  go_wp2_with fail
  go_ret
  exact ⟨rfl, rfl⟩
theorem rep_any (k : Nat) (hk : k ≤ 15) (w : World) : Calls Try.prog 48 #[.string ⟨#[48]⟩, .int .i64 (k : Int)] w fun e w' => e = .returned (.string (text (List.replicate k false))) ∧ w' = w := by
  match k, hk with
  | 0, _ => exact rep0 w
  | 1, _ => exact rep1 w
  | 2, _ => exact rep2 w
  | 3, _ => exact rep3 w
  | 4, _ => exact rep4 w
  | 5, _ => exact rep5 w
  | 6, _ => exact rep6 w
  | 7, _ => exact rep7 w
  | 8, _ => exact rep8 w
  | 9, _ => exact rep9 w
  | 10, _ => exact rep10 w
  | 11, _ => exact rep11 w
  | 12, _ => exact rep12 w
  | 13, _ => exact rep13 w
  | 14, _ => exact rep14 w
  | 15, _ => exact rep15 w
end Go.Proofs.Ytmafecagcglaoaa
