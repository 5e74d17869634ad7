/-
  The library's strings.Repeat of one nought, up to fifteen times; strings.LastIndexByte.
-/
import Derived.Test.YtekgcoajgbpniacGreatQ34
import Derived.Test.YtekgcoajgbpniacGreatQ38
import Derived.Test.YtekgcoajgbpniacGreatQ2
namespace Go.Proofs.YtekgcoajgbpniacGreat
open Go.RowKit
set_option linter.unusedVariables false
set_option maxRecDepth 100000

theorem ext1 (s : ByteArray) : (s.extract 0 1).toList = s.data.toList.take 1 := by
  rw [Lib.toList_data]
  simp [List.extract_eq_take_drop]
theorem hpref (s : ByteArray) (b : Bool) (w : World) (hs : 1 ≤ s.size) (hb : (s.data.toList.take 1 == [48]) = b) : Calls Tryz.prog 83 #[.string s, .string ⟨#[48]⟩] w fun e w' => e = .returned (.bool b) ∧ w' = w := by
  have h1 : (⟨#[48]⟩ : ByteArray).size = 1 := rfl
  have hh : (1 : Int) ≤ (s.size : Int) := by omega
  have HB : Hid (((s.extract 0 1).toList == [48]) = b) := by rw [ext1]; exact hb
  clear hb
  go_enter Tryz.func83, Tryz.ntmps83
  go_wp2
  go_ret
  exact ⟨ret_bool (unhide HB), rfl⟩

theorem mul2 (w : World) : Calls Tryz.prog 56 #[.int .u64 1, .int .u64 2] w fun e w' => e = .returned (.tuple #[.int .u64 0, .int .u64 2]) ∧ w' = w := by
  go_enter Tryz.func56, Tryz.ntmps56
  go_wp2
  all_goals (go_ret2; exact ⟨by rfl, rfl⟩)
set_option maxHeartbeats 1000000 in
theorem rep2 (w : World) : Calls Tryz.prog 61 #[.string ⟨#[48]⟩, .int .i64 2] w fun e w' => e = .returned (.string (text (List.replicate 2 false))) ∧ w' = w := by
  go_enter Tryz.func61, Tryz.ntmps61
  go_wp2_with (first | (go_at_call 56; refine (mul2 _).mono ?_; rintro e w' ⟨rfl, rfl⟩) | (go_at_call 83; refine (hpref _ false _ (by decide) (by decide)).mono ?_; rintro e w' ⟨rfl, rfl⟩) | (go_at_call 83; refine (hpref _ true _ (by decide) (by decide)).mono ?_; rintro e w' ⟨rfl, rfl⟩))
  go_ret
  exact ⟨rfl, rfl⟩

theorem mul3 (w : World) : Calls Tryz.prog 56 #[.int .u64 1, .int .u64 3] w fun e w' => e = .returned (.tuple #[.int .u64 0, .int .u64 3]) ∧ w' = w := by
  go_enter Tryz.func56, Tryz.ntmps56
  go_wp2
  all_goals (go_ret2; exact ⟨by rfl, rfl⟩)
set_option maxHeartbeats 1000000 in
theorem rep3 (w : World) : Calls Tryz.prog 61 #[.string ⟨#[48]⟩, .int .i64 3] w fun e w' => e = .returned (.string (text (List.replicate 3 false))) ∧ w' = w := by
  go_enter Tryz.func61, Tryz.ntmps61
  go_wp2_with (first | (go_at_call 56; refine (mul3 _).mono ?_; rintro e w' ⟨rfl, rfl⟩) | (go_at_call 83; refine (hpref _ false _ (by decide) (by decide)).mono ?_; rintro e w' ⟨rfl, rfl⟩) | (go_at_call 83; refine (hpref _ true _ (by decide) (by decide)).mono ?_; rintro e w' ⟨rfl, rfl⟩))
  go_ret
  exact ⟨rfl, rfl⟩

theorem mul4 (w : World) : Calls Tryz.prog 56 #[.int .u64 1, .int .u64 4] w fun e w' => e = .returned (.tuple #[.int .u64 0, .int .u64 4]) ∧ w' = w := by
  go_enter Tryz.func56, Tryz.ntmps56
  go_wp2
  all_goals (go_ret2; exact ⟨by rfl, rfl⟩)
set_option maxHeartbeats 1000000 in
theorem rep4 (w : World) : Calls Tryz.prog 61 #[.string ⟨#[48]⟩, .int .i64 4] w fun e w' => e = .returned (.string (text (List.replicate 4 false))) ∧ w' = w := by
  go_enter Tryz.func61, Tryz.ntmps61
  go_wp2_with (first | (go_at_call 56; refine (mul4 _).mono ?_; rintro e w' ⟨rfl, rfl⟩) | (go_at_call 83; refine (hpref _ false _ (by decide) (by decide)).mono ?_; rintro e w' ⟨rfl, rfl⟩) | (go_at_call 83; refine (hpref _ true _ (by decide) (by decide)).mono ?_; rintro e w' ⟨rfl, rfl⟩))
  go_ret
  exact ⟨rfl, rfl⟩

theorem mul5 (w : World) : Calls Tryz.prog 56 #[.int .u64 1, .int .u64 5] w fun e w' => e = .returned (.tuple #[.int .u64 0, .int .u64 5]) ∧ w' = w := by
  go_enter Tryz.func56, Tryz.ntmps56
  go_wp2
  all_goals (go_ret2; exact ⟨by rfl, rfl⟩)
set_option maxHeartbeats 1000000 in
theorem rep5 (w : World) : Calls Tryz.prog 61 #[.string ⟨#[48]⟩, .int .i64 5] w fun e w' => e = .returned (.string (text (List.replicate 5 false))) ∧ w' = w := by
  go_enter Tryz.func61, Tryz.ntmps61
  go_wp2_with (first | (go_at_call 56; refine (mul5 _).mono ?_; rintro e w' ⟨rfl, rfl⟩) | (go_at_call 83; refine (hpref _ false _ (by decide) (by decide)).mono ?_; rintro e w' ⟨rfl, rfl⟩) | (go_at_call 83; refine (hpref _ true _ (by decide) (by decide)).mono ?_; rintro e w' ⟨rfl, rfl⟩))
  go_ret
  exact ⟨rfl, rfl⟩

theorem mul6 (w : World) : Calls Tryz.prog 56 #[.int .u64 1, .int .u64 6] w fun e w' => e = .returned (.tuple #[.int .u64 0, .int .u64 6]) ∧ w' = w := by
  go_enter Tryz.func56, Tryz.ntmps56
  go_wp2
  all_goals (go_ret2; exact ⟨by rfl, rfl⟩)
set_option maxHeartbeats 1000000 in
theorem rep6 (w : World) : Calls Tryz.prog 61 #[.string ⟨#[48]⟩, .int .i64 6] w fun e w' => e = .returned (.string (text (List.replicate 6 false))) ∧ w' = w := by
  go_enter Tryz.func61, Tryz.ntmps61
  go_wp2_with (first | (go_at_call 56; refine (mul6 _).mono ?_; rintro e w' ⟨rfl, rfl⟩) | (go_at_call 83; refine (hpref _ false _ (by decide) (by decide)).mono ?_; rintro e w' ⟨rfl, rfl⟩) | (go_at_call 83; refine (hpref _ true _ (by decide) (by decide)).mono ?_; rintro e w' ⟨rfl, rfl⟩))
  go_ret
  exact ⟨rfl, rfl⟩

theorem mul7 (w : World) : Calls Tryz.prog 56 #[.int .u64 1, .int .u64 7] w fun e w' => e = .returned (.tuple #[.int .u64 0, .int .u64 7]) ∧ w' = w := by
  go_enter Tryz.func56, Tryz.ntmps56
  go_wp2
  all_goals (go_ret2; exact ⟨by rfl, rfl⟩)
set_option maxHeartbeats 1000000 in
theorem rep7 (w : World) : Calls Tryz.prog 61 #[.string ⟨#[48]⟩, .int .i64 7] w fun e w' => e = .returned (.string (text (List.replicate 7 false))) ∧ w' = w := by
  go_enter Tryz.func61, Tryz.ntmps61
  go_wp2_with (first | (go_at_call 56; refine (mul7 _).mono ?_; rintro e w' ⟨rfl, rfl⟩) | (go_at_call 83; refine (hpref _ false _ (by decide) (by decide)).mono ?_; rintro e w' ⟨rfl, rfl⟩) | (go_at_call 83; refine (hpref _ true _ (by decide) (by decide)).mono ?_; rintro e w' ⟨rfl, rfl⟩))
  go_ret
  exact ⟨rfl, rfl⟩

theorem mul8 (w : World) : Calls Tryz.prog 56 #[.int .u64 1, .int .u64 8] w fun e w' => e = .returned (.tuple #[.int .u64 0, .int .u64 8]) ∧ w' = w := by
  go_enter Tryz.func56, Tryz.ntmps56
  go_wp2
  all_goals (go_ret2; exact ⟨by rfl, rfl⟩)
set_option maxHeartbeats 1000000 in
theorem rep8 (w : World) : Calls Tryz.prog 61 #[.string ⟨#[48]⟩, .int .i64 8] w fun e w' => e = .returned (.string (text (List.replicate 8 false))) ∧ w' = w := by
  go_enter Tryz.func61, Tryz.ntmps61
  go_wp2_with (first | (go_at_call 56; refine (mul8 _).mono ?_; rintro e w' ⟨rfl, rfl⟩) | (go_at_call 83; refine (hpref _ false _ (by decide) (by decide)).mono ?_; rintro e w' ⟨rfl, rfl⟩) | (go_at_call 83; refine (hpref _ true _ (by decide) (by decide)).mono ?_; rintro e w' ⟨rfl, rfl⟩))
  go_ret
  exact ⟨rfl, rfl⟩

theorem mul9 (w : World) : Calls Tryz.prog 56 #[.int .u64 1, .int .u64 9] w fun e w' => e = .returned (.tuple #[.int .u64 0, .int .u64 9]) ∧ w' = w := by
  go_enter Tryz.func56, Tryz.ntmps56
  go_wp2
  all_goals (go_ret2; exact ⟨by rfl, rfl⟩)
set_option maxHeartbeats 1000000 in
theorem rep9 (w : World) : Calls Tryz.prog 61 #[.string ⟨#[48]⟩, .int .i64 9] w fun e w' => e = .returned (.string (text (List.replicate 9 false))) ∧ w' = w := by
  go_enter Tryz.func61, Tryz.ntmps61
  go_wp2_with (first | (go_at_call 56; refine (mul9 _).mono ?_; rintro e w' ⟨rfl, rfl⟩) | (go_at_call 83; refine (hpref _ false _ (by decide) (by decide)).mono ?_; rintro e w' ⟨rfl, rfl⟩) | (go_at_call 83; refine (hpref _ true _ (by decide) (by decide)).mono ?_; rintro e w' ⟨rfl, rfl⟩))
  go_ret
  exact ⟨rfl, rfl⟩

theorem mul10 (w : World) : Calls Tryz.prog 56 #[.int .u64 1, .int .u64 10] w fun e w' => e = .returned (.tuple #[.int .u64 0, .int .u64 10]) ∧ w' = w := by
  go_enter Tryz.func56, Tryz.ntmps56
  go_wp2
  all_goals (go_ret2; exact ⟨by rfl, rfl⟩)
set_option maxHeartbeats 1000000 in
theorem rep10 (w : World) : Calls Tryz.prog 61 #[.string ⟨#[48]⟩, .int .i64 10] w fun e w' => e = .returned (.string (text (List.replicate 10 false))) ∧ w' = w := by
  go_enter Tryz.func61, Tryz.ntmps61
  go_wp2_with (first | (go_at_call 56; refine (mul10 _).mono ?_; rintro e w' ⟨rfl, rfl⟩) | (go_at_call 83; refine (hpref _ false _ (by decide) (by decide)).mono ?_; rintro e w' ⟨rfl, rfl⟩) | (go_at_call 83; refine (hpref _ true _ (by decide) (by decide)).mono ?_; rintro e w' ⟨rfl, rfl⟩))
  go_ret
  exact ⟨rfl, rfl⟩

theorem mul11 (w : World) : Calls Tryz.prog 56 #[.int .u64 1, .int .u64 11] w fun e w' => e = .returned (.tuple #[.int .u64 0, .int .u64 11]) ∧ w' = w := by
  go_enter Tryz.func56, Tryz.ntmps56
  go_wp2
  all_goals (go_ret2; exact ⟨by rfl, rfl⟩)
set_option maxHeartbeats 1000000 in
theorem rep11 (w : World) : Calls Tryz.prog 61 #[.string ⟨#[48]⟩, .int .i64 11] w fun e w' => e = .returned (.string (text (List.replicate 11 false))) ∧ w' = w := by
  go_enter Tryz.func61, Tryz.ntmps61
  go_wp2_with (first | (go_at_call 56; refine (mul11 _).mono ?_; rintro e w' ⟨rfl, rfl⟩) | (go_at_call 83; refine (hpref _ false _ (by decide) (by decide)).mono ?_; rintro e w' ⟨rfl, rfl⟩) | (go_at_call 83; refine (hpref _ true _ (by decide) (by decide)).mono ?_; rintro e w' ⟨rfl, rfl⟩))
  go_ret
  exact ⟨rfl, rfl⟩

theorem mul12 (w : World) : Calls Tryz.prog 56 #[.int .u64 1, .int .u64 12] w fun e w' => e = .returned (.tuple #[.int .u64 0, .int .u64 12]) ∧ w' = w := by
  go_enter Tryz.func56, Tryz.ntmps56
  go_wp2
  all_goals (go_ret2; exact ⟨by rfl, rfl⟩)
set_option maxHeartbeats 1000000 in
theorem rep12 (w : World) : Calls Tryz.prog 61 #[.string ⟨#[48]⟩, .int .i64 12] w fun e w' => e = .returned (.string (text (List.replicate 12 false))) ∧ w' = w := by
  go_enter Tryz.func61, Tryz.ntmps61
  go_wp2_with (first | (go_at_call 56; refine (mul12 _).mono ?_; rintro e w' ⟨rfl, rfl⟩) | (go_at_call 83; refine (hpref _ false _ (by decide) (by decide)).mono ?_; rintro e w' ⟨rfl, rfl⟩) | (go_at_call 83; refine (hpref _ true _ (by decide) (by decide)).mono ?_; rintro e w' ⟨rfl, rfl⟩))
  go_ret
  exact ⟨rfl, rfl⟩

theorem mul13 (w : World) : Calls Tryz.prog 56 #[.int .u64 1, .int .u64 13] w fun e w' => e = .returned (.tuple #[.int .u64 0, .int .u64 13]) ∧ w' = w := by
  go_enter Tryz.func56, Tryz.ntmps56
  go_wp2
  all_goals (go_ret2; exact ⟨by rfl, rfl⟩)
set_option maxHeartbeats 1000000 in
theorem rep13 (w : World) : Calls Tryz.prog 61 #[.string ⟨#[48]⟩, .int .i64 13] w fun e w' => e = .returned (.string (text (List.replicate 13 false))) ∧ w' = w := by
  go_enter Tryz.func61, Tryz.ntmps61
  go_wp2_with (first | (go_at_call 56; refine (mul13 _).mono ?_; rintro e w' ⟨rfl, rfl⟩) | (go_at_call 83; refine (hpref _ false _ (by decide) (by decide)).mono ?_; rintro e w' ⟨rfl, rfl⟩) | (go_at_call 83; refine (hpref _ true _ (by decide) (by decide)).mono ?_; rintro e w' ⟨rfl, rfl⟩))
  go_ret
  exact ⟨rfl, rfl⟩

theorem mul14 (w : World) : Calls Tryz.prog 56 #[.int .u64 1, .int .u64 14] w fun e w' => e = .returned (.tuple #[.int .u64 0, .int .u64 14]) ∧ w' = w := by
  go_enter Tryz.func56, Tryz.ntmps56
  go_wp2
  all_goals (go_ret2; exact ⟨by rfl, rfl⟩)
set_option maxHeartbeats 1000000 in
theorem rep14 (w : World) : Calls Tryz.prog 61 #[.string ⟨#[48]⟩, .int .i64 14] w fun e w' => e = .returned (.string (text (List.replicate 14 false))) ∧ w' = w := by
  go_enter Tryz.func61, Tryz.ntmps61
  go_wp2_with (first | (go_at_call 56; refine (mul14 _).mono ?_; rintro e w' ⟨rfl, rfl⟩) | (go_at_call 83; refine (hpref _ false _ (by decide) (by decide)).mono ?_; rintro e w' ⟨rfl, rfl⟩) | (go_at_call 83; refine (hpref _ true _ (by decide) (by decide)).mono ?_; rintro e w' ⟨rfl, rfl⟩))
  go_ret
  exact ⟨rfl, rfl⟩

theorem mul15 (w : World) : Calls Tryz.prog 56 #[.int .u64 1, .int .u64 15] w fun e w' => e = .returned (.tuple #[.int .u64 0, .int .u64 15]) ∧ w' = w := by
  go_enter Tryz.func56, Tryz.ntmps56
  go_wp2
  all_goals (go_ret2; exact ⟨by rfl, rfl⟩)
set_option maxHeartbeats 1000000 in
theorem rep15 (w : World) : Calls Tryz.prog 61 #[.string ⟨#[48]⟩, .int .i64 15] w fun e w' => e = .returned (.string (text (List.replicate 15 false))) ∧ w' = w := by
  go_enter Tryz.func61, Tryz.ntmps61
  go_wp2_with (first | (go_at_call 56; refine (mul15 _).mono ?_; rintro e w' ⟨rfl, rfl⟩) | (go_at_call 83; refine (hpref _ false _ (by decide) (by decide)).mono ?_; rintro e w' ⟨rfl, rfl⟩) | (go_at_call 83; refine (hpref _ true _ (by decide) (by decide)).mono ?_; rintro e w' ⟨rfl, rfl⟩))
  go_ret
  exact ⟨rfl, rfl⟩

theorem rep0 (w : World) : Calls Tryz.prog 61 #[.string ⟨#[48]⟩, .int .i64 0] w fun e w' => e = .returned (.string (text (List.replicate 0 false))) ∧ w' = w := by
  go_enter Tryz.func61, Tryz.ntmps61
  go_wp2_with fail
  go_ret
  exact ⟨rfl, rfl⟩
theorem rep1 (w : World) : Calls Tryz.prog 61 #[.string ⟨#[48]⟩, .int .i64 1] w fun e w' => e = .returned (.string (text (List.replicate 1 false))) ∧ w' = w := by
  go_enter Tryz.func61, Tryz.ntmps61
  go_wp2_with fail
  go_ret
  exact ⟨rfl, rfl⟩
theorem rep_any (k : Nat) (hk : k ≤ 15) (w : World) : Calls Tryz.prog 61 #[.string ⟨#[48]⟩, .int .i64 (k : Int)] w fun e w' => e = .returned (.string (text (List.replicate k false))) ∧ w' = w := by
  match k, hk with
  | 0, _ => exact rep0 w
  | 1, _ => exact rep1 w
  | 2, _ => exact rep2 w
  | 3, _ => exact rep3 w
  | 4, _ => exact rep4 w
  | 5, _ => exact rep5 w
  | 6, _ => exact rep6 w
  | 7, _ => exact rep7 w
  | 8, _ => exact rep8 w
  | 9, _ => exact rep9 w
  | 10, _ => exact rep10 w
  | 11, _ => exact rep11 w
  | 12, _ => exact rep12 w
  | 13, _ => exact rep13 w
  | 14, _ => exact rep14 w
  | 15, _ => exact rep15 w
end Go.Proofs.YtekgcoajgbpniacGreat

/-
  sort.SliceStable over pairs, however many; strings.LastIndexByte; what sorted pairs say.
-/
namespace Go.Proofs.YtekgcoajgbpniacGreat
open Go.RowKit Go.Lib
set_option linter.unusedVariables false
set_option maxRecDepth 100000

theorem insertion_small (f1 f2 : Value) (hf1 : f1.oneCell' = true) (hf2 : f2.oneCell' = true) (n : Nat) (hn : n ≤ 1) (w : World) :
    Calls Tryz.prog 106 #[.agg #[f1, f2], .int .i64 0, .int .i64 n] w fun e w' => e = .returned (.tuple #[]) ∧ w.grownBy w' none := by
  go_enter Tryz.func106, Tryz.ntmps106
  go_wp2
  go_loop [6] (fun vi => vi = .int .i64 1) (fun _ => 0)
  case atStart => exact rfl
  case round =>
    obtain rfl := hrel
    have h : ¬ (1 : Int) < (n : Int) := by omega
    go_wp2
    go_end0
    exact ⟨rfl, grown_alloc' (grown_refl' _ _) _⟩

theorem stable_small (lf sf : Fn) (la lb sa sb : Array Value) (n : Nat) (hn : n ≤ 1) (w : World) :
    Calls Tryz.prog 80 #[.agg #[.func lf la lb, .func sf sa sb], .int .i64 n] w fun e w' => e = .returned (.tuple #[]) ∧ w.grownBy w' none := by
  go_enter Tryz.func80, Tryz.ntmps80
  go_wp2
  go_loop [5, 6] (fun va vb => va = .int .i64 0 ∧ vb = .int .i64 20) (fun _ _ => 0)
  case atStart => exact ⟨rfl, rfl⟩
  case round =>
    obtain ⟨rfl, rfl⟩ := hrel
    have h : ¬ (20 : Int) ≤ (n : Int) := by omega
    have h2 : ¬ (20 : Int) < (n : Int) := by omega
    go_wp2_with fail
    refine (insertion_small _ _ rfl rfl n hn _).mono ?_
    rintro e w2 ⟨rfl, hg⟩
    have HG := hide (grown_trans' (grown_alloc' (grown_refl' w none) _) hg)
    clear hg
    go_wp2
    go_loop [4, 5, 6, 7] (fun vB _ _ _ => vB = .int .i64 20) (fun _ _ _ _ => 0)
    case atStart => exact rfl
    case round =>
      obtain rfl := hrel
      go_wp2
      go_end0
      exact ⟨rfl, unhide HG⟩

theorem swk (n : Nat) (ie : TypeInfo) (hp : ie.hasPointers = false) (hb : ie.bytes = 16) : swapperK n ie 25 = if n = 0 then 1 else if n = 1 then 2 else 9 := by
  unfold swapperK
  rw [hp, hb]
  by_cases h0 : n = 0
  · simp [h0]
  · by_cases h1 : n = 1
    · simp [h1]
    · simp [h0, h1]

/-- the pairs are sorted, whatever lies elsewhere is as it was -/
def SortedTo (N bp : Nat) (d : Nat → Int × Int) (w w' : World) : Prop := ∃ d', PS N bp d' w' ∧ Stab.Moved 0 N d d' ∧ Stab.Srt Stab.lx d' 0 N ∧ w.grownBy w' (some bp)

set_option maxHeartbeats 2000000 in
theorem sliceStable_any (N bp bx cap : Nat) (p : Option Addr) (d : Nat → Int × Int) (w : World) (hN : N ≤ 288) (hp : N = 0 ∨ p = some ⟨bp, 0, none⟩) (hbp : N = 0 ∨ bp < w.heap.size) (hbx : bx < w.heap.size) (hne : bx ≠ bp)
    (hbox : w.cell? ⟨bx, 0, none⟩ = some (.slice p N cap)) (hP : PS N bp d w) (hr : Rise d 0 N) :
    Calls Tryz.prog 58 #[.iface 123 (.slice p N cap), LF bx] w fun e w' => e = .returned (.tuple #[]) ∧ SortedTo N bp d w w' := by
  obtain ⟨ie, hie, hq⟩ := Option.map_eq_some_iff.1 infoPl
  have hq1 : ie.hasPointers = false := congrArg Prod.fst hq
  have hq2 : ie.bytes = 16 := congrArg Prod.snd hq
  have hk := swk N ie hq1 hq2
  have gst : w.grownBy (stW Tryz.prog.globals.size p N cap w) none := grown_alloc' (grown_alloc' (grown_refl' w none) _) _
  by_cases h1 : N ≤ 1
  · have small : ∀ f B, Calls Tryz.prog 80 #[.agg #[LF bx, .func (.func f) #[] B], .int .i64 N] (stW Tryz.prog.globals.size p N cap w) fun e w' => e = .returned (.tuple #[]) ∧ SortedTo N bp d w w' := fun f B => by
      refine (stable_small _ _ _ _ _ _ N h1 _).mono ?_
      rintro e w' ⟨rfl, hg⟩
      have hg2 := grown_trans' gst hg
      refine ⟨rfl, d, ?_, Stab.Moved.refl _ _ _, fun i j a1 a2 a3 => by omega, ⟨hg2.os, hg2.tape, hg2.output, hg2.size, fun i hi _ => hg2.block i hi (by simp)⟩⟩
      by_cases h0 : N = 0
      · subst h0; intro k hk; omega
      · exact hP.kept hg2 (by omega)
    by_cases h0 : N = 0
    · rw [if_pos h0] at hk
      exact sliceStable_of _ rfl ie hie p N cap 97 (by rw [hk]; kernel_rfl) _ rfl _ _ _ w _ (hide (small _ _))
    · rw [if_neg h0, if_pos (by omega)] at hk
      exact sliceStable_of _ rfl ie hie p N cap 98 (by rw [hk]; kernel_rfl) _ rfl _ _ _ w _ (hide (small _ _))
  · rw [if_neg (by omega), if_neg (by omega)] at hk
    obtain rfl : p = some ⟨bp, 0, none⟩ := by
      rcases hp with h | h
      · omega
      · exact h
    have hbp' : bp < w.heap.size := by omega
    refine sliceStable_of _ rfl ie hie (some ⟨bp, 0, none⟩) N cap 105 (by rw [hk]; kernel_rfl) _ rfl _ _ _ w _ (hide ?_)
    rw [hk]
    refine (stable_any (typeHandle Tryz.prog 125) (hide rfl) N bp bx cap d _ hN (Nat.lt_of_lt_of_le hbp' gst.size) (Nat.lt_of_lt_of_le hbx gst.size) hne (gst.cell hbox (by simp)) (hP.kept gst hbp') hr).mono ?_
    rintro e w' ⟨rfl, d', p1, p2, p3, p4⟩
    exact ⟨rfl, d', p1, p2, p3, grown_trans' ⟨gst.os, gst.tape, gst.output, gst.size, fun i hi _ => gst.block i hi (by simp)⟩ p4⟩

/-- where the last nought stands -/
theorem last_any (a : List Bool) (t : Nat) (w : World) (hl : a.length + 1 + t ≤ 16) :
    Calls Tryz.prog 60 #[.string (text (a ++ false :: List.replicate t true)), .int .u8 48] w fun e w' => e = .returned (.int .i64 (a.length : Int)) ∧ w' = w := by
  have hlen : (a ++ false :: List.replicate t true).length = a.length + 1 + t := by simp; omega
  have hsz := text_size (a ++ false :: List.replicate t true)
  rw [hlen] at hsz
  have HTA := hide (text_at (a ++ false :: List.replicate t true))
  have HL := hide hlen
  have hat : Hid (∀ j, a.length < j → (hj : j < (a ++ false :: List.replicate t true).length) → (a ++ false :: List.replicate t true)[j] = true) := fun j h1 hj => by
    rw [List.getElem_append_right (by omega)]
    obtain ⟨m, hm⟩ : ∃ m, j - a.length = m + 1 := ⟨j - a.length - 1, by omega⟩
    simp [hm]
  have hat0 : Hid ((hj : a.length < (a ++ false :: List.replicate t true).length) → (a ++ false :: List.replicate t true)[a.length] = false) := fun hj => by
    rw [List.getElem_append_right (by omega)]
    simp
  generalize a ++ false :: List.replicate t true = l at *
  have lastS : Hid (∀ w, Calls Tryz.prog 82 #[.string (text l), .int .u8 48] w fun e w' => e = .returned (.int .i64 (a.length : Int)) ∧ w' = w) := by
    intro w
    go_enter Tryz.func82, Tryz.ntmps82
    go_wp2
    go_loop [5] (fun vi => ∃ j : Nat, a.length ≤ j ∧ j < a.length + 1 + t ∧ vi = .int .i64 (j : Int)) (fun vi => (RowKit.intOf vi).toNat)
    case atStart => exact ⟨a.length + t, by omega, by omega, by go_num⟩
    case round =>
      obtain ⟨j, hj1, hj2, rfl⟩ := hrel
      have hjl : j < l.length := by omega
      have hjs : j < (text l).size := by omega
      have ht := unhide HTA j hjl hjs
      by_cases hlt : a.length < j
      · rw [unhide hat j hlt hjl] at ht
        have hb : ((((text l)[j]'hjs).toNat : Int) == 48) = false := by rw [ht]; rfl
        clear ht
        go_wp2
        go_round
        case rel => exact ⟨j - 1, by omega, by omega, by go_num⟩
        case measure => simp [RowKit.intOf]; omega
      · obtain rfl : j = a.length := by omega
        rw [unhide hat0 hjl] at ht
        have hb : ((((text l)[a.length]'hjs).toNat : Int) == 48) = true := by rw [ht]; rfl
        clear ht
        go_wp2
        go_ret
        exact ⟨rfl, rfl⟩
  go_enter Tryz.func60, Tryz.ntmps60
  go_wp2_with fail
  refine (unhide lastS _).mono ?_
  rintro e w' ⟨rfl, rfl⟩
  go_wp2
  go_ret
  exact ⟨rfl, rfl⟩
end Go.Proofs.YtekgcoajgbpniacGreat
