/-
  stepOf, howMany, howFar.
-/
import Derived.Test.YtoiioemkibfdcacPBase
import Derived.Test.YtoiioemkibfdcacIn0
import Derived.OwnWalk
namespace Go.Proofs.Ytoiioemkibfdcac
open Go.RowKit
set_option linter.unusedVariables false
set_option maxRecDepth 100000

theorem step_lt (g n s : Nat) (hg : 1 ≤ g) (hn : n < 8192) (hs : s = 12) : n / 2 ^ s < 2 * g := by
  subst hs
  have : n / 2 ^ 12 < 2 := Nat.div_lt_of_lt_mul (by omega)
  omega
theorem stepZ_done (g n f s : Nat) (h : n / 2 ^ s < 2 * g) : stepZ g n f s = s := by
  cases f with
  | zero => rfl
  | succ f => rw [stepZ, if_pos h]
theorem stepZ_more (g n s : Nat) (hs : s < 12) (h : ¬ n / 2 ^ s < 2 * g) : stepZ g n (12 - s) s = stepZ g n (12 - (s + 1)) (s + 1) := by
  rw [show 12 - s = (12 - (s + 1)) + 1 by omega, stepZ, if_neg h]
theorem mask_mod (n s : Nat) (hn : n < 8192) (hs : s ≤ 12) : bits .and .i64 (n : Int) (2 ^ s - 1) = ((n % 2 ^ s : Nat) : Int) := by
  have hp : 2 ^ s ≤ 2 ^ 12 := Nat.pow_le_pow_right (by decide) hs
  have h1 : 0 < 2 ^ s := Nat.two_pow_pos s
  have e : ((2 : Int) ^ s - 1) = ((2 ^ s - 1 : Nat) : Int) := by
    have h2 : ((2 ^ s : Nat) : Int) = (2 : Int) ^ s := by push_cast; rfl
    omega
  rw [e, i64_and_nat n (2 ^ s - 1) (by omega) (by omega), Nat.and_two_pow_sub_one_eq_mod]

theorem wrap_sum (Y X : Nat) (hY : Y ≤ 48) (hX : X < 8192) : wrap64 (wrap64 (Y : Int) + (X : Int)) = ((Y + X : Nat) : Int) := by unfold wrap64; omega
theorem wrap_pred (Q : Nat) (h1 : 0 < Q) (h : Q ≤ 4096) : wrap64 (wrap64 (Q : Int) - 1) = (Q : Int) - 1 := by unfold wrap64; omega
set_option maxHeartbeats 1000000 in
theorem stepOf_any (n g : Nat) (w : World) (hg : 1 ≤ g) (hg4 : g ≤ 4) (hn : n < 8192) :
    Calls Try.prog 96 #[.int .i64 (n : Int), .int .i64 (g : Int)] w fun e w' => e = .returned (.tuple #[.int .i64 (stepK g n : Nat), .int .i64 (stepR g n : Nat), .int .i64 (stepS g n : Nat)]) ∧ ∃ q, w' = w.drewN q := by
  go_enter Try.func96, Try.ntmps96
  go_wp2
  go_loop [6] (fun v => ∃ s : Nat, s ≤ 12 ∧ v = .int .i64 (s : Int) ∧ Hid (stepZ g n (12 - s) s = stepS g n)) (fun v => 12 - (intOf v).toNat)
  case atStart => exact ⟨0, by decide, rfl, hide rfl⟩
  case round =>
    obtain ⟨s, hs, rfl, hz⟩ := hrel
    by_cases hd : n / 2 ^ s < 2 * g
    · have E : Hid (stepS g n = s) := hide (by rw [← unhide hz]; exact stepZ_done g n _ s hd)
      have hd2 : ¬ (2 : Int) * (g : Int) ≤ (n : Int) / 2 ^ s := by rw [div_pow_cast]; omega
      have hk : Hid (stepK g n = g * s + n / 2 ^ s) := hide (by unfold stepK; rw [unhide E])
      have hr : Hid (stepR g n = n % 2 ^ s) := hide (by unfold stepR; rw [unhide E])
      have hm := mask_mod n s hn hs
      have hp : 2 ^ s ≤ 4096 := Nat.pow_le_pow_right (j := 12) (by decide) hs
      have hgs : g * s ≤ 48 := Nat.mul_le_mul hg4 hs
      have hdv : n / 2 ^ s ≤ n := Nat.div_le_self _ _
      have HP := hide hp
      have HD := hide hdv
      have HGS := hide hgs
      clear hz hd hp hdv hgs
      go_wp2
      go_quiet (fail)
      go_wp2
      go_ret3
      refine ⟨?_, _, rfl⟩
      have hp := unhide HP
      have hdv := unhide HD
      have hgs := unhide HGS
      have e1 : (g : Int) * (s : Int) = ((g * s : Nat) : Int) := by push_cast; rfl
      have e2 : ((2 : Int) ^ s) = ((2 ^ s : Nat) : Int) := by push_cast; rfl
      have h1 : 0 < 2 ^ s := Nat.two_pow_pos s
      have w1 : wrap64 (wrap64 ((g : Int) * s) + (n : Int) / 2 ^ s) = ((g * s + n / 2 ^ s : Nat) : Int) := by
        rw [e1, div_pow_cast]
        exact wrap_sum _ _ hgs (Nat.lt_of_le_of_lt hdv hn)
      have w2 : wrap64 (wrap64 ((2 : Int) ^ s) - 1) = 2 ^ s - 1 := by
        rw [e2]
        exact wrap_pred _ h1 hp
      show Ending.returned (.tuple #[.int .i64 (wrap64 (wrap64 ((g : Int) * s) + (n : Int) / 2 ^ s)), .int .i64 (bits .and .i64 (n : Int) (wrap64 (wrap64 ((2 : Int) ^ s) - 1))), .int .i64 (s : Int)]) = _
      rw [w1, w2, hm, unhide hk, unhide hr, unhide E]
    · have hs2 : s < 12 := by
        rcases Nat.lt_or_ge s 12 with h | h
        · exact h
        · exact absurd (step_lt g n s hg hn (by omega)) hd
      have hd2 : (2 : Int) * (g : Int) ≤ (n : Int) / 2 ^ s := by rw [div_pow_cast]; omega
      have HZ := hide (stepZ_more g n s hs2 hd)
      go_wp2
      go_round
      case rel => exact ⟨s + 1, by omega, by go_num, hide (by rw [← unhide HZ]; exact unhide hz)⟩
      case measure => simp [intOf]; omega

theorem stepS_le (g n : Nat) (hg : 1 ≤ g) (hn : n < 8192) : stepS g n ≤ 12 ∧ stepK g n ≤ g * 12 + n ∧ stepR g n ≤ n := by
  have : ∀ f s, f + s = 12 → stepZ g n f s ≤ 12 := by
    intro f
    induction f with
    | zero => intro s h; rw [stepZ]; omega
    | succ f ih => intro s h; rw [stepZ]; split; omega; exact ih _ (by omega)
  have h1 := this 12 0 rfl
  have h2 : n / 2 ^ stepS g n ≤ n := Nat.div_le_self _ _
  have h3 : g * stepS g n ≤ g * 12 := Nat.mul_le_mul_left _ h1
  exact ⟨h1, Nat.add_le_add h3 h2, by unfold stepR; exact Nat.mod_le _ _⟩
theorem howMany_any (n : Nat) (w : World) (h3 : 3 ≤ n) (hn : n ≤ 258) :
    Calls Try.prog 74 #[.int .i64 (n : Int)] w fun e w' => e = .returned (.tuple #[.int .i64 ((manyI n).1 : Nat), .int .i64 ((manyI n).2.1 : Nat), .int .i64 ((manyI n).2.2 : Nat)]) ∧ ∃ q, w' = w.drewN q := by
  by_cases h : n = 258
  · subst h
    have e : manyI 258 = (285, 0, 0) := rfl
    rw [e]
    go_enter Try.func74, Try.ntmps74
    go_wp2
    go_ret3
    exact ⟨rfl, 0, rfl⟩
  · have e : Hid (manyI n = (257 + stepK 4 (n - 3), stepR 4 (n - 3), stepS 4 (n - 3))) := hide (by unfold manyI; rw [if_neg h])
    have hb : ((n : Int) == 258) = false := by rw [beq_eq_false_iff_ne]; omega
    have hle := stepS_le 4 (n - 3) (by omega) (by omega)
    have HC := hide (stepOf_any (n - 3) 4 w (by omega) (by omega) (by omega))
    have hsub : ((n : Int) - 3) = ((n - 3 : Nat) : Int) := by omega
    rw [unhide e]
    generalize stepK 4 (n - 3) = K at *
    generalize stepR 4 (n - 3) = R at *
    generalize stepS 4 (n - 3) = Z at *
    rw [← hsub] at HC
    clear hsub e
    go_enter Try.func74, Try.ntmps74
    go_wp2_with fail
    refine (unhide HC).mono ?_
    rintro e w1 ⟨rfl, q, rfl⟩
    go_wp2
    go_ret3
    refine ⟨?_, q, rfl⟩
    simp only [Int.natCast_add]
    rfl
theorem howFar_any (d : Nat) (w : World) (h1 : 1 ≤ d) (hd : d ≤ 3000) :
    Calls Try.prog 75 #[.int .i64 (d : Int)] w fun e w' => e = .returned (.tuple #[.int .i64 ((farI d).1 : Nat), .int .i64 ((farI d).2.1 : Nat), .int .i64 ((farI d).2.2 : Nat)]) ∧ ∃ q, w' = w.drewN q := by
  have HC := hide (stepOf_any (d - 1) 2 w (by omega) (by omega) (by omega))
  have hsub : ((d : Int) - 1) = ((d - 1 : Nat) : Int) := by omega
  unfold farI
  simp only
  generalize stepK 2 (d - 1) = K at *
  generalize stepR 2 (d - 1) = R at *
  generalize stepS 2 (d - 1) = Z at *
  rw [← hsub] at HC
  clear hsub
  go_enter Try.func75, Try.ntmps75
  go_wp2_with fail
  refine (unhide HC).mono ?_
  rintro e w1 ⟨rfl, q, rfl⟩
  go_wp2
  go_ret3
  exact ⟨rfl, q, rfl⟩
end Go.Proofs.Ytoiioemkibfdcac
