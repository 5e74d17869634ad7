/-
  Plain facts on codes by their lengths: how many places have a length, what they take together, the first code of each length; no code begins another one.
-/
import Derived.Test.YtfoaaamcpknjnahNum
namespace Go.Proofs.Ytfoaaamcpknjnah
open Go.RowKit
set_option linter.unusedVariables false

/-- sixteen numbers as the model's array -/
def arr (c : Nat → Nat) : Array Value := ((List.range 16).map fun n => Value.int .i64 ((c n : Nat) : Int)).toArray
theorem arr_size (c : Nat → Nat) : (arr c).size = 16 := by simp [arr]
theorem arr_at (c : Nat → Nat) {j : Nat} (h : j < 16) : (arr c)[j]? = some (.int .i64 ((c j : Nat) : Int)) := by simp [arr, h]
theorem arr_one (c : Nat → Nat) : (arr c).all (·.oneCell') = true := by
  rw [Array.all_eq_true]
  intro i hi
  simp [arr, Value.oneCell']
def upd (c : Nat → Nat) (j x : Nat) : Nat → Nat := fun n => if n = j then x else c n
theorem arr_set (c : Nat → Nat) (j x : Nat) : (arr c).setIfInBounds j (.int .i64 ((x : Nat) : Int)) = arr (upd c j x) := by
  apply Array.ext_getElem?
  intro i
  rw [Array.getElem?_setIfInBounds]
  by_cases h : i < 16
  · rw [arr_at _ h, arr_size, arr_at _ h]
    by_cases e : j = i
    · subst e; simp [h, upd]
    · simp [e, upd, Ne.symm e]
  · rw [arr_size]
    have h1 : ∀ f, (arr f)[i]? = none := fun f => by simp [arr_size]; omega
    rw [h1, h1]
    by_cases e : j = i
    · subst e; simp [h]
    · simp [e]

/-- how many of l have the length n -/
def cnt (l : List Int) (n : Nat) : Nat := l.count (n : Int)
/-- what the lengths up to k take of 2 ^ 15 -/
def takenN (c : Nat → Nat) : Nat → Nat
  | 0 => 0
  | k + 1 => takenN c k + c (k + 1) * 2 ^ (14 - k)
/-- the code of the first place of each length -/
def firstN (c : Nat → Nat) : Nat → Nat
  | 0 => 0
  | 1 => 0
  | n + 2 => 2 * (firstN c (n + 1) + c (n + 1))

theorem cnt_le (l : List Int) (n : Nat) : cnt l n ≤ l.length := List.count_le_length
theorem cnt_zero (n : Nat) : cnt [] n = 0 := rfl

theorem takenN_le (c : Nat → Nat) {m : Nat} (h : ∀ n, c n ≤ m) : ∀ k, takenN c k ≤ k * (m * 32768)
  | 0 => by simp [takenN]
  | k + 1 => by
    have h1 := takenN_le c h k
    have h2 : c (k + 1) * 2 ^ (14 - k) ≤ m * 32768 := Nat.mul_le_mul (h _) (by
      have := Nat.pow_le_pow_right (n := 2) (by decide) (show 14 - k ≤ 15 by omega)
      omega)
    rw [takenN, Nat.succ_mul]
    omega

/-- what is taken and the first codes go together -/
theorem first_taken (c : Nat → Nat) : ∀ k, k ≤ 14 → firstN c (k + 1) * 2 ^ (14 - k) = takenN c k
  | 0, _ => by simp [firstN, takenN]
  | k + 1, h => by
    have ih := first_taken c k (by omega)
    have e : 14 - k = (14 - (k + 1)) + 1 := by omega
    rw [takenN, ← ih, firstN, e, Nat.pow_succ]
    generalize 2 ^ (14 - (k + 1)) = p
    rw [← Nat.add_mul, Nat.mul_comm p 2, ← Nat.mul_assoc, Nat.mul_comm 2]
theorem taken_mono (c : Nat → Nat) {j k : Nat} (h : j ≤ k) : takenN c j ≤ takenN c k := by
  induction h with
  | refl => exact Nat.le_refl _
  | step _ ih => exact Nat.le_trans ih (Nat.le_add_right _ _)
/-- of a code that is one each length has room -/
theorem first_room (c : Nat → Nat) (h : takenN c 15 ≤ 32768) {n : Nat} (h1 : 1 ≤ n) (h2 : n ≤ 15) : firstN c n + c n ≤ 2 ^ n := by
  obtain ⟨k, rfl⟩ : ∃ k, n = k + 1 := ⟨n - 1, by omega⟩
  have e := first_taken c k (by omega)
  have m := taken_mono c (show k + 1 ≤ 15 by omega)
  rw [takenN] at m
  have m2 : (firstN c (k + 1) + c (k + 1)) * 2 ^ (14 - k) ≤ 2 ^ (k + 1) * 2 ^ (14 - k) := by
    rw [Nat.add_mul, e, ← Nat.pow_add]
    have : k + 1 + (14 - k) = 15 := by omega
    rw [this]
    omega
  exact Nat.le_of_mul_le_mul_right m2 (Nat.pow_pos (by decide))
/-- a longer length begins behind all codes of a shorter one -/
theorem first_far (c : Nat → Nat) (m : Nat) (h1 : 1 ≤ m) : ∀ d, 1 ≤ d → (firstN c m + c m) * 2 ^ d ≤ firstN c (m + d)
  | 0, h => by omega
  | d + 1, _ => by
    obtain ⟨k, rfl⟩ : ∃ k, m = k + 1 := ⟨m - 1, by omega⟩
    have e : firstN c (k + 1 + (d + 1)) = 2 * (firstN c (k + 1 + d) + c (k + 1 + d)) := by
      have : k + 1 + (d + 1) = (k + d) + 2 := by omega
      have h3 : k + 1 + d = (k + d) + 1 := by omega
      rw [this, firstN, h3]
    rw [e, Nat.pow_succ]
    by_cases hd : d = 0
    · subst hd; simp; omega
    · have := first_far c (k + 1) h1 d (by omega)
      rw [← Nat.mul_assoc]
      omega
end Go.Proofs.Ytfoaaamcpknjnah
