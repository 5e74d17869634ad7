/-
  Numbers and their bits: what Go's operators do to them, and what rows of bits say. No program is named here.
-/
import Derived.Test.YtfoaaamcpknjnahKit
namespace Go.Proofs.Ytfoaaamcpknjnah
open Go.RowKit
set_option linter.unusedVariables false
set_option linter.unusedSimpArgs false

theorem ofInt_i64 (a : Nat) (ha : a < 4611686018427387904) : (BitVec.ofInt 64 (a : Int)).toNat = a := by
  rw [BitVec.ofInt_natCast, BitVec.toNat_ofNat]; exact Nat.mod_eq_of_lt (by omega)
theorem wrap_i64_nat (a : Nat) (ha : a < 4611686018427387904) : IntKind.i64.wrap (a : Int) = (a : Int) := by
  rw [IntKind.wrap_i64]; omega
theorem i64_and_nat (a b : Nat) (ha : a < 4611686018427387904) (hb : b < 4611686018427387904) : bits .and .i64 (a : Int) (b : Int) = ((a &&& b : Nat) : Int) := by
  have hx : a &&& b < 2 ^ 62 := Nat.and_lt_two_pow _ (by omega)
  show IntKind.i64.wrap ((BitVec.ofInt 64 (a : Int) &&& BitVec.ofInt 64 (b : Int)).toNat : Int) = _
  rw [BitVec.toNat_and, ofInt_i64 a ha, ofInt_i64 b hb]
  exact wrap_i64_nat _ (by omega)
theorem i64_or_nat (a b : Nat) (ha : a < 4611686018427387904) (hb : b < 4611686018427387904) : bits .or .i64 (a : Int) (b : Int) = ((a ||| b : Nat) : Int) := by
  have hx : a ||| b < 2 ^ 62 := Nat.or_lt_two_pow (by omega) (by omega)
  show IntKind.i64.wrap ((BitVec.ofInt 64 (a : Int) ||| BitVec.ofInt 64 (b : Int)).toNat : Int) = _
  rw [BitVec.toNat_or, ofInt_i64 a ha, ofInt_i64 b hb]
  exact wrap_i64_nat _ (by omega)

theorem div_pow_cast (n k : Nat) : (n : Int) / 2 ^ k = ((n / 2 ^ k : Nat) : Int) := by
  push_cast; rfl
theorem i64_bit (n k : Nat) (hn : n < 4611686018427387904) : bits .and .i64 ((n : Int) / 2 ^ k) 1 = ((n / 2 ^ k % 2 : Nat) : Int) := by
  rw [div_pow_cast]
  have h : n / 2 ^ k ≤ n := Nat.div_le_self _ _
  have := i64_and_nat (n / 2 ^ k) 1 (by omega) (by omega)
  rw [Nat.and_one_is_mod] at this
  exact this
theorem u8_bit (n k : Nat) (hn : n < 256) : bits .and .u8 ((n : Int) / 2 ^ k) 1 = ((n / 2 ^ k % 2 : Nat) : Int) := by
  rw [div_pow_cast]
  have h : n / 2 ^ k ≤ n := Nat.div_le_self _ _
  have := u8_and_nat (n / 2 ^ k) 1 (by omega) (by omega)
  rw [Nat.and_one_is_mod] at this
  exact this

theorem pow_le_16 {k : Nat} (h : k ≤ 16) : 2 ^ k ≤ 65536 := Nat.pow_le_pow_right (j := 16) (by decide) h
theorem pow_le_7 {k : Nat} (h : k ≤ 7) : 2 ^ k ≤ 128 := Nat.pow_le_pow_right (j := 7) (by decide) h
theorem bit_mul_le {x p q : Nat} (h : p ≤ q) : x % 2 * p ≤ q := by
  rcases Nat.mod_two_eq_zero_or_one x with e | e <;> rw [e] <;> omega

theorem turn_step (m n k : Nat) (hm : m < 65536) (hn : n < 65536) :
    bits .or .i64 ((m : Int) * 2) (bits .and .i64 ((n : Int) / 2 ^ k) 1) = ((m * 2 ||| n / 2 ^ k % 2 : Nat) : Int) := by
  rw [i64_bit n k (by omega)]
  have := i64_or_nat (m * 2) (n / 2 ^ k % 2) (by omega) (by omega)
  rw [← this]
  push_cast; rfl
theorem take_step (m x r k : Nat) (hm : m < 65536) (hx : x < 256) (hk : k < 16) :
    bits .or .i64 (m : Int) (wrap64 (wrap64 (bits .and .u8 ((x : Int) / 2 ^ r) 1) * 2 ^ k)) = ((m ||| x / 2 ^ r % 2 * 2 ^ k : Nat) : Int) := by
  rw [u8_bit x r hx]
  have h1 : wrap64 ((x / 2 ^ r % 2 : Nat) : Int) = ((x / 2 ^ r % 2 : Nat) : Int) := by unfold wrap64; omega
  have h2 := bit_mul_le (x := x / 2 ^ r) (pow_le_16 (k := k) (by omega))
  have h3 : wrap64 (((x / 2 ^ r % 2 : Nat) : Int) * 2 ^ k) = ((x / 2 ^ r % 2 * 2 ^ k : Nat) : Int) := by
    have e : (((x / 2 ^ r % 2 : Nat) : Int) * 2 ^ k) = ((x / 2 ^ r % 2 * 2 ^ k : Nat) : Int) := by push_cast; rfl
    rw [e]
    unfold wrap64; omega
  rw [h1, h3]
  exact i64_or_nat _ _ (by omega) (by omega)
theorem put_step (x n k r : Nat) (hx : x < 256) (hn : n < 65536) (hr : r < 8) :
    bits .or .u8 (x : Int) (bits .and .i64 ((n : Int) / 2 ^ k) 1 % 256 * 2 ^ r % 256) = ((x ||| n / 2 ^ k % 2 * 2 ^ r : Nat) : Int) := by
  rw [i64_bit n k (by omega)]
  have h2 := bit_mul_le (x := n / 2 ^ k) (pow_le_7 (k := r) (by omega))
  have e : (((n / 2 ^ k % 2 : Nat) : Int) % 256 * 2 ^ r % 256) = ((n / 2 ^ k % 2 * 2 ^ r : Nat) : Int) := by
    have e1 : ((n / 2 ^ k % 2 : Nat) : Int) % 256 = ((n / 2 ^ k % 2 : Nat) : Int) := by omega
    have e2 : (((n / 2 ^ k % 2 : Nat) : Int) * 2 ^ r) = ((n / 2 ^ k % 2 * 2 ^ r : Nat) : Int) := by push_cast; rfl
    rw [e1, e2]
    omega
  rw [e]
  exact u8_or_nat _ _ hx (by omega)

theorem testBit_bit (n k r i : Nat) : (n / 2 ^ k % 2 * 2 ^ r).testBit i = (decide (i = r) && n.testBit k) := by
  rw [Nat.testBit_mul_two_pow]
  have h : ∀ j, (n / 2 ^ k % 2).testBit j = (decide (j = 0) && n.testBit k) := by
    intro j
    have := Nat.testBit_mod_two_pow (n / 2 ^ k) 1 j
    rw [Nat.pow_one] at this
    rw [this, Nat.testBit_div_two_pow]
    by_cases hj : j = 0
    · subst hj; simp
    · simp [hj]
  rw [h]
  by_cases hi : i = r
  · subst hi; simp
  · by_cases hl : r ≤ i
    · have : i - r ≠ 0 := by omega
      simp [hi, this]
    · simp [hi, hl]

/-- the number that has been turned round behind k bits -/
def turnL (n : Nat) : Nat → Nat
  | 0 => 0
  | k + 1 => turnL n k * 2 ||| n / 2 ^ k % 2
theorem turnL_bit (n : Nat) : ∀ k i, (turnL n k).testBit i = (decide (i < k) && n.testBit (k - 1 - i))
  | 0, i => by simp [turnL]
  | k + 1, i => by
    have h1 := testBit_bit n k 0 i
    rw [Nat.pow_zero, Nat.mul_one] at h1
    have h2 := Nat.testBit_mul_two_pow (turnL n k) i 1
    rw [Nat.pow_one] at h2
    rw [turnL, Nat.testBit_or, h1, h2, turnL_bit n k (i - 1)]
    by_cases hi : i = 0
    · subst hi; simp
    · have e : k + 1 - 1 - i = k - 1 - (i - 1) := by omega
      have e2 : (i - 1 < k) = (i < k + 1) := by apply propext; omega
      have e3 : 1 ≤ i := by omega
      rw [e]
      simp only [e2, hi, e3, decide_true, Bool.true_and, decide_false, Bool.false_and, Bool.or_false]
theorem turnL_lt (n k : Nat) : turnL n k < 2 ^ k := by
  apply Nat.lt_pow_two_of_testBit
  intro i hi
  rw [turnL_bit]
  have : ¬ i < k := by omega
  simp [this]
theorem turn_turn (n s : Nat) (h : n < 2 ^ s) : turnL (turnL n s) s = n := by
  apply Nat.eq_of_testBit_eq
  intro i
  rw [turnL_bit, turnL_bit]
  by_cases hi : i < s
  · have h1 : s - 1 - i < s := by omega
    have h2 : s - 1 - (s - 1 - i) = i := by omega
    simp [hi, h1, h2]
  · have : n.testBit i = false := Nat.testBit_lt_two_pow (Nat.lt_of_lt_of_le h (Nat.pow_le_pow_right (by decide) (by omega)))
    simp [hi, this]

/-- bit k of a row of bytes -/
def bitAt (xs : List Nat) (k : Nat) : Bool := (xs.getD (k / 8) 0).testBit (k % 8)

/-- the number of k bits that stands in a row from bit 'p' on -/
def takeL (xs : List Nat) (p : Nat) : Nat → Nat
  | 0 => 0
  | k + 1 => takeL xs p k ||| xs.getD ((p + k) / 8) 0 / 2 ^ ((p + k) % 8) % 2 * 2 ^ k
theorem takeL_bit (xs : List Nat) (p : Nat) : ∀ k i, (takeL xs p k).testBit i = (decide (i < k) && bitAt xs (p + i))
  | 0, i => by simp [takeL]
  | k + 1, i => by
    rw [takeL, Nat.testBit_or, takeL_bit xs p k i, testBit_bit]
    by_cases hi : i = k
    · subst hi; simp [bitAt]
    · have e : (i < k + 1) = (i < k) := by apply propext; omega
      simp [hi, e]
theorem takeL_lt (xs : List Nat) (p k : Nat) : takeL xs p k < 2 ^ k := by
  apply Nat.lt_pow_two_of_testBit
  intro i hi
  rw [takeL_bit]
  have : ¬ i < k := by omega
  simp [this]

/-- a row behind the first k bits of n were laid from bit 'p' on -/
def putL (xs : List Nat) (p n : Nat) : Nat → List Nat
  | 0 => xs
  | k + 1 => (putL xs p n k).set ((p + k) / 8) ((putL xs p n k).getD ((p + k) / 8) 0 ||| n / 2 ^ k % 2 * 2 ^ ((p + k) % 8))
theorem putL_length (xs : List Nat) (p n : Nat) : ∀ k, (putL xs p n k).length = xs.length
  | 0 => rfl
  | k + 1 => by rw [putL, List.length_set, putL_length xs p n k]
theorem getD_set (xs : List Nat) (i j v : Nat) : (xs.set i v).getD j 0 = if i = j ∧ i < xs.length then v else xs.getD j 0 := by
  rw [List.getD_eq_getElem?_getD, List.getElem?_set, List.getD_eq_getElem?_getD]
  by_cases e : i = j
  · subst e
    by_cases h : i < xs.length
    · simp [h]
    · simp [h]
  · simp [e]
theorem putL_lt (xs : List Nat) (p n : Nat) (h : ∀ j, xs.getD j 0 < 256) : ∀ k j, (putL xs p n k).getD j 0 < 256
  | 0, j => h j
  | k + 1, j => by
    rw [putL, getD_set]
    by_cases c : (p + k) / 8 = j ∧ (p + k) / 8 < (putL xs p n k).length
    · rw [if_pos c]
      have h1 := putL_lt xs p n h k ((p + k) / 8)
      have h2 := bit_mul_le (x := n / 2 ^ k) (pow_le_7 (k := (p + k) % 8) (by omega))
      exact Nat.or_lt_two_pow (n := 8) h1 (by omega)
    · rw [if_neg c]
      exact putL_lt xs p n h k j
theorem putL_bit (xs : List Nat) (p n : Nat) : ∀ k i, p + k ≤ 8 * xs.length → bitAt (putL xs p n k) i = (bitAt xs i || (decide (p ≤ i ∧ i < p + k) && n.testBit (i - p)))
  | 0, i, _ => by
    have : decide (p ≤ i ∧ i < p + 0) = false := decide_eq_false (by omega)
    rw [putL, this]; simp
  | k + 1, i, hk => by
    have ih := putL_bit xs p n k i (by omega)
    unfold bitAt at *
    rw [putL, getD_set, putL_length]
    have hlt : (p + k) / 8 < xs.length := by omega
    by_cases c : (p + k) / 8 = i / 8
    · rw [if_pos ⟨c, hlt⟩, Nat.testBit_or, testBit_bit, c, ih]
      by_cases e : i = p + k
      · have e1 : decide (p ≤ i ∧ i < p + k) = false := decide_eq_false (by omega)
        have e2 : decide (p ≤ i ∧ i < p + (k + 1)) = true := decide_eq_true (by omega)
        have e3 : i % 8 = (p + k) % 8 := by rw [e]
        have e4 : i - p = k := by omega
        rw [e1, e2, e3, e4]; simp
      · have e1 : (p ≤ i ∧ i < p + (k + 1)) = (p ≤ i ∧ i < p + k) := by apply propext; omega
        have e2 : ¬ i % 8 = (p + k) % 8 := by omega
        simp [e1, e2]
    · rw [if_neg (fun h => c h.1), ih]
      have e1 : (p ≤ i ∧ i < p + (k + 1)) = (p ≤ i ∧ i < p + k) := by apply propext; omega
      simp [e1]

/-- rows of bytes are one if their bits are -/
theorem bytes_ext {xs ys : List Nat} (hl : xs.length = ys.length) (hx : ∀ j, xs.getD j 0 < 256) (hy : ∀ j, ys.getD j 0 < 256) (h : ∀ k, k < 8 * xs.length → bitAt xs k = bitAt ys k) : xs = ys := by
  apply List.ext_getElem hl
  intro j h1 h2
  have e1 : xs.getD j 0 = xs[j] := by simp [List.getD, h1]
  have e2 : ys.getD j 0 = ys[j] := by simp [List.getD, h2]
  rw [← e1, ← e2]
  apply Nat.eq_of_testBit_eq
  intro i
  by_cases hi : i < 8
  · have := h (8 * j + i) (by omega)
    unfold bitAt at this
    have d1 : (8 * j + i) / 8 = j := by omega
    have d2 : (8 * j + i) % 8 = i := by omega
    rwa [d1, d2] at this
  · have p8 : 2 ^ 8 ≤ 2 ^ i := Nat.pow_le_pow_right (by decide) (by omega)
    rw [Nat.testBit_lt_two_pow (Nat.lt_of_lt_of_le (hx j) p8), Nat.testBit_lt_two_pow (Nat.lt_of_lt_of_le (hy j) p8)]
end Go.Proofs.Ytfoaaamcpknjnah
