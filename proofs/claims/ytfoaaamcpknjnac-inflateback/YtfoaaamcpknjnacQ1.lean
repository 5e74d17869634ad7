/-
  Numbers and their bits: what Go's operators do to them, and what rows of bits say. No program is named here.
-/
import Derived.Test.YtfoaaamcpknjnacQ0
namespace Go.Proofs.Ytfoaaamcpknjnac
open Go.RowKit
set_option linter.unusedVariables false
set_option linter.unusedSimpArgs false

theorem ofInt_i64 (a : Nat) (ha : a < 4611686018427387904) : (BitVec.ofInt 64 (a : Int)).toNat = a := by
  rw [BitVec.ofInt_natCast, BitVec.toNat_ofNat]; exact Nat.mod_eq_of_lt (by omega)
theorem wrap_i64_nat (a : Nat) (ha : a < 4611686018427387904) : IntKind.i64.wrap (a : Int) = (a : Int) := by
  rw [IntKind.wrap_i64]; omega
theorem i64_and_nat (a b : Nat) (ha : a < 4611686018427387904) (hb : b < 4611686018427387904) : bits .and .i64 (a : Int) (b : Int) = ((a &&& b : Nat) : Int) := by
  have hx : a &&& b < 2 ^ 62 := Nat.and_lt_two_pow _ (by omega)
  show IntKind.i64.wrap ((BitVec.ofInt 64 (a : Int) &&& BitVec.ofInt 64 (b : Int)).toNat : Int) = _
  rw [BitVec.toNat_and, ofInt_i64 a ha, ofInt_i64 b hb]
  exact wrap_i64_nat _ (by omega)
theorem i64_or_nat (a b : Nat) (ha : a < 4611686018427387904) (hb : b < 4611686018427387904) : bits .or .i64 (a : Int) (b : Int) = ((a ||| b : Nat) : Int) := by
  have hx : a ||| b < 2 ^ 62 := Nat.or_lt_two_pow (by omega) (by omega)
  show IntKind.i64.wrap ((BitVec.ofInt 64 (a : Int) ||| BitVec.ofInt 64 (b : Int)).toNat : Int) = _
  rw [BitVec.toNat_or, ofInt_i64 a ha, ofInt_i64 b hb]
  exact wrap_i64_nat _ (by omega)

theorem div_pow_cast (n k : Nat) : (n : Int) / 2 ^ k = ((n / 2 ^ k : Nat) : Int) := by
  push_cast; rfl
theorem i64_bit (n k : Nat) (hn : n < 4611686018427387904) : bits .and .i64 ((n : Int) / 2 ^ k) 1 = ((n / 2 ^ k % 2 : Nat) : Int) := by
  rw [div_pow_cast]
  have h : n / 2 ^ k ≤ n := Nat.div_le_self _ _
  have := i64_and_nat (n / 2 ^ k) 1 (by omega) (by omega)
  rw [Nat.and_one_is_mod] at this
  exact this
theorem u8_bit (n k : Nat) (hn : n < 256) : bits .and .u8 ((n : Int) / 2 ^ k) 1 = ((n / 2 ^ k % 2 : Nat) : Int) := by
  rw [div_pow_cast]
  have h : n / 2 ^ k ≤ n := Nat.div_le_self _ _
  have := u8_and_nat (n / 2 ^ k) 1 (by omega) (by omega)
  rw [Nat.and_one_is_mod] at this
  exact this

theorem pow_le_16 {k : Nat} (h : k ≤ 16) : 2 ^ k ≤ 65536 := Nat.pow_le_pow_right (j := 16) (by decide) h
theorem pow_le_7 {k : Nat} (h : k ≤ 7) : 2 ^ k ≤ 128 := Nat.pow_le_pow_right (j := 7) (by decide) h
theorem bit_mul_le {x p q : Nat} (h : p ≤ q) : x % 2 * p ≤ q := by
  rcases Nat.mod_two_eq_zero_or_one x with e | e <;> rw [e] <;> omega

theorem turn_step (m n k : Nat) (hm : m < 65536) (hn : n < 65536) :
    bits .or .i64 ((m : Int) * 2) (bits .and .i64 ((n : Int) / 2 ^ k) 1) = ((m * 2 ||| n / 2 ^ k % 2 : Nat) : Int) := by
  rw [i64_bit n k (by omega)]
  have := i64_or_nat (m * 2) (n / 2 ^ k % 2) (by omega) (by omega)
  rw [← this]
  push_cast; rfl
theorem take_step (m x r k : Nat) (hm : m < 65536) (hx : x < 256) (hk : k < 16) :
    bits .or .i64 (m : Int) (wrap64 (wrap64 (bits .and .u8 ((x : Int) / 2 ^ r) 1) * 2 ^ k)) = ((m ||| x / 2 ^ r % 2 * 2 ^ k : Nat) : Int) := by
  rw [u8_bit x r hx]
  have h1 : wrap64 ((x / 2 ^ r % 2 : Nat) : Int) = ((x / 2 ^ r % 2 : Nat) : Int) := by unfold wrap64; omega
  have h2 := bit_mul_le (x := x / 2 ^ r) (pow_le_16 (k := k) (by omega))
  have h3 : wrap64 (((x / 2 ^ r % 2 : Nat) : Int) * 2 ^ k) = ((x / 2 ^ r % 2 * 2 ^ k : Nat) : Int) := by
    have e : (((x / 2 ^ r % 2 : Nat) : Int) * 2 ^ k) = ((x / 2 ^ r % 2 * 2 ^ k : Nat) : Int) := by push_cast; rfl
    rw [e]
    unfold wrap64; omega
  rw [h1, h3]
  exact i64_or_nat _ _ (by omega) (by omega)
theorem put_step (x n k r : Nat) (hx : x < 256) (hn : n < 65536) (hr : r < 8) :
    bits .or .u8 (x : Int) (bits .and .i64 ((n : Int) / 2 ^ k) 1 % 256 * 2 ^ r % 256) = ((x ||| n / 2 ^ k % 2 * 2 ^ r : Nat) : Int) := by
  rw [i64_bit n k (by omega)]
  have h2 := bit_mul_le (x := n / 2 ^ k) (pow_le_7 (k := r) (by omega))
  have e : (((n / 2 ^ k % 2 : Nat) : Int) % 256 * 2 ^ r % 256) = ((n / 2 ^ k % 2 * 2 ^ r : Nat) : Int) := by
    have e1 : ((n / 2 ^ k % 2 : Nat) : Int) % 256 = ((n / 2 ^ k % 2 : Nat) : Int) := by omega
    have e2 : (((n / 2 ^ k % 2 : Nat) : Int) * 2 ^ r) = ((n / 2 ^ k % 2 * 2 ^ r : Nat) : Int) := by push_cast; rfl
    rw [e1, e2]
    omega
  rw [e]
  exact u8_or_nat _ _ hx (by omega)

theorem testBit_bit (n k r i : Nat) : (n / 2 ^ k % 2 * 2 ^ r).testBit i = (decide (i = r) && n.testBit k) := by
  rw [Nat.testBit_mul_two_pow]
  have h : ∀ j, (n / 2 ^ k % 2).testBit j = (decide (j = 0) && n.testBit k) := by
    intro j
    have := Nat.testBit_mod_two_pow (n / 2 ^ k) 1 j
    rw [Nat.pow_one] at this
    rw [this, Nat.testBit_div_two_pow]
    by_cases hj : j = 0
    · subst hj; simp
    · simp [hj]
  rw [h]
  by_cases hi : i = r
  · subst hi; simp
  · by_cases hl : r ≤ i
    · have : i - r ≠ 0 := by omega
      simp [hi, this]
    · simp [hi, hl]

/-- the number that has been turned round behind k bits -/
def turnL (n : Nat) : Nat → Nat
  | 0 => 0
  | k + 1 => turnL n k * 2 ||| n / 2 ^ k % 2
theorem turnL_bit (n : Nat) : ∀ k i, (turnL n k).testBit i = (decide (i < k) && n.testBit (k - 1 - i))
  | 0, i => by simp [turnL]
  | k + 1, i => by
    have h1 := testBit_bit n k 0 i
    rw [Nat.pow_zero, Nat.mul_one] at h1
    have h2 := Nat.testBit_mul_two_pow (turnL n k) i 1
    rw [Nat.pow_one] at h2
    rw [turnL, Nat.testBit_or, h1, h2, turnL_bit n k (i - 1)]
    by_cases hi : i = 0
    · subst hi; simp
    · have e : k + 1 - 1 - i = k - 1 - (i - 1) := by omega
      have e2 : (i - 1 < k) = (i < k + 1) := by apply propext; omega
      have e3 : 1 ≤ i := by omega
      rw [e]
      simp only [e2, hi, e3, decide_true, Bool.true_and, decide_false, Bool.false_and, Bool.or_false]
theorem turnL_lt (n k : Nat) : turnL n k < 2 ^ k := by
  apply Nat.lt_pow_two_of_testBit
  intro i hi
  rw [turnL_bit]
  have : ¬ i < k := by omega
  simp [this]
theorem turn_turn (n s : Nat) (h : n < 2 ^ s) : turnL (turnL n s) s = n := by
  apply Nat.eq_of_testBit_eq
  intro i
  rw [turnL_bit, turnL_bit]
  by_cases hi : i < s
  · have h1 : s - 1 - i < s := by omega
    have h2 : s - 1 - (s - 1 - i) = i := by omega
    simp [hi, h1, h2]
  · have : n.testBit i = false := Nat.testBit_lt_two_pow (Nat.lt_of_lt_of_le h (Nat.pow_le_pow_right (by decide) (by omega)))
    simp [hi, this]

/-- bit k of a row of bytes -/
def bitAt (xs : List Nat) (k : Nat) : Bool := (xs.getD (k / 8) 0).testBit (k % 8)

/-- the number of k bits that stands in a row from bit 'p' on -/
def takeL (xs : List Nat) (p : Nat) : Nat → Nat
  | 0 => 0
  | k + 1 => takeL xs p k ||| xs.getD ((p + k) / 8) 0 / 2 ^ ((p + k) % 8) % 2 * 2 ^ k
theorem takeL_bit (xs : List Nat) (p : Nat) : ∀ k i, (takeL xs p k).testBit i = (decide (i < k) && bitAt xs (p + i))
  | 0, i => by simp [takeL]
  | k + 1, i => by
    rw [takeL, Nat.testBit_or, takeL_bit xs p k i, testBit_bit]
    by_cases hi : i = k
    · subst hi; simp [bitAt]
    · have e : (i < k + 1) = (i < k) := by apply propext; omega
      simp [hi, e]
theorem takeL_lt (xs : List Nat) (p k : Nat) : takeL xs p k < 2 ^ k := by
  apply Nat.lt_pow_two_of_testBit
  intro i hi
  rw [takeL_bit]
  have : ¬ i < k := by omega
  simp [this]

/-- a row behind the first k bits of n were laid from bit 'p' on -/
def putL (xs : List Nat) (p n : Nat) : Nat → List Nat
  | 0 => xs
  | k + 1 => (putL xs p n k).set ((p + k) / 8) ((putL xs p n k).getD ((p + k) / 8) 0 ||| n / 2 ^ k % 2 * 2 ^ ((p + k) % 8))
theorem putL_length (xs : List Nat) (p n : Nat) : ∀ k, (putL xs p n k).length = xs.length
  | 0 => rfl
  | k + 1 => by rw [putL, List.length_set, putL_length xs p n k]
theorem getD_set (xs : List Nat) (i j v : Nat) : (xs.set i v).getD j 0 = if i = j ∧ i < xs.length then v else xs.getD j 0 := by
  rw [List.getD_eq_getElem?_getD, List.getElem?_set, List.getD_eq_getElem?_getD]
  by_cases e : i = j
  · subst e
    by_cases h : i < xs.length
    · simp [h]
    · simp [h]
  · simp [e]
theorem putL_lt (xs : List Nat) (p n : Nat) (h : ∀ j, xs.getD j 0 < 256) : ∀ k j, (putL xs p n k).getD j 0 < 256
  | 0, j => h j
  | k + 1, j => by
    rw [putL, getD_set]
    by_cases c : (p + k) / 8 = j ∧ (p + k) / 8 < (putL xs p n k).length
    · rw [if_pos c]
      have h1 := putL_lt xs p n h k ((p + k) / 8)
      have h2 := bit_mul_le (x := n / 2 ^ k) (pow_le_7 (k := (p + k) % 8) (by omega))
      exact Nat.or_lt_two_pow (n := 8) h1 (by omega)
    · rw [if_neg c]
      exact putL_lt xs p n h k j
theorem putL_bit (xs : List Nat) (p n : Nat) : ∀ k i, p + k ≤ 8 * xs.length → bitAt (putL xs p n k) i = (bitAt xs i || (decide (p ≤ i ∧ i < p + k) && n.testBit (i - p)))
  | 0, i, _ => by
    have : decide (p ≤ i ∧ i < p + 0) = false := decide_eq_false (by omega)
    rw [putL, this]; simp
  | k + 1, i, hk => by
    have ih := putL_bit xs p n k i (by omega)
    unfold bitAt at *
    rw [putL, getD_set, putL_length]
    have hlt : (p + k) / 8 < xs.length := by omega
    by_cases c : (p + k) / 8 = i / 8
    · rw [if_pos ⟨c, hlt⟩, Nat.testBit_or, testBit_bit, c, ih]
      by_cases e : i = p + k
      · have e1 : decide (p ≤ i ∧ i < p + k) = false := decide_eq_false (by omega)
        have e2 : decide (p ≤ i ∧ i < p + (k + 1)) = true := decide_eq_true (by omega)
        have e3 : i % 8 = (p + k) % 8 := by rw [e]
        have e4 : i - p = k := by omega
        rw [e1, e2, e3, e4]; simp
      · have e1 : (p ≤ i ∧ i < p + (k + 1)) = (p ≤ i ∧ i < p + k) := by apply propext; omega
        have e2 : ¬ i % 8 = (p + k) % 8 := by omega
        simp [e1, e2]
    · rw [if_neg (fun h => c h.1), ih]
      have e1 : (p ≤ i ∧ i < p + (k + 1)) = (p ≤ i ∧ i < p + k) := by apply propext; omega
      simp [e1]

/-- rows of bytes are one if their bits are -/
theorem bytes_ext {xs ys : List Nat} (hl : xs.length = ys.length) (hx : ∀ j, xs.getD j 0 < 256) (hy : ∀ j, ys.getD j 0 < 256) (h : ∀ k, k < 8 * xs.length → bitAt xs k = bitAt ys k) : xs = ys := by
  apply List.ext_getElem hl
  intro j h1 h2
  have e1 : xs.getD j 0 = xs[j] := by simp [List.getD, h1]
  have e2 : ys.getD j 0 = ys[j] := by simp [List.getD, h2]
  rw [← e1, ← e2]
  apply Nat.eq_of_testBit_eq
  intro i
  by_cases hi : i < 8
  · have := h (8 * j + i) (by omega)
    unfold bitAt at this
    have d1 : (8 * j + i) / 8 = j := by omega
    have d2 : (8 * j + i) % 8 = i := by omega
    rwa [d1, d2] at this
  · have p8 : 2 ^ 8 ≤ 2 ^ i := Nat.pow_le_pow_right (by decide) (by omega)
    rw [Nat.testBit_lt_two_pow (Nat.lt_of_lt_of_le (hx j) p8), Nat.testBit_lt_two_pow (Nat.lt_of_lt_of_le (hy j) p8)]
end Go.Proofs.Ytfoaaamcpknjnac

/-
  Plain facts on codes by their lengths: how many places have a length, what they take together, the first code of each length; no code begins another one.
-/
namespace Go.Proofs.Ytfoaaamcpknjnac
open Go.RowKit
set_option linter.unusedVariables false

/-- sixteen numbers as the model's array -/
def arr (c : Nat → Nat) : Array Value := ((List.range 16).map fun n => Value.int .i64 ((c n : Nat) : Int)).toArray
theorem arr_size (c : Nat → Nat) : (arr c).size = 16 := by simp [arr]
theorem arr_at (c : Nat → Nat) {j : Nat} (h : j < 16) : (arr c)[j]? = some (.int .i64 ((c j : Nat) : Int)) := by simp [arr, h]
theorem arr_one (c : Nat → Nat) : (arr c).all (·.oneCell') = true := by
  rw [Array.all_eq_true]
  intro i hi
  simp [arr, Value.oneCell']
def upd (c : Nat → Nat) (j x : Nat) : Nat → Nat := fun n => if n = j then x else c n
theorem arr_set (c : Nat → Nat) (j x : Nat) : (arr c).setIfInBounds j (.int .i64 ((x : Nat) : Int)) = arr (upd c j x) := by
  apply Array.ext_getElem?
  intro i
  rw [Array.getElem?_setIfInBounds]
  by_cases h : i < 16
  · rw [arr_at _ h, arr_size, arr_at _ h]
    by_cases e : j = i
    · subst e; simp [h, upd]
    · simp [e, upd, Ne.symm e]
  · rw [arr_size]
    have h1 : ∀ f, (arr f)[i]? = none := fun f => by simp [arr_size]; omega
    rw [h1, h1]
    by_cases e : j = i
    · subst e; simp [h]
    · simp [e]

/-- how many of l have the length n -/
def cnt (l : List Int) (n : Nat) : Nat := l.count (n : Int)
/-- what the lengths up to k take of 2 ^ 15 -/
def takenN (c : Nat → Nat) : Nat → Nat
  | 0 => 0
  | k + 1 => takenN c k + c (k + 1) * 2 ^ (14 - k)
/-- the code of the first place of each length -/
def firstN (c : Nat → Nat) : Nat → Nat
  | 0 => 0
  | 1 => 0
  | n + 2 => 2 * (firstN c (n + 1) + c (n + 1))

theorem cnt_le (l : List Int) (n : Nat) : cnt l n ≤ l.length := List.count_le_length
theorem cnt_zero (n : Nat) : cnt [] n = 0 := rfl

theorem takenN_le (c : Nat → Nat) {m : Nat} (h : ∀ n, c n ≤ m) : ∀ k, takenN c k ≤ k * (m * 32768)
  | 0 => by simp [takenN]
  | k + 1 => by
    have h1 := takenN_le c h k
    have h2 : c (k + 1) * 2 ^ (14 - k) ≤ m * 32768 := Nat.mul_le_mul (h _) (by
      have := Nat.pow_le_pow_right (n := 2) (by decide) (show 14 - k ≤ 15 by omega)
      omega)
    rw [takenN, Nat.succ_mul]
    omega

/-- what is taken and the first codes go together -/
theorem first_taken (c : Nat → Nat) : ∀ k, k ≤ 14 → firstN c (k + 1) * 2 ^ (14 - k) = takenN c k
  | 0, _ => by simp [firstN, takenN]
  | k + 1, h => by
    have ih := first_taken c k (by omega)
    have e : 14 - k = (14 - (k + 1)) + 1 := by omega
    rw [takenN, ← ih, firstN, e, Nat.pow_succ]
    generalize 2 ^ (14 - (k + 1)) = p
    rw [← Nat.add_mul, Nat.mul_comm p 2, ← Nat.mul_assoc, Nat.mul_comm 2]
theorem taken_mono (c : Nat → Nat) {j k : Nat} (h : j ≤ k) : takenN c j ≤ takenN c k := by
  induction h with
  | refl => exact Nat.le_refl _
  | step _ ih => exact Nat.le_trans ih (Nat.le_add_right _ _)
/-- of a code that is one each length has room -/
theorem first_room (c : Nat → Nat) (h : takenN c 15 ≤ 32768) {n : Nat} (h1 : 1 ≤ n) (h2 : n ≤ 15) : firstN c n + c n ≤ 2 ^ n := by
  obtain ⟨k, rfl⟩ : ∃ k, n = k + 1 := ⟨n - 1, by omega⟩
  have e := first_taken c k (by omega)
  have m := taken_mono c (show k + 1 ≤ 15 by omega)
  rw [takenN] at m
  have m2 : (firstN c (k + 1) + c (k + 1)) * 2 ^ (14 - k) ≤ 2 ^ (k + 1) * 2 ^ (14 - k) := by
    rw [Nat.add_mul, e, ← Nat.pow_add]
    have : k + 1 + (14 - k) = 15 := by omega
    rw [this]
    omega
  exact Nat.le_of_mul_le_mul_right m2 (Nat.pow_pos (by decide))
/-- a longer length begins behind all codes of a shorter one -/
theorem first_far (c : Nat → Nat) (m : Nat) (h1 : 1 ≤ m) : ∀ d, 1 ≤ d → (firstN c m + c m) * 2 ^ d ≤ firstN c (m + d)
  | 0, h => by omega
  | d + 1, _ => by
    obtain ⟨k, rfl⟩ : ∃ k, m = k + 1 := ⟨m - 1, by omega⟩
    have e : firstN c (k + 1 + (d + 1)) = 2 * (firstN c (k + 1 + d) + c (k + 1 + d)) := by
      have : k + 1 + (d + 1) = (k + d) + 2 := by omega
      have h3 : k + 1 + d = (k + d) + 1 := by omega
      rw [this, firstN, h3]
    rw [e, Nat.pow_succ]
    by_cases hd : d = 0
    · subst hd; simp; omega
    · have := first_far c (k + 1) h1 d (by omega)
      rw [← Nat.mul_assoc]
      omega
end Go.Proofs.Ytfoaaamcpknjnac

/-
  Lengths and their codes, of lists alone: what count, Codes, the reader's places say.
-/
namespace Go.Proofs.Ytfoaaamcpknjnac
set_option linter.unusedVariables false

def okLen (n : Int) : Bool := decide (0 ≤ n ∧ n ≤ 15)
theorem okLen_true {n : Int} (h : okLen n = true) : 0 ≤ n ∧ n ≤ 15 := of_decide_eq_true h
theorem okLen_false {n : Int} (h : okLen n = false) : ¬ (0 ≤ n ∧ n ≤ 15) := of_decide_eq_false h

theorem cnt_next (l : List Int) {k n : Nat} (hk : k < l.length) (hx : l.getD k 0 = (n : Int)) : upd (cnt (l.take k)) n (cnt (l.take k) n + 1) = cnt (l.take (k + 1)) := by
  funext m
  have e : l[k] = (n : Int) := by simpa [List.getD, hk] using hx
  simp only [upd, cnt]
  rw [List.take_succ_eq_append_getElem hk, List.count_append, e]
  by_cases h : m = n
  · subst h; simp
  · have : ((n : Int) == (m : Int)) = false := by rw [beq_eq_false_iff_ne]; omega
    simp [h, List.count_cons, this]

/-- Check's error -/
def errL (l : List Int) : Int := if 288 < l.length then 2 else if ∃ j, j < l.length ∧ okLen (l.getD j 0) = false then 3 else if 32768 < takenN (cnt l) 15 then 8 else 0
/-- what count answers besides -/
def cntE (l : List Int) : Nat → Nat := if errL l = 0 then cnt l else fun _ => 0

/-- what Check's OK says -/
structure Good (l : List Int) : Prop where
  len : l.length ≤ 288
  ok : ∀ j, j < l.length → 0 ≤ l.getD j 0 ∧ l.getD j 0 ≤ 15
  room : takenN (cnt l) 15 ≤ 32768

theorem errL_good {l : List Int} (h : errL l = 0) : Good l := by
  unfold errL at h
  split at h
  · cases h
  · split at h
    · cases h
    · split at h
      · cases h
      · rename_i h1 h2 h3
        refine ⟨by omega, fun j hj => ?_, by omega⟩
        cases e : okLen (l.getD j 0) with
        | true => exact okLen_true e
        | false => exact absurd ⟨j, hj, e⟩ h2
theorem good_errL {l : List Int} (h : Good l) : errL l = 0 := by
  unfold errL
  rw [if_neg (by have := h.len; omega), if_neg, if_neg (by have := h.room; omega)]
  rintro ⟨j, hj, e⟩
  exact okLen_false e (h.ok j hj)

/-- the code of place i -/
def codeN (l : List Int) (i : Nat) : Nat := if (l.getD i 0).toNat = 0 then 0 else firstN (cnt l) (l.getD i 0).toNat + cnt (l.take i) (l.getD i 0).toNat
/-- the codes behind k places -/
def codL (l : List Int) : Nat → List Nat
  | 0 => List.replicate l.length 0
  | k + 1 => (codL l k).set k (codeN l k)
theorem codL_length (l : List Int) : ∀ k, (codL l k).length = l.length
  | 0 => by simp [codL]
  | k + 1 => by rw [codL, List.length_set, codL_length l k]
theorem codL_at (l : List Int) {j : Nat} (hj : j < l.length) : ∀ k, (codL l k).getD j 0 = if j < k then codeN l j else 0
  | 0 => by simp [codL, List.getD, hj]
  | k + 1 => by
    have ih := codL_at l hj k
    simp only [codL, List.getD_eq_getElem?_getD, List.getElem?_set, codL_length] at ih ⊢
    by_cases e : k = j
    · subst e; simp [hj]
    · rw [if_neg e, ih]
      by_cases h : j < k
      · have : j < k + 1 := by omega
        simp [h, this]
      · have : ¬ j < k + 1 := by omega
        simp [h, this]
theorem codL_nil : ∀ k, codL [] k = []
  | 0 => rfl
  | k + 1 => by rw [codL, codL_nil k]; rfl
theorem codL_keep (l : List Int) (k : Nat) (h : codeN l k = 0) : codL l (k + 1) = codL l k := by
  rw [codL, h]
  by_cases hk : k < l.length
  · have e := codL_at l hk k
    rw [if_neg (by omega)] at e
    have hk2 : k < (codL l k).length := by rw [codL_length]; exact hk
    have e2 : (codL l k)[k] = 0 := by simpa [List.getD, hk2] using e
    apply List.ext_getElem?
    intro i
    rw [List.getElem?_set]
    by_cases hi : k = i
    · subst hi; simp [hk2, e2]
    · simp [hi]
  · rw [List.set_eq_of_length_le (by rw [codL_length]; omega)]
/-- the next code of each length behind k places -/
def nxt (l : List Int) (k : Nat) : Nat → Nat := fun n => if n = 0 then 0 else firstN (cnt l) n + cnt (l.take k) n
theorem nxt_zero (l : List Int) (n : Nat) : nxt l 0 n = firstN (cnt l) n := by
  unfold nxt
  by_cases e : n = 0
  · subst e; rfl
  · simp [e, cnt]
theorem nxt_next (l : List Int) {k n : Nat} (hk : k < l.length) (hx : l.getD k 0 = (n : Int)) (hn : 0 < n) : upd (nxt l k) n (nxt l k n + 1) = nxt l (k + 1) := by
  have h := cnt_next l hk hx
  funext m
  have hm := congrFun h m
  simp only [upd, nxt] at hm ⊢
  by_cases e : m = n
  · subst e
    have : ¬ m = 0 := by omega
    simp [this] at hm ⊢; omega
  · simp [e] at hm ⊢
    rw [hm]
theorem nxt_keep (l : List Int) {k : Nat} (hk : k < l.length) (hx : l.getD k 0 = ((0 : Nat) : Int)) : nxt l k = nxt l (k + 1) := by
  have h := cnt_next l hk hx
  funext m
  have hm := congrFun h m
  simp only [upd, nxt] at hm ⊢
  by_cases e : m = 0
  · simp [e]
  · simp [e] at hm ⊢
    rw [hm]
theorem codeN_nxt (l : List Int) {k n : Nat} (hx : l.getD k 0 = (n : Int)) : codeN l k = nxt l k n := by
  unfold codeN nxt; rw [hx, Int.toNat_natCast]

theorem cntE_good {l : List Int} (h : Good l) : cntE l = cnt l := by unfold cntE; rw [good_errL h]; rfl

/-- what Full answers where Check's answer is OK -/
def fullB (l : List Int) : Bool := decide ((cnt l 1 = 1 ∧ cnt l 0 + 1 = l.length) ∨ takenN (cnt l) 15 = 32768)

theorem cnt_take_lt (l : List Int) {k n : Nat} (hk : k < l.length) (hx : l.getD k 0 = (n : Int)) : cnt (l.take k) n < cnt l n := by
  have h := congrFun (cnt_next l hk hx) n
  simp only [upd, if_pos] at h
  have h2 : cnt (l.take (k + 1)) n ≤ cnt l n := by
    unfold cnt
    exact List.Sublist.count_le _ (List.take_sublist _ _)
  omega
theorem code_lt (l : List Int) (h : Good l) {k n : Nat} (hk : k < l.length) (hx : l.getD k 0 = (n : Int)) (hn : 0 < n) : firstN (cnt l) n ≤ codeN l k ∧ codeN l k < firstN (cnt l) n + cnt l n ∧ codeN l k < 2 ^ n := by
  have h1 := codeN_nxt l hx
  have h2 := cnt_take_lt l hk hx
  have h3 : n ≤ 15 := by have := (h.ok k hk).2; omega
  have h4 := first_room (cnt l) h.room (n := n) (by omega) h3
  unfold nxt at h1
  rw [if_neg (by omega)] at h1
  omega
/-- the places of length m among the first k -/
def plcK (l : List Int) (m : Nat) : Nat → List Nat
  | 0 => []
  | k + 1 => plcK l m k ++ (if l.getD k 0 = (m : Int) then [k] else [])
theorem plcK_length (l : List Int) (m : Nat) : ∀ k, k ≤ l.length → (plcK l m k).length = cnt (l.take k) m
  | 0, _ => by simp [plcK, cnt]
  | k + 1, hk => by
    have ih := plcK_length l m k (by omega)
    have hk' : k < l.length := by omega
    rw [plcK, List.length_append, ih, cnt, cnt, List.take_succ_eq_append_getElem hk', List.count_append]
    have e : l.getD k 0 = l[k] := by simp [List.getD, hk']
    rw [e]
    by_cases h : l[k] = (m : Int)
    · simp [h]
    · simp [h]
theorem plcK_pre (l : List Int) (m : Nat) : ∀ k d, ∃ r, plcK l m (k + d) = plcK l m k ++ r
  | k, 0 => ⟨[], by simp⟩
  | k, d + 1 => by
    obtain ⟨r, hr⟩ := plcK_pre l m k d
    refine ⟨r ++ (if l.getD (k + d) 0 = (m : Int) then [k + d] else []), ?_⟩
    rw [← Nat.add_assoc, plcK, hr, List.append_assoc]
/-- place p stands where as many of its length are ahead of it -/
theorem plcK_at (l : List Int) {m p : Nat} (hp : p < l.length) (hx : l.getD p 0 = (m : Int)) : (plcK l m l.length)[cnt (l.take p) m]? = some p := by
  obtain ⟨r, hr⟩ := plcK_pre l m (p + 1) (l.length - (p + 1))
  rw [show p + 1 + (l.length - (p + 1)) = l.length by omega] at hr
  rw [hr, plcK, if_pos hx]
  have h := plcK_length l m p (by omega)
  rw [List.append_assoc, List.getElem?_append_right (by omega), h]
  simp

/-- the bit at place p of a row -/
def bitL (bs : List Nat) (p : Nat) : Nat := bs.getD (p / 8) 0 / 2 ^ (p % 8) % 2

/-- the k bits from place p on, highest first -/
def codeAt (bs : List Nat) (p : Nat) : Nat → Nat
  | 0 => 0
  | k + 1 => 2 * codeAt bs p k + bitL bs (p + k)
theorem bitL_lt (bs : List Nat) (p : Nat) : bitL bs p < 2 := Nat.mod_lt _ (by decide)
theorem codeAt_lt (bs : List Nat) (p : Nat) : ∀ k, codeAt bs p k < 2 ^ k
  | 0 => by simp [codeAt]
  | k + 1 => by
    have h1 := codeAt_lt bs p k
    have h2 := bitL_lt bs (p + k)
    rw [codeAt, Nat.pow_succ]
    omega
/-- the k bits from p on are the code of a place of length k -/
def Hit (l : List Int) (bs : List Nat) (p k : Nat) : Prop := firstN (cnt l) k ≤ codeAt bs p k ∧ codeAt bs p k < firstN (cnt l) k + cnt l k
/-- what reading one place at p comes to -/
def Outcome (l : List Int) (bs : List Nat) (p x : Nat) (err : Int) (p' : Nat) : Prop :=
  (∃ k, 1 ≤ k ∧ k ≤ 15 ∧ (∀ j, 1 ≤ j → j < k → ¬ Hit l bs p j) ∧ p + k ≤ 8 * bs.length ∧ Hit l bs p k ∧ p' = p + k ∧ err = 0 ∧ (plcK l k l.length)[codeAt bs p k - firstN (cnt l) k]? = some x) ∨
  (∃ k, k < 15 ∧ (∀ j, 1 ≤ j → j ≤ k → ¬ Hit l bs p j) ∧ p + k = 8 * bs.length ∧ p' = p + k ∧ err = 7 ∧ x = 0) ∨
  ((∀ j, 1 ≤ j → j ≤ 15 → ¬ Hit l bs p j) ∧ p + 15 ≤ 8 * bs.length ∧ p' = p + 15 ∧ err = 8 ∧ x = 0)

theorem plc_some (l : List Int) {k i : Nat} (hi : i < cnt l k) : ∃ x, (plcK l k l.length)[i]? = some x := by
  have hl := plcK_length l k l.length (Nat.le_refl _)
  rw [List.take_length] at hl
  exact ⟨(plcK l k l.length)[i], by simp⟩

theorem testBit_nat (c i : Nat) : (c.testBit i).toNat = c / 2 ^ i % 2 := by
  rw [Nat.testBit_eq_decide_div_mod_eq]
  have := Nat.mod_lt (c / 2 ^ i) (show 0 < 2 by decide)
  by_cases h : c / 2 ^ i % 2 = 1
  · simp [h]
  · have h0 : c / 2 ^ i % 2 = 0 := by omega
    simp [h0]
theorem bitL_at (bs : List Nat) (q : Nat) : bitL bs q = (bitAt bs q).toNat := by unfold bitL bitAt; rw [testBit_nat]

/-- no code begins another one -/
theorem prefix_free (l : List Int) (hG : Good l) {i k m n : Nat} (hi : i < l.length) (hk : k < l.length) (hm : l.getD i 0 = (m : Int)) (hn : l.getD k 0 = (n : Int)) (hik : i ≠ k) (h0 : 0 < m) (hmn : m ≤ n) : codeN l k / 2 ^ (n - m) ≠ codeN l i := by
  obtain ⟨a1, a2, a3⟩ := code_lt l hG hi hm h0
  obtain ⟨b1, b2, b3⟩ := code_lt l hG hk hn (by omega)
  by_cases e : m = n
  · subst e
    rw [Nat.sub_self, Nat.pow_zero, Nat.div_one]
    intro h
    have e1 := plcK_at l hi hm
    have e2 := plcK_at l hk hn
    have d1 := codeN_nxt l hm
    have d2 := codeN_nxt l hn
    unfold nxt at d1 d2
    rw [if_neg (by omega)] at d1 d2
    have : cnt (l.take i) m = cnt (l.take k) m := by omega
    rw [this, e2] at e1
    exact hik (Option.some.inj e1).symm
  · have hf := first_far (cnt l) m (by omega) (n - m) (by omega)
    rw [show m + (n - m) = n by omega] at hf
    have h4 : firstN (cnt l) m + cnt l m ≤ codeN l k / 2 ^ (n - m) := (Nat.le_div_iff_mul_le (Nat.pow_pos (by decide))).2 (by omega)
    omega

/-- by a code that leaves no room some bits are always met -/
theorem full_met (l : List Int) (hf : takenN (cnt l) 15 = 32768) (bs : List Nat) (p : Nat) : ¬ ∀ j, 1 ≤ j → j ≤ 15 → ¬ Hit l bs p j := by
  intro hno
  have step : ∀ j, j ≤ 14 → firstN (cnt l) (j + 1) + cnt l (j + 1) ≤ codeAt bs p (j + 1) := by
    intro j
    induction j with
    | zero =>
      intro _
      have h := hno 1 (by omega) (by omega)
      unfold Hit at h
      have : firstN (cnt l) 1 = 0 := rfl
      rw [Nat.zero_add]
      omega
    | succ j ih =>
      intro hj
      have h1 := ih (by omega)
      have h := hno (j + 2) (by omega) (by omega)
      unfold Hit at h
      have e : firstN (cnt l) (j + 2) = 2 * (firstN (cnt l) (j + 1) + cnt l (j + 1)) := rfl
      have e2 : codeAt bs p (j + 2) = 2 * codeAt bs p (j + 1) + bitL bs (p + (j + 1)) := rfl
      rw [show j + 1 + 1 = j + 2 by omega]
      omega
  have h := step 14 (by omega)
  have h2 := codeAt_lt bs p 15
  have h3 := first_taken (cnt l) 14 (by omega)
  have h4 : takenN (cnt l) 15 = takenN (cnt l) 14 + cnt l 15 * 2 ^ (14 - 14) := rfl
  rw [Nat.sub_self, Nat.pow_zero, Nat.mul_one] at h3 h4
  have h5 : (2 : Nat) ^ 15 = 32768 := by decide
  rw [h5] at h2
  have h6 : 14 + 1 = 15 := rfl
  rw [h6] at h h3
  omega

end Go.Proofs.Ytfoaaamcpknjnac
