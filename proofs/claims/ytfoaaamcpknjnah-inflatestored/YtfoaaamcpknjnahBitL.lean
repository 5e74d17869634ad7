/-
  Rows of bits, numbers: of lists alone.
-/
import Derived.Test.YtfoaaamcpknjnahNum
namespace Go.Proofs.Ytfoaaamcpknjnah
open Go.RowKit
set_option linter.unusedVariables false
set_option maxRecDepth 100000

def numBits (n : Nat) : Nat → List Bool
  | 0 => []
  | k + 1 => numBits n k ++ [n.testBit k]

theorem numBits_length (n : Nat) : ∀ k, (numBits n k).length = k
  | 0 => rfl
  | k + 1 => by rw [numBits, List.length_append, numBits_length n k]; rfl
theorem bit_div (n k : Nat) : n / 2 ^ k % 2 = if n.testBit k then 1 else 0 := by
  have h := Nat.testBit_eq_decide_div_mod_eq (x := n) (i := k)
  rw [h]
  rcases Nat.mod_two_eq_zero_or_one (n / 2 ^ k) with e | e <;> simp [e]

theorem numBits_getD (n : Nat) : ∀ s i, (numBits n s).getD i false = (decide (i < s) && n.testBit i)
  | 0, i => by simp [numBits]
  | s + 1, i => by
    rw [numBits, List.getD_eq_getElem?_getD]
    by_cases h : i < s
    · rw [List.getElem?_append_left (by rw [numBits_length]; exact h), ← List.getD_eq_getElem?_getD, numBits_getD n s i]
      simp [h, Nat.lt_succ_of_lt h]
    · rw [List.getElem?_append_right (by rw [numBits_length]; omega), numBits_length]
      by_cases e : i = s
      · subst e; simp
      · have h1 : ¬ i < s + 1 := by omega
        have h2 : [n.testBit s][i - s]? = none := List.getElem?_eq_none (by simp; omega)
        rw [h2]; simp [h1]
/-- the number whose bits these are, the lowest one first -/
def numOf : List Bool → Nat
  | [] => 0
  | b :: r => (if b then 1 else 0) + 2 * numOf r

theorem numOf_lt : ∀ l, numOf l < 2 ^ l.length
  | [] => by simp [numOf]
  | b :: r => by
    have := numOf_lt r
    rw [numOf, List.length_cons, Nat.pow_succ]
    split <;> omega
theorem numOf_lt16 {l : List Bool} (h : l.length ≤ 16) : numOf l < 65536 := Nat.lt_of_lt_of_le (numOf_lt l) (pow_le_16 h)
def rowB (xs : List Nat) : Nat → List Bool
  | 0 => []
  | q + 1 => rowB xs q ++ numBits (xs.getD q 0) 8
theorem rowB_length (xs : List Nat) : ∀ q, (rowB xs q).length = 8 * q
  | 0 => rfl
  | q + 1 => by rw [rowB, List.length_append, rowB_length xs q, numBits_length]; omega
theorem rowB_getD (xs : List Nat) : ∀ q i, i < 8 * q → (rowB xs q).getD i false = bitAt xs i
  | 0, i, h => by omega
  | q + 1, i, h => by
    rw [rowB, List.getD_eq_getElem?_getD]
    by_cases e : i < 8 * q
    · rw [List.getElem?_append_left (by rw [rowB_length]; exact e), ← List.getD_eq_getElem?_getD, rowB_getD xs q i e]
    · rw [List.getElem?_append_right (by rw [rowB_length]; omega), rowB_length, ← List.getD_eq_getElem?_getD, numBits_getD, bitAt]
      have e1 : i / 8 = q := by omega
      have e2 : i % 8 = i - 8 * q := by omega
      rw [e1, e2, decide_eq_true (by omega), Bool.true_and]
end Go.Proofs.Ytfoaaamcpknjnah
