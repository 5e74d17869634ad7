/-
  The bytes that Pack lays and those that the document's own BytesOf makes of the numbers' noughts and ones are the same.
-/
import Derived.Test.YtmafecagcglaoaaBytesOf
import Derived.Test.YtmafecagcglaoaaBackNum
namespace Go.Proofs.Ytmafecagcglaoaa
open Go.RowKit
set_option linter.unusedVariables false

theorem numOf_bit : ∀ (l : List Bool) i, (numOf l).testBit i = l.getD i false
  | [], i => by simp [numOf]
  | b :: r, 0 => by
    rw [numOf, Nat.testBit_zero]
    cases b <;> simp
  | b :: r, i + 1 => by
    have h : (numOf (b :: r)) / 2 = numOf r := by
      rw [numOf]
      cases b
      · simp
      · simp; omega
    rw [Nat.testBit_succ, h, numOf_bit r i]
    simp
/-- the bits of the first k numbers, one behind the other -/
def bitsTo (ps : List (Int × Int)) : Nat → List Bool
  | 0 => []
  | k + 1 => bitsTo ps k ++ numBits (ps.getD k (0, 0)).1.toNat (ps.getD k (0, 0)).2.toNat
theorem bitsTo_length (ps : List (Int × Int)) : ∀ k, (bitsTo ps k).length = atL ps k
  | 0 => rfl
  | k + 1 => by rw [bitsTo, List.length_append, bitsTo_length ps k, numBits_length, atL]

theorem row_bits (ps : List (Int × Int)) : ∀ k, k ≤ ps.length → ∀ i, bitAt (rowL ps k) i = (bitsTo ps k).getD i false
  | 0, _, i => by
    rw [(rowL_bit ps 0 (Nat.zero_le _)).2 i (Nat.zero_le _)]
    simp [bitsTo]
  | k + 1, hk, i => by
    have hm := atL_mono ps (j := k + 1) (k := ps.length) hk
    have hlen := rowL_length ps k
    have ih := row_bits ps k (by omega) i
    rw [rowL, putL_bit (rowL ps k) (atL ps k) _ _ i (by rw [hlen]; rw [atL] at hm; omega), ih, bitsTo]
    have hl := bitsTo_length ps k
    by_cases h : i < atL ps k
    · have e : decide (atL ps k ≤ i ∧ i < atL ps k + (ps.getD k (0, 0)).2.toNat) = false := decide_eq_false (by omega)
      have e2 : (bitsTo ps k ++ numBits (ps.getD k (0, 0)).1.toNat (ps.getD k (0, 0)).2.toNat).getD i false = (bitsTo ps k).getD i false := by
        rw [List.getD_eq_getElem?_getD, List.getElem?_append_left (by omega), ← List.getD_eq_getElem?_getD]
      rw [e, e2, Bool.false_and, Bool.or_false]
    · have e1 : (bitsTo ps k).getD i false = false := by
        rw [List.getD_eq_getElem?_getD, List.getElem?_eq_none (by omega)]; rfl
      have e2 : (bitsTo ps k ++ numBits (ps.getD k (0, 0)).1.toNat (ps.getD k (0, 0)).2.toNat).getD i false = (numBits (ps.getD k (0, 0)).1.toNat (ps.getD k (0, 0)).2.toNat).getD (i - atL ps k) false := by
        rw [List.getD_eq_getElem?_getD, List.getElem?_append_right (by omega), hl, ← List.getD_eq_getElem?_getD]
      rw [e1, e2, numBits_getD, Bool.false_or]
      congr 1
      apply decide_eq_decide.2
      omega

theorem byteL_getD (l : List Bool) : ∀ q j, j < q → (byteL l q).getD j 0 = numOf (chunk l j)
  | 0, j, h => by omega
  | q + 1, j, h => by
    rw [byteL, List.getD_eq_getElem?_getD]
    by_cases e : j < q
    · rw [List.getElem?_append_left (by rw [byteL_length]; exact e), ← List.getD_eq_getElem?_getD, byteL_getD l q j e]
    · obtain rfl : j = q := by omega
      rw [List.getElem?_append_right (by rw [byteL_length]; omega), byteL_length]
      simp
theorem byteL_lt (l : List Bool) (q j : Nat) : (byteL l q).getD j 0 < 256 := by
  by_cases h : j < q
  · rw [byteL_getD l q j h]
    exact numOf_lt256 (by rw [chunk_length]; omega)
  · rw [List.getD_eq_getElem?_getD, List.getElem?_eq_none (by rw [byteL_length]; omega)]
    simp
theorem byteL_bit (l : List Bool) (q i : Nat) (h : i < 8 * q) : bitAt (byteL l q) i = l.getD i false := by
  rw [bitAt, byteL_getD l q (i / 8) (by omega), numOf_bit, chunk, List.getD_eq_getElem?_getD, List.getD_eq_getElem?_getD, List.getElem?_take_of_lt (by omega), List.getElem?_drop]
  rw [show 8 * (i / 8) + i % 8 = i by omega]

theorem pack_bytes (ps : List (Int × Int)) (k : Nat) (hl : ps.length = k) : rowL ps k = byteL (bitsTo ps k) ((atL ps k + 7) / 8) := by
  subst hl
  apply bytes_ext (by rw [rowL_length, byteL_length]) (rowL_lt ps _) (byteL_lt _ _)
  intro i hi
  rw [rowL_length] at hi
  rw [row_bits ps ps.length (Nat.le_refl _) i, byteL_bit _ _ i hi]
end Go.Proofs.Ytmafecagcglaoaa
