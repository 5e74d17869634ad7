/-
  What the document's own RowOf says of bytes: their bits, the lowest one of the first byte first.
-/
import Derived.Test.YtmafecagcglaoaaTxt
namespace Go.Proofs.Ytmafecagcglaoaa
open Go.RowKit
set_option linter.unusedVariables false
set_option maxRecDepth 100000

def rowB (xs : List Nat) : Nat → List Bool
  | 0 => []
  | q + 1 => rowB xs q ++ numBits (xs.getD q 0) 8
theorem rowB_length (xs : List Nat) : ∀ q, (rowB xs q).length = 8 * q
  | 0 => rfl
  | q + 1 => by rw [rowB, List.length_append, rowB_length xs q, numBits_length]; omega
theorem rowB_getD (xs : List Nat) : ∀ q i, i < 8 * q → (rowB xs q).getD i false = bitAt xs i
  | 0, i, h => by omega
  | q + 1, i, h => by
    rw [rowB, List.getD_eq_getElem?_getD]
    by_cases e : i < 8 * q
    · rw [List.getElem?_append_left (by rw [rowB_length]; exact e), ← List.getD_eq_getElem?_getD, rowB_getD xs q i e]
    · rw [List.getElem?_append_right (by rw [rowB_length]; omega), rowB_length, ← List.getD_eq_getElem?_getD, numBits_getD, bitAt]
      have e1 : i / 8 = q := by omega
      have e2 : i % 8 = i - 8 * q := by omega
      rw [e1, e2, decide_eq_true (by omega), Bool.true_and]

theorem cells_snoc (l : List Bool) (b : Bool) (c : Int) (h : c = ((chr b).toNat : Int)) : Lib.byteCells (l.map chr) ++ [.int .u8 c] = Lib.byteCells ((l ++ [b]).map chr) := by
  rw [List.map_append, Lib.byteCells_append, h]; rfl

theorem chr_bit (x k : Nat) (hx : x < 256) : (48 + bits .and .u8 ((x : Int) / 2 ^ k) 1) % 256 = ((chr (x.testBit k)).toNat : Int) := by
  rw [u8_bit x k hx, bit_div]
  cases x.testBit k <;> rfl

set_option maxHeartbeats 2000000 in
theorem rowOf_yes (b o len cap : Nat) (xs : List Nat) (w : World) (hl : xs.length = len) (hx : ∀ j, xs.getD j 0 < 256) (hm : len ≤ 6000) (hb : b < w.heap.size) (hX : Bytes w b o xs) :
    Calls Try.prog 21 #[.slice (some ⟨b, o, none⟩) len cap] w fun e w' => e = .returned (.string (text (rowB xs len))) ∧ Below w.heap.size w w' := by
  have HX := hide hX
  have HL := hide hl
  have Hx := hide hx
  clear hX hl hx
  go_enter Try.func21, Try.ntmps21
  go_wp2
  go_loopw [9] (fun i wr => ∃ q : Nat, q ≤ len ∧ i = .int .i64 q ∧ IsB wr w.heap.size (Lib.byteCells ((rowB xs q).map chr)) ∧ Below w.heap.size w wr) (fun i _ => len - (intOf i).toNat)
  case atStart => exact ⟨0, Nat.zero_le _, rfl, IsB.new w, (Below.refl _ _).alloc (Nat.le_refl _) _⟩
  case round =>
    obtain ⟨q, hq, rfl, hI, hB⟩ := hrel
    have HI := hide hI
    have HB := hide hB
    have hzr := hB.size
    by_cases hlt : q < len
    · have c := (hB.cell (p := ⟨b, o + q, none⟩) hb).trans (unhide HX q (by rw [unhide HL]; exact hlt))
      have hx1 := unhide Hx q
      have H2 : Hid (rowB xs (q + 1) = rowB xs q ++ numBits (xs.getD q 0) 8) := rfl
      have HLN := hide (rowB_length xs q)
      generalize xs.getD q 0 = x at *
      clear hI hB
      go_wp2
      go_loopw [13] (fun i wq => ∃ k : Nat, k ≤ 8 ∧ i = .int .i64 k ∧ IsB wq w.heap.size (Lib.byteCells ((rowB xs q ++ numBits x k).map chr)) ∧ Below w.heap.size w wq) (fun i _ => 8 - (intOf i).toNat)
      case atStart => exact ⟨0, Nat.zero_le _, rfl, by simpa [numBits] using unhide HI, unhide HB⟩
      case round =>
        obtain ⟨k, hk, rfl, hI, hB⟩ := hrel
        have HI2 := hide hI
        have HB2 := hide hB
        clear hI hB
        by_cases hlt2 : k < 8
        · have hbl : (Lib.byteCells ((rowB xs q ++ numBits x k).map chr)).length ≤ 1000000 := by
            rw [Lib.byteCells_length, List.length_map, List.length_append, unhide HLN, numBits_length]; omega
          have H3 : Hid (numBits x (k + 1) = numBits x k ++ [x.testBit k]) := rfl
          go_wp2_with fail
          refine (writeByte_any _ _ _ _ (unhide HI2) hbl).mono ?_
          rintro e w3 ⟨rfl, hI3, hB3⟩
          have HI3 := hide hI3
          have HB3 := hide ((unhide HB2).trans hB3)
          clear hI3 hB3
          go_wp2
          go_roundw
          case rel => exact ⟨k + 1, by omega, by go_num, by rw [unhide H3, ← List.append_assoc, ← cells_snoc _ _ _ (chr_bit x k hx1)]; exact unhide HI3, unhide HB3⟩
          case measure => simp [intOf]; omega
        · obtain rfl : k = 8 := by omega
          go_wp2
          go_roundw
          case rel => exact ⟨q + 1, by omega, by go_num, by rw [unhide H2]; exact unhide HI2, unhide HB2⟩
          case measure => simp [intOf]; omega
    · obtain rfl : q = len := by omega
      clear hI hB
      go_wp2_with fail
      refine (string_any _ _ _ (unhide HI) hzr).mono ?_
      rintro e w5 ⟨rfl, hB5⟩
      have HB5 := hide ((unhide HB).trans hB5)
      clear hB5
      go_wp2
      go_ret
      exact ⟨rfl, unhide HB5⟩

theorem rowOf_none (a : Option Addr) (cap : Nat) (w : World) :
    Calls Try.prog 21 #[.slice a 0 cap] w fun e w' => e = .returned (.string (text [])) ∧ Below w.heap.size w w' := by
  go_enter Try.func21, Try.ntmps21
  go_wp2
  go_loopw [9] (fun i wr => i = .int .i64 0 ∧ IsB wr w.heap.size (Lib.byteCells ([].map chr)) ∧ Below w.heap.size w wr) (fun i _ => 0)
  case atStart => exact ⟨rfl, IsB.new w, (Below.refl _ _).alloc (Nat.le_refl _) _⟩
  case round =>
    obtain ⟨rfl, hI, hB⟩ := hrel
    have HI := hide hI
    have HB := hide hB
    have hzr := hB.size
    clear hI hB
    go_wp2_with fail
    refine (string_any _ _ _ (unhide HI) hzr).mono ?_
    rintro e w5 ⟨rfl, hB5⟩
    have HB5 := hide ((unhide HB).trans hB5)
    clear hB5
    go_wp2
    go_ret
    exact ⟨rfl, unhide HB5⟩

theorem rowOf_in (a : Option Addr) (len cap : Nat) (xs : List Nat) (w : World) (hl : xs.length = len) (hx : ∀ j, xs.getD j 0 < 256) (hm : len ≤ 6000) (hX : BytesIn w a xs) :
    Calls Try.prog 21 #[.slice a len cap] w fun e w' => e = .returned (.string (text (rowB xs len))) ∧ Below w.heap.size w w' := by
  rcases hX with rfl | ⟨b, o, rfl, hb, hX⟩
  · obtain rfl : len = 0 := by simp at hl; omega
    exact rowOf_none a cap w
  · exact rowOf_yes b o len cap xs w hl hx hm hb hX
end Go.Proofs.Ytmafecagcglaoaa
