/-
  Rows of bits as texts of noughts and ones: what String of a builder, Number, OfNumber, Turned, RowOf and BytesOf of the document's own answers say.
-/
import Derived.Test.YtgknmpdfikbdmaaBuild
import Derived.Test.YtgknmpdfikbdmaaBeq
namespace Go.Proofs.Ytgknmpdfikbdmaa
open Go.RowKit
set_option linter.unusedVariables false
set_option maxRecDepth 100000

def strRen : Go.Shelf.Ren := ⟨fun | 169 => 16 | n => n, fun | 70 => 31 | 9 => 9 | 0 => 0 | 72 => 33 | 37 => 28 | 127 => 67 | 3 => 3 | 5 => 5 | n => n, fun | n => n⟩
theorem strLays : Go.Proofs.Lays.n169 Try.prog strRen := {
  mixed := by kernel_rfl
  f169 := Try.func16.trans (congrArg some (by kernel_rfl))
  t0 := Try.underlying0
  a0 := Try.isAgg0
  z0 := Try.sizeOf0
  v0 := Try.zeroValue0
  t3 := Try.underlying3
  a3 := Try.isAgg3
  z3 := Try.sizeOf3
  v3 := Try.zeroValue3
  t9 := Try.underlying9
  a9 := Try.isAgg9
  z9 := Try.sizeOf9
  v9 := Try.zeroValue9
  t37 := Try.underlying28
  a37 := Try.isAgg28
  z37 := Try.sizeOf28
  v37 := Try.zeroValue28
  t70 := Try.underlying31
  a70 := Try.isAgg31
  z70 := Try.sizeOf31
  v70 := Try.zeroValue31
  t72 := Try.underlying33
  a72 := Try.isAgg33
  z72 := Try.sizeOf33
  v72 := Try.zeroValue33
  t127 := Try.underlying67
  a127 := Try.isAgg67
  z127 := Try.sizeOf67
  v127 := Try.zeroValue67 }
theorem strExtra : Go.Proofs.Builder.Extra Try.prog strRen := {
  sizeBuilder := by kernel_rfl
  liesBuilder := by kernel_rfl
  t5 := Try.underlying5
  a5 := Try.isAgg5
  z5 := Try.sizeOf5
  v5 := Try.zeroValue5
  infoByte := by kernel_rfl
  cellsByte := by kernel_rfl
  sizeByte := by kernel_rfl
  neB5 := by decide }
theorem string_any (b : Nat) (l : List UInt8) (w : World) (h : IsB w b (Lib.byteCells l)) (hb : b ≤ w.heap.size) :
    Calls Try.prog 16 #[.pointer (some ⟨b, 0, none⟩)] w fun e w' => e = .returned (.string ⟨l.toArray⟩) ∧ Below b w w' :=
  Go.Proofs.Any.Builder_String_any strLays strExtra b b l w h hb

/-- bits as noughts and ones -/
def chr (b : Bool) : UInt8 := if b then 49 else 48
def text (l : List Bool) : ByteArray := ⟨(l.map chr).toArray⟩
theorem text_size (l : List Bool) : (text l).size = l.length := by simp [text, ByteArray.size]

def numBits (n : Nat) : Nat → List Bool
  | 0 => []
  | k + 1 => numBits n k ++ [n.testBit k]

theorem numBits_length (n : Nat) : ∀ k, (numBits n k).length = k
  | 0 => rfl
  | k + 1 => by rw [numBits, List.length_append, numBits_length n k]; rfl
theorem text_append (a b : List Bool) : (text a).append (text b) = text (a ++ b) := by
  simp [text, ByteArray.append]
theorem bit_div (n k : Nat) : n / 2 ^ k % 2 = if n.testBit k then 1 else 0 := by
  have h := Nat.testBit_eq_decide_div_mod_eq (x := n) (i := k)
  rw [h]
  rcases Nat.mod_two_eq_zero_or_one (n / 2 ^ k) with e | e <;> simp [e]

theorem conv_bit (n k m : Nat) (w : World) (hm : m = n / 2 ^ k) :
    (convert 28 9 (.slice (some ⟨w.heap.size, 0, none⟩) 1 1)).run Try.prog (w.alloc (.cells #[.int .u8 (48 + (m : Int) % 2)] 5)) = .ok (.string (text [n.testBit k])) (w.alloc (.cells #[.int .u8 (48 + (m : Int) % 2)] 5)) := by
  have h := conv_in (some ⟨w.heap.size, 0, none⟩) 1 1 [48 + m % 2] (w.alloc (.cells #[.int .u8 (48 + (m : Int) % 2)] 5)) rfl (by
    refine .inr ⟨w.heap.size, 0, rfl, by simp, ?_⟩
    intro j hj
    match j, hj with
    | 0, _ => simp)
  rw [h, hm]
  have e : strN [48 + n / 2 ^ k % 2] = text [n.testBit k] := by
    rw [bit_div]
    cases n.testBit k <;> rfl
  rw [e]

set_option maxHeartbeats 1000000 in
theorem number_any (n s : Nat) (w : World) (hs : s ≤ 16) (hn : n < 65536) :
    Calls Try.prog 12 #[.int .i64 n, .int .i64 s] w fun e w' => e = .returned (.string (text (numBits n s))) ∧ Below w.heap.size w w' := by
  go_enter Try.func12, Try.ntmps12
  go_wp2
  go_loopw [0, 5, 7] (fun vn vs i wr => ∃ k m : Nat, k ≤ s ∧ i = .int .i64 k ∧ vn = .int .i64 m ∧ m = n / 2 ^ k ∧ vs = .string (text (numBits n k)) ∧ Below w.heap.size w wr) (fun _ _ i _ => s - (intOf i).toNat)
  case atStart => exact ⟨0, n, Nat.zero_le _, rfl, rfl, by simp, rfl, Below.refl _ _⟩
  case round =>
    obtain ⟨k, m, hk, rfl, rfl, hmn, rfl, hB⟩ := hrel
    have HM := hide hmn
    have HB := hide hB
    have hm : m < 65536 := by rw [hmn]; exact Nat.lt_of_le_of_lt (Nat.div_le_self _ _) hn
    have hcv := conv_bit n k m wr hmn
    clear hmn hB
    by_cases hlt : k < s
    · have hsz : (text (numBits n k)).size ≤ 16 := by rw [text_size, numBits_length]; omega
      have hsz2 : (text [n.testBit k]).size ≤ 16 := by rw [text_size]; simp
      have HT : Hid (text (numBits n (k + 1)) = (text (numBits n k)).append (text [n.testBit k])) := by rw [text_append]; exact rfl
      generalize text (numBits n k) = t at *
      generalize text [n.testBit k] = u at *
      go_wp2
      go_roundw
      case rel => exact ⟨k + 1, m / 2, by omega, by go_num, by go_num, by rw [unhide HM, Nat.div_div_eq_div_mul, Nat.pow_succ], by rw [unhide HT]; rfl, (unhide HB).alloc (unhide HB).size _⟩
      case measure => simp [intOf]; omega
    · obtain rfl : k = s := by omega
      clear hcv
      go_wp2
      go_ret
      exact ⟨rfl, unhide HB⟩

/-- the number whose bits these are, the lowest one first -/
def numOf : List Bool → Nat
  | [] => 0
  | b :: r => (if b then 1 else 0) + 2 * numOf r

theorem numOf_lt : ∀ l, numOf l < 2 ^ l.length
  | [] => by simp [numOf]
  | b :: r => by
    have := numOf_lt r
    rw [numOf, List.length_cons, Nat.pow_succ]
    split <;> omega
theorem numOf_lt16 {l : List Bool} (h : l.length ≤ 16) : numOf l < 65536 := Nat.lt_of_lt_of_le (numOf_lt l) (pow_le_16 h)
theorem text_at (l : List Bool) (j : Nat) (hj : j < l.length) (h : j < (text l).size) : ((text l)[j]'h).toNat = 48 + if l[j] then 1 else 0 := by
  have e : (text l)[j]'h = chr l[j] := by
    show (text l).data[j]'h = _
    simp [text]
  rw [e]
  cases l[j] <;> rfl
theorem drop_step (l : List Bool) (j : Nat) (hj : j < l.length) : numOf (l.drop j) = (if l[j] then 1 else 0) + 2 * numOf (l.drop (j + 1)) := by
  rw [List.drop_eq_getElem_cons hj, numOf]
theorem digit_step (m x : Nat) (b : Bool) (hm : m < 65536) (hx : x = 48 + if b then 1 else 0) : 2 * (m : Int) + ((x : Int) - 48) % 256 = (((if b then 1 else 0) + 2 * m : Nat) : Int) := by
  subst hx
  cases b <;> simp <;> omega

set_option maxHeartbeats 1000000 in
theorem ofNumber_any (l : List Bool) (w : World) (hl : l.length ≤ 16) :
    Calls Try.prog 19 #[.string (text l)] w fun e w' => e = .returned (.int .i64 (numOf l : Nat)) ∧ w' = w := by
  have hsz := text_size l
  have HTA := hide (text_at l)
  have hD := hide (drop_step l)
  have HLT := hide (fun j => numOf_lt16 (l := l.drop j) (by rw [List.length_drop]; omega))
  have HN : Hid (numOf l = numOf (l.drop 0)) := rfl
  have HE : Hid (0 = numOf (l.drop l.length)) := by rw [List.drop_length]; exact rfl
  go_enter Try.func19, Try.ntmps19
  go_wp2
  go_loop [3, 4] (fun vn vi => ∃ j m : Nat, j ≤ l.length ∧ vi = .int .i64 ((j : Int) - 1) ∧ vn = .int .i64 m ∧ m = numOf (l.drop j)) (fun _ i => (intOf i + 1).toNat)
  case atStart => exact ⟨l.length, 0, Nat.le_refl _, rfl, rfl, unhide HE⟩
  case round =>
    obtain ⟨j, m, hj, rfl, rfl, hm⟩ := hrel
    have HM := hide hm
    have hmlt : m < 65536 := by rw [hm]; exact unhide HLT j
    clear hm
    by_cases hlt : 0 < j
    · have hlt2 : j - 1 < l.length := by omega
      go_wp2
      go_round
      case rel =>
        refine ⟨j - 1, numOf (l.drop (j - 1)), by omega, by go_num, ?_, rfl⟩
        have e := unhide hD (j - 1) hlt2
        rw [show j - 1 + 1 = j by omega, ← unhide HM] at e
        rw [e]
        exact congrArg (Value.int .i64) (digit_step m _ _ hmlt (unhide HTA (j - 1) hlt2 _))
      case measure => simp [intOf]; omega
    · obtain rfl : j = 0 := by omega
      go_wp2
      go_ret
      exact ⟨ret_int (by rw [unhide HN, unhide HM]), rfl⟩
end Go.Proofs.Ytgknmpdfikbdmaa
