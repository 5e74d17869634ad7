/-
  Rows of bits as texts of noughts and ones: what String of a builder, Number, OfNumber, Turned, RowOf and BytesOf of the document's own answers say.
-/
import Derived.Test.YtmafecagcglaoaaTxt
import Derived.Test.YtmafecagcglaoaaStrOf
import Derived.Test.YtmafecagcglaoaaBeq
import Derived.Laws.BytesArg
import Derived.Lib.Strings
namespace Go.Proofs.Ytmafecagcglaoaa
open Go.RowKit
set_option linter.unusedVariables false
set_option maxRecDepth 100000

theorem conv_bit (n k m : Nat) (w : World) (hm : m = n / 2 ^ k) :
    (convert 28 9 (.slice (some ⟨w.heap.size, 0, none⟩) 1 1)).run Try.prog (w.alloc (.cells #[.int .u8 (48 + (m : Int) % 2)] 5)) = .ok (.string (text [n.testBit k])) (w.alloc (.cells #[.int .u8 (48 + (m : Int) % 2)] 5)) := by
  have h := conv_in (some ⟨w.heap.size, 0, none⟩) 1 1 [48 + m % 2] (w.alloc (.cells #[.int .u8 (48 + (m : Int) % 2)] 5)) rfl (by
    refine .inr ⟨w.heap.size, 0, rfl, by simp, ?_⟩
    intro j hj
    match j, hj with
    | 0, _ => simp)
  rw [h, hm]
  have e : strN [48 + n / 2 ^ k % 2] = text [n.testBit k] := by
    rw [bit_div]
    cases n.testBit k <;> rfl
  rw [e]

set_option maxHeartbeats 1000000 in
theorem number_any (n s : Nat) (w : World) (hs : s ≤ 16) (hn : n < 65536) :
    Calls Try.prog 12 #[.int .i64 n, .int .i64 s] w fun e w' => e = .returned (.string (text (numBits n s))) ∧ Below w.heap.size w w' := by
  go_enter Try.func12, Try.ntmps12
  go_wp2
  go_loopw [0, 5, 7] (fun vn vs i wr => ∃ k m : Nat, k ≤ s ∧ i = .int .i64 k ∧ vn = .int .i64 m ∧ m = n / 2 ^ k ∧ vs = .string (text (numBits n k)) ∧ Below w.heap.size w wr) (fun _ _ i _ => s - (intOf i).toNat)
  case atStart => exact ⟨0, n, Nat.zero_le _, rfl, rfl, by simp, rfl, Below.refl _ _⟩
  case round =>
    obtain ⟨k, m, hk, rfl, rfl, hmn, rfl, hB⟩ := hrel
    have HM := hide hmn
    have HB := hide hB
    have hm : m < 65536 := by rw [hmn]; exact Nat.lt_of_le_of_lt (Nat.div_le_self _ _) hn
    have hcv := conv_bit n k m wr hmn
    clear hmn hB
    by_cases hlt : k < s
    · have hsz : (text (numBits n k)).size ≤ 16 := by rw [text_size, numBits_length]; omega
      have hsz2 : (text [n.testBit k]).size ≤ 16 := by rw [text_size]; simp
      have HT : Hid (text (numBits n (k + 1)) = (text (numBits n k)).append (text [n.testBit k])) := by rw [text_append]; exact rfl
      generalize text (numBits n k) = t at *
      generalize text [n.testBit k] = u at *
      go_wp2
      go_roundw
      case rel => exact ⟨k + 1, m / 2, by omega, by go_num, by go_num, by rw [unhide HM, Nat.div_div_eq_div_mul, Nat.pow_succ], by rw [unhide HT]; rfl, (unhide HB).alloc (unhide HB).size _⟩
      case measure => simp [intOf]; omega
    · obtain rfl : k = s := by omega
      clear hcv
      go_wp2
      go_ret
      exact ⟨rfl, unhide HB⟩

end Go.Proofs.Ytmafecagcglaoaa
