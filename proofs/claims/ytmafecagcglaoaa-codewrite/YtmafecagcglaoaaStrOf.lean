/-
  What the document's own OfNumber answers.
-/
import Derived.Test.YtmafecagcglaoaaTxt
import Derived.Laws.BytesArg
import Derived.Lib.Strings
namespace Go.Proofs.Ytmafecagcglaoaa
open Go.RowKit
set_option linter.unusedVariables false
set_option maxRecDepth 100000

/-- the number whose bits these are, the lowest one first -/
def numOf : List Bool → Nat
  | [] => 0
  | b :: r => (if b then 1 else 0) + 2 * numOf r

theorem numOf_lt : ∀ l, numOf l < 2 ^ l.length
  | [] => by simp [numOf]
  | b :: r => by
    have := numOf_lt r
    rw [numOf, List.length_cons, Nat.pow_succ]
    split <;> omega
theorem numOf_lt16 {l : List Bool} (h : l.length ≤ 16) : numOf l < 65536 := Nat.lt_of_lt_of_le (numOf_lt l) (pow_le_16 h)
theorem drop_step (l : List Bool) (j : Nat) (hj : j < l.length) : numOf (l.drop j) = (if l[j] then 1 else 0) + 2 * numOf (l.drop (j + 1)) := by
  rw [List.drop_eq_getElem_cons hj, numOf]
theorem digit_step (m x : Nat) (b : Bool) (hm : m < 65536) (hx : x = 48 + if b then 1 else 0) : 2 * (m : Int) + ((x : Int) - 48) % 256 = (((if b then 1 else 0) + 2 * m : Nat) : Int) := by
  subst hx
  cases b <;> simp <;> omega

set_option maxHeartbeats 1000000 in
theorem ofNumber_any (l : List Bool) (w : World) (hl : l.length ≤ 16) :
    Calls Try.prog 19 #[.string (text l)] w fun e w' => e = .returned (.int .i64 (numOf l : Nat)) ∧ w' = w := by
  have hsz := text_size l
  have HTA := hide (text_at l)
  have hD := hide (drop_step l)
  have HLT := hide (fun j => numOf_lt16 (l := l.drop j) (by rw [List.length_drop]; omega))
  have HN : Hid (numOf l = numOf (l.drop 0)) := rfl
  have HE : Hid (0 = numOf (l.drop l.length)) := by rw [List.drop_length]; exact rfl
  go_enter Try.func19, Try.ntmps19
  go_wp2
  go_loop [3, 4] (fun vn vi => ∃ j m : Nat, j ≤ l.length ∧ vi = .int .i64 ((j : Int) - 1) ∧ vn = .int .i64 m ∧ m = numOf (l.drop j)) (fun _ i => (intOf i + 1).toNat)
  case atStart => exact ⟨l.length, 0, Nat.le_refl _, rfl, rfl, unhide HE⟩
  case round =>
    obtain ⟨j, m, hj, rfl, rfl, hm⟩ := hrel
    have HM := hide hm
    have hmlt : m < 65536 := by rw [hm]; exact unhide HLT j
    clear hm
    by_cases hlt : 0 < j
    · have hlt2 : j - 1 < l.length := by omega
      go_wp2
      go_round
      case rel =>
        refine ⟨j - 1, numOf (l.drop (j - 1)), by omega, by go_num, ?_, rfl⟩
        have e := unhide hD (j - 1) hlt2
        rw [show j - 1 + 1 = j by omega, ← unhide HM] at e
        rw [e]
        exact congrArg (Value.int .i64) (digit_step m _ _ hmlt (unhide HTA (j - 1) hlt2 _))
      case measure => simp [intOf]; omega
    · obtain rfl : j = 0 := by omega
      go_wp2
      go_ret
      exact ⟨ret_int (by rw [unhide HN, unhide HM]), rfl⟩
end Go.Proofs.Ytmafecagcglaoaa
