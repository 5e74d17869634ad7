/-
  What code.Full and code.Codes answer.
-/
import Derived.Test.YtmafecagcglaoaaCode2
import Derived.OwnWalk
namespace Go.Proofs.Ytmafecagcglaoaa
open Go.RowKit
set_option linter.unusedVariables false

theorem codes_err (a : Option Addr) (len cap : Nat) (l : List Int) (w : World) (hl : l.length = len) (hM : len ≤ 9223372036854775807) (hR : RowIn .i64 w a l) (he : errL l ≠ 0) :
    Calls Try.prog 22 #[.slice a len cap] w fun e w' => e = .returned (.tuple #[.slice none 0 0, .int .i64 (errL l)]) ∧ Below w.heap.size w w' := by
  have hb : (errL l != 0) = true := by rw [bne_iff_ne]; exact he
  go_enter Try.func22, Try.ntmps22
  go_wp2_with fail
  refine (count_any a len cap l w hl hM hR).mono ?_
  rintro e w1 ⟨rfl, hB1⟩
  have hz := hB1.size
  have HB := hide (hB1.alloc hz (.cells (arr (cntE l)) 73))
  clear hB1 he
  go_wp2_with (refine store_new rfl (.tmp 4) (.tmp 13) rfl w1 (fun _ => 0) (cntE l) rfl rfl rfl ?_)
  go_ret2
  exact ⟨rfl, unhide HB⟩

theorem full_alone (a : Option Addr) (len cap : Nat) (l : List Int) (w : World) (hl : l.length = len) (hR : RowIn .i64 w a l) (hG : Good l) (h1 : cnt l 1 = 1) (h0 : cnt l 0 + 1 = len) :
    Calls Try.prog 23 #[.slice a len cap] w fun e w' => e = .returned (.tuple #[.bool true, .int .i64 0]) ∧ Below w.heap.size w w' := by
  have hlen := hG.len
  have HE := hide (good_errL hG)
  have HC := hide (cntE_good hG)
  have hb1 : (((cnt l 1 : Nat) : Int) == 1) = true := by rw [h1]; rfl
  have hb0 : (((cnt l 0 : Nat) : Int) == (len : Int) - 1) = true := by rw [beq_iff_eq]; omega
  go_enter Try.func23, Try.ntmps23
  go_wp2_with fail
  refine (count_any a len cap l w hl (by omega) hR).mono ?_
  rintro e w1 ⟨rfl, hB1⟩
  rw [unhide HC, unhide HE]
  have hz := hB1.size
  have HB := hide (hB1.alloc hz (.cells (arr (cnt l)) 73))
  have HA := hide (Arr.new w1 (cnt l) rfl)
  have c0 := (unhide HA).cell (j := 0) (by omega)
  have c1 := (unhide HA).cell (j := 1) (by omega)
  clear hB1 hR h0 h1
  go_wp2_with (refine store_new rfl (.tmp 4) (.tmp 10) rfl w1 (fun _ => 0) (cnt l) rfl rfl rfl ?_)
  go_ret2
  exact ⟨rfl, unhide HB⟩

set_option maxHeartbeats 1000000 in
theorem full_sum (a : Option Addr) (len cap : Nat) (l : List Int) (w : World) (hl : l.length = len) (hR : RowIn .i64 w a l) (hG : Good l) (h1 : ¬ (cnt l 1 = 1 ∧ cnt l 0 + 1 = len)) :
    Calls Try.prog 23 #[.slice a len cap] w fun e w' => e = .returned (.tuple #[.bool (decide (takenN (cnt l) 15 = 32768)), .int .i64 0]) ∧ Below w.heap.size w w' := by
  have hlen := hG.len
  have HE := hide (good_errL hG)
  have HC := hide (cntE_good hG)
  have HCL : Hid (∀ n, cnt l n ≤ 288) := fun n => Nat.le_trans (cnt_le l n) hG.len
  have hd : (((takenN (cnt l) 15 : Nat) : Int) == 32768) = decide (takenN (cnt l) 15 = 32768) := by
    by_cases e : takenN (cnt l) 15 = 32768
    · rw [e]; rfl
    · rw [decide_eq_false e, beq_eq_false_iff_ne]; omega
  have HD := hide hd
  clear hd
  have hcase : ((((cnt l 1 : Nat) : Int) == 1) = false) ∨ ((((cnt l 1 : Nat) : Int) == 1) = true ∧ (((cnt l 0 : Nat) : Int) == (len : Int) - 1) = false) := by
    by_cases e : cnt l 1 = 1
    · refine .inr ⟨by rw [e]; rfl, ?_⟩
      rw [beq_eq_false_iff_ne]
      omega
    · refine .inl ?_
      rw [beq_eq_false_iff_ne]
      omega
  have hge : (cnt l 0 : Int) ≤ 288 := by have := unhide HCL 0; omega
  have hM : len ≤ 9223372036854775807 := by omega
  clear h1
  rcases hcase with hb | ⟨hb, hb0⟩
  · go_enter Try.func23, Try.ntmps23
    go_wp2_with fail
    refine (count_any a len cap l w hl hM hR).mono ?_
    rintro e w1 ⟨rfl, hB1⟩
    rw [unhide HC, unhide HE]
    have hz := hB1.size
    have HB := hide (hB1.alloc hz (.cells (arr (cnt l)) 73))
    have HA := hide (Arr.new w1 (cnt l) rfl)
    have c0 := (unhide HA).cell (j := 0) (by omega)
    have c1 := (unhide HA).cell (j := 1) (by omega)
    clear hB1 hR
    go_wp2_with (first | (refine store_new rfl (.tmp 4) (.tmp 10) rfl w1 (fun _ => 0) (cnt l) rfl rfl rfl ?_) | (refine load_arr_want (.tmp 4) rfl rfl _ (cnt l) rfl (unhide HA) ?_))
    refine (taken_any (cnt l) _ (unhide HCL)).mono ?_
    rintro e w2 ⟨rfl, hB2⟩
    have HB2 := hide ((unhide HB).trans (hB2.mono (by simp; omega)))
    clear hB2
    go_wp2
    go_ret2
    exact ⟨by rw [unhide HD]; rfl, unhide HB2⟩
  · go_enter Try.func23, Try.ntmps23
    go_wp2_with fail
    refine (count_any a len cap l w hl hM hR).mono ?_
    rintro e w1 ⟨rfl, hB1⟩
    rw [unhide HC, unhide HE]
    have hz := hB1.size
    have HB := hide (hB1.alloc hz (.cells (arr (cnt l)) 73))
    have HA := hide (Arr.new w1 (cnt l) rfl)
    have c0 := (unhide HA).cell (j := 0) (by omega)
    have c1 := (unhide HA).cell (j := 1) (by omega)
    clear hB1 hR
    go_wp2_with (first | (refine store_new rfl (.tmp 4) (.tmp 10) rfl w1 (fun _ => 0) (cnt l) rfl rfl rfl ?_) | (refine load_arr_want (.tmp 4) rfl rfl _ (cnt l) rfl (unhide HA) ?_))
    refine (taken_any (cnt l) _ (unhide HCL)).mono ?_
    rintro e w2 ⟨rfl, hB2⟩
    have HB2 := hide ((unhide HB).trans (hB2.mono (by simp; omega)))
    clear hB2
    go_wp2
    go_ret2
    exact ⟨by rw [unhide HD]; rfl, unhide HB2⟩

theorem full_any (a : Option Addr) (len cap : Nat) (l : List Int) (w : World) (hl : l.length = len) (hM : len ≤ 9223372036854775807) (hR : RowIn .i64 w a l) :
    Calls Try.prog 23 #[.slice a len cap] w fun e w' => e = .returned (.tuple #[.bool (if errL l = 0 then fullB l else false), .int .i64 (errL l)]) ∧ Below w.heap.size w w' := by
  by_cases he : errL l = 0
  · have hG := errL_good he
    rw [if_pos he, he]
    by_cases h1 : cnt l 1 = 1 ∧ cnt l 0 + 1 = len
    · have e : fullB l = true := decide_eq_true (.inl (by rw [hl]; exact h1))
      rw [e]
      exact full_alone a len cap l w hl hR hG h1.1 h1.2
    · have e : fullB l = decide (takenN (cnt l) 15 = 32768) := by
        unfold fullB
        rw [hl]
        by_cases ht : takenN (cnt l) 15 = 32768
        · simp [ht]
        · rw [decide_eq_false ht, decide_eq_false]
          rintro (h | h)
          · exact h1 h
          · exact ht h
      rw [e]
      exact full_sum a len cap l w hl hR hG h1
  · rw [if_neg he]
    have hb : (errL l != 0) = true := by rw [bne_iff_ne]; exact he
    go_enter Try.func23, Try.ntmps23
    go_wp2_with fail
    refine (count_any a len cap l w hl hM hR).mono ?_
    rintro e w1 ⟨rfl, hB1⟩
    have hz := hB1.size
    have HB := hide (hB1.alloc hz (.cells (arr (cntE l)) 73))
    clear hB1 he
    go_wp2_with (refine store_new rfl (.tmp 4) (.tmp 10) rfl w1 (fun _ => 0) (cntE l) rfl rfl rfl ?_)
    go_ret2
    exact ⟨rfl, unhide HB⟩
end Go.Proofs.Ytmafecagcglaoaa
