/-
  What code.count answers: how many places have each length, or the first error.
-/
import Derived.Test.YtfoaaamcpknjnahCode1
namespace Go.Proofs.Ytfoaaamcpknjnah
open Go.RowKit
set_option linter.unusedVariables false

theorem count_many (a : Option Addr) (len cap : Nat) (w : World) (hm : 288 < len) (hM : len ≤ 9223372036854775807) :
    Calls Try.prog 28 #[.slice a len cap] w fun e w' => e = .returned (.tuple #[.agg (arr fun _ => 0), .int .i64 2]) ∧ Below w.heap.size w w' := by
  go_enter Try.func28, Try.ntmps28
  have HR := hide (Arr.new w (fun _ => 0) rfl)
  go_wp2_with (refine store_arr rfl (.tmp 2) (.tmp 10) rfl _ _ (fun _ => 0) rfl rfl (unhide HR) ?_)
  have HY := hide ((unhide HR).setRow (fun _ => 0))
  exact bodyPost_ret (ret_arr_tmp rfl _ _ _ _ rfl (unhide HY)) rfl ⟨rfl, below_setRow ((Below.refl _ _).alloc (Nat.le_refl _) _) (Nat.le_refl _) _⟩

/-- the loop of count, up to where a length may not be, or to its end -/
theorem count_bad (a : Option Addr) (len cap : Nat) (l : List Int) (w : World) (hl : l.length = len) (hm : len ≤ 288) (hR : RowIn .i64 w a l) (j0 : Nat) (hj0 : j0 < len) (hbad : okLen (l.getD j0 0) = false) (hf : ∀ j, j < j0 → okLen (l.getD j 0) = true) :
    Calls Try.prog 28 #[.slice a len cap] w fun e w' => e = .returned (.tuple #[.agg (arr fun _ => 0), .int .i64 3]) ∧ Below w.heap.size w w' := by
  obtain ⟨b, o, rfl, hb, hR⟩ : ∃ b o, a = some ⟨b, o, none⟩ ∧ b < w.heap.size ∧ Row .i64 w b o l := by
    rcases hR with rfl | h
    · simp at hl; omega
    · exact h
  go_enter Try.func28, Try.ntmps28
  go_wp2
  simp only [zero16]
  have HR0 := hide ((Arr.new w (fun _ => 0) rfl).alloc (.cells (arr (fun _ => 0)) 59))
  have HC0 := hide (Arr.new (w.alloc (.cells (arr (fun _ => 0)) 59)) (fun _ => 0) (b := w.heap.size + 1) (by simp))
  have HB0 := hide (((Below.refl w.heap.size w).alloc (Nat.le_refl _) (.cells (arr (fun _ => 0)) 59)).alloc (by simp) (.cells (arr (fun _ => 0)) 59))
  have HRow := hide hR
  have HL := hide hl
  clear hR
  go_loopw [13] (fun i wr => ∃ k : Nat, k ≤ j0 ∧ i = .int .i64 k ∧ Arr wr w.heap.size (fun _ => 0) ∧ Arr wr (w.heap.size + 1) (cnt (l.take k)) ∧ Below w.heap.size w wr) (fun i _ => len - (intOf i).toNat)
  case atStart => exact ⟨0, by omega, rfl, unhide HR0, unhide HC0, unhide HB0⟩
  case round =>
    obtain ⟨k, hk, rfl, hA, hC, hB⟩ := hrel
    have HA := hide hA
    have HC := hide hC
    have HB := hide hB
    have hlk : k < l.length := by omega
    have c1 := (hB.cell (p := ⟨b, o + k, none⟩) hb).trans (unhide HRow k hlk)
    by_cases hlt : k < j0
    · have hok := hf k hlt
      obtain ⟨n, hn⟩ := Int.eq_ofNat_of_zero_le (okLen_true hok).1
      have hn15 := (okLen_true hok).2
      have HX := hide hn
      rw [hn] at c1 hn15
      have hn16 : n < 16 := by omega
      have c2 := hC.cell hn16
      have f2 := hC.frozen n
      have hle := cnt_le (l.take k) n
      have hle2 : (l.take k).length ≤ 288 := by simp; omega
      clear hA hC hB hf hbad hok hn HR0 HC0 HB0
      go_wp2
      go_roundw
      case rel => exact ⟨k + 1, by omega, by go_num, (unhide HA).other (by simp) _, by rw [← cnt_next l hlk (unhide HX)]; exact (unhide HC).set _ _, (unhide HB).setCell (by simp) _⟩
      case measure => simp [intOf]; omega
    · obtain rfl : k = j0 := by omega
      clear hA hC hB hf HR0 HC0 HB0
      generalize l.getD k 0 = x at *
      have hno := okLen_false hbad
      have hg : x < 0 ∨ 15 < x := by omega
      clear hno hbad
      rcases hg with hg | hg
      · go_wp2_with (refine store_arr rfl (.tmp 2) (.tmp 23) rfl _ _ (fun _ => 0) rfl rfl (unhide HA) ?_)
        have HY := hide ((unhide HA).setRow (fun _ => 0))
        exact bodyPost_ret (ret_arr_tmp rfl _ _ _ _ rfl (unhide HY)) rfl ⟨rfl, below_setRow (unhide HB) (Nat.le_refl _) _⟩
      · have hg0 : ¬ (x < 0) := by omega
        go_wp2_with (refine store_arr rfl (.tmp 2) (.tmp 23) rfl _ _ (fun _ => 0) rfl rfl (unhide HA) ?_)
        have HY := hide ((unhide HA).setRow (fun _ => 0))
        exact bodyPost_ret (ret_arr_tmp rfl _ _ _ _ rfl (unhide HY)) rfl ⟨rfl, below_setRow (unhide HB) (Nat.le_refl _) _⟩

theorem count_good (a : Option Addr) (len cap : Nat) (l : List Int) (w : World) (hl : l.length = len) (hm : len ≤ 288) (hR : RowIn .i64 w a l) (hf : ∀ j, j < len → okLen (l.getD j 0) = true) :
    Calls Try.prog 28 #[.slice a len cap] w fun e w' => e = .returned (.tuple #[.agg (arr (if 32768 < takenN (cnt l) 15 then fun _ => 0 else cnt l)), .int .i64 (if 32768 < takenN (cnt l) 15 then 8 else 0)]) ∧ Below w.heap.size w w' := by
  go_enter Try.func28, Try.ntmps28
  go_wp2
  simp only [zero16]
  have HR0 := hide ((Arr.new w (fun _ => 0) rfl).alloc (.cells (arr (fun _ => 0)) 59))
  have HC0 := hide (Arr.new (w.alloc (.cells (arr (fun _ => 0)) 59)) (fun _ => 0) (b := w.heap.size + 1) (by simp))
  have HB0 := hide (((Below.refl w.heap.size w).alloc (Nat.le_refl _) (.cells (arr (fun _ => 0)) 59)).alloc (by simp) (.cells (arr (fun _ => 0)) 59))
  have HRow := hide hR
  have HL := hide hl
  clear hR
  go_loopw [13] (fun i wr => ∃ k : Nat, k ≤ len ∧ i = .int .i64 k ∧ Arr wr w.heap.size (fun _ => 0) ∧ Arr wr (w.heap.size + 1) (cnt (l.take k)) ∧ Below w.heap.size w wr) (fun i _ => len - (intOf i).toNat)
  case atStart => exact ⟨0, by omega, rfl, unhide HR0, unhide HC0, unhide HB0⟩
  case round =>
    obtain ⟨k, hk, rfl, hA, hC, hB⟩ := hrel
    have HA := hide hA
    have HC := hide hC
    have HB := hide hB
    by_cases hlt : k < len
    · have hlk : k < l.length := by omega
      obtain ⟨b, o, rfl, hb, hR⟩ : ∃ b o, a = some ⟨b, o, none⟩ ∧ b < w.heap.size ∧ Row .i64 w b o l := by
        rcases unhide HRow with rfl | h
        · simp at hlk
        · exact h
      have c1 := (hB.cell (p := ⟨b, o + k, none⟩) hb).trans (hR k hlk)
      have hok := hf k hlt
      obtain ⟨n, hn⟩ := Int.eq_ofNat_of_zero_le (okLen_true hok).1
      have hn15 := (okLen_true hok).2
      have HX := hide hn
      rw [hn] at c1 hn15
      have hn16 : n < 16 := by omega
      have c2 := hC.cell hn16
      have f2 := hC.frozen n
      have hle := cnt_le (l.take k) n
      have hle2 : (l.take k).length ≤ 288 := by simp; omega
      clear hA hC hB hf hok hn HR0 HC0 HB0 hR
      go_wp2
      go_roundw
      case rel => exact ⟨k + 1, by omega, by go_num, (unhide HA).other (by simp) _, by rw [← cnt_next l hlk (unhide HX)]; exact (unhide HC).set _ _, (unhide HB).setCell (by simp) _⟩
      case measure => simp [intOf]; omega
    · obtain rfl : k = len := by omega
      have hz := hC.lt
      have hall : l.take k = l := List.take_of_length_le (by omega)
      have HC1 := HC
      rw [hall] at HC1
      have hcl : ∀ n, cnt l n ≤ 288 := fun n => Nat.le_trans (cnt_le l n) (by omega)
      have HCL := hide hcl
      clear hA hC hB hf HR0 HC0 HB0 HC hall hcl
      go_wp2_with (refine load_arr rfl (.tmp 4) rfl _ (cnt l) rfl (unhide HC1) ?_)
      refine (taken_any (cnt l) wr (unhide HCL)).mono ?_
      rintro e w1 ⟨rfl, hB1⟩
      have HA1 := hide ((unhide HA).below hB1 (by omega))
      have HC2 := hide ((unhide HC1).below hB1 (by omega))
      have HB1 := hide ((unhide HB).trans (hB1.mono (unhide HB).size))
      clear hB1 HA HC1 HB
      by_cases ht : 32768 < takenN (cnt l) 15
      · go_wp2_with (refine store_arr rfl (.tmp 2) (.tmp 33) rfl _ _ (fun _ => 0) rfl rfl (unhide HA1) ?_)
        have HY := hide ((unhide HA1).setRow (fun _ => 0))
        exact bodyPost_ret (ret_arr_tmp rfl _ _ _ _ rfl (unhide HY)) rfl ⟨by first | rfl | (rw [if_pos ht, if_pos ht]; rfl), below_setRow (unhide HB1) (Nat.le_refl _) _⟩
      · go_wp2_with (first | (refine load_arr rfl (.tmp 4) rfl _ (cnt l) rfl (unhide HC2) ?_) | (refine store_arr rfl (.tmp 2) (.tmp 34) rfl _ _ (cnt l) rfl rfl (unhide HA1) ?_))
        have HY := hide ((unhide HA1).setRow (cnt l))
        exact bodyPost_ret (ret_arr_tmp rfl _ _ _ _ rfl (unhide HY)) rfl ⟨by first | rfl | (rw [if_neg ht, if_neg ht]; rfl), below_setRow (unhide HB1) (Nat.le_refl _) _⟩

theorem count_any (a : Option Addr) (len cap : Nat) (l : List Int) (w : World) (hl : l.length = len) (hM : len ≤ 9223372036854775807) (hR : RowIn .i64 w a l) :
    Calls Try.prog 28 #[.slice a len cap] w fun e w' => e = .returned (.tuple #[.agg (arr (cntE l)), .int .i64 (errL l)]) ∧ Below w.heap.size w w' := by
  by_cases hm : 288 < len
  · have e : errL l = 2 := by unfold errL; rw [if_pos (by omega)]
    have e2 : cntE l = fun _ => 0 := by unfold cntE; rw [e]; rfl
    rw [e, e2]
    exact count_many a len cap w hm hM
  · rcases first_bad (fun j => okLen (l.getD j 0)) len with hf | ⟨j0, hj0, hbad, hf⟩
    · have hn : ¬ ∃ j, j < l.length ∧ okLen (l.getD j 0) = false := by
        rintro ⟨j, hj, e⟩
        have := hf j (by omega)
        simp only [e] at this
        cases this
      have h := count_good a len cap l w hl (by omega) hR hf
      have e : errL l = if 32768 < takenN (cnt l) 15 then 8 else 0 := by unfold errL; rw [if_neg (by omega), if_neg hn]
      have e2 : cntE l = if 32768 < takenN (cnt l) 15 then fun _ => 0 else cnt l := by
        unfold cntE; rw [e]
        by_cases ht : 32768 < takenN (cnt l) 15
        · simp [ht]
        · simp [ht]
      rw [e, e2]
      exact h
    · have e : errL l = 3 := by unfold errL; rw [if_neg (by omega), if_pos ⟨j0, by omega, hbad⟩]
      have e2 : cntE l = fun _ => 0 := by unfold cntE; rw [e]; rfl
      rw [e, e2]
      exact count_bad a len cap l w hl (by omega) hR j0 hj0 hbad hf
end Go.Proofs.Ytfoaaamcpknjnah
