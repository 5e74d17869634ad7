/-
  The walk of the law CodeCodes.
-/
import Derived.Test.YtmafecagcglaoaaCodesOf2
import Derived.Test.YtmafecagcglaoaaCheck2
import Derived.Test.YtmafecagcglaoaaCoded
import Derived.Test.YtmafecagcglaoaaTurned
import Derived.Deep.RegionHeld3
namespace Go.Proofs.Ytmafecagcglaoaa
open Go.RowKit
set_option linter.unusedVariables false
set_option maxRecDepth 100000

theorem numOf_hb : ∀ n c, c < 2 ^ n → numOf (hb c n).reverse = c
  | 0, c, h => by simp at h; subst h; rfl
  | n + 1, c, h => by
    rw [Nat.pow_succ] at h
    rw [hb, List.reverse_append, List.reverse_singleton, List.singleton_append, numOf, numOf_hb n (c / 2) (by omega)]
    by_cases hc : c % 2 = 1
    · simp [hc]; omega
    · simp [hc]; omega
/-- of k lengths so many are above 0 -/
def usedC (l : List Int) : Nat → Nat
  | 0 => 0
  | k + 1 => usedC l k + (if 0 < l.getD k 0 then 1 else 0)
theorem usedC_cnt (l : List Int) (hok : ∀ j, j < l.length → 0 ≤ l.getD j 0) : ∀ k, k ≤ l.length → usedC l k + cnt (l.take k) 0 = k
  | 0, _ => by simp [usedC, cnt]
  | k + 1, hk => by
    have ih := usedC_cnt l hok k (by omega)
    have hk' : k < l.length := by omega
    have e : l.getD k 0 = l[k] := by simp [List.getD, hk']
    have h0 := hok k hk'
    rw [usedC, cnt, List.take_succ_eq_append_getElem hk', List.count_append, e]
    rw [e] at h0
    unfold cnt at ih
    by_cases h : 0 < l[k]
    · have h2 : ¬ l[k] = 0 := by omega
      simp [h, h2]
      simp at ih
      omega
    · have h2 : l[k] = 0 := by omega
      simp [h2]
      simp at ih
      omega
theorem cnt_two (l : List Int) : cnt l 0 + cnt l 1 ≤ l.length := by
  unfold cnt
  induction l with
  | nil => simp
  | cons x r ih =>
    simp only [List.count_cons, List.length_cons]
    by_cases h0 : x = 0
    · subst h0; simp at ih ⊢; omega
    · by_cases h1 : x = 1
      · subst h1; simp at ih ⊢; omega
      · have e0 : (x == ((0 : Nat) : Int)) = false := by rw [beq_eq_false_iff_ne]; exact h0
        have e1 : (x == ((1 : Nat) : Int)) = false := by rw [beq_eq_false_iff_ne]; exact h1
        rw [e0, e1]; simp at ih ⊢; omega
theorem full_ways (l : List Int) (hG : Good l) : fullB l = (decide (takenN (cnt l) 15 = 32768) || (decide (usedC l l.length = 1) && decide ((1 : Int) ∈ l))) := by
  have hu := usedC_cnt l (fun j hj => (hG.ok j hj).1) l.length (Nat.le_refl _)
  rw [List.take_length] at hu
  have h2 := cnt_two l
  have hm : (1 : Int) ∈ l ↔ 0 < cnt l 1 := by unfold cnt; exact List.count_pos_iff.symm
  unfold fullB
  rw [Bool.eq_iff_iff]
  simp only [decide_eq_true_eq, Bool.or_eq_true, Bool.and_eq_true, hm]
  constructor
  · rintro (⟨a, b⟩ | h)
    · exact .inr ⟨by omega, by omega⟩
    · exact .inl h
  · rintro (h | ⟨a, b⟩)
    · exact .inr h
    · exact .inl ⟨by omega, by omega⟩

theorem codeCodes_err (a : Option Addr) (len cap : Nat) (l : List Int) (w : World) (hl : l.length = len) (hM : len ≤ 9223372036854775807) (hR : RowIn .i64 w a l) (he : errL l ≠ 0) :
    Calls Try.prog 7 #[.slice a len cap] w fun e w' => e = .returned (.bool true) ∧ Below w.heap.size w w' := by
  have hb : (errL l != 0) = true := by rw [bne_iff_ne]; exact he
  have hee : (errL l != errL l) = false := by simp
  have EF : Hid ((if errL l = 0 then fullB l else false) = false) := by unfold Hid; rw [if_neg he]
  go_enter Try.func7, Try.ntmps7
  go_wp2_with fail
  refine (codes_err a len cap l w hl hM hR he).mono ?_
  rintro e w1 ⟨rfl, hB1⟩
  have HB1 := hide hB1
  have HR1 := hide (hR.below hB1 (Nat.le_refl _))
  clear hB1 hR he
  go_wp2_with fail
  refine (full_any a len cap l w1 hl hM (unhide HR1)).mono ?_
  rintro e w2 ⟨rfl, hB2⟩
  rw [unhide EF]
  have HB2 := hide ((unhide HB1).trans (hB2.mono (unhide HB1).size))
  have HR2 := hide ((unhide HR1).below hB2 (Nat.le_refl _))
  clear hB2
  go_wp2_with fail
  refine (checkLengths_any a len cap l w2 hl hM (unhide HR2)).mono ?_
  rintro e w3 ⟨rfl, rfl⟩
  go_wp2_with fail
  refine (coded_any _).mono ?_
  rintro e w4 ⟨rfl, hB4⟩
  have HB4 := hide ((unhide HB2).trans (hB4.mono (unhide HB2).size))
  have HR4 := hide ((unhide HR2).below hB4 (Nat.le_refl _))
  clear hB4
  go_wp2_with fail
  refine (codeCheck_any a len cap l w4 hl hM (unhide HR4)).mono ?_
  rintro e w5 ⟨rfl, hB5⟩
  have HB5 := hide ((unhide HB4).trans (hB5.mono (unhide HB4).size))
  clear hB5
  generalize errL l = E at *
  go_wp2
  go_ret
  exact ⟨rfl, unhide HB5⟩

theorem codeT_length (l : List Int) (hG : Good l) {q : Nat} (hq : q < l.length) : (codeT l q).length ≤ 16 ∧ numOf (codeT l q).reverse = codeN l q := by
  obtain ⟨n, hn⟩ := Int.eq_ofNat_of_zero_le (hG.ok q hq).1
  have h15 := (hG.ok q hq).2
  unfold codeT
  rw [hn, Int.toNat_natCast, hb_length]
  refine ⟨by omega, ?_⟩
  by_cases h0 : n = 0
  · subst h0
    have : codeN l q = 0 := by unfold codeN; rw [hn]; rfl
    rw [this]; rfl
  · exact numOf_hb n _ (code_lt l hG hq hn (by omega)).2.2

theorem code_cell' {w : World} {B g len : Nat} {l : List Int} (hO : w.ownsRow B 3 1 (.slice (some ⟨g, 0, none⟩) len len) len (i64s (codL l len))) (hl : l.length = len) {p : Nat} (hp : p < l.length) : w.cell? ⟨g, p, none⟩ = some (.int .i64 ((codeN l p : Nat) : Int)) := by
  rw [hO.cellAt p (by omega)]
  have e := codL_at l hp len
  rw [if_pos (by omega)] at e
  have hpl2 : p < (codL l len).length := by rw [codL_length]; exact hp
  have e2 : (codL l len)[p] = codeN l p := by simpa [List.getD, hpl2] using e
  simp [i64s, hpl2, e2]

set_option maxHeartbeats 4000000 in
theorem codeCodes_ok (a : Option Addr) (len cap : Nat) (l : List Int) (w : World) (hl : l.length = len) (hR : RowIn .i64 w a l) (hG : Good l) :
    Calls Try.prog 7 #[.slice a len cap] w fun e w' => e = .returned (.bool true) ∧ Below w.heap.size w w' := by
  have hlen := hG.len
  have hM : len ≤ 9223372036854775807 := by omega
  have EE := hide (good_errL hG)
  have EF : Hid ((if errL l = 0 then fullB l else false) = fullB l) := by unfold Hid; rw [if_pos (good_errL hG)]
  have HFW := hide (full_ways l hG)
  have HG := hide hG
  have HL := hide hl
  go_enter Try.func7, Try.ntmps7
  go_wp2_with fail
  refine (codes_ok a len cap l w hl hR hG).mono ?_
  rintro e w1 ⟨g1, rfl, hO1, hB1, hg1⟩
  have HB1 := hide hB1
  have HO1 := hide hO1
  have HR1 := hide (hR.below hB1 (Nat.le_refl _))
  have hz1 := hB1.size
  have hgl1 := (hO1.lt g1 rfl).2
  clear hB1 hO1 hR hG
  go_wp2_with fail
  refine (full_any a len cap l w1 hl hM (unhide HR1)).mono ?_
  rintro e w2 ⟨rfl, hB2⟩
  rw [unhide EF, unhide EE]
  have HB2 := hide ((unhide HB1).trans (hB2.mono (unhide HB1).size))
  have HC2 := hide hB2
  have HR2 := hide ((unhide HR1).below hB2 (Nat.le_refl _))
  have hz2 := hB2.size
  clear hB2
  go_wp2_with fail
  refine (checkLengths_any a len cap l w2 hl hM (unhide HR2)).mono ?_
  rintro e w3 ⟨rfl, rfl⟩
  rw [unhide EE]
  go_wp2_with fail
  refine (coded_any _).mono ?_
  rintro e w4 ⟨rfl, hB4⟩
  have HB4 := hide ((unhide HB2).trans (hB4.mono (unhide HB2).size))
  have HC4 := hide ((unhide HC2).trans (hB4.mono (unhide HC2).size))
  have HR4 := hide ((unhide HR2).below hB4 (Nat.le_refl _))
  clear hB4
  go_wp2_with fail
  refine (codeCheck_any a len cap l w4 hl hM (unhide HR4)).mono ?_
  rintro e w5 ⟨rfl, hB5⟩
  rw [unhide EE]
  have HB5 := hide ((unhide HB4).trans (hB5.mono (unhide HB4).size))
  have HC5 := hide ((unhide HC4).trans (hB5.mono (unhide HC4).size))
  have HR5 := hide ((unhide HR4).below hB5 (Nat.le_refl _))
  have hz5 := (unhide HC5).size
  have HU0 : Hid (usedC l l.length = usedC l len) := by unfold Hid; rw [hl]
  rw [unhide HU0] at HFW
  clear hB5 HB1 HB2 HB4 HC2 HC4 HR1 HR2 HR4 EF EE HU0
  generalize fullB l = F at *
  go_wp2
  go_loop [8, 54] (fun u i => ∃ k : Nat, k ≤ len ∧ i = .int .i64 (k : Int) ∧ u = .int .i64 ((usedC l k : Nat) : Int) ∧ usedC l k ≤ k) (fun _ i => len - (intOf i).toNat)
  case atStart => exact ⟨0, Nat.zero_le _, rfl, rfl, Nat.le_refl _⟩
  case round =>
    obtain ⟨k, hk, rfl, rfl, hu⟩ := hrel
    by_cases hlt : k < len
    · have hlk : k < l.length := by omega
      obtain ⟨b, o, rfl, hb, hRw⟩ : ∃ b o, a = some ⟨b, o, none⟩ ∧ b < w5.heap.size ∧ Row .i64 w5 b o l := by
        rcases unhide HR5 with rfl | h
        · simp at hlk
        · exact h
      have c1 := hRw k hlk
      have HU : Hid (usedC l (k + 1) = usedC l k + (if 0 < l.getD k 0 then 1 else 0)) := rfl
      clear hRw
      generalize usedC l k = u at *
      generalize l.getD k 0 = x at *
      by_cases hx0 : 0 < x
      · rw [if_pos hx0] at HU
        go_wp2
        go_round
        case rel => exact ⟨k + 1, by omega, by go_num, by rw [unhide HU]; go_num, by rw [unhide HU]; omega⟩
        case measure => simp [intOf]; omega
      · rw [if_neg hx0] at HU
        go_wp2
        go_round
        case rel => exact ⟨k + 1, by omega, by go_num, by rw [unhide HU]; rfl, by rw [unhide HU]; omega⟩
        case measure => simp [intOf]; omega
    · obtain rfl : k = len := by omega
      have HTL : Hid (∀ (W : World) (B : Nat), True) := fun _ _ => trivial
      clear hlt hk hu
      generalize hT : takenN (cnt l) 15 = T at *
      have HT := hide hT
      clear hT
      generalize usedC l k = U at *
      have hll : ((k : Int) != (k : Int)) = false := by simp
      go_wp2_with fail
      refine (room_any a k cap l w5 hl (by omega) (unhide HR5) (unhide HG).ok).mono ?_
      rintro e w6 ⟨rfl, hw⟩
      rw [unhide HT, hw]
      clear hw w6
      have ways : T = 32768 ∨ (T ≠ 32768 ∧ U = 1) ∨ (T ≠ 32768 ∧ U ≠ 1) := by omega
      rcases ways with hT | ⟨hT, hU⟩ | ⟨hT, hU⟩
      case' inr.inl =>
        have hb1 : ((T : Int) == 32768) = false := by rw [beq_eq_false_iff_ne]; omega
        have hb2 : ((U : Int) == 1) = true := by rw [hU]; rfl
        have hF : F = decide ((1 : Int) ∈ l) := by rw [unhide HFW, decide_eq_false hT, decide_eq_true hU]; rfl
        clear hT hU HFW
        go_wp2_with fail
        refine (contains_any a k cap l 1 w5 hl (by omega) (unhide HR5)).mono ?_
        rintro e w6 ⟨rfl, hw⟩
        rw [hw, ← hF]
        clear hw w6 hF
        have hFF : (F != F) = false := by simp
        go_wp2_with fail
      case' inr.inr =>
        have hb1 : ((T : Int) == 32768) = false := by rw [beq_eq_false_iff_ne]; omega
        have hb2 : ((U : Int) == 1) = false := by rw [beq_eq_false_iff_ne]; omega
        have hF : F = false := by rw [unhide HFW, decide_eq_false hT, decide_eq_false hU]; rfl
        subst hF
        clear hT hU HFW
        go_wp2_with fail
      case' inl =>
        have hb1 : ((T : Int) == 32768) = true := by rw [hT]; rfl
        have hF : F = true := by rw [unhide HFW, decide_eq_true hT]; rfl
        subst hF
        clear hT HFW
        go_wp2_with fail
      all_goals
        refine (codesOf_any a k cap l w5 hl (unhide HR5) (unhide HG)).mono ?_
        rintro e w7 ⟨g7, rfl, hB7, hg7, hO7⟩
        have HO7 := hide hO7
        have hgl7 := (hO7.lt g7 rfl).2
        have hz7 := hB7.size
        have HC7 := hide ((unhide HC5).trans (hB7.mono (unhide HC5).size))
        have HB7 := hide ((unhide HB5).trans (hB7.mono (unhide HB5).size))
        clear hB7 hO7 HR5
        go_wp2
        go_loopw [86] (fun vi wr => ∃ i : Nat, i ≤ k ∧ vi = .int .i64 (i : Int) ∧ Below w7.heap.size w7 wr) (fun vi _ => k - (intOf vi).toNat)
        case atStart => exact ⟨0, Nat.zero_le _, rfl, Below.refl _ _⟩
        case round =>
          obtain ⟨i, hik, rfl, hB⟩ := hrel
          have HBr := hide hB
          by_cases hlt : i < k
          · have hli : i < l.length := by omega
            have c0 := (hB.cell (p := ⟨g1, i, none⟩) (by simp; omega)).trans (((unhide HC7).cell (p := ⟨g1, i, none⟩) (by simp; omega)).trans (code_cell' (unhide HO1) hl hli))
            have c7 : wr.cell? ⟨g7, i, none⟩ = some (.string (text (codeT l i))) := by
              refine (hB.cell (p := ⟨g7, i, none⟩) (by simp; omega)).trans ?_
              rw [(unhide HO7).cellAt i (by omega)]
              simp [hlt]
            obtain ⟨ht1, ht2⟩ := codeT_length l (unhide HG) hli
            have HTu := hide (fun W => turned_any (codeT l i) W ht1)
            have HNu : Hid (∀ W, Calls Try.prog 19 #[.string (text (codeT l i).reverse)] W fun e w' => e = .returned (.int .i64 ((codeN l i : Nat) : Int)) ∧ w' = W) := fun W => by
              have := ofNumber_any (codeT l i).reverse W (by rw [List.length_reverse]; exact ht1)
              rw [ht2] at this
              exact this
            have hiI : (i : Int) < (k : Int) := by omega
            clear hB ht1 ht2
            generalize codeN l i = X at *
            generalize text (codeT l i) = T1 at *
            generalize text (codeT l i).reverse = T2 at *
            have hXX : ((X : Int) != (X : Int)) = false := by simp
            have hgr : g1 < wr.heap.size := by have := (unhide HBr).size; omega
            go_wp2
            go_region_held3 (fun w' => w'.cell? ⟨g1, i, none⟩ = some (.int .i64 ((X : Nat) : Int))) (first | assumption | simp [*]) (first | (go_at_call 20; refine (unhide HTu _).mono ?_; rintro e w9 ⟨rfl, hB9⟩; have c9 : w9.cell? ⟨g1, i, none⟩ = some (.int .i64 ((X : Nat) : Int)) := (hB9.cell (p := ⟨g1, i, none⟩) hgr).trans c0; have HB9 := hide hB9; clear hB9) | (go_at_call 19; refine (unhide HNu _).mono ?_; rintro e wA ⟨rfl, rfl⟩))
            all_goals
              go_wp2
              go_roundw
              case rel => exact ⟨i + 1, by omega, by go_num, (unhide HBr).trans ((Below.drew (Below.refl wr.heap.size wr)).mono (unhide HBr).size |>.trans ((unhide HB9).mono (unhide HBr).size))⟩
              case measure => simp [intOf]; omega
          · obtain rfl : i = k := by omega
            clear hB
            go_wp2
            go_ret
            exact ⟨rfl, (unhide HB7).trans ((unhide HBr).mono (unhide HB7).size)⟩
end Go.Proofs.Ytmafecagcglaoaa
