/-
  The walk of the law MatchExpand.
-/
import Derived.Test.YtmafecagcglaoabMatched
import Derived.Test.YtmafecagcglaoabMatchIn
import Derived.Test.YtmafecagcglaoabRefTok1
import Derived.Test.YtmafecagcglaoabRefTok2
namespace Go.Proofs.Ytmafecagcglaoab
open Go.RowKit
set_option linter.unusedVariables false
set_option maxRecDepth 100000

theorem bequal_same (a1 a2 : Option Addr) (n c1 c2 : Nat) (xs : List Nat) (w : World) (h : xs.length = n) (hB1 : BytesIn w a1 xs) (hB2 : BytesIn w a2 xs) :
    Calls Try.prog 30 #[.slice a1 n c1, .slice a2 n c2] w fun e w' => e = .returned (.bool true) ∧ w' = w := by
  refine (bequal_runs _ _ (strN xs) (strN xs) w (conv_in a1 n c1 xs w h hB1) (conv_in a2 n c2 xs w h hB2)).mono ?_
  rintro e w' ⟨rfl, rfl⟩
  exact ⟨ret_bool (by simp), rfl⟩

set_option maxHeartbeats 2000000 in
theorem expand_law_err (a : Option Addr) (n cap : Nat) (l : List Tk) (w : World) (hl : l.length = n) (hT : TokIn w a l) (E : Int) (hE : errT l = E) (h0 : E ≠ 0) :
    Calls Try.prog 7 #[.slice a n cap] w fun e w' => e = .returned (.bool true) ∧ Below w.heap.size w w' := by
  have HT := hide hT
  have HE := hide hE
  have hb : (E != 0) = true := by rw [bne_iff_ne]; exact h0
  have hee : (E != E) = false := by simp
  have he2 : (E == E) = true := by simp
  have HX := hide (expand_err a n cap l w hl hT E hE h0)
  clear hT hE h0
  go_enter Try.func7, Try.ntmps7
  go_wp2_with fail
  refine (unhide HX).mono ?_
  rintro e w1 ⟨rfl, hg1⟩
  have HT1 := hide ((unhide HT).grown hg1)
  have HB1 := hide (below_none (Below.refl w.heap.size w) hg1 (Nat.le_refl _))
  have hz1 := hg1.size
  clear hg1 HX
  go_wp2_with fail
  refine (ref_any a n cap l w1 hl (unhide HT1) E HE).mono ?_
  rintro e w2 ⟨rfl, hg2⟩
  have HT2 := hide ((unhide HT1).grown hg2)
  have HB2 := hide (below_none (unhide HB1) hg2 hz1)
  have hz2 := Nat.le_trans hz1 hg2.size
  clear hg2 HT1 HB1
  go_wp2_with fail
  refine (matched_any _).mono ?_
  rintro e w3 ⟨rfl, hB3⟩
  have HT3 := hide ((unhide HT2).below hB3 (Nat.le_refl _))
  have HB3 := hide ((unhide HB2).trans (hB3.mono hz2))
  have hz3 := Nat.le_trans hz2 hB3.size
  clear hB3 HT2 HB2
  go_wp2_with fail
  refine (check_any a n cap l w3 hl (unhide HT3) E HE).mono ?_
  rintro e w4 ⟨rfl, hg4⟩
  have HT4 := hide ((unhide HT3).grown hg4)
  have HB4 := hide (below_none (unhide HB3) hg4 hz3)
  have hz4 := Nat.le_trans hz3 hg4.size
  clear hg4 HT3 HB3
  go_wp2_with fail
  refine (matched_any _).mono ?_
  rintro e w5 ⟨rfl, hB5⟩
  have HT5 := hide ((unhide HT4).below hB5 (Nat.le_refl _))
  have HB5 := hide ((unhide HB4).trans (hB5.mono hz4))
  have hz5 := Nat.le_trans hz4 hB5.size
  clear hB5 HT4 HB4
  go_wp2_with fail
  refine (check_any a n cap l w5 hl (unhide HT5) E HE).mono ?_
  rintro e w6 ⟨rfl, hg6⟩
  have HB6 := hide (below_none (unhide HB5) hg6 hz5)
  clear hg6 HT5 HB5
  go_wp2
  go_ret
  exact ⟨rfl, unhide HB6⟩

set_option maxHeartbeats 2000000 in
theorem expand_law_ok (a : Option Addr) (n cap : Nat) (l : List Tk) (w : World) (hl : l.length = n) (hT : TokIn w a l) (hE : errT l = 0) :
    Calls Try.prog 7 #[.slice a n cap] w fun e w' => e = .returned (.bool true) ∧ Below w.heap.size w w' := by
  obtain ⟨R, hR⟩ : ∃ R, expF l [] = R := ⟨_, rfl⟩
  have HR := hide hR
  have HT := hide hT
  have HE := hide hE
  have HX := hide (expand_ok a n cap l w hl hT hE R hR)
  clear hT hE hR
  go_enter Try.func7, Try.ntmps7
  go_wp2_with fail
  refine (unhide HX).mono ?_
  rintro e w1 ⟨v, rfl, hO1, hB1⟩
  obtain ⟨hRl, a1, c1, rfl, hb1⟩ := BytesIn.ofOwn hO1
  obtain ⟨RL, hRL⟩ : ∃ RL, R.length = RL := ⟨_, rfl⟩
  have HRL := hide hRL
  rw [hRL]
  have HY1 := hide hb1
  have HT1 := hide ((unhide HT).below hB1 (Nat.le_refl _))
  have HB1 := hide hB1
  have hz1 := hB1.size
  clear hB1 HX hO1 hb1 hRl hRL
  go_wp2_with fail
  refine (ref_any a n cap l w1 hl (unhide HT1) 0 HE).mono ?_
  rintro e w2 ⟨rfl, hg2⟩
  have HT2 := hide ((unhide HT1).grown hg2)
  have HY2 := hide ((unhide HY1).below (below_none (Below.refl w1.heap.size w1) hg2 (Nat.le_refl _)) (Nat.le_refl _))
  have HB2 := hide (below_none (unhide HB1) hg2 hz1)
  have hz2 := Nat.le_trans hz1 hg2.size
  clear hg2 HT1 HB1 HY1
  go_wp2_with fail
  refine (matched_any _).mono ?_
  rintro e w3 ⟨rfl, hB3⟩
  have HT3 := hide ((unhide HT2).below hB3 (Nat.le_refl _))
  have HY3 := hide ((unhide HY2).below hB3 (Nat.le_refl _))
  have HB3 := hide ((unhide HB2).trans (hB3.mono hz2))
  have hz3 := Nat.le_trans hz2 hB3.size
  clear hB3 HT2 HB2 HY2
  go_wp2_with fail
  refine (check_any a n cap l w3 hl (unhide HT3) 0 HE).mono ?_
  rintro e w4 ⟨rfl, hg4⟩
  have HT4 := hide ((unhide HT3).grown hg4)
  have HY4 := hide ((unhide HY3).below (below_none (Below.refl w3.heap.size w3) hg4 (Nat.le_refl _)) (Nat.le_refl _))
  have HB4 := hide (below_none (unhide HB3) hg4 hz3)
  have hz4 := Nat.le_trans hz3 hg4.size
  clear hg4 HT3 HB3 HY3
  go_wp2_with fail
  refine (expanded_ok a n cap l w4 hl (unhide HT4) (unhide HE) R HR).mono ?_
  rintro e w5 ⟨v5, rfl, hO5, hB5⟩
  obtain ⟨hRl, a5, c5, rfl, hb5⟩ := BytesIn.ofOwn hO5
  rw [unhide HRL]
  have HQ := hide (bequal_same a1 a5 RL c1 c5 R w5 (unhide HRL) ((unhide HY4).below hB5 (Nat.le_refl _)) hb5)
  have HB5 := hide ((unhide HB4).trans (hB5.mono hz4))
  clear hO5 hB5 hb5 hRl HT4 HY4 HB4
  go_wp2_with fail
  refine (unhide HQ).mono ?_
  rintro e w6 ⟨rfl, rfl⟩
  go_wp2
  go_ret
  exact ⟨rfl, unhide HB5⟩
end Go.Proofs.Ytmafecagcglaoab
