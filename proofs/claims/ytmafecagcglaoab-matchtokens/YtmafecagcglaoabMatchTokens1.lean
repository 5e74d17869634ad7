/-
  The walk of the law MatchTokens.
-/
import Derived.Test.YtmafecagcglaoabMatched
import Derived.Test.YtmafecagcglaoabLongest1
import Derived.Test.YtmafecagcglaoabRefToks
namespace Go.Proofs.Ytmafecagcglaoab
open Go.RowKit
set_option linter.unusedVariables false
set_option maxRecDepth 100000

set_option maxHeartbeats 2000000 in
theorem tokens_law_many (a : Option Addr) (n cap : Nat) (k : Int) (w : World) (h : 3000 < n) : Calls Try.prog 8 #[.slice a n cap, .int .i64 k] w fun e w' => e = .returned (.bool true) ∧ Below w.heap.size w w' := by
  go_enter Try.func8, Try.ntmps8
  go_wp2_with fail
  refine (tokens_many a n cap w h).mono ?_
  rintro e w1 ⟨rfl, rfl⟩
  go_wp2_with fail
  refine (longest_many a n cap k _ h).mono ?_
  rintro e w1 ⟨rfl, rfl⟩
  go_wp2_with fail
  refine (matched_any _).mono ?_
  rintro e w2 ⟨rfl, hB2⟩
  have HB2 := hide hB2
  have hz2 := hB2.size
  clear hB2
  go_wp2_with fail
  refine (matched_any _).mono ?_
  rintro e w3 ⟨rfl, hB3⟩
  have HB3 := hide ((unhide HB2).trans (hB3.mono hz2))
  clear hB3
  go_wp2
  go_ret
  exact ⟨rfl, unhide HB3⟩

set_option maxHeartbeats 2000000 in
theorem tokens_law_who (a : Option Addr) (n cap : Nat) (k : Int) (bs : List Nat) (w : World) (hl : bs.length = n) (hn : n ≤ 3000) (hcap : n ≤ cap) (hB : BytesIn w a bs) (hx : ∀ j, bs.getD j 0 < 256) (hk : k < 0 ∨ (n : Int) ≤ k) :
    Calls Try.prog 8 #[.slice a n cap, .int .i64 k] w fun e w' => e = .returned (.bool true) ∧ Below w.heap.size w w' := by
  obtain ⟨L, hL⟩ : ∃ L, (toks bs).length = L := ⟨_, rfl⟩
  have HL := hide hL
  have hLn : L ≤ 3000 := by have := toks_len bs; omega
  have HT := hide (tokens_ok a n cap bs w hl hn hcap hB hx L hL)
  have HB := hide hB
  have HK := hide (fun W => longest_who a n cap k W hn hk)
  clear hL hB hx
  rcases hk with hk | hk
  all_goals
    first
    | have hk0 : ¬ k < 0 := by omega
    | skip
    go_enter Try.func8, Try.ntmps8
    go_wp2_with fail
    refine (unhide HT).mono ?_
    rintro e w1 ⟨a1, c1, rfl, hT1, hB1⟩
    have HT1 := hide hT1
    have HB1 := hide hB1
    have hz1 := hB1.size
    clear hT1 hB1 HT
    go_wp2_with fail
    refine (unhide HK _).mono ?_
    rintro e w1' ⟨rfl, rfl⟩
    go_wp2_with fail
    refine (matched_any _).mono ?_
    rintro e w2 ⟨rfl, hB2⟩
    have hz2 := hB2.size
    have HT2 := hide ((unhide HT1).below hB2 (Nat.le_refl _))
    have HB2 := hide ((unhide HB1).trans (hB2.mono hz1))
    clear hB2 HT1 HB1
    go_wp2_with fail
    refine (tokensOf_ok a n cap bs w2 hl hn ((unhide HB).below (unhide HB2) (Nat.le_refl _)) L HL).mono ?_
    rintro e w3 ⟨a3, c3, rfl, hT3, hB3⟩
    have HB3 := hide ((unhide HB2).trans (hB3.mono (Nat.le_trans hz1 hz2)))
    have HQ := hide (equalT a1 a3 L c1 c3 (toks bs) w3 (unhide HL) hLn ((unhide HT2).below hB3 (Nat.le_refl _)) hT3)
    clear hT3 hB3 HT2 HB2
    go_wp2_with fail
    refine (unhide HQ).mono ?_
    rintro e w4 ⟨rfl, q, hw4⟩
    have HB4 : Hid (Below w.heap.size w w4) := by rw [hw4]; exact below_drewN (unhide HB3) q
    clear hw4 HQ HB3
    go_wp2
    go_ret
    exact ⟨rfl, unhide HB4⟩

set_option maxHeartbeats 2000000 in
theorem tokens_law_ok (b o n cap k : Nat) (bs : List Nat) (w : World) (hl : bs.length = n) (hn : n ≤ 3000) (hcap : n ≤ cap) (hb : b < w.heap.size) (hBy : Bytes w b o bs) (hx : ∀ j, bs.getD j 0 < 256) (hk : k < n) :
    Calls Try.prog 8 #[.slice (some ⟨b, o, none⟩) n cap, .int .i64 (k : Int)] w fun e w' => e = .returned (.bool true) ∧ Below w.heap.size w w' := by
  obtain ⟨L, hL⟩ : ∃ L, (toks bs).length = L := ⟨_, rfl⟩
  obtain ⟨rn, rf, hr⟩ : ∃ rn rf, lng bs k = (rn, rf) := ⟨_, _, rfl⟩
  have HL := hide hL
  have HR := hide hr
  have hLn : L ≤ 3000 := by have := toks_len bs; omega
  have hB : BytesIn w (some ⟨b, o, none⟩) bs := .inr ⟨b, o, rfl, hb, hBy⟩
  have HT := hide (tokens_ok (some ⟨b, o, none⟩) n cap bs w hl hn hcap hB hx L hL)
  have HB := hide hB
  have HBy := hide hBy
  have HX := hide hx
  have he1 : ((rn : Int) != (rn : Int)) = false := by simp
  have he2 : ((rf : Int) != (rf : Int)) = false := by simp
  clear hL hB hx hr hBy
  go_enter Try.func8, Try.ntmps8
  go_wp2_with fail
  refine (unhide HT).mono ?_
  rintro e w1 ⟨a1, c1, rfl, hT1, hB1⟩
  have HT1 := hide hT1
  have HB1 := hide hB1
  have hz1 := hB1.size
  have HK := hide (longest_some b o n cap k bs w1 hl hn hcap (by omega) ((unhide HBy).below hB1 hb) (unhide HX) hk rn rf HR)
  clear hT1 hB1 HT
  go_wp2_with fail
  refine (unhide HK).mono ?_
  rintro e w2 ⟨rfl, hB2⟩
  have HT2 := hide ((unhide HT1).below hB2 (Nat.le_refl _))
  have HB2 := hide ((unhide HB1).trans (hB2.mono hz1))
  have hz2 := Nat.le_trans hz1 hB2.size
  clear hB2 HT1 HB1 HK
  go_wp2_with fail
  refine (matched_any _).mono ?_
  rintro e w3 ⟨rfl, hB3⟩
  have HT3 := hide ((unhide HT2).below hB3 (Nat.le_refl _))
  have HB3 := hide ((unhide HB2).trans (hB3.mono hz2))
  have hz3 := Nat.le_trans hz2 hB3.size
  have HLO := hide (longestOf_any b o n cap k bs w3 hl hn ((unhide HBy).below (unhide HB3) hb) hk rn rf HR)
  clear hB3 HT2 HB2
  go_wp2_with fail
  refine (unhide HLO).mono ?_
  rintro e w4 ⟨rfl, q, hw4⟩
  have HB4 : Hid (Below w.heap.size w w4) := by rw [hw4]; exact below_drewN (unhide HB3) q
  have HT4 : Hid (TokIn w4 a1 (toks bs)) := by rw [hw4]; exact unhide HT3
  have hz4 : w.heap.size ≤ w4.heap.size := by rw [hw4]; exact hz3
  clear hw4 HB3 HT3 HLO
  go_wp2_with fail
  refine (tokensOf_ok (some ⟨b, o, none⟩) n cap bs w4 hl hn ((unhide HB).below (unhide HB4) (Nat.le_refl _)) L HL).mono ?_
  rintro e w5 ⟨a3, c3, rfl, hT5, hB5⟩
  have HB5 := hide ((unhide HB4).trans (hB5.mono hz4))
  have HQ := hide (equalT a1 a3 L c1 c3 (toks bs) w5 (unhide HL) hLn ((unhide HT4).below hB5 (Nat.le_refl _)) hT5)
  clear hT5 hB5 HT4 HB4
  go_wp2_with fail
  refine (unhide HQ).mono ?_
  rintro e w6 ⟨rfl, q, hw6⟩
  have HB6 : Hid (Below w.heap.size w w6) := by rw [hw6]; exact below_drewN (unhide HB5) q
  clear hw6 HQ HB5
  go_wp2
  go_ret
  exact ⟨rfl, unhide HB6⟩
end Go.Proofs.Ytmafecagcglaoab
