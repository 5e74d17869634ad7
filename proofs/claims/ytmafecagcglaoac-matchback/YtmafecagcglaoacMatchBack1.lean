/-
  The walk of the law MatchBack.
-/
import Derived.Test.YtmafecagcglaoacMatched
namespace Go.Proofs.Ytmafecagcglaoac
open Go.RowKit
set_option linter.unusedVariables false
set_option maxRecDepth 100000

theorem TokIn.ofOwn {w : World} {B n : Nat} {v : Value} {l : List Tk} (h : w.ownsRow B 35 3 v n (tvs l)) : l.length = n ∧ ∃ a c, v = .slice a n c ∧ TokIn w a l := by
  have hn : l.length = n := by have := h.1; rw [tvs_length] at this; omega
  refine ⟨hn, ?_⟩
  rcases h.2 with ⟨h1, h2⟩ | ⟨g, cap, cur, h1, _⟩
  · subst h2
    exact ⟨none, 0, h1, .inl (List.eq_nil_of_length_eq_zero hn)⟩
  · subst h1
    exact ⟨_, _, rfl, TokIn.own h⟩
theorem BytesIn.ofOwn {w : World} {B n : Nat} {v : Value} {xs : List Nat} (h : w.ownsRow B 5 1 v n (u8s xs)) : xs.length = n ∧ ∃ a c, v = .slice a n c ∧ BytesIn w a xs := by
  have hn : xs.length = n := by have := h.1; simpa using this
  refine ⟨hn, ?_⟩
  rcases h.2 with ⟨h1, h2⟩ | ⟨g, cap, cur, h1, _⟩
  · subst h2
    exact ⟨none, 0, h1, .inl (List.eq_nil_of_length_eq_zero hn)⟩
  · subst h1
    exact ⟨_, _, rfl, BytesIn.own h⟩

/-- Tokens, where there are not too many bytes -/
theorem tokens_ok (a : Option Addr) (n cap : Nat) (bs : List Nat) (w : World) (hl : bs.length = n) (hn : n ≤ 3000) (hcap : n ≤ cap) (hB : BytesIn w a bs) (hx : ∀ j, bs.getD j 0 < 256) (L : Nat) (hL : Hid ((toks bs).length = L)) :
    Calls Try.prog 4 #[.slice a n cap] w fun e w' => ∃ a1 c1, e = .returned (.tuple #[.slice a1 L c1, .int .i64 0]) ∧ TokIn w' a1 (toks bs) ∧ Below w.heap.size w w' := by
  by_cases h0 : n = 0
  · subst h0
    obtain rfl : bs = [] := List.eq_nil_of_length_eq_zero hl
    obtain rfl : 0 = L := unhide hL
    refine (tokens_none a cap w).mono ?_
    rintro e w' ⟨rfl, h⟩
    exact ⟨none, 0, rfl, .inl rfl, h⟩
  · obtain ⟨b, o, rfl, hb, hBy⟩ := bytesIn_some hB (by omega)
    refine (tokens_some b o n cap bs w hl hn hcap hb hBy hx).mono ?_
    rintro e w' ⟨v, rfl, hO, h⟩
    obtain ⟨h1, a1, c1, rfl, h2⟩ := TokIn.ofOwn hO
    rw [unhide hL]
    exact ⟨a1, c1, rfl, h2, h⟩

set_option maxHeartbeats 1000000 in
theorem back_many (a : Option Addr) (n cap : Nat) (w : World) (h : 3000 < n) : Calls Try.prog 3 #[.slice a n cap] w fun e w' => e = .returned (.bool true) ∧ Below w.heap.size w w' := by
  go_enter Try.func3, Try.ntmps3
  go_wp2_with fail
  refine (tokens_many a n cap w h).mono ?_
  rintro e w1 ⟨rfl, rfl⟩
  go_wp2_with fail
  refine (matched_any _).mono ?_
  rintro e w2 ⟨rfl, hB2⟩
  have HB2 := hide hB2
  have hz2 := hB2.size
  clear hB2
  go_wp2_with fail
  refine (matched_any _).mono ?_
  rintro e w3 ⟨rfl, hB3⟩
  have HB3 := hide ((unhide HB2).trans (hB3.mono hz2))
  clear hB3
  go_wp2
  go_ret
  exact ⟨rfl, unhide HB3⟩

set_option maxHeartbeats 1000000 in
theorem back_few (a : Option Addr) (n cap : Nat) (bs : List Nat) (w : World) (hl : bs.length = n) (hn : n ≤ 3000) (hcap : n ≤ cap) (hB : BytesIn w a bs) (hx : ∀ j, bs.getD j 0 < 256) : Calls Try.prog 3 #[.slice a n cap] w fun e w' => e = .returned (.bool true) ∧ Below w.heap.size w w' := by
  obtain ⟨L, hL⟩ : ∃ L, (toks bs).length = L := ⟨_, rfl⟩
  have HL := hide hL
  have hLn : L ≤ n := by have := toks_len bs; omega
  have HT := hide (tokens_ok a n cap bs w hl hn hcap hB hx L hL)
  have HB := hide hB
  have HX := hide hx
  have HE := hide (toks_err bs (by omega))
  have HQ := hide (toks_exp bs)
  have hbb : (bs == bs) = true := by simp
  clear hL hB hx
  go_enter Try.func3, Try.ntmps3
  go_wp2_with fail
  refine (unhide HT).mono ?_
  rintro e w1 ⟨a1, c1, rfl, hT1, hB1⟩
  have HT1 := hide hT1
  have HB1 := hide hB1
  have hz1 := hB1.size
  clear hT1 hB1 HT
  go_wp2_with fail
  refine (matched_any _).mono ?_
  rintro e w2 ⟨rfl, hB2⟩
  have hz2 := hB2.size
  have HT2 := hide ((unhide HT1).below hB2 (Nat.le_refl _))
  have HB2 := hide ((unhide HB1).trans (hB2.mono hz1))
  clear hB2 HT1 HB1
  go_wp2_with fail
  refine (expand_ok a1 L c1 (toks bs) w2 (unhide HL) (unhide HT2) (unhide HE) bs HQ).mono ?_
  rintro e w3 ⟨v, rfl, hO3, hB3⟩
  obtain ⟨_, a3, c3, rfl, hb3⟩ := BytesIn.ofOwn hO3
  have HB3 := hide ((unhide HB2).trans (hB3.mono (Nat.le_trans hz1 hz2)))
  have HQ3 := hide (bequal_in a3 a n c3 n cap bs bs w3 hl hl (unhide HX) (unhide HX) hb3 (((unhide HB)).below (unhide HB3) (Nat.le_refl _)))
  rw [hbb] at HQ3
  clear hO3 hB3 hb3 hbb
  go_wp2_with fail
  refine (unhide HQ3).mono ?_
  rintro e w4 ⟨rfl, rfl⟩
  go_wp2
  go_ret
  exact ⟨rfl, unhide HB3⟩
end Go.Proofs.Ytmafecagcglaoac
