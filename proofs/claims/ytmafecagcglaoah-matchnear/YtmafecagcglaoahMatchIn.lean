/-
  Tokens of any bytes that are not too many; rows of a call's own as rows that are read.
-/
import Derived.Test.YtmafecagcglaoahMatch9
namespace Go.Proofs.Ytmafecagcglaoah
open Go.RowKit
set_option linter.unusedVariables false
set_option maxRecDepth 100000

theorem bytesIn_some {w : World} {a : Option Addr} {bs : List Nat} (h : BytesIn w a bs) (hp : 0 < bs.length) : ∃ b o, a = some ⟨b, o, none⟩ ∧ b < w.heap.size ∧ Bytes w b o bs := by
  rcases h with rfl | h
  · simp at hp
  · exact h

theorem TokIn.ofOwn {w : World} {B n : Nat} {v : Value} {l : List Tk} (h : w.ownsRow B 43 3 v n (tvs l)) : l.length = n ∧ ∃ a c, v = .slice a n c ∧ TokIn w a l := by
  have hn : l.length = n := by have := h.1; rw [tvs_length] at this; omega
  refine ⟨hn, ?_⟩
  rcases h.2 with ⟨h1, h2⟩ | ⟨g, cap, cur, h1, _⟩
  · subst h2
    exact ⟨none, 0, h1, .inl (List.eq_nil_of_length_eq_zero hn)⟩
  · subst h1
    exact ⟨_, _, rfl, TokIn.own h⟩
theorem BytesIn.ofOwn {w : World} {B n : Nat} {v : Value} {xs : List Nat} (h : w.ownsRow B 5 1 v n (u8s xs)) : xs.length = n ∧ ∃ a c, v = .slice a n c ∧ BytesIn w a xs := by
  have hn : xs.length = n := by have := h.1; simpa using this
  refine ⟨hn, ?_⟩
  rcases h.2 with ⟨h1, h2⟩ | ⟨g, cap, cur, h1, _⟩
  · subst h2
    exact ⟨none, 0, h1, .inl (List.eq_nil_of_length_eq_zero hn)⟩
  · subst h1
    exact ⟨_, _, rfl, BytesIn.own h⟩

/-- Tokens, where there are not too many bytes -/
theorem tokens_ok (a : Option Addr) (n cap : Nat) (bs : List Nat) (w : World) (hl : bs.length = n) (hn : n ≤ 3000) (hcap : n ≤ cap) (hB : BytesIn w a bs) (hx : ∀ j, bs.getD j 0 < 256) (L : Nat) (hL : Hid ((toks bs).length = L)) :
    Calls Try.prog 16 #[.slice a n cap] w fun e w' => ∃ a1 c1, e = .returned (.tuple #[.slice a1 L c1, .int .i64 0]) ∧ TokIn w' a1 (toks bs) ∧ Below w.heap.size w w' := by
  by_cases h0 : n = 0
  · subst h0
    obtain rfl : bs = [] := List.eq_nil_of_length_eq_zero hl
    obtain rfl : 0 = L := unhide hL
    refine (tokens_none a cap w).mono ?_
    rintro e w' ⟨rfl, h⟩
    exact ⟨none, 0, rfl, .inl rfl, h⟩
  · obtain ⟨b, o, rfl, hb, hBy⟩ := bytesIn_some hB (by omega)
    refine (tokens_some b o n cap bs w hl hn hcap hb hBy hx).mono ?_
    rintro e w' ⟨v, rfl, hO, h⟩
    obtain ⟨h1, a1, c1, rfl, h2⟩ := TokIn.ofOwn hO
    rw [unhide hL]
    exact ⟨a1, c1, rfl, h2, h⟩
end Go.Proofs.Ytmafecagcglaoah
