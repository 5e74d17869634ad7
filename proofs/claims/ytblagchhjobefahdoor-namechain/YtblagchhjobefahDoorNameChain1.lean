/-
  The law NameChain, walked: what lies under what lies under something lies under it.
-/
import Derived.Test.YtblagchhjobefahDoorNmN
namespace Go.Proofs.YtblagchhjobefahDoor
open Go.RowKit
set_option linter.unusedVariables false
set_option maxRecDepth 100000

set_option maxHeartbeats 4000000 in
theorem chain_gen (a b c : ByteArray) (x y z o k : Bool) (e f g h : Nat) (w : World)
    (c1 : ∀ W, Calls Tryd.prog 4 #[.string a, .string b] W fun E w' => E = .returned (.tuple #[.bool x, .int .i64 (e : Int)]) ∧ Below W.heap.size W w')
    (c2 : ∀ W, Calls Tryd.prog 4 #[.string b, .string c] W fun E w' => E = .returned (.tuple #[.bool y, .int .i64 (f : Int)]) ∧ Below W.heap.size W w')
    (c3 : ∀ W, Calls Tryd.prog 4 #[.string a, .string c] W fun E w' => E = .returned (.tuple #[.bool z, .int .i64 (g : Int)]) ∧ Below W.heap.size W w')
    (c4 : ∀ W, Calls Tryd.prog 4 #[.string a, .string a] W fun E w' => E = .returned (.tuple #[.bool o, .int .i64 (h : Int)]) ∧ Below W.heap.size W w')
    (c5 : e = 0 ∧ f = 0 → ∀ W, Calls Tryd.prog 4 #[.string b, .string a] W fun E w' => E = .returned (.tuple #[.bool k, .int .i64 (0 : Int)]) ∧ Below W.heap.size W w')
    (hH : (e ≠ 0) ∨ (e = 0 ∧ f ≠ 0) ∨ (e = 0 ∧ f = 0 ∧ g = 0 ∧ h = 0 ∧ o = false ∧ (x = false ∨ x = true ∧ y = false ∧ k = false ∨ x = true ∧ y = true ∧ z = true ∧ k = false))) :
    Calls Tryd.prog 3 #[.string a, .string b, .string c] w fun e w' => e = .returned (.bool true) ∧ Below w.heap.size w w' := by
  have HH := hide hH
  have C1 := hide c1
  have C2 := hide c2
  have C3 := hide c3
  have C4 := hide c4
  have C5 := hide c5
  clear hH c1 c2 c3 c4 c5
  go_enter Tryd.func3, Tryd.ntmps3
  go_wp2_with fail
  refine ((unhide C1) _).mono ?_
  rintro _ w1 ⟨rfl, hb1⟩
  have hz1 := hb1.size
  have HB1 := hide hb1
  clear hb1
  go_wp2_with fail
  refine ((unhide C2) _).mono ?_
  rintro _ w2 ⟨rfl, hb2⟩
  have hz2 := hb2.size
  have HB2 := hide ((unhide HB1).trans (hb2.mono hz1))
  clear hb2
  go_wp2_with fail
  refine ((unhide C3) _).mono ?_
  rintro _ w3 ⟨rfl, hb3⟩
  have hz3 := hb3.size
  have HB3 := hide ((unhide HB2).trans (hb3.mono (by omega)))
  clear hb3
  go_wp2_with fail
  refine ((unhide C4) _).mono ?_
  rintro _ w4 ⟨rfl, hb4⟩
  have hz4 := hb4.size
  have HB4 := hide ((unhide HB3).trans (hb4.mono (by omega)))
  clear hb4
  have hz : w.heap.size ≤ w4.heap.size := by omega
  rcases unhide HH with he | ⟨rfl, hf⟩ | ⟨rfl, rfl, rfl, rfl, rfl, hx⟩
  · go_wp2_with fail
    refine (named_any _).mono ?_
    rintro _ w5 ⟨rfl, hb5⟩
    have HB5 := hide ((unhide HB4).trans (hb5.mono hz))
    have hz5 := hb5.size
    clear hb5
    go_wp2_with fail
    refine (named_any _).mono ?_
    rintro _ w6 ⟨rfl, hb6⟩
    have HB6 := hide ((unhide HB5).trans (hb6.mono (by omega)))
    clear hb6
    go_wp2
    go_ret
    exact ⟨rfl, unhide HB6⟩
  · go_wp2_with fail
    refine (named_any _).mono ?_
    rintro _ w5 ⟨rfl, hb5⟩
    have HB5 := hide ((unhide HB4).trans (hb5.mono hz))
    have hz5 := hb5.size
    clear hb5
    go_wp2_with fail
    refine (named_any _).mono ?_
    rintro _ w6 ⟨rfl, hb6⟩
    have HB6 := hide ((unhide HB5).trans (hb6.mono (by omega)))
    clear hb6
    go_wp2
    go_ret
    exact ⟨rfl, unhide HB6⟩
  · go_wp2_with fail
    refine (named_any _).mono ?_
    rintro _ w5 ⟨rfl, hb5⟩
    have HB5 := hide ((unhide HB4).trans (hb5.mono hz))
    have hz5 := hb5.size
    clear hb5
    go_wp2_with fail
    refine ((unhide C5) (by simp) _).mono ?_
    rintro _ w6 ⟨rfl, hb6⟩
    have HB6 := hide ((unhide HB5).trans (hb6.mono (by omega)))
    clear hb6
    rcases hx with rfl | ⟨rfl, rfl, rfl⟩ | ⟨rfl, rfl, rfl, rfl⟩
    · go_wp2
      go_ret
      exact ⟨rfl, unhide HB6⟩
    · go_wp2
      go_ret
      exact ⟨rfl, unhide HB6⟩
    · go_wp2
      go_ret
      exact ⟨rfl, unhide HB6⟩

theorem chain_any (a b c : List UInt8) (w : World) (ha : a.length ≤ maxLen) (hb : b.length ≤ maxLen) (hc : c.length ≤ maxLen) :
    Calls Tryd.prog 3 #[.string (B a), .string (B b), .string (B c)] w fun e w' => e = .returned (.bool true) ∧ Below w.heap.size w w' := by
  have G := chain_gen (B a) (B b) (B c) (undB a b) (undB b c) (undB a c) (undB a a) (undB b a) (undE a b) (undE b c) (undE a c) (undE a a) w (fun W => under_any a b W ha hb) (fun W => under_any b c W hb hc) (fun W => under_any a c W ha hc) (fun W => under_any a a W ha ha)
    (fun h W => by
      obtain ⟨ea, eb⟩ := undE_zero.1 h.1
      have := under_any b a W hb ha
      rw [undE_zero.2 ⟨eb, ea⟩] at this
      exact this)
  refine G ?_
  by_cases h1 : undE a b = 0
  · obtain ⟨ea, eb⟩ := undE_zero.1 h1
    by_cases h2 : undE b c = 0
    · obtain ⟨_, ec⟩ := undE_zero.1 h2
      have h3 : undE a c = 0 := undE_zero.2 ⟨ea, ec⟩
      have h4 : undE a a = 0 := undE_zero.2 ⟨ea, ea⟩
      have h5 : undE b a = 0 := undE_zero.2 ⟨eb, ea⟩
      rw [undB_ok h1, undB_ok h2, undB_ok h3, undB_ok h4, undB_ok h5]
      refine .inr (.inr ⟨h1, h2, h3, h4, under_self a, ?_⟩)
      cases hx : under a b with
      | false => exact .inl rfl
      | true =>
        have hk := under_back hx
        cases hy : under b c with
        | false => exact .inr (.inl ⟨rfl, rfl, hk⟩)
        | true => exact .inr (.inr ⟨rfl, rfl, under_trans hx hy, hk⟩)
    · exact .inr (.inl ⟨h1, h2⟩)
  · exact .inl h1
end Go.Proofs.YtblagchhjobefahDoor
