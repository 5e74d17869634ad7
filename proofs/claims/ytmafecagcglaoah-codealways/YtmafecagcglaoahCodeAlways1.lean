/-
  The walk of the law CodeAlways.
-/
import Derived.Test.YtmafecagcglaoahCoded
namespace Go.Proofs.Ytmafecagcglaoah
open Go.RowKit
set_option linter.unusedVariables false

/-- of k lengths so many are above 0 -/
def usedL (l : List Int) : Nat → Nat
  | 0 => 0
  | k + 1 => usedL l k + (if 0 < l.getD k 0 then 1 else 0)
theorem usedL_cnt (l : List Int) (hok : ∀ j, j < l.length → 0 ≤ l.getD j 0) : ∀ k, k ≤ l.length → usedL l k + cnt (l.take k) 0 = k
  | 0, _ => by simp [usedL, cnt]
  | k + 1, hk => by
    have ih := usedL_cnt l hok k (by omega)
    have hk' : k < l.length := by omega
    have e : l.getD k 0 = l[k] := by simp [List.getD, hk']
    have h0 := hok k hk'
    rw [usedL, cnt, List.take_succ_eq_append_getElem hk', List.count_append, e]
    rw [e] at h0
    unfold cnt at ih
    by_cases h : 0 < l[k]
    · have h2 : ¬ l[k] = 0 := by omega
      simp [h, h2]
      simp at ih
      omega
    · have h2 : l[k] = 0 := by omega
      simp [h2]
      simp at ih
      omega

/-- what CodeAlways lets pass -/
def passes (many : Int) (used : Nat) (err : Int) : Prop := err = 0 ∨ err = 7 ∨ (err = 2 ∧ (many < 0 ∨ 3000 < many)) ∨ (err = 8 ∧ used < 2)

theorem read_passes (a : Option Addr) (len cap : Nat) (l : List Int) (ad : Option Addr) (n2 c2 : Nat) (bs : List Nat) (many : Int) (w : World) (hl : l.length = len) (hR : RowIn .i64 w a l) (hG : Good l)
    (hl2 : bs.length = n2) (hn : n2 ≤ 6000) (hx : ∀ j, bs.getD j 0 < 256) (hB2 : BytesIn w ad bs) (hf : fullB l = true) :
    Calls Try.prog 8 #[.slice a len cap, .slice ad n2 c2, .int .i64 many] w fun e w' => ∃ v err, e = .returned (.tuple #[v, .int .i64 err]) ∧ Below w.heap.size w w' ∧ passes many (usedL l len) err := by
  by_cases hbad : many < 0 ∨ 3000 < many
  · refine (read_many a len cap l ad n2 c2 many w hl hR hG (by omega) (.inr hbad)).mono ?_
    rintro e w' ⟨rfl, hB⟩
    exact ⟨_, _, rfl, hB, .inr (.inr (.inl ⟨rfl, hbad⟩))⟩
  · obtain ⟨m, rfl⟩ := Int.eq_ofNat_of_zero_le (show 0 ≤ many by omega)
    refine (read_ok a len cap l ad n2 c2 bs m w hl hR hG hl2 hn hx hB2 (by omega)).mono ?_
    rintro e w' ⟨hB, h⟩
    rcases h with ⟨g, xs, p, rfl, _, _, _⟩ | ⟨xs, k, p, p', err, rfl, he, _, _, hOut⟩
    · exact ⟨_, _, rfl, hB, .inl rfl⟩
    · refine ⟨_, _, rfl, hB, ?_⟩
      rcases hOut with ⟨_, _, _, _, _, _, _, h, _⟩ | ⟨_, _, _, _, _, h, _⟩ | ⟨hno, _, _, h, _⟩
      · exact absurd h he
      · exact .inr (.inl h)
      · refine .inr (.inr (.inr ⟨h, ?_⟩))
        rcases of_decide_eq_true hf with ⟨h1, h2⟩ | h1
        · have := usedL_cnt l (fun j hj => (hG.ok j hj).1) l.length (Nat.le_refl _)
          rw [List.take_length] at this
          rw [← hl]
          omega
        · exact absurd hno (full_met l h1 bs p)

theorem codeAlways_first (v1 : Value) (n2 c2 : Nat) (ad : Option Addr) (m : Value) (f : Bool) (pe : Int) (w : World) (hpe : (pe != 0) = true ∨ ((pe != 0) = false ∧ f = false) ∨ ((pe != 0) = false ∧ f = true ∧ (6000 : Int) < (n2 : Int)))
    (hw : Hid (Calls Try.prog 6 #[v1] w fun e w' => e = .returned (.tuple #[.bool f, .int .i64 pe]) ∧ Below w.heap.size w w')) :
    Calls Try.prog 3 #[v1, .slice ad n2 c2, m] w fun e w' => e = .returned (.bool true) ∧ Below w.heap.size w w' := by
  go_enter Try.func3, Try.ntmps3
  go_wp2_with fail
  refine (unhide hw).mono ?_
  rintro e w1 ⟨rfl, hB1⟩
  have HB1 := hide hB1
  clear hB1
  go_wp2_with fail
  refine (coded_any _).mono ?_
  rintro e w2 ⟨rfl, hB2⟩
  have HB2 := hide ((unhide HB1).trans (hB2.mono (unhide HB1).size))
  clear hB2
  rcases hpe with h | ⟨h, rfl⟩ | ⟨h, rfl, h6⟩
  · go_wp2_with fail
    refine (coded_any _).mono ?_
    rintro e w3 ⟨rfl, hB3⟩
    have HB3 := hide ((unhide HB2).trans (hB3.mono (unhide HB2).size))
    clear hB3
    go_wp2
    go_ret
    exact ⟨rfl, unhide HB3⟩
  · go_wp2_with fail
    refine (coded_any _).mono ?_
    rintro e w3 ⟨rfl, hB3⟩
    have HB3 := hide ((unhide HB2).trans (hB3.mono (unhide HB2).size))
    clear hB3
    go_wp2
    go_ret
    exact ⟨rfl, unhide HB3⟩
  · go_wp2_with fail
    refine (coded_any _).mono ?_
    rintro e w3 ⟨rfl, hB3⟩
    have HB3 := hide ((unhide HB2).trans (hB3.mono (unhide HB2).size))
    clear hB3
    go_wp2
    go_ret
    exact ⟨rfl, unhide HB3⟩

set_option maxHeartbeats 2000000 in
set_option maxRecDepth 100000 in
theorem codeAlways_ok (a : Option Addr) (len cap : Nat) (l : List Int) (ad : Option Addr) (n2 c2 : Nat) (bs : List Nat) (many : Int) (w : World) (hl : l.length = len) (hR : RowIn .i64 w a l) (hG : Good l)
    (hl2 : bs.length = n2) (hn : n2 ≤ 6000) (hx : ∀ j, bs.getD j 0 < 256) (hB2 : BytesIn w ad bs) (hf : fullB l = true) :
    Calls Try.prog 3 #[.slice a len cap, .slice ad n2 c2, .int .i64 many] w fun e w' => e = .returned (.bool true) ∧ Below w.heap.size w w' := by
  have hlen := hG.len
  have HG := hide hG
  have HR := hide hR
  have HX := hide hx
  have HY := hide hB2
  have HF := hide hf
  have EF : Hid ((if errL l = 0 then fullB l else false) = true) := by rw [if_pos (good_errL hG)]; exact hf
  have EE := hide (good_errL hG)
  go_enter Try.func3, Try.ntmps3
  go_wp2_with fail
  refine (full_any a len cap l w hl (by omega) hR).mono ?_
  rintro e w1 ⟨rfl, hB1⟩
  rw [unhide EF, unhide EE]
  have HB1 := hide hB1
  clear hB1 hR hG hx hB2 hf EF EE
  go_wp2_with fail
  refine (coded_any _).mono ?_
  rintro e w2 ⟨rfl, hB2⟩
  have HB2 := hide ((unhide HB1).trans (hB2.mono (unhide HB1).size))
  clear hB2 HB1
  go_wp2
  go_loop [9, 35] (fun u i => ∃ k : Nat, k ≤ len ∧ i = .int .i64 (k : Int) ∧ u = .int .i64 ((usedL l k : Nat) : Int) ∧ usedL l k ≤ k) (fun _ i => len - (intOf i).toNat)
  case atStart => exact ⟨0, Nat.zero_le _, rfl, rfl, Nat.le_refl _⟩
  case round =>
    obtain ⟨k, hk, rfl, rfl, hu⟩ := hrel
    by_cases hlt : k < len
    · have hlk : k < l.length := by omega
      obtain ⟨b, o, rfl, hb, hRw⟩ : ∃ b o, a = some ⟨b, o, none⟩ ∧ b < w.heap.size ∧ Row .i64 w b o l := by
        rcases unhide HR with rfl | h
        · simp at hlk
        · exact h
      have c1 := ((unhide HB2).cell (p := ⟨b, o + k, none⟩) hb).trans (hRw k hlk)
      have HU : Hid (usedL l (k + 1) = usedL l k + (if 0 < l.getD k 0 then 1 else 0)) := rfl
      clear hRw
      generalize usedL l k = u at *
      generalize l.getD k 0 = x at *
      by_cases hx0 : 0 < x
      · rw [if_pos hx0] at HU
        go_wp2
        go_round
        case rel => exact ⟨k + 1, by omega, by go_num, by rw [unhide HU]; go_num, by rw [unhide HU]; omega⟩
        case measure => simp [intOf]; omega
      · rw [if_neg hx0] at HU
        go_wp2
        go_round
        case rel => exact ⟨k + 1, by omega, by go_num, by rw [unhide HU]; rfl, by rw [unhide HU]; omega⟩
        case measure => simp [intOf]; omega
    · obtain rfl : k = len := by omega
      go_wp2_with fail
      refine (read_passes a k cap l ad n2 c2 bs many w2 hl ((unhide HR).below (unhide HB2) (Nat.le_refl _)) (unhide HG) hl2 hn (unhide HX) ((unhide HY).below (unhide HB2) (Nat.le_refl _)) (unhide HF)).mono ?_
      rintro e w3 ⟨v, err, rfl, hB3, hp⟩
      have HB3 := hide ((unhide HB2).trans (hB3.mono (unhide HB2).size))
      clear hB3
      generalize usedL l k = u at *
      rcases hp with rfl | rfl | ⟨rfl, hm⟩ | ⟨rfl, hu2⟩
      · by_cases h2 : u < 2
        · go_wp2
          go_ret
          exact ⟨rfl, unhide HB3⟩
        · go_wp2
          go_ret
          exact ⟨rfl, unhide HB3⟩
      · by_cases h2 : u < 2
        · go_wp2
          go_ret
          exact ⟨rfl, unhide HB3⟩
        · go_wp2
          go_ret
          exact ⟨rfl, unhide HB3⟩
      · by_cases h2 : u < 2
        · go_wp2
          go_ret
          exact ⟨rfl, unhide HB3⟩
        · by_cases h3 : many < 0
          · clear hm
            go_wp2
            go_ret
            exact ⟨rfl, unhide HB3⟩
          · have h4 : 3000 < many := by omega
            clear hm
            go_wp2
            go_ret
            exact ⟨rfl, unhide HB3⟩
      · go_wp2
        go_ret
        exact ⟨rfl, unhide HB3⟩
end Go.Proofs.Ytmafecagcglaoah
