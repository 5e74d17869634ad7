/-
  slices.ContainsFunc by the closure of the law CodeWrite.
-/
import Derived.Test.YtmafecagcglaoaaCheck1
import Derived.Test.YtmafecagcglaoaaCode5
namespace Go.Proofs.Ytmafecagcglaoaa
open Go.RowKit
set_option linter.unusedVariables false
set_option maxRecDepth 100000

theorem notPlace_any (a : Option Addr) (len cap : Nat) (l : List Int) (bx : Nat) (k : Int) (W : World) (hl : l.length = len) (hlen : len ≤ 288) (hR : RowIn .i64 W a l) (hbox : W.cell? ⟨bx, 0, none⟩ = some (.slice a len cap)) :
    Calls Try.prog 32 #[.int .i64 k, .pointer (some ⟨bx, 0, none⟩)] W fun e w' => e = .returned (.bool (!okPlace l k)) ∧ w' = W := by
  by_cases hk0 : k < 0
  · have e : okPlace l k = false := decide_eq_false (by omega)
    rw [e]
    clear hR e
    go_enter Try.func32, Try.ntmps32
    go_wp2
    go_ret
    exact ⟨rfl, rfl⟩
  · obtain ⟨p, rfl⟩ := Int.eq_ofNat_of_zero_le (show 0 ≤ k by omega)
    by_cases hp : p < len
    · have hpl : p < l.length := by omega
      obtain ⟨b, o, rfl, hb, hRw⟩ : ∃ b o, a = some ⟨b, o, none⟩ ∧ b < W.heap.size ∧ Row .i64 W b o l := by
        rcases hR with rfl | h
        · simp at hpl
        · exact h
      have c1 := hRw p hpl
      have hpI : (p : Int) < (len : Int) := by omega
      have hpI2 : ¬ (len : Int) ≤ (p : Int) := by omega
      have E : Hid (okPlace l (p : Int) = !(l.getD p 0 == 0)) := by
        unfold Hid okPlace
        rw [Int.toNat_natCast]
        by_cases h0 : l.getD p 0 = 0
        · rw [h0]; simp
        · have : (l.getD p 0 == 0) = false := by rw [beq_eq_false_iff_ne]; exact h0
          rw [this]
          simp only [Bool.not_false, decide_eq_true_eq]
          exact ⟨by omega, by omega, h0⟩
      clear hRw hR
      rw [unhide E, Bool.not_not]
      generalize l.getD p 0 = x at *
      go_enter Try.func32, Try.ntmps32
      go_wp2
      go_ret
      exact ⟨rfl, rfl⟩
    · have e : okPlace l (p : Int) = false := decide_eq_false (by omega)
      have hpI : (len : Int) ≤ (p : Int) := by omega
      rw [e]
      clear hR e
      go_enter Try.func32, Try.ntmps32
      go_wp2
      go_ret
      exact ⟨rfl, rfl⟩

abbrev WF (bx : Nat) : Value := .func (.func 32) #[] #[.pointer (some ⟨bx, 0, none⟩)]

theorem indexFunc_any (a : Option Addr) (len cap : Nat) (l : List Int) (bx : Nat) (a2 : Option Addr) (len2 cap2 : Nat) (ps : List Int) (W : World) (hl : l.length = len) (hlen : len ≤ 288) (hR : RowIn .i64 W a l) (hbox : W.cell? ⟨bx, 0, none⟩ = some (.slice a len cap)) (hl2 : ps.length = len2) (hlen2 : len2 ≤ 3000) (hR2 : RowIn .i64 W a2 ps) :
    Calls Try.prog 49 #[.slice a2 len2 cap2, WF bx] W fun e w' => ∃ r : Int, e = .returned (.int .i64 r) ∧ w' = W ∧ (decide (0 ≤ r) = decide (∃ j, j < len2 ∧ okPlace l (ps.getD j 0) = false)) := by
  have HR2 := hide hR2
  have HN := hide (fun k => notPlace_any a len cap l bx k W hl hlen hR hbox)
  clear hR2 hR hbox
  go_enter Try.func49, Try.ntmps49
  go_wp2
  go_loop [8] (fun i => ∃ k : Nat, k ≤ len2 ∧ i = .int .i64 (k : Int) ∧ ∀ j, j < k → okPlace l (ps.getD j 0) = true) (fun i => len2 - (intOf i).toNat)
  case atStart => exact ⟨0, Nat.zero_le _, rfl, fun j h => by omega⟩
  case round =>
    obtain ⟨k, hk, rfl, hno⟩ := hrel
    have HNo := hide hno
    clear hno
    by_cases hlt : k < len2
    · have hlk : k < ps.length := by omega
      obtain ⟨b, o, rfl, hb, hRw⟩ : ∃ b o, a2 = some ⟨b, o, none⟩ ∧ b < W.heap.size ∧ Row .i64 W b o ps := by
        rcases unhide HR2 with rfl | h
        · simp at hlk
        · exact h
      have c1 := hRw k hlk
      clear hRw
      have HX : Hid (ps.getD k 0 = ps.getD k 0) := rfl
      generalize hx : ps.getD k 0 = x at *
      have HXX := hide hx
      clear hx HX
      go_wp2_with fail
      refine (unhide HN x).mono ?_
      rintro e w1 ⟨rfl, hw⟩
      rw [hw]
      clear hw w1
      cases hok : okPlace l x with
      | false =>
        have HM : Hid (∃ j, j < len2 ∧ okPlace l (ps.getD j 0) = false) := ⟨k, hlt, by rw [unhide HXX]; exact hok⟩
        clear hok
        go_wp2
        go_ret
        exact ⟨_, rfl, rfl, by first | exact ⟨fun _ => unhide HM, fun _ => Int.natCast_nonneg _⟩ | exact (decide_eq_true (Int.natCast_nonneg _)).trans (decide_eq_true (unhide HM)).symm⟩
      | true =>
        have HN2 : Hid (∀ j, j < k + 1 → okPlace l (ps.getD j 0) = true) := fun j hj => by
          by_cases e : j = k
          · rw [e, unhide HXX]; exact hok
          · exact unhide HNo j (by omega)
        clear hok
        go_wp2
        go_round
        case rel => exact ⟨k + 1, by omega, by go_num, unhide HN2⟩
        case measure => simp [intOf]; omega
    · obtain rfl : k = len2 := by omega
      have HM : Hid (¬ ∃ j, j < k ∧ okPlace l (ps.getD j 0) = false) := fun ⟨j, hj, e⟩ => by
        rw [unhide HNo j hj] at e; cases e
      go_wp2
      go_ret
      exact ⟨_, rfl, rfl, by first | exact ⟨fun h => absurd h (by decide), fun h => absurd h (unhide HM)⟩ | exact (decide_eq_false (by decide)).trans (decide_eq_false (unhide HM)).symm⟩

theorem containsFunc_any (a : Option Addr) (len cap : Nat) (l : List Int) (bx : Nat) (a2 : Option Addr) (len2 cap2 : Nat) (ps : List Int) (W : World) (hl : l.length = len) (hlen : len ≤ 288) (hR : RowIn .i64 W a l) (hbox : W.cell? ⟨bx, 0, none⟩ = some (.slice a len cap)) (hl2 : ps.length = len2) (hlen2 : len2 ≤ 3000) (hR2 : RowIn .i64 W a2 ps) :
    Calls Try.prog 31 #[.slice a2 len2 cap2, WF bx] W fun e w' => e = .returned (.bool (decide (∃ j, j < len2 ∧ okPlace l (ps.getD j 0) = false))) ∧ w' = W := by
  go_enter Try.func31, Try.ntmps31
  go_wp2_with fail
  refine (indexFunc_any a len cap l bx a2 len2 cap2 ps W hl hlen hR hbox hl2 hlen2 hR2).mono ?_
  rintro e w1 ⟨r, rfl, hw, hr⟩
  rw [hw]
  have HRr := hide hr
  clear hr hw w1
  go_wp2
  go_ret
  exact ⟨ret_bool (unhide HRr), rfl⟩
end Go.Proofs.Ytmafecagcglaoaa
