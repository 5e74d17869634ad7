/-
  What code.Check and slices.Contains answer.
-/
import Derived.Test.YtmafecagcglaoaaCheck1
import Derived.Test.YtmafecagcglaoaaCodeChk
namespace Go.Proofs.Ytmafecagcglaoaa
open Go.RowKit
set_option linter.unusedVariables false
set_option maxRecDepth 100000

theorem index_any (a : Option Addr) (len cap : Nat) (l : List Int) (v : Int) (w : World) (hl : l.length = len) (hlen : len ≤ 288) (hR : RowIn .i64 w a l) :
    Calls Try.prog 44 #[.slice a len cap, .int .i64 v] w fun e w' => ∃ r : Int, e = .returned (.int .i64 r) ∧ w' = w ∧ (decide (0 ≤ r) = decide (v ∈ l)) := by
  have HR := hide hR
  clear hR
  go_enter Try.func44, Try.ntmps44
  go_wp2
  go_loop [8] (fun i => ∃ k : Nat, k ≤ len ∧ i = .int .i64 (k : Int) ∧ ∀ j, j < k → l.getD j 0 ≠ v) (fun i => len - (intOf i).toNat)
  case atStart => exact ⟨0, Nat.zero_le _, rfl, fun j h => by omega⟩
  case round =>
    obtain ⟨k, hk, rfl, hno⟩ := hrel
    have HNo := hide hno
    clear hno
    by_cases hlt : k < len
    · have hlk : k < l.length := by omega
      obtain ⟨b, o, rfl, hb, hRw⟩ : ∃ b o, a = some ⟨b, o, none⟩ ∧ b < w.heap.size ∧ Row .i64 w b o l := by
        rcases unhide HR with rfl | h
        · simp at hlk
        · exact h
      have c1 := hRw k hlk
      clear hRw
      generalize hx : l.getD k 0 = x at *
      have HX := hide hx
      clear hx
      by_cases hv : v = x
      · have hb1 : (v == x) = true := by rw [beq_iff_eq]; exact hv
        have HM : Hid (v ∈ l) := by
          have e : l[k] = x := by have := unhide HX; simpa [List.getD, hlk] using this
          rw [hv, ← e]; exact List.getElem_mem hlk
        clear hv
        go_wp2
        go_ret
        exact ⟨_, rfl, rfl, ⟨fun _ => unhide HM, fun _ => Int.natCast_nonneg _⟩⟩
      · have hb1 : (v == x) = false := by rw [beq_eq_false_iff_ne]; exact hv
        have HN2 : Hid (∀ j, j < k + 1 → l.getD j 0 ≠ v) := fun j hj => by
          by_cases e : j = k
          · rw [e, unhide HX]; exact fun h => hv h.symm
          · exact unhide HNo j (by omega)
        clear hv
        go_wp2
        go_round
        case rel => exact ⟨k + 1, by omega, by go_num, unhide HN2⟩
        case measure => simp [intOf]; omega
    · obtain rfl : k = len := by omega
      have HM : Hid (¬ v ∈ l) := fun h => by
        obtain ⟨j, hj, e⟩ := List.mem_iff_getElem.1 h
        exact unhide HNo j (by omega) (by simp [List.getD, hj, e])
      go_wp2
      go_ret
      exact ⟨_, rfl, rfl, ⟨fun h => absurd h (by decide), fun h => absurd h (unhide HM)⟩⟩

theorem contains_any (a : Option Addr) (len cap : Nat) (l : List Int) (v : Int) (w : World) (hl : l.length = len) (hlen : len ≤ 288) (hR : RowIn .i64 w a l) :
    Calls Try.prog 28 #[.slice a len cap, .int .i64 v] w fun e w' => e = .returned (.bool (decide (v ∈ l))) ∧ w' = w := by
  go_enter Try.func28, Try.ntmps28
  go_wp2_with fail
  refine (index_any a len cap l v w hl hlen hR).mono ?_
  rintro e w1 ⟨r, rfl, rfl, hr⟩
  have HRr := hide hr
  clear hr
  go_wp2
  go_ret
  exact ⟨ret_bool (unhide HRr), rfl⟩
end Go.Proofs.Ytmafecagcglaoaa
