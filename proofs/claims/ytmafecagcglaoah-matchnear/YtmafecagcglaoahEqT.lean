/-
  The library's slices.Equal on rows of tokens that are the same.
-/
import Derived.Test.YtmafecagcglaoahMatch5
namespace Go.Proofs.Ytmafecagcglaoah
open Go.RowKit
set_option linter.unusedVariables false
set_option maxRecDepth 100000

theorem neq_tok (tb : Nat) (ts tf : Int) (W : World) : (binOp .neq 43 (.agg #[.int .u8 (tb : Int), .int .i64 ts, .int .i64 tf]) (.agg #[.int .u8 (tb : Int), .int .i64 ts, .int .i64 tf])).run Try.prog W = .ok (.bool false) W := by
  simp [go_sem, Try.underlying43]

set_option maxHeartbeats 1000000 in
theorem equalT (a1 a2 : Option Addr) (n c1 c2 : Nat) (l : List Tk) (w : World) (hl : l.length = n) (hm : n ≤ 3000) (h1 : TokIn w a1 l) (h2 : TokIn w a2 l) :
    Calls Try.prog 37 #[.slice a1 n c1, .slice a2 n c2] w fun e w' => e = .returned (.bool true) ∧ ∃ q, w' = w.drewN q := by
  have H1 := hide h1
  have H2 := hide h2
  have hnn : ((n : Int) != (n : Int)) = false := by simp
  clear h1 h2
  go_enter Try.func37, Try.ntmps37
  go_wp2
  go_loopw [13] (fun i wr => ∃ k q : Nat, k ≤ n ∧ i = .int .i64 (k : Int) ∧ wr = w.drewN q) (fun i _ => n - (intOf i).toNat)
  case atStart => exact ⟨0, 0, Nat.zero_le _, rfl, rfl⟩
  case round =>
    obtain ⟨k, q, hk, rfl, rfl⟩ := hrel
    by_cases hlt : k < n
    · obtain ⟨b1, o1, rfl, hb1, T1⟩ : ∃ b o, a1 = some ⟨b, o, none⟩ ∧ b < w.heap.size ∧ Toks w b o l := by
        rcases unhide H1 with rfl | h
        · simp at hl; omega
        · exact h
      obtain ⟨b2, o2, rfl, hb2, T2⟩ : ∃ b o, a2 = some ⟨b, o, none⟩ ∧ b < w.heap.size ∧ Toks w b o l := by
        rcases unhide H2 with rfl | h
        · simp at hl; omega
        · exact h
      obtain ⟨x1, x2, x3⟩ := T1 k (by omega)
      obtain ⟨y1, y2, y3⟩ := T2 k (by omega)
      clear T1 T2
      generalize l.getD k (0, 0, 0) = t at *
      obtain ⟨tb, ts, tf⟩ := t
      simp only at x1 x2 x3 y1 y2 y3
      have hq := neq_tok tb ts tf
      go_wp2
      go_quiet (fail)
      go_wp2
      go_roundw
      case rel => exact ⟨k + 1, _, by omega, by go_num, rfl⟩
      case measure => simp [intOf]; omega
    · obtain rfl : n = k := by omega
      go_wp2
      go_ret
      exact ⟨rfl, q, rfl⟩
end Go.Proofs.Ytmafecagcglaoah
