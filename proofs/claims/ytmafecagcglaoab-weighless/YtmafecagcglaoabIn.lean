/-
  slices.Equal on rows of numbers that may be nil.
-/
import Derived.Test.YtmafecagcglaoabEq
import Derived.Test.YtmafecagcglaoabIn0
namespace Go.Proofs.Ytmafecagcglaoab
open Go.RowKit
set_option linter.unusedVariables false

theorem equal_in (a1 a2 : Option Addr) (n1 c1 n2 c2 : Nat) (xs ys : List Int) (w : World) (h1l : xs.length = n1) (h2l : ys.length = n2) (hm1 : n1 ≤ 9223372036854775807) (hm2 : n2 ≤ 9223372036854775807) (h1 : RowIn .i64 w a1 xs) (h2 : RowIn .i64 w a2 ys) :
    Calls Try.prog 15 #[.slice a1 n1 c1, .slice a2 n2 c2] w fun e w' => e = .returned (.bool (xs == ys)) ∧ ∃ q, w' = w.drewN q := by
  by_cases hn : n1 = n2
  · subst hn
    rcases h1 with rfl | ⟨b1, o1, rfl, _, h1⟩
    · obtain rfl : n1 = 0 := by simp at h1l; omega
      obtain rfl : ys = [] := List.eq_nil_of_length_eq_zero h2l
      clear h2
      go_enter Try.func15, Try.ntmps15
      go_wp2
      go_loop [13] (fun i => i = .int .i64 0) (fun i => 0)
      case atStart => exact rfl
      case round =>
        obtain rfl := hrel
        go_wp2
        go_ret
        exact ⟨rfl, 0, rfl⟩
    · rcases h2 with rfl | ⟨b2, o2, rfl, _, h2⟩
      · obtain rfl : n1 = 0 := by simp at h2l; omega
        obtain rfl : xs = [] := List.eq_nil_of_length_eq_zero h1l
        clear h1
        go_enter Try.func15, Try.ntmps15
        go_wp2
        go_loop [13] (fun i => i = .int .i64 0) (fun i => 0)
        case atStart => exact rfl
        case round =>
          obtain rfl := hrel
          go_wp2
          go_ret
          exact ⟨rfl, 0, rfl⟩
      · exact equal_ints b1 o1 n1 c1 b2 o2 n1 c2 xs ys w h1l h2l hm1 hm2 h1 h2
  · have hne : (xs == ys) = false := by
      rw [beq_eq_false_iff_ne]
      intro e
      exact hn (by rw [← h1l, ← h2l, e])
    have hb : ((n1 : Int) != (n2 : Int)) = true := by
      rw [bne_iff_ne]
      omega
    clear h1 h2
    go_enter Try.func15, Try.ntmps15
    go_wp2
    go_ret
    rw [hne]
    exact ⟨rfl, 0, rfl⟩

end Go.Proofs.Ytmafecagcglaoab
