/-
  The library's slices.Equal on rows of int: it answers whether the two rows hold the same numbers, and changes nothing.
-/
import Derived.Test.YtmafecagcglaoabKit
namespace Go.Proofs.Ytmafecagcglaoab
open Go.RowKit
set_option linter.unusedVariables false

theorem eq_step {xs ys : List Int} {k : Nat} (h : ∀ j, j < k → xs.getD j 0 = ys.getD j 0) (hk : xs.getD k 0 = ys.getD k 0) : ∀ j, j < k + 1 → xs.getD j 0 = ys.getD j 0 := by
  intro j hj
  by_cases e : j = k
  · rw [e]; exact hk
  · exact h j (by omega)

theorem list_eq_of {xs ys : List Int} {n : Nat} (h1 : xs.length = n) (h2 : ys.length = n) (h : ∀ j, j < n → xs.getD j 0 = ys.getD j 0) : xs = ys := by
  apply List.ext_getElem (by omega)
  intro j hj1 hj2
  have := h j (by omega)
  simpa [List.getD, hj1, hj2] using this

theorem equal_ints (b1 o1 n1 c1 b2 o2 n2 c2 : Nat) (xs ys : List Int) (w : World) (h1l : xs.length = n1) (h2l : ys.length = n2) (hm1 : n1 ≤ 9223372036854775807) (hm2 : n2 ≤ 9223372036854775807)
    (h1 : Row .i64 w b1 o1 xs) (h2 : Row .i64 w b2 o2 ys) :
    Calls Try.prog 15 #[.slice (some ⟨b1, o1, none⟩) n1 c1, .slice (some ⟨b2, o2, none⟩) n2 c2] w fun e w' => e = .returned (.bool (xs == ys)) ∧ ∃ q, w' = w.drewN q := by
  by_cases hn : n1 = n2
  · subst hn
    go_enter Try.func15, Try.ntmps15
    go_wp2
    go_loopw [13] (fun i wr => ∃ k q : Nat, k ≤ n1 ∧ i = .int .i64 k ∧ wr = w.drewN q ∧ ∀ j, j < k → xs.getD j 0 = ys.getD j 0) (fun i _ => n1 - (intOf i).toNat)
    case atStart => exact ⟨0, 0, Nat.zero_le _, rfl, rfl, by omega⟩
    case round =>
      obtain ⟨k, q, hk, rfl, rfl, hall⟩ := hrel
      by_cases hlt : k < n1
      · have c1 := h1 k (by omega)
        have c2 := h2 k (by omega)
        obtain ⟨x, hx⟩ : ∃ x, xs.getD k 0 = x := ⟨_, rfl⟩
        obtain ⟨y, hy⟩ : ∃ y, ys.getD k 0 = y := ⟨_, rfl⟩
        rw [hx] at c1
        rw [hy] at c2
        have HX : Hid (xs.getD k 0 = x) := hx
        have HY : Hid (ys.getD k 0 = y) := hy
        have HA : Hid (∀ j, j < k → xs.getD j 0 = ys.getD j 0) := hall
        clear hall hx hy h1 h2
        by_cases hxy : x = y
        · have hb : (x != y) = false := by simp [hxy]
          have HXY : Hid (x = y) := hxy
          clear hxy
          go_wp2_with fail
          go_quiet (fail)
          go_wp2
          go_roundw
          case rel => exact ⟨k + 1, _, by omega, by go_num, rfl, eq_step HA.out (by rw [HX.out, HY.out]; exact HXY.out)⟩
          case measure => simp [intOf]; omega
        · have hb : (x != y) = true := by simp [hxy]
          have HXY : Hid (¬ x = y) := hxy
          clear hxy
          go_wp2_with fail
          go_quiet (fail)
          go_wp2
          go_ret
          have hne : (xs == ys) = false := by
            rw [beq_eq_false_iff_ne]
            intro e
            exact HXY.out (by rw [← HX.out, ← HY.out, e])
          rw [hne]
          exact ⟨rfl, _, World.drewN_drewN _ _ _⟩
      · have hkn : k = n1 := by omega
        have he : (xs == ys) = true := by
          rw [beq_iff_eq]
          exact list_eq_of h1l h2l (by rw [← hkn]; exact hall)
        clear hall h1 h2
        go_wp2
        go_ret
        rw [he]
        exact ⟨rfl, _, rfl⟩
  · have hne : (xs == ys) = false := by
      rw [beq_eq_false_iff_ne]
      intro e
      exact hn (by rw [← h1l, ← h2l, e])
    have hb : ((n1 : Int) != (n2 : Int)) = true := by
      rw [bne_iff_ne]
      omega
    clear h1 h2
    go_enter Try.func15, Try.ntmps15
    go_wp2
    go_ret
    rw [hne]
    exact ⟨rfl, 0, rfl⟩
end Go.Proofs.Ytmafecagcglaoab
