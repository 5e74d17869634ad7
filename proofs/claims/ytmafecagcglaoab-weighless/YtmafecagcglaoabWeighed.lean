/-
  The closed fact that the statements on weighing ask for first: it is true.
-/
import Derived.Test.YtmafecagcglaoabWeigh7
import Derived.Test.YtmafecagcglaoabWeighEq
namespace Go.Proofs.Ytmafecagcglaoab
open Go.RowKit
set_option linter.unusedVariables false

theorem lengths4 (M : Int) (m : Nat) (hM : M = m) (h : m = 15 ∨ m = 2) (r : List Int) (hr : ∀ s, IsLens [1, 1, 2, 4] m s → s = r) (a : Option Addr) (w : World) (hR : RowIn .i64 w a [1, 1, 2, 4]) :
    Calls Try.prog 18 #[.slice a 4 4, .int .i64 M] w fun e w' => ∃ g, e = .returned (.tuple #[.slice (some ⟨g, 0, none⟩) 4 4, .int .i64 0]) ∧ RowIn .i64 w' (some ⟨g, 0, none⟩) r ∧ Below w.heap.size w w' ∧ w.heap.size ≤ g := by
  subst hM
  refine (lengths_ok a 4 4 [1, 1, 2, 4] m w rfl hR (goodW4 m h)).mono ?_
  rintro e w1 ⟨g, s, h1, h2, h3, h4, h5, h6⟩
  have := hr s h2
  subst this
  exact ⟨g, h1, h4.row, h5, h6⟩

theorem equal4 (a1 a2 : Option Addr) (xs : List Int) (w : World) (hl : xs.length = 4) (h1 : RowIn .i64 w a1 xs) (h2 : RowIn .i64 w a2 xs) :
    Calls Try.prog 15 #[.slice a1 4 4, .slice a2 4 4] w fun e w' => e = .returned (.bool true) ∧ ∃ q, w' = w.drewN q := by
  have h := equal_in a1 a2 4 4 4 4 xs xs w hl hl (by decide) (by decide) h1 h2
  have e : (xs == xs) = true := by simp
  rw [e] at h
  exact h

set_option maxHeartbeats 2000000 in
set_option maxRecDepth 100000 in
theorem weighed_any (w : World) : Calls Try.prog 21 #[] w fun e w' => e = .returned (.bool true) ∧ Below w.heap.size w w' := by
  go_enter Try.func21, Try.ntmps21
  go_wp2_with fail
  have HR0 : Hid (RowIn .i64 (w.alloc (.cells #[.int .i64 1, .int .i64 1, .int .i64 2, .int .i64 4] 3)) (some ⟨w.heap.size, 0, none⟩) [1, 1, 2, 4]) := RowIn.new .i64 w [1, 1, 2, 4] _ _ _ rfl rfl
  have HL1 := hide (lengths4 15 15 rfl (.inl rfl) [3, 3, 2, 1] (fun s h => lens4_15 h) _ _ (unhide HR0))
  refine (unhide HL1).mono ?_
  rintro e w1 ⟨g1, rfl, hW1, hB1, hg1⟩
  have hz1 := hB1.size
  have HB1 := hide (((Below.refl w.heap.size w).alloc (Nat.le_refl _) _).trans (hB1.mono (by simp)))
  have HR1 := hide hW1
  simp only [World.size_alloc] at hz1
  clear hW1 hB1 HR0 HL1
  go_wp2_with fail
  have HR2 : Hid (RowIn .i64 (w1.alloc (.cells #[.int .i64 1, .int .i64 1, .int .i64 2, .int .i64 4] 3)) (some ⟨w1.heap.size, 0, none⟩) [1, 1, 2, 4]) := RowIn.new .i64 w1 [1, 1, 2, 4] _ _ _ rfl rfl
  have HL2 := hide (lengths4 2 2 rfl (.inr rfl) [2, 2, 2, 2] (fun s h => lens4_2 h) _ _ (unhide HR2))
  refine (unhide HL2).mono ?_
  rintro e w2 ⟨g2, rfl, hW2, hB2, hg2⟩
  have hz2 := hB2.size
  have HB2 := hide (((unhide HB1).alloc (by omega) _).trans (hB2.mono (by simp; omega)))
  have HR3 := hide (((unhide HR1).alloc (.cells #[.int .i64 1, .int .i64 1, .int .i64 2, .int .i64 4] 3)).below hB2 (Nat.le_refl _))
  have HR4 := hide hW2
  simp only [World.size_alloc] at hz2
  clear hW2 hB2 HR2 HR1 HB1 HL2
  have HQ1 := hide (equal4 (some ⟨g1, 0, none⟩) (some ⟨w2.heap.size, 0, none⟩) [3, 3, 2, 1] (w2.alloc (.cells #[.int .i64 3, .int .i64 3, .int .i64 2, .int .i64 1] 3)) rfl ((unhide HR3).alloc _) (RowIn.new .i64 w2 [3, 3, 2, 1] _ _ _ rfl rfl))
  have HB3 := hide ((unhide HB2).alloc (by omega) (.cells #[.int .i64 3, .int .i64 3, .int .i64 2, .int .i64 1] 3))
  have HR5 := hide ((unhide HR4).alloc (.cells #[.int .i64 3, .int .i64 3, .int .i64 2, .int .i64 1] 3))
  have hz3 : w2.heap.size ≤ (w2.alloc (.cells #[.int .i64 3, .int .i64 3, .int .i64 2, .int .i64 1] 3)).heap.size := by simp
  clear HB2 HR3 HR4
  go_wp2_with fail
  refine (unhide HQ1).mono ?_
  rintro e w3 ⟨rfl, q3, hw3⟩
  have HB4 : Hid (Below w.heap.size w w3) := by rw [hw3]; exact below_drewN (unhide HB3) q3
  have HR6 : Hid (RowIn .i64 w3 (some ⟨g2, 0, none⟩) [2, 2, 2, 2]) := by rw [hw3]; exact (unhide HR5)
  have hz4 : w2.heap.size ≤ w3.heap.size := by rw [hw3]; exact hz3
  clear hw3 hz3 HB3 HR5 HQ1
  have HQ2 := hide (equal4 (some ⟨g2, 0, none⟩) (some ⟨w3.heap.size, 0, none⟩) [2, 2, 2, 2] (w3.alloc (.cells #[.int .i64 2, .int .i64 2, .int .i64 2, .int .i64 2] 3)) rfl ((unhide HR6).alloc _) (RowIn.new .i64 w3 [2, 2, 2, 2] _ _ _ rfl rfl))
  have HB5 := hide ((unhide HB4).alloc (by omega) (.cells #[.int .i64 2, .int .i64 2, .int .i64 2, .int .i64 2] 3))
  clear HR6 HB4
  go_wp2_with fail
  refine (unhide HQ2).mono ?_
  rintro e w4 ⟨rfl, q4, hw4⟩
  have HB6 : Hid (Below w.heap.size w w4) := by rw [hw4]; exact below_drewN (unhide HB5) q4
  clear hw4 HB5 HQ2
  go_wp2
  go_ret
  exact ⟨rfl, unhide HB6⟩
end Go.Proofs.Ytmafecagcglaoab
