/-
  The closed fact that the statements on bits ask for first: it is true.
-/
import Derived.Test.YtmafecagcglaoaaBeq
import Derived.Test.YtmafecagcglaoaaUnpack
import Derived.Test.YtmafecagcglaoaaEq
namespace Go.Proofs.Ytmafecagcglaoaa
open Go.RowKit
set_option linter.unusedVariables false
set_option maxRecDepth 100000

theorem turn_34 (w : World) : Calls Try.prog 18 #[.int .i64 3, .int .i64 4] w fun e w' => e = .returned (.tuple #[.int .i64 12, .int .i64 0]) ∧ w' = w := by
  have h := turn_yes 3 4 w (by decide) (by omega) (by omega)
  have e : turnL 3 4 = 12 := by decide
  rw [e] at h
  exact h

theorem fit_57 : AllFit [(5, 3), (1, 7)] := by
  intro j hj
  match j, hj with
  | 0, _ => decide
  | 1, _ => decide
theorem size_37 : AllSize [3, 7] := by
  intro j hj
  match j, hj with
  | 0, _ => decide
  | 1, _ => decide

theorem lt_13 : ∀ j, [13, 0].getD j 0 < 256 := by
  intro j
  match j with
  | 0 => decide
  | 1 => decide
  | j + 2 => simp

set_option maxHeartbeats 1000000 in
theorem rowed_any (w : World) : Calls Try.prog 13 #[] w fun e w' => e = .returned (.bool true) ∧ Below w.heap.size w w' := by
  have ea : (atL [(5, 3), (1, 7)] 2 + 7) / 8 = 2 := by decide
  have er : rowL [(5, 3), (1, 7)] 2 = [13, 0] := by decide
  have en : numL [13, 0] [3, 7] 2 = [5, 1] := by decide
  have es : sumL [3, 7] 2 = 10 := by decide
  have EA := hide ea
  have ER := hide er
  have EN := hide en
  have ES := hide es
  clear ea er en es
  go_enter Try.func13, Try.ntmps13
  go_wp2_with fail
  refine (pack_yes w.heap.size 0 2 2 [(5, 3), (1, 7)] _ rfl (by omega) (by simp) ?_ fit_57).mono ?_
  · intro j hj
    match j, hj with
    | 0, _ => exact ⟨by simp, by simp⟩
    | 1, _ => exact ⟨by simp, by simp⟩
  rintro e w1 ⟨g, rfl, hO, hB, hg⟩
  rw [unhide EA, unhide ER] at hO
  rw [unhide EA]
  have hBz := hB.size
  have hBW := hide (((Below.refl w.heap.size w).alloc (Nat.le_refl _) _).trans (hB.mono (by simp)))
  have HO := hide hO
  simp only [World.size_alloc] at hBz hg
  clear hO hB
  go_wp2_with fail
  refine (unpack_yes (some ⟨g, 0, none⟩) 2 2 w1.heap.size 0 2 2 [13, 0] [3, 7] _ (by omega) rfl lt_13 ?_ rfl (by omega) (by simp) ?_ size_37 (by rw [unhide ES]; omega)).mono ?_
  · exact BytesIn.own ((unhide HO).alloc _)
  · exact Row.new .i64 _ _ _ _ _ rfl rfl
  rintro e w2 ⟨g2, rfl, hO2, hB2, hg2⟩
  rw [unhide EN] at hO2
  have hBz2 := hB2.size
  have hg1 := ((unhide HO).lt g rfl).2
  have hX2 := hide ((BytesIn.own ((unhide HO).alloc _)).below hB2 (Nat.le_refl _))
  have hB3 := hide (((unhide hBW).alloc (by omega) _).trans (hB2.mono (by simp; omega)))
  simp only [World.size_alloc] at hBz2 hg2
  have HO2 := hide hO2
  clear hB2 hO2
  go_wp2_with fail
  refine (turn_34 _).mono ?_
  rintro e w3 ⟨rfl, rfl⟩
  go_wp2_with fail
  have e1 : (([13, 0] : List Nat) == [13, 0]) = true := by decide
  have e2 : (([5, 1] : List Int) == [5, 1]) = true := by decide
  refine (bequal_in _ _ _ _ _ _ [13, 0] [13, 0] _ rfl rfl lt_13 lt_13 ((unhide hX2).alloc _) (BytesIn.new _ _ _ _ _ rfl rfl)).mono ?_
  rintro e w4 ⟨rfl, rfl⟩
  rw [e1]
  go_wp2_with fail
  refine (equal_in _ _ _ _ _ _ [5, 1] [5, 1] _ rfl rfl (by decide) (by decide) (((RowIn.own (unhide HO2)).alloc _).alloc _) (RowIn.new .i64 _ _ _ _ _ (by simp) rfl)).mono ?_
  rintro e w5 ⟨rfl, q, rfl⟩
  rw [e2]
  go_wp2
  go_ret
  refine ⟨rfl, below_drewN (((unhide hB3).alloc (by omega) _).alloc (by simp; omega) _) q⟩
end Go.Proofs.Ytmafecagcglaoaa
