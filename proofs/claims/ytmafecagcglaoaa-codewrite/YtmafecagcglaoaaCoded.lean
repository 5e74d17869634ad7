/-
  The closed fact that the statements on codes ask for first: it is true.
-/
import Derived.Test.YtmafecagcglaoaaCode11
import Derived.Test.YtmafecagcglaoaaCode6
namespace Go.Proofs.Ytmafecagcglaoaa
open Go.RowKit
set_option linter.unusedVariables false

theorem good4 : Good [2, 1, 3, 3] := by
  refine ⟨by decide, ?_, by decide⟩
  intro j hj
  match j, hj with
  | 0, _ => decide
  | 1, _ => decide
  | 2, _ => decide
  | 3, _ => decide
theorem all3 : ∀ j, j < 3 → okPlace [2, 1, 3, 3] (([3, 1, 0] : List Int).getD j 0) = true := by
  intro j hj
  match j, hj with
  | 0, _ => decide
  | 1, _ => decide
  | 2, _ => decide
theorem list_of_getD {xs : List Nat} {ys : List Int} (hl : xs.length = ys.length) (h : ∀ j, j < ys.length → ((xs.getD j 0 : Nat) : Int) = ys.getD j 0) : xs.map (fun x : Nat => (x : Int)) = ys := by
  apply List.ext_getElem (by simpa using hl)
  intro j h1 h2
  have := h j h2
  have h3 : j < xs.length := by omega
  simpa [List.getD, h2, h3] using this

set_option maxHeartbeats 2000000 in
set_option maxRecDepth 100000 in
theorem coded_any (w : World) : Calls Try.prog 25 #[] w fun e w' => e = .returned (.bool true) ∧ Below w.heap.size w w' := by
  have ec : codL [2, 1, 3, 3] 4 = [2, 0, 6, 7] := by decide
  have ef : (if errL [2, 1, 3, 3] = 0 then fullB [2, 1, 3, 3] else false) = true := by rw [if_pos (good_errL good4)]; decide
  have ee := good_errL good4
  have hn6 : (atL (([3, 1, 0] : List Int).map (prL [2, 1, 3, 3])) 3 + 7) / 8 ≤ 6000 := by decide
  have EC := hide ec
  have EF := hide ef
  have EE := hide ee
  have N6 := hide hn6
  clear ec ef ee hn6
  go_enter Try.func25, Try.ntmps25
  go_wp2_with fail
  have HR0 : Hid (RowIn .i64 (w.alloc (.cells #[.int .i64 2, .int .i64 1, .int .i64 3, .int .i64 3] 3)) (some ⟨w.heap.size, 0, none⟩) [2, 1, 3, 3]) := RowIn.new .i64 w [2, 1, 3, 3] _ _ _ rfl rfl
  refine (codes_ok _ 4 4 [2, 1, 3, 3] _ rfl (unhide HR0) good4).mono ?_
  rintro e w1 ⟨g1, rfl, hO1, hB1, hg1⟩
  have hz1 := hB1.size
  have HB1 := hide (((Below.refl w.heap.size w).alloc (Nat.le_refl _) _).trans (hB1.mono (by simp)))
  have HR1 := hide ((unhide HR0).below hB1 (Nat.le_refl _))
  rw [unhide EC] at hO1
  have HC1 := hide (RowIn.own hO1)
  simp only [World.size_alloc] at hz1
  clear hO1 hB1 HR0
  go_wp2_with fail
  refine (full_any _ 4 4 [2, 1, 3, 3] _ rfl (by decide) (unhide HR1)).mono ?_
  rintro e w2 ⟨rfl, hB2⟩
  rw [unhide EF, unhide EE]
  have hz2 := hB2.size
  have HB2 := hide ((unhide HB1).trans (hB2.mono (by omega)))
  have HR2 := hide ((unhide HR1).below hB2 (Nat.le_refl _))
  have HC2 := hide ((unhide HC1).below hB2 (Nat.le_refl _))
  clear hB2 HR1 HB1 HC1
  go_wp2_with fail
  have HP2 : Hid (RowIn .i64 (w2.alloc (.cells #[.int .i64 3, .int .i64 1, .int .i64 0] 3)) (some ⟨w2.heap.size, 0, none⟩) [3, 1, 0]) := RowIn.new .i64 w2 [3, 1, 0] _ _ _ rfl rfl
  refine (write_ok _ 4 4 [2, 1, 3, 3] _ 3 3 [3, 1, 0] _ rfl ((unhide HR2).alloc _) good4 rfl (by decide) (unhide HP2) all3).mono ?_
  rintro e w3 ⟨g3, nb, rfl, hnb, hO3, hB3, hg3⟩
  have hz3 := hB3.size
  have HB3 := hide (((unhide HB2).alloc (by omega) _).trans (hB3.mono (by simp; omega)))
  have HR3 := hide (((unhide HR2).alloc (.cells #[.int .i64 3, .int .i64 1, .int .i64 0] 3)).below hB3 (Nat.le_refl _))
  have HC3 := hide (((unhide HC2).alloc (.cells #[.int .i64 3, .int .i64 1, .int .i64 0] 3)).below hB3 (Nat.le_refl _))
  have HY3 := hide (BytesIn.own hO3)
  have HNB := hide hnb
  simp only [World.size_alloc] at hz3
  clear hB3 hO3 HR2 HB2 HC2 HP2 hnb
  go_wp2_with fail
  refine (read_ok _ 4 4 [2, 1, 3, 3] (some ⟨g3, 0, none⟩) nb nb (rowL (([3, 1, 0] : List Int).map (prL [2, 1, 3, 3])) 3) 3 _ rfl (unhide HR3) good4 (by rw [rowL_length, unhide HNB]; rfl) (by rw [unhide HNB]; exact unhide N6) (rowL_lt _ 3) (unhide HY3) (by decide)).mono ?_
  rintro e w4 ⟨hB4, hw4⟩
  rcases hw4 with ⟨g4, xs, p4, rfl, hxl, hO4, hRT⟩ | ⟨xs, k, p, p', err, rfl, he, hk, hRT, hOut⟩
  · have hxs := list_of_getD (xs := xs) (ys := [3, 1, 0]) (by rw [hxl]; rfl) (read_back [2, 1, 3, 3] good4 [3, 1, 0] all3 xs 3 p4 (Nat.le_refl _) hRT).2
    have h4 := RowIn.own hO4
    rw [hxs] at h4
    have HP4 := hide h4
    have hz4 := hB4.size
    have HB4 := hide ((unhide HB3).trans (hB4.mono (by omega)))
    have HC4 := hide ((unhide HC3).below hB4 (Nat.le_refl _))
    clear hB4 hO4 hRT hxs h4 HR3 HB3 HC3 HY3 HNB hxl EC EF EE N6
    have e1 : ((([2, 0, 6, 7] : List Nat).map fun x : Nat => (x : Int)) == [2, 0, 6, 7]) = true := by decide
    have e2 : (([3, 1, 0] : List Int) == [3, 1, 0]) = true := by decide
    have E1 := hide e1
    have E2 := hide e2
    clear e1 e2
    go_wp2_with fail
    refine (equal_in _ _ _ _ _ _ (([2, 0, 6, 7] : List Nat).map fun x : Nat => (x : Int)) [2, 0, 6, 7] _ rfl rfl (by decide) (by decide) ((unhide HC4).alloc _) (RowIn.new .i64 _ _ _ _ _ rfl rfl)).mono ?_
    rintro e w5 ⟨rfl, q, rfl⟩
    rw [unhide E1]
    go_wp2_with fail
    refine (equal_in _ _ _ _ _ _ [3, 1, 0] [3, 1, 0] _ rfl rfl (by decide) (by decide) (RowIn.alloc (w := (w4.alloc _).drewN q) ((unhide HP4).alloc _) _) (RowIn.new .i64 _ _ _ _ _ (by simp) rfl)).mono ?_
    rintro e w6 ⟨rfl, q2, rfl⟩
    rw [unhide E2]
    go_wp2
    go_ret
    exact ⟨rfl, below_drewN (Below.alloc (below_drewN ((unhide HB4).alloc (by omega) _) q) (by simp; omega) _) q2⟩
  · exact absurd (read_back_ok [2, 1, 3, 3] good4 [3, 1, 0] all3 xs hk hRT hOut) he
end Go.Proofs.Ytmafecagcglaoaa
