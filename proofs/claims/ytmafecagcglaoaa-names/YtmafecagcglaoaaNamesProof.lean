/-
  The law Names answers true: each constant of package api has its value. It takes no argument, and no condition is asked.
-/
import Derived.Test.YtmafecagcglaoaaEq
namespace Go.Proofs.Ytmafecagcglaoaa.names
open Go.ChangeShapes Go.WideShapes Go.ChangeAt Go.RowKit
open Go.ChangeMaps (open_string shut_string)
set_option linter.unusedVariables false      -- a walk need not use every 'w<i>' (that an integer argument fits its kind)

/-- the walk: the text answers true, and what was there stays as it was -/
theorem walk (w : World) :
    Calls Try.prog 3 #[] w fun e w' => e = .returned (.bool true) ∧ Below w.heap.size w w' := by
  go_enter Try.func3, Try.ntmps3
  go_wp2
  generalize hW : w.alloc _ = W
  have hB : Below w.heap.size w W := by rw [← hW]; exact (Below.refl _ _).alloc (Nat.le_refl _) _
  have hc : ∀ j : Nat, j < 12 → W.cell? ⟨w.heap.size, j, none⟩ = some (.int .i64 j) := by
    intro j hj
    rw [← hW]
    have h := Row.new .i64 w [0, 1, 2, 3, 4, 5, 6, 7, 8, 9, 10, 11] 22 _ w.heap.size rfl rfl j hj
    rw [Nat.zero_add] at h
    refine h.trans ?_
    match j, hj with
    | 0, _ | 1, _ | 2, _ | 3, _ | 4, _ | 5, _ | 6, _ | 7, _ | 8, _ | 9, _ | 10, _ | 11, _ => rfl
  clear hW
  go_loop [9] (fun i => ∃ k : Nat, k ≤ 12 ∧ i = .int .i64 k) (fun i => 12 - (intOf i).toNat)
  case atStart => exact ⟨0, Nat.zero_le _, rfl⟩
  case round =>
    obtain ⟨k, hk, rfl⟩ := hrel
    by_cases hlt : k < 12
    · have g := hc k hlt
      have hb : ((k : Int) != (k : Int)) = false := by simp
      clear hc
      go_wp2
      go_round
      case rel => exact ⟨k + 1, by omega, by go_num⟩
      case measure => simp [intOf]; omega
    · clear hc
      go_wp2_with fail
      have e1 : (([3000, 6000, 15, 288, 3, 258, 3000, 40, 12, 12000, 4, 1000000, 40, 20] : List Int) == [3000, 6000, 15, 288, 3, 258, 3000, 40, 12, 12000, 4, 1000000, 40, 20]) = true := by decide
      have e2 : (([0, 1, 2, 1, 2, 3, 4, 5, 6] : List Int) == [0, 1, 2, 1, 2, 3, 4, 5, 6]) = true := by decide
      refine (equal_ints _ 0 _ _ _ 0 _ _ [3000, 6000, 15, 288, 3, 258, 3000, 40, 12, 12000, 4, 1000000, 40, 20] [3000, 6000, 15, 288, 3, 258, 3000, 40, 12, 12000, 4, 1000000, 40, 20] _ rfl rfl (by decide) (by decide) ?_ ?_).mono ?_
      · exact ((Row.new .i64 _ _ _ _ _ rfl rfl).alloc (by simp) _).alloc (by simp; omega) _
      · exact Row.new .i64 _ _ _ _ _ (by simp) rfl
      rintro e w1 ⟨rfl, q, rfl⟩
      rw [e1]
      go_wp2_with fail
      refine (equal_ints _ 0 _ _ _ 0 _ _ [0, 1, 2, 1, 2, 3, 4, 5, 6] [0, 1, 2, 1, 2, 3, 4, 5, 6] _ rfl rfl (by decide) (by decide) ?_ ?_).mono ?_
      · exact (((Row.new .i64 _ _ _ _ _ (by simp) rfl).alloc (by simp) _).drewN q).alloc (by simp) _
      · exact Row.new .i64 _ _ _ _ _ (by simp) rfl
      rintro e w1 ⟨rfl, q2, rfl⟩
      rw [e2]
      go_wp2
      go_ret
      refine ⟨rfl, ?_⟩
      have hz := hB.size
      refine below_drewN ((below_drewN (((hB.alloc hz _).alloc (by simp; omega) _).alloc (by simp; omega) _) q).alloc (by simp; omega) _) _

/-! ### THE ROW's STEP: WRITTEN OUT: LEAVE IT -/
set_option maxRecDepth 100000 in
theorem lifted (os : Os) (started : os.Started) (H : Type) (enc : TypeId × Value → H) :
    ReturnsInHanded {} Try.checked os 3 .any (Rows.namesSpec.pre6 enc Try.prog Try.f3 Rows.namesRow.domain false) (Rows.namesSpec.post enc Try.prog Try.f3 false true false false) := by
  refine returnsInHanded_of_change (C := Try.checked) own started (by kernel_rfl) Try.func3
    (ChangeSpec.witness6 (enc := enc) (C := Try.checked) false ⟨#[], #[], []⟩ 8 (by kernel_rfl) (by kernel_rfl) (by kernel_rfl) (by kernel_rfl)) ?_
  intro W base args ds gs before hval0 hW hcnd _
  have hval : ∀ (j : Nat) t v, Try.f3.params[j]? = some t → args[j]? = some v → Value.okWide Try.prog W .any base t v := hval0
  have hW' := hW
  obtain ⟨p, q, hA0, hV, rfl, hfz, hnd⟩ := hW
  have hA : DataW.TrodAll enc Try.prog W 0 (fun _ => true) true Try.f3.params.toList args.toList ds p := hA0
  rw [Try.params3] at hA hval
  obtain ⟨rfl, rfl, rfl⟩ := trodAll_none hA
  obtain ⟨rfl, rfl⟩ := trodVars_none hV
  clear hA0 hval0
  refine (walk W).mono fun e W' ⟨he, bel⟩ => ?_
  subst he
  exact ⟨_, rfl, _, _, _, [], _, [], hW', trodAll_mk1 (shut_bool Try.underlying4 _), trodAll_mk0, rfl, bel.frame _, fun h => by cases h⟩

theorem over : Rows.namesRow.holds Try.pinned (OpenSpec.ofChange Rows.namesSpec) :=
  OpenClaim.holds_of_wide 3 Try.f3 rfl rfl rfl rfl rfl rfl rfl ⟨rfl, rfl, rfl, rfl, rfl⟩ rfl rfl rfl rfl rfl (by kernel_rfl) Try.func3 (by kernel_rfl)
    (of_decide_eq_true (by kernel_rfl)) (by unfold Func.isWrapper; first | (rw [if_pos (by decide +kernel)]; kernel_rfl) | (rw [if_neg (by decide +kernel)]; exact ⟨rfl, rfl⟩))
    (fun os started H enc _ => lifted os started H enc)

/-- ████ THE STATEMENT ████ -/
theorem proved : Rows.NamesSaid :=
  over
end Go.Proofs.Ytmafecagcglaoaa.names
namespace Go.Proofs.Ytmafecagcglaoaa
theorem names_holds : Rows.NamesSaid := names.proved
end Go.Proofs.Ytmafecagcglaoaa
