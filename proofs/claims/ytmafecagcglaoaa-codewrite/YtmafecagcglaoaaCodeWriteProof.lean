/-
  The law CodeWrite answers true for all lengths and all places: they are written as the document says, errors too. No condition is asked.
-/
import Derived.Test.YtmafecagcglaoaaCodeWrite2
import Derived.Test.YtmafecagcglaoaaOpenIn
namespace Go.Proofs.Ytmafecagcglaoaa.codeWrite
open Go.ChangeShapes Go.WideShapes Go.ChangeAt Go.RowKit
set_option linter.unusedVariables false

theorem walk (a0 : Option Addr) (l0 c0 : Nat) (l : List Int) (a1 : Option Addr) (l1 c1 : Nat) (ps : List Int) (w : World) (hl : l.length = l0) (hm : l0 ≤ maxLen) (hR : RowIn .i64 w a0 l) (hl1 : ps.length = l1) (hm1 : l1 ≤ maxLen) (hR1 : RowIn .i64 w a1 ps) :
    Calls Try.prog 8 #[.slice a0 l0 c0, .slice a1 l1 c1] w fun e w' => e = .returned (.bool true) ∧ Below w.heap.size w w' := by
  unfold maxLen at hm hm1
  by_cases he : errL l = 0
  · have hG := errL_good he
    by_cases h3 : 3000 < l1
    · exact codeWrite_many a0 l0 c0 l a1 l1 c1 ps w hl hR hG h3 hm1 hR1
    · rcases first_bad (fun j => okPlace l (ps.getD j 0)) l1 with hf | ⟨j0, hj0, hbad, hf⟩
      · exact codeWrite_ok a0 l0 c0 l a1 l1 c1 ps w hl hR hG hl1 (by omega) hR1 hf
      · exact codeWrite_who a0 l0 c0 l a1 l1 c1 ps w hl hR hG hl1 (by omega) hR1 j0 hj0 hbad hf
  · exact codeWrite_err a0 l0 c0 l _ rfl w hl hm hR he

/-! ### the row's step -/
set_option maxRecDepth 100000 in
theorem lifted (os : Os) (started : os.Started) (H : Type) (enc : TypeId × Value → H) :
    ReturnsInHanded {} Try.checked os 8 .any (Rows.codeWriteSpec.pre6 enc Try.prog Try.f8 Rows.codeWriteRow.domain false) (Rows.codeWriteSpec.post enc Try.prog Try.f8 false true false false) := by
  refine returnsInHanded_of_change (C := Try.checked) own started (by kernel_rfl) Try.func8
    (ChangeSpec.witness6 (enc := enc) (C := Try.checked) false ⟨#[], #[.slice none 0 0, .slice none 0 0], []⟩ 8 (by kernel_rfl) (by kernel_rfl) (by kernel_rfl) (by kernel_rfl)) ?_
  intro W base args ds gs before hval0 hW hcnd _
  have hval : ∀ (j : Nat) t v, Try.f8.params[j]? = some t → args[j]? = some v → Value.okWide Try.prog W .any base t v := hval0
  have hW' := hW
  obtain ⟨p, q, hA0, hV, rfl, hfz, hnd⟩ := hW
  have hA : DataW.TrodAll enc Try.prog W 0 (fun _ => true) true Try.f8.params.toList args.toList ds p := hA0
  rw [Try.params8] at hA hval
  obtain ⟨v0, v1, d0, d1, p0, p1, rfl, rfl, rfl, h0, h1⟩ := trodAll_two hA
  obtain ⟨rfl, rfl⟩ := trodVars_none hV
  obtain ⟨a0, len0, cap0, rfl⟩ := okWide_slice Try.underlying24 (hval 0 24 v0 rfl rfl)
  obtain ⟨a1, len1, cap1, rfl⟩ := okWide_slice Try.underlying24 (hval 1 24 v1 rfl rfl)
  have k0 := h0
  have k1 := h1
  have lt0 : ∀ x ∈ p0, x.block < W.heap.size := by obtain ⟨m, hm⟩ := k0; exact DataW.trod_lt m _ _ _ hm
  have lt1 : ∀ x ∈ p1, x.block < W.heap.size := by obtain ⟨m, hm⟩ := k1; exact DataW.trod_lt m _ _ _ hm
  obtain ⟨hm0, l, hl, hR⟩ : len0 ≤ maxLen ∧ ∃ xs, xs.length = len0 ∧ RowIn .i64 W a0 xs := by
    obtain ⟨fuel, hf⟩ := h0
    exact open_nums (by simpa [Value.cells] using hf)
  obtain ⟨hm1, ps, hl1, hR1⟩ : len1 ≤ maxLen ∧ ∃ xs, xs.length = len1 ∧ RowIn .i64 W a1 xs := by
    obtain ⟨fuel, hf⟩ := h1
    exact open_nums (by simpa [Value.cells] using hf)
  clear hA0 hval0
  refine (walk a0 len0 cap0 l a1 len1 cap1 ps W hl hm0 hR hl1 hm1 hR1).mono fun e W' ⟨he, bel⟩ => ?_
  subst he
  exact ⟨_, rfl, _, _, _, [], _, [], hW', trodAll_mk1 (shut_bool Try.underlying4 _), (trodAll_cons_mk (Below.trod laidOut (by kernel_rfl) (of_decide_eq_true (by kernel_rfl)) k0 bel lt0) (trodAll_cons_mk (Below.trod laidOut (by kernel_rfl) (of_decide_eq_true (by kernel_rfl)) k1 bel lt1) trodAll_mk0)), rfl, bel.frame _, fun h => by cases h⟩

theorem over : Rows.codeWriteRow.holds Try.pinned (OpenSpec.ofChange Rows.codeWriteSpec) :=
  OpenClaim.holds_of_wide 8 Try.f8 rfl rfl rfl rfl rfl rfl rfl ⟨rfl, rfl, rfl, rfl, rfl⟩ rfl rfl rfl rfl rfl (by kernel_rfl) Try.func8 (by kernel_rfl)
    (of_decide_eq_true (by kernel_rfl)) (by unfold Func.isWrapper; first | (rw [if_pos (by decide +kernel)]; kernel_rfl) | (rw [if_neg (by decide +kernel)]; exact ⟨rfl, rfl⟩))
    (fun os started H enc _ => lifted os started H enc)
end Go.Proofs.Ytmafecagcglaoaa.codeWrite
namespace Go.Proofs.Ytmafecagcglaoaa
theorem codeWrite_holds : Rows.CodeWriteSaid := codeWrite.over
end Go.Proofs.Ytmafecagcglaoaa
