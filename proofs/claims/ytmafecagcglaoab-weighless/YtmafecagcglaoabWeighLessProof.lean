/-
  The law WeighLess answers true for all lists, all bounds and all lengths: with more room no more bits are taken; whatever code there is takes no fewer. No condition is asked.
-/
import Derived.Test.YtmafecagcglaoabWeighLess1
import Derived.Test.YtmafecagcglaoabOpenIn
namespace Go.Proofs.Ytmafecagcglaoab.weighLess
open Go.ChangeShapes Go.WideShapes Go.ChangeAt Go.RowKit
set_option linter.unusedVariables false

theorem walk (a0 : Option Addr) (l0 c0 : Nat) (l : List Int) (most : Int) (a2 : Option Addr) (l2 c2 : Nat) (o : List Int) (w : World) (hl : l.length = l0) (hm : l0 ≤ maxLen) (hR : RowIn .i64 w a0 l) (hl2 : o.length = l2) (hm2 : l2 ≤ maxLen) (hR2 : RowIn .i64 w a2 o) :
    Calls Try.prog 6 #[.slice a0 l0 c0, .int .i64 most, .slice a2 l2 c2] w fun e w' => e = .returned (.bool true) ∧ Below w.heap.size w w' := by
  unfold maxLen at hm hm2
  by_cases he : errW l most = 0
  · obtain ⟨m, rfl, hG⟩ := errW_good he
    exact weighLess_ok a0 l0 c0 l m a2 l2 c2 o w hl hR hG hl2 (by omega) hR2
  · exact weighLess_err a0 l0 c0 l most _ w hl (by omega) hR he

/-! ### the row's step -/
set_option maxRecDepth 100000 in
theorem lifted (os : Os) (started : os.Started) (H : Type) (enc : TypeId × Value → H) :
    ReturnsInHanded {} Try.checked os 6 .any (Rows.weighLessSpec.pre6 enc Try.prog Try.f6 Rows.weighLessRow.domain false) (Rows.weighLessSpec.post enc Try.prog Try.f6 false true false false) := by
  refine returnsInHanded_of_change (C := Try.checked) own started (by kernel_rfl) Try.func6
    (ChangeSpec.witness6 (enc := enc) (C := Try.checked) false ⟨#[], #[.slice none 0 0, .int .i64 0, .slice none 0 0], []⟩ 8 (by kernel_rfl) (by kernel_rfl) (by kernel_rfl) (by kernel_rfl)) ?_
  intro W base args ds gs before hval0 hW hcnd _
  have hval : ∀ (j : Nat) t v, Try.f6.params[j]? = some t → args[j]? = some v → Value.okWide Try.prog W .any base t v := hval0
  have hW' := hW
  obtain ⟨p, q, hA0, hV, rfl, hfz, hnd⟩ := hW
  have hA : DataW.TrodAll enc Try.prog W 0 (fun _ => true) true Try.f6.params.toList args.toList ds p := hA0
  rw [Try.params6] at hA hval
  obtain ⟨v0, v1, v2, d0, d1, d2, p0, p1, p2, rfl, rfl, rfl, h0, h1, h2⟩ := trodAll_three hA
  obtain ⟨rfl, rfl⟩ := trodVars_none hV
  obtain ⟨a0, len0, cap0, rfl⟩ := okWide_slice Try.underlying22 (hval 0 22 v0 rfl rfl)
  obtain ⟨a2, len2, cap2, rfl⟩ := okWide_slice Try.underlying22 (hval 2 22 v2 rfl rfl)
  have k0 := h0
  have k2 := h2
  have lt2 : ∀ x ∈ p2, x.block < W.heap.size := by obtain ⟨m, hm⟩ := k2; exact DataW.trod_lt m _ _ _ hm
  have lt0 : ∀ x ∈ p0, x.block < W.heap.size := by obtain ⟨m, hm⟩ := k0; exact DataW.trod_lt m _ _ _ hm
  obtain ⟨hm0, l, hl, hR⟩ : len0 ≤ maxLen ∧ ∃ xs, xs.length = len0 ∧ RowIn .i64 W a0 xs := by
    obtain ⟨fuel, hf⟩ := h0
    exact open_nums (by simpa [Value.cells] using hf)
  obtain ⟨n1, rfl, rfl, rfl, w1⟩ := open_int Try.underlying3 (hval 1 3 v1 rfl rfl) h1
  obtain ⟨hm2, o, hl2, hR2⟩ : len2 ≤ maxLen ∧ ∃ xs, xs.length = len2 ∧ RowIn .i64 W a2 xs := by
    obtain ⟨fuel, hf⟩ := h2
    exact open_nums (by simpa [Value.cells] using hf)
  clear hA0 hval0
  refine (walk a0 len0 cap0 l n1 a2 len2 cap2 o W hl hm0 hR hl2 hm2 hR2).mono fun e W' ⟨he, bel⟩ => ?_
  subst he
  exact ⟨_, rfl, _, _, _, [], _, [], hW', trodAll_mk1 (shut_bool Try.underlying4 _), (trodAll_cons_mk (Below.trod laidOut (by kernel_rfl) (of_decide_eq_true (by kernel_rfl)) k0 bel lt0) (trodAll_cons_mk (shut_int Try.underlying3 w1) (trodAll_cons_mk (Below.trod laidOut (by kernel_rfl) (of_decide_eq_true (by kernel_rfl)) k2 bel lt2) trodAll_mk0))), rfl, bel.frame _, fun h => by cases h⟩

theorem over : Rows.weighLessRow.holds Try.pinned (OpenSpec.ofChange Rows.weighLessSpec) :=
  OpenClaim.holds_of_wide 6 Try.f6 rfl rfl rfl rfl rfl rfl rfl ⟨rfl, rfl, rfl, rfl, rfl⟩ rfl rfl rfl rfl rfl (by kernel_rfl) Try.func6 (by kernel_rfl)
    (of_decide_eq_true (by kernel_rfl)) (by unfold Func.isWrapper; first | (rw [if_pos (by decide +kernel)]; kernel_rfl) | (rw [if_neg (by decide +kernel)]; exact ⟨rfl, rfl⟩))
    (fun os started H enc _ => lifted os started H enc)
end Go.Proofs.Ytmafecagcglaoab.weighLess
namespace Go.Proofs.Ytmafecagcglaoab
theorem weighLess_holds : Rows.WeighLessSaid := weighLess.over
end Go.Proofs.Ytmafecagcglaoab
