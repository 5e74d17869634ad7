/-
  The law CodeRead answers true for all lengths, all bytes and all numbers: places are read as the document says, errors too. No condition is asked.
-/
import Derived.Test.YtmafecagcglaoabCodeRead1
import Derived.Test.YtmafecagcglaoabOpenIn
namespace Go.Proofs.Ytmafecagcglaoab.codeRead
open Go.ChangeShapes Go.WideShapes Go.ChangeAt Go.RowKit
set_option linter.unusedVariables false

theorem walk (a0 : Option Addr) (l0 c0 : Nat) (l : List Int) (a1 : Option Addr) (l1 c1 : Nat) (bs : List Nat) (many : Int) (w : World) (hl : l.length = l0) (hm : l0 ≤ maxLen) (hR : RowIn .i64 w a0 l) (hl1 : bs.length = l1) (hm1 : l1 ≤ maxLen) (hx : ∀ j, bs.getD j 0 < 256) (hB : BytesIn w a1 bs) :
    Calls Try.prog 3 #[.slice a0 l0 c0, .slice a1 l1 c1, .int .i64 many] w fun e w' => e = .returned (.bool true) ∧ Below w.heap.size w w' := by
  unfold maxLen at hm hm1
  by_cases he : errL l = 0
  · have hG := errL_good he
    by_cases h6 : 6000 < l1 ∨ many < 0 ∨ 3000 < many
    · exact codeRead_bad .nilIface l a0 l0 c0 l1 c1 a1 many 2 2 w hl hm hR (.inr ⟨he, rfl, by omega⟩) (read_many a0 l0 c0 l a1 l1 c1 many w hl hR hG hm1 h6)
    · obtain ⟨m, rfl⟩ := Int.eq_ofNat_of_zero_le (show 0 ≤ many by omega)
      exact codeRead_ok a0 l0 c0 l a1 l1 c1 bs m w hl hR hG hl1 (by omega) hx hB (by omega)
  · exact codeRead_bad .nilIface l a0 l0 c0 l1 c1 a1 many (errL l) 2 w hl hm hR (.inl ⟨he, rfl⟩) (read_err a0 l0 c0 l _ _ w hl hm hR he)

/-! ### the row's step -/
set_option maxRecDepth 100000 in
theorem lifted (os : Os) (started : os.Started) (H : Type) (enc : TypeId × Value → H) :
    ReturnsInHanded {} Try.checked os 3 .any (Rows.codeReadSpec.pre6 enc Try.prog Try.f3 Rows.codeReadRow.domain false) (Rows.codeReadSpec.post enc Try.prog Try.f3 false true false false) := by
  refine returnsInHanded_of_change (C := Try.checked) own started (by kernel_rfl) Try.func3
    (ChangeSpec.witness6 (enc := enc) (C := Try.checked) false ⟨#[], #[.slice none 0 0, .slice none 0 0, .int .i64 0], []⟩ 8 (by kernel_rfl) (by kernel_rfl) (by kernel_rfl) (by kernel_rfl)) ?_
  intro W base args ds gs before hval0 hW hcnd _
  have hval : ∀ (j : Nat) t v, Try.f3.params[j]? = some t → args[j]? = some v → Value.okWide Try.prog W .any base t v := hval0
  have hW' := hW
  obtain ⟨p, q, hA0, hV, rfl, hfz, hnd⟩ := hW
  have hA : DataW.TrodAll enc Try.prog W 0 (fun _ => true) true Try.f3.params.toList args.toList ds p := hA0
  rw [Try.params3] at hA hval
  obtain ⟨v0, v1, v2, d0, d1, d2, p0, p1, p2, rfl, rfl, rfl, h0, h1, h2⟩ := trodAll_three hA
  obtain ⟨rfl, rfl⟩ := trodVars_none hV
  obtain ⟨a0, len0, cap0, rfl⟩ := okWide_slice Try.underlying22 (hval 0 22 v0 rfl rfl)
  obtain ⟨a1, len1, cap1, rfl⟩ := okWide_slice Try.underlying23 (hval 1 23 v1 rfl rfl)
  have k0 := h0
  have k1 := h1
  have lt0 : ∀ x ∈ p0, x.block < W.heap.size := by obtain ⟨m, hm⟩ := k0; exact DataW.trod_lt m _ _ _ hm
  have lt1 : ∀ x ∈ p1, x.block < W.heap.size := by obtain ⟨m, hm⟩ := k1; exact DataW.trod_lt m _ _ _ hm
  obtain ⟨hm0, l, hl, hR⟩ : len0 ≤ maxLen ∧ ∃ xs, xs.length = len0 ∧ RowIn .i64 W a0 xs := by
    obtain ⟨fuel, hf⟩ := h0
    exact open_nums (by simpa [Value.cells] using hf)
  obtain ⟨fuel1, hf1⟩ := h1
  obtain ⟨hm1, bs, hl1, hx, hB⟩ := open_bytes (by simpa [Value.cells] using hf1)
  obtain ⟨n2, rfl, rfl, rfl, w2⟩ := open_int Try.underlying3 (hval 2 3 v2 rfl rfl) h2
  clear hA0 hval0
  refine (walk a0 len0 cap0 l a1 len1 cap1 bs n2 W hl hm0 hR hl1 hm1 hx hB).mono fun e W' ⟨he, bel⟩ => ?_
  subst he
  exact ⟨_, rfl, _, _, _, [], _, [], hW', trodAll_mk1 (shut_bool Try.underlying4 _), (trodAll_cons_mk (Below.trod laidOut (by kernel_rfl) (of_decide_eq_true (by kernel_rfl)) k0 bel lt0) (trodAll_cons_mk (Below.trod laidOut (by kernel_rfl) (of_decide_eq_true (by kernel_rfl)) k1 bel lt1) (trodAll_cons_mk (shut_int Try.underlying3 w2) trodAll_mk0))), rfl, bel.frame _, fun h => by cases h⟩

theorem over : Rows.codeReadRow.holds Try.pinned (OpenSpec.ofChange Rows.codeReadSpec) :=
  OpenClaim.holds_of_wide 3 Try.f3 rfl rfl rfl rfl rfl rfl rfl ⟨rfl, rfl, rfl, rfl, rfl⟩ rfl rfl rfl rfl rfl (by kernel_rfl) Try.func3 (by kernel_rfl)
    (of_decide_eq_true (by kernel_rfl)) (by unfold Func.isWrapper; first | (rw [if_pos (by decide +kernel)]; kernel_rfl) | (rw [if_neg (by decide +kernel)]; exact ⟨rfl, rfl⟩))
    (fun os started H enc _ => lifted os started H enc)
end Go.Proofs.Ytmafecagcglaoab.codeRead
namespace Go.Proofs.Ytmafecagcglaoab
theorem codeRead_holds : Rows.CodeReadSaid := codeRead.over
end Go.Proofs.Ytmafecagcglaoab
