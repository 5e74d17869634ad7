/-
  The law BitsUnpack answers true for all bytes, all sizes, all n and size: bytes are unpacked, and a number is turned round, as the document says, errors too. No condition is asked.
-/
import Derived.Test.YtmafecagcglaoaaUnpackLaw2
namespace Go.Proofs.Ytmafecagcglaoaa.bitsUnpack
open Go.ChangeShapes Go.WideShapes Go.ChangeAt Go.RowKit
set_option linter.unusedVariables false
set_option maxRecDepth 100000

theorem walk (a1 a2 : Option Addr) (l1 c1 l2 c2 : Nat) (xs : List Nat) (ss : List Int) (n s : Int) (w : World) (hm1 : l1 ≤ maxLen) (hm2 : l2 ≤ maxLen) (hxl : xs.length = l1) (hx : ∀ j, xs.getD j 0 < 256) (hX : BytesIn w a1 xs) (hl : ss.length = l2) (hS : RowIn .i64 w a2 ss) :
    Calls Try.prog 5 #[.slice a1 l1 c1, .slice a2 l2 c2, .int .i64 n, .int .i64 s] w fun e w' => e = .returned (.bool true) ∧ Below w.heap.size w w' := by
  unfold maxLen at hm1 hm2
  by_cases h : 6000 < l1 ∨ 3000 < l2
  · exact unpackLaw_many a1 a2 l1 c1 l2 c2 n s w h hm1 hm2
  · have h1 : l1 ≤ 6000 := by omega
    have h2 : l2 ≤ 3000 := by omega
    rcases hS with rfl | ⟨b, o, rfl, hb, hR⟩
    · obtain rfl : l2 = 0 := by simp at hl; omega
      exact unpackLaw_none a1 a2 l1 c1 c2 xs n s w h1 hxl hx hX
    · rcases first_bad (fun j => sizeB (ss.getD j 0)) l2 with hf | ⟨j0, hj0, hbad, hf⟩
      · have hf' : AllSize ss := fun j hj => hf j (by omega)
        rcases first_bad (fun j => decide (sumL ss (j + 1) ≤ 8 * l1)) l2 with ht | ⟨j1, hj1, hno, hok⟩
        · refine unpackLaw_yes a1 l1 c1 b o l2 c2 xs ss n s w h1 hxl hx hX hl h2 hb hR hf' ?_
          cases l2 with
          | zero => exact Nat.zero_le _
          | succ k => exact of_decide_eq_true (ht k (Nat.lt_succ_self k))
        · refine unpackLaw_torn a1 l1 c1 b o l2 c2 xs ss n s w h1 hxl hx hX hl h2 hb hR hf' j1 hj1 (fun j hj => of_decide_eq_true (hok j hj)) ?_
          have := of_decide_eq_false hno
          omega
      · exact unpackLaw_bad a1 l1 c1 b o l2 c2 ss n s w h1 hl h2 hb hR j0 hj0 hbad hf

/-! ### the row's step -/
set_option maxRecDepth 100000 in
theorem lifted (os : Os) (started : os.Started) (H : Type) (enc : TypeId × Value → H) :
    ReturnsInHanded {} Try.checked os 5 .any (Rows.bitsUnpackSpec.pre6 enc Try.prog Try.f5 Rows.bitsUnpackRow.domain false) (Rows.bitsUnpackSpec.post enc Try.prog Try.f5 false true false false) := by
  refine returnsInHanded_of_change (C := Try.checked) own started (by kernel_rfl) Try.func5
    (ChangeSpec.witness6 (enc := enc) (C := Try.checked) false ⟨#[], #[.slice none 0 0, .slice none 0 0, .int .i64 0, .int .i64 0], []⟩ 8 (by kernel_rfl) (by kernel_rfl) (by kernel_rfl) (by kernel_rfl)) ?_
  intro W base args ds gs before hval0 hW hcnd _
  have hval : ∀ (j : Nat) t v, Try.f5.params[j]? = some t → args[j]? = some v → Value.okWide Try.prog W .any base t v := hval0
  have hW' := hW
  obtain ⟨p, q, hA0, hV, rfl, hfz, hnd⟩ := hW
  have hA : DataW.TrodAll enc Try.prog W 0 (fun _ => true) true Try.f5.params.toList args.toList ds p := hA0
  rw [Try.params5] at hA hval
  obtain ⟨v0, v1, v2, v3, d0, d1, d2, d3, p0, p1, p2, p3, rfl, rfl, rfl, h0, h1, h2, h3⟩ := trodAll_four hA
  obtain ⟨rfl, rfl⟩ := trodVars_none hV
  obtain ⟨a0, len0, cap0, rfl⟩ := okWide_slice Try.underlying28 (hval 0 28 v0 rfl rfl)
  obtain ⟨a1, len1, cap1, rfl⟩ := okWide_slice Try.underlying24 (hval 1 24 v1 rfl rfl)
  have k0 := h0
  have k1 := h1
  have lt0 : ∀ x ∈ p0, x.block < W.heap.size := by obtain ⟨m, hm⟩ := k0; exact DataW.trod_lt m _ _ _ hm
  have lt1 : ∀ x ∈ p1, x.block < W.heap.size := by obtain ⟨m, hm⟩ := k1; exact DataW.trod_lt m _ _ _ hm
  obtain ⟨hm0, xs, hxs, hx, hX⟩ : len0 ≤ maxLen ∧ ∃ xs, xs.length = len0 ∧ (∀ j, xs.getD j 0 < 256) ∧ BytesIn W a0 xs := by
    obtain ⟨fuel, hf⟩ := h0
    exact open_bytes (by simpa [Value.cells] using hf)
  obtain ⟨hm1, ss, hss, hS⟩ : len1 ≤ maxLen ∧ ∃ xs, xs.length = len1 ∧ RowIn .i64 W a1 xs := by
    obtain ⟨fuel, hf⟩ := h1
    exact open_nums (by simpa [Value.cells] using hf)
  obtain ⟨n2, rfl, rfl, rfl, w2⟩ := open_int Try.underlying3 (hval 2 3 v2 rfl rfl) h2
  obtain ⟨n3, rfl, rfl, rfl, w3⟩ := open_int Try.underlying3 (hval 3 3 v3 rfl rfl) h3
  clear hA0 hval0
  refine (walk a0 a1 len0 cap0 len1 cap1 xs ss n2 n3 W hm0 hm1 hxs hx hX hss hS).mono fun e W' ⟨he, bel⟩ => ?_
  subst he
  exact ⟨_, rfl, _, _, _, [], _, [], hW', trodAll_mk1 (shut_bool Try.underlying4 _), (trodAll_cons_mk (Below.trod laidOut (by kernel_rfl) (of_decide_eq_true (by kernel_rfl)) k0 bel lt0) (trodAll_cons_mk (Below.trod laidOut (by kernel_rfl) (of_decide_eq_true (by kernel_rfl)) k1 bel lt1) (trodAll_cons_mk (shut_int Try.underlying3 w2) (trodAll_cons_mk (shut_int Try.underlying3 w3) trodAll_mk0)))), rfl, bel.frame _, fun h => by cases h⟩

theorem over : Rows.bitsUnpackRow.holds Try.pinned (OpenSpec.ofChange Rows.bitsUnpackSpec) :=
  OpenClaim.holds_of_wide 5 Try.f5 rfl rfl rfl rfl rfl rfl rfl ⟨rfl, rfl, rfl, rfl, rfl⟩ rfl rfl rfl rfl rfl (by kernel_rfl) Try.func5 (by kernel_rfl)
    (of_decide_eq_true (by kernel_rfl)) (by unfold Func.isWrapper; first | (rw [if_pos (by decide +kernel)]; kernel_rfl) | (rw [if_neg (by decide +kernel)]; exact ⟨rfl, rfl⟩))
    (fun os started H enc _ => lifted os started H enc)
end Go.Proofs.Ytmafecagcglaoaa.bitsUnpack
namespace Go.Proofs.Ytmafecagcglaoaa
theorem bitsUnpack_holds : Rows.BitsUnpackSaid := bitsUnpack.over
end Go.Proofs.Ytmafecagcglaoaa
