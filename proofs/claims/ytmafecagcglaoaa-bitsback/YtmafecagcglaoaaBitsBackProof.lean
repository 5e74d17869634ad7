/-
  The law BitsBack answers true for all numbers with sizes and for all n and size: what is packed is unpacked, and what is turned twice is itself. No condition is asked.
-/
import Derived.Test.YtmafecagcglaoaaBack2
import Derived.Test.YtmafecagcglaoaaOpen
namespace Go.Proofs.Ytmafecagcglaoaa.bitsBack
open Go.ChangeShapes Go.WideShapes Go.ChangeAt Go.RowKit
set_option linter.unusedVariables false
set_option maxRecDepth 100000

set_option maxHeartbeats 1000000 in
theorem back_none (a : Option Addr) (cap : Nat) (n s : Int) (w : World) :
    Calls Try.prog 6 #[.slice a 0 cap, .int .i64 n, .int .i64 s] w fun e w' => e = .returned (.bool true) ∧ Below w.heap.size w w' := by
  go_enter Try.func6, Try.ntmps6
  go_wp2_with fail
  refine (pack_none a cap _).mono ?_
  rintro e w1 ⟨g, rfl, hO1, hB1, hg1⟩
  have HB1 := hide hB1
  have hz1' := hB1.size
  clear hB1 hO1
  go_wp2_with fail
  refine (turn_any _ _ _).mono ?_
  rintro e w2 ⟨m, f, rfl, rfl, hf⟩
  go_wp2_with fail
  refine (rowed_any _).mono ?_
  rintro e w3 ⟨rfl, hB3⟩
  have HB3 := hide hB3
  have hz3 := hB3.size
  clear hB3
  have HBB := hide ((unhide HB1).trans ((unhide HB3).mono hz1'))
  have hnn : (n != n) = false := by simp
  rcases hf with hf | ⟨hf, hT⟩
  rotate_left
  · go_wp2_with fail
    refine (unhide hT _).mono ?_
    rintro e w4 ⟨rfl, hw⟩
    obtain rfl := hw.symm
    clear hT hw
    go_wp2
    go_loop [13, 14, 50] (fun vs vn i => vs = .slice none 0 0 ∧ vn = .slice none 0 0 ∧ i = .int .i64 0) (fun _ _ i => 0)
    case atStart => exact ⟨rfl, rfl, rfl⟩
    case round =>
      obtain ⟨rfl, rfl, rfl⟩ := hrel
      go_wp2_with fail
      refine (unpack_none _ _ _ _ _ _ (by omega)).mono ?_
      rintro e w5 ⟨g5, rfl, hO5, hB5, hg5⟩
      have H3 := hide ((unhide HBB).trans (hB5.mono (by omega)))
      clear hO5 hB5
      go_wp2_with fail
      refine (equal_in _ _ _ _ _ _ [] [] _ rfl rfl (Nat.zero_le _) (Nat.zero_le _) (.inl rfl) (.inl rfl)).mono ?_
      rintro e w6 ⟨rfl, q, rfl⟩
      go_wp2
      go_ret
      exact ⟨rfl, below_drewN (unhide H3) q⟩
  · go_wp2
    go_loop [13, 14, 50] (fun vs vn i => vs = .slice none 0 0 ∧ vn = .slice none 0 0 ∧ i = .int .i64 0) (fun _ _ i => 0)
    case atStart => exact ⟨rfl, rfl, rfl⟩
    case round =>
      obtain ⟨rfl, rfl, rfl⟩ := hrel
      go_wp2_with fail
      refine (unpack_none _ _ _ _ _ _ (by omega)).mono ?_
      rintro e w5 ⟨g5, rfl, hO5, hB5, hg5⟩
      have H3 := hide ((unhide HBB).trans (hB5.mono (by omega)))
      clear hO5 hB5
      go_wp2_with fail
      refine (equal_in _ _ _ _ _ _ [] [] _ rfl rfl (Nat.zero_le _) (Nat.zero_le _) (.inl rfl) (.inl rfl)).mono ?_
      rintro e w6 ⟨rfl, q, rfl⟩
      go_wp2
      go_ret
      exact ⟨rfl, below_drewN (unhide H3) q⟩

theorem walk (a0 : Option Addr) (l0 c0 : Nat) (ps : List (Int × Int)) (n s : Int) (w : World) (hl : ps.length = l0) (hm : l0 ≤ maxLen) (hP : PairsIn w a0 ps) :
    Calls Try.prog 6 #[.slice a0 l0 c0, .int .i64 n, .int .i64 s] w fun e w' => e = .returned (.bool true) ∧ Below w.heap.size w w' := by
  by_cases h3 : 3000 < l0
  · unfold maxLen at hm
    refine back_err _ n s 2 w (by decide) ((pack_many a0 l0 c0 w h3 hm).mono ?_)
    rintro e w' ⟨rfl, rfl⟩
    exact ⟨rfl, Below.refl _ _⟩
  · rcases hP with rfl | ⟨b, o, rfl, hb, hP⟩
    · obtain rfl : l0 = 0 := by simp at hl; omega
      exact back_none a0 c0 n s w
    · rcases first_bad (fun j => fitsB (ps.getD j (0, 0)).1 (ps.getD j (0, 0)).2) l0 with hf | ⟨j0, hj0, hbad, hf⟩
      · by_cases h0 : l0 = 0
        · subst h0
          exact back_none _ c0 n s w
        · exact back_yes b o l0 c0 ps n s w hl (by omega) (by omega) hb hP (fun j hj => hf j (by omega))
      · exact back_err _ n s 3 w (by decide) (pack_bad b o l0 c0 ps w hl (by omega) hb hP j0 hj0 hbad hf)

/-! ### the row's step -/
set_option maxRecDepth 100000 in
theorem lifted (os : Os) (started : os.Started) (H : Type) (enc : TypeId × Value → H) :
    ReturnsInHanded {} Try.checked os 6 .any (Rows.bitsBackSpec.pre6 enc Try.prog Try.f6 Rows.bitsBackRow.domain false) (Rows.bitsBackSpec.post enc Try.prog Try.f6 false true false false) := by
  refine returnsInHanded_of_change (C := Try.checked) own started (by kernel_rfl) Try.func6
    (ChangeSpec.witness6 (enc := enc) (C := Try.checked) false ⟨#[], #[.slice none 0 0, .int .i64 0, .int .i64 0], []⟩ 8 (by kernel_rfl) (by kernel_rfl) (by kernel_rfl) (by kernel_rfl)) ?_
  intro W base args ds gs before hval0 hW hcnd _
  have hval : ∀ (j : Nat) t v, Try.f6.params[j]? = some t → args[j]? = some v → Value.okWide Try.prog W .any base t v := hval0
  have hW' := hW
  obtain ⟨p, q, hA0, hV, rfl, hfz, hnd⟩ := hW
  have hA : DataW.TrodAll enc Try.prog W 0 (fun _ => true) true Try.f6.params.toList args.toList ds p := hA0
  rw [Try.params6] at hA hval
  obtain ⟨v0, v1, v2, d0, d1, d2, p0, p1, p2, rfl, rfl, rfl, h0, h1, h2⟩ := trodAll_three hA
  obtain ⟨rfl, rfl⟩ := trodVars_none hV
  obtain ⟨a0, len0, cap0, rfl⟩ := okWide_slice Try.underlying27 (hval 0 27 v0 rfl rfl)
  have k0 := h0
  have lt0 : ∀ x ∈ p0, x.block < W.heap.size := by obtain ⟨m, hm⟩ := k0; exact DataW.trod_lt m _ _ _ hm
  obtain ⟨hm0, ps, hps, hP⟩ : len0 ≤ maxLen ∧ ∃ ps, ps.length = len0 ∧ PairsIn W a0 ps := by
    obtain ⟨fuel, hf⟩ := h0
    exact open_pairs (by simpa [Value.cells] using hf)
  obtain ⟨n1, rfl, rfl, rfl, w1⟩ := open_int Try.underlying3 (hval 1 3 v1 rfl rfl) h1
  obtain ⟨n2, rfl, rfl, rfl, w2⟩ := open_int Try.underlying3 (hval 2 3 v2 rfl rfl) h2
  clear hA0 hval0
  refine (walk a0 len0 cap0 ps n1 n2 W hps hm0 hP).mono fun e W' ⟨he, bel⟩ => ?_
  subst he
  exact ⟨_, rfl, _, _, _, [], _, [], hW', trodAll_mk1 (shut_bool Try.underlying4 _), (trodAll_cons_mk (Below.trod laidOut (by kernel_rfl) (of_decide_eq_true (by kernel_rfl)) k0 bel lt0) (trodAll_cons_mk (shut_int Try.underlying3 w1) (trodAll_cons_mk (shut_int Try.underlying3 w2) trodAll_mk0))), rfl, bel.frame _, fun h => by cases h⟩

theorem over : Rows.bitsBackRow.holds Try.pinned (OpenSpec.ofChange Rows.bitsBackSpec) :=
  OpenClaim.holds_of_wide 6 Try.f6 rfl rfl rfl rfl rfl rfl rfl ⟨rfl, rfl, rfl, rfl, rfl⟩ rfl rfl rfl rfl rfl (by kernel_rfl) Try.func6 (by kernel_rfl)
    (of_decide_eq_true (by kernel_rfl)) (by unfold Func.isWrapper; first | (rw [if_pos (by decide +kernel)]; kernel_rfl) | (rw [if_neg (by decide +kernel)]; exact ⟨rfl, rfl⟩))
    (fun os started H enc _ => lifted os started H enc)
end Go.Proofs.Ytmafecagcglaoaa.bitsBack
namespace Go.Proofs.Ytmafecagcglaoaa
theorem bitsBack_holds : Rows.BitsBackSaid := bitsBack.over
end Go.Proofs.Ytmafecagcglaoaa
