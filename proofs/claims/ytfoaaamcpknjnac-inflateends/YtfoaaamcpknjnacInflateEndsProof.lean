/-
  The law InflateEnds answers true for all bytes: where they are unpacked, nothing is unpacked without the last byte that was read, the same is unpacked of just what was read, and what is said is no more than may be. No condition is asked.
-/
import Derived.Test.YtfoaaamcpknjnacQT
namespace Go.Proofs.Ytfoaaamcpknjnac.inflateEnds
open Go.ChangeShapes Go.WideShapes Go.ChangeAt Go.RowKit
set_option linter.unusedVariables false

theorem walk (a1 : Option Addr) (l1 c1 : Nat) (bs : List Nat) (w : World) (hl1 : bs.length = l1) (hc : l1 ≤ c1) (hm : l1 ≤ maxLen) (hx : ∀ j, bs.getD j 0 < 256) (hB : BytesIn w a1 bs) :
    Calls Try.prog 7 #[.slice a1 l1 c1] w fun e w' => e = .returned (.bool true) ∧ Below w.heap.size w w' := inflateEnds_any a1 l1 c1 bs w hl1 hm hc hB hx

/-! ### the row's step -/
set_option maxRecDepth 100000 in
theorem lifted (os : Os) (started : os.Started) (H : Type) (enc : TypeId × Value → H) :
    ReturnsInHanded {} Try.checked os 7 .any (Rows.inflateEndsSpec.pre6 enc Try.prog Try.f7 Rows.inflateEndsRow.domain false) (Rows.inflateEndsSpec.post enc Try.prog Try.f7 false true false false) := by
  refine returnsInHanded_of_change (C := Try.checked) own started (by kernel_rfl) Try.func7
    (ChangeSpec.witness6 (enc := enc) (C := Try.checked) false ⟨#[], #[.slice none 0 0], []⟩ 8 (by kernel_rfl) (by kernel_rfl) (by kernel_rfl) (by kernel_rfl)) ?_
  intro W base args ds gs before hval0 hW hcnd _
  have hval : ∀ (j : Nat) t v, Try.f7.params[j]? = some t → args[j]? = some v → Value.okWide Try.prog W .any base t v := hval0
  have hW' := hW
  obtain ⟨p, q, hA0, hV, rfl, hfz, hnd⟩ := hW
  have hA : DataW.TrodAll enc Try.prog W 0 (fun _ => true) true Try.f7.params.toList args.toList ds p := hA0
  rw [Try.params7] at hA hval
  obtain ⟨v1, d1, rfl, rfl, h1⟩ := trodAll_one hA
  obtain ⟨rfl, rfl⟩ := trodVars_none hV
  obtain ⟨a1, len1, cap1, rfl⟩ := okWide_slice Try.underlying22 (hval 0 22 v1 rfl rfl)
  have k1 := h1
  have lt1 : ∀ x ∈ p, x.block < W.heap.size := by obtain ⟨m, hm⟩ := k1; exact DataW.trod_lt m _ _ _ hm
  obtain ⟨fuel1, hf1⟩ := h1
  have hf2 : DataW.trod enc Try.prog W 0 (fun _ => true) true fuel1 22 [.slice a1 len1 cap1] = some (d1, p) := by simpa [Value.cells] using hf1
  obtain ⟨hm1, bs, hl1, hx, hB⟩ := open_bytes hf2
  have hc := open_cap hf2
  clear hA0 hval0
  refine (walk a1 len1 cap1 bs W hl1 hc hm1 hx hB).mono fun e W' ⟨he, bel⟩ => ?_
  subst he
  exact ⟨_, rfl, _, _, _, [], _, [], hW', trodAll_mk1 (shut_bool Try.underlying4 _), (trodAll_cons_mk (Below.trod laidOut (by kernel_rfl) (of_decide_eq_true (by kernel_rfl)) k1 bel lt1) trodAll_mk0), rfl, bel.frame _, fun h => by cases h⟩

theorem over : Rows.inflateEndsRow.holds Try.pinned (OpenSpec.ofChange Rows.inflateEndsSpec) :=
  OpenClaim.holds_of_wide 7 Try.f7 rfl rfl rfl rfl rfl rfl rfl ⟨rfl, rfl, rfl, rfl, rfl⟩ rfl rfl rfl rfl rfl (by kernel_rfl) Try.func7 (by kernel_rfl)
    (of_decide_eq_true (by kernel_rfl)) (by unfold Func.isWrapper; first | (rw [if_pos (by decide +kernel)]; kernel_rfl) | (rw [if_neg (by decide +kernel)]; exact ⟨rfl, rfl⟩))
    (fun os started H enc _ => lifted os started H enc)
end Go.Proofs.Ytfoaaamcpknjnac.inflateEnds
namespace Go.Proofs.Ytfoaaamcpknjnac
theorem inflateEnds_holds : Rows.InflateEndsSaid := inflateEnds.over
end Go.Proofs.Ytfoaaamcpknjnac
