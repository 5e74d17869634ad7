/-
  The law GzBack answers true for all bytes and all places: what was packed is unpacked; with one bit of the sum or of the length turned the sum is wrong; with the last byte cut off it is torn. No condition is asked.
-/
import Derived.Test.YtfoaaamcpknjnadGreatR0
namespace Go.Proofs.YtfoaaamcpknjnadGreat.gzBack
open Go.ChangeShapes Go.WideShapes Go.ChangeAt Go.RowKit
set_option linter.unusedVariables false

theorem open_none {H : Type} {enc : TypeId × Value → H} {w : World} {fuel : Nat} {a0 : Option Addr} {l0 c0 : Nat} {x : DataW H × List MemPlace}
    (h : DataW.trod enc Tryz.prog w 0 (fun _ => true) true fuel 22 [.slice a0 l0 c0] = some x) : a0 = none → c0 = 0 := by
  rcases open_ints Tryz.underlying22 Tryz.underlying5 cells5 h with ⟨hcs, _⟩ | ⟨a, l, c, zs, hcs, _⟩
  · simp at hcs
    obtain ⟨rfl, rfl, rfl⟩ := hcs
    intro _
    rfl
  · simp at hcs
    obtain ⟨rfl, rfl, rfl⟩ := hcs
    intro e
    cases e

theorem walk (a1 : Option Addr) (l1 c1 : Nat) (t : Int) (bs : List Nat) (w : World) (hl1 : bs.length = l1) (hc : l1 ≤ c1) (hnil : a1 = none → c1 = 0) (hm : l1 ≤ maxLen) (hx : ∀ j, bs.getD j 0 < 256) (hB : BytesIn w a1 bs) :
    Calls Tryz.prog 5 #[.slice a1 l1 c1, .int .i64 t] w fun e w' => e = .returned (.bool true) ∧ Below w.heap.size w w' := by
  by_cases h : 3000 < l1
  · exact gzb_many a1 l1 c1 t bs w hl1 hc hnil hB hx (by unfold maxLen at hm; omega) h
  · exact gzb_few a1 l1 c1 t bs w hl1 hc hnil hB hx (by omega)

/-! ### the row's step -/
set_option maxRecDepth 100000 in
theorem lifted (os : Os) (started : os.Started) (H : Type) (enc : TypeId × Value → H) :
    ReturnsInHanded {} Tryz.checked os 5 .any (Rows.gzBackSpec.pre6 enc Tryz.prog Tryz.f5 Rows.gzBackRow.domain false) (Rows.gzBackSpec.post enc Tryz.prog Tryz.f5 false true false false) := by
  refine returnsInHanded_of_change (C := Tryz.checked) own started (by kernel_rfl) Tryz.func5
    (ChangeSpec.witness6 (enc := enc) (C := Tryz.checked) false ⟨#[], #[.slice none 0 0, .int .i64 0], []⟩ 8 (by kernel_rfl) (by kernel_rfl) (by kernel_rfl) (by kernel_rfl)) ?_
  intro W base args ds gs before hval0 hW hcnd _
  have hval : ∀ (j : Nat) t v, Tryz.f5.params[j]? = some t → args[j]? = some v → Value.okWide Tryz.prog W .any base t v := hval0
  have hW' := hW
  obtain ⟨p, q, hA0, hV, rfl, hfz, hnd⟩ := hW
  have hA : DataW.TrodAll enc Tryz.prog W 0 (fun _ => true) true Tryz.f5.params.toList args.toList ds p := hA0
  rw [Tryz.params5] at hA hval
  obtain ⟨v0, v1, d0, d1, p0, p1, rfl, rfl, rfl, h0, h1⟩ := trodAll_two hA
  obtain ⟨rfl, rfl⟩ := trodVars_none hV
  obtain ⟨a0, len0, cap0, rfl⟩ := okWide_slice Tryz.underlying22 (hval 0 22 v0 rfl rfl)
  have k0 := h0
  have lt0 : ∀ x ∈ p0, x.block < W.heap.size := by obtain ⟨m, hm⟩ := k0; exact DataW.trod_lt m _ _ _ hm
  obtain ⟨fuel0, hf0⟩ := h0
  have hg0 : DataW.trod enc Tryz.prog W 0 (fun _ => true) true fuel0 22 [.slice a0 len0 cap0] = some (d0, p0) := by simpa [Value.cells] using hf0
  obtain ⟨hm0, bs0, hl0, hx0, hB0⟩ := open_bytes hg0
  obtain ⟨n1, rfl, rfl, rfl, w1⟩ := open_int Tryz.underlying3 (hval 1 3 v1 rfl rfl) h1
  have hc := open_cap hg0
  clear hA0 hval0
  refine (walk a0 len0 cap0 n1 bs0 W hl0 hc (open_none hg0) hm0 hx0 hB0).mono fun e W' ⟨he, bel⟩ => ?_
  subst he
  exact ⟨_, rfl, _, _, _, [], _, [], hW', trodAll_mk1 (shut_bool Tryz.underlying4 _), (trodAll_cons_mk (Below.trod laidOut (by kernel_rfl) (of_decide_eq_true (by kernel_rfl)) k0 bel lt0) (trodAll_cons_mk (shut_int Tryz.underlying3 w1) trodAll_mk0)), rfl, bel.frame _, fun h => by cases h⟩

theorem over : Rows.gzBackRow.holds Tryz.pinned (OpenSpec.ofChange Rows.gzBackSpec) :=
  OpenClaim.holds_of_wide 5 Tryz.f5 rfl rfl rfl rfl rfl rfl rfl ⟨rfl, rfl, rfl, rfl, rfl⟩ rfl rfl rfl rfl rfl (by kernel_rfl) Tryz.func5 (by kernel_rfl)
    (of_decide_eq_true (by kernel_rfl)) (by unfold Func.isWrapper; first | (rw [if_pos (by decide +kernel)]; kernel_rfl) | (rw [if_neg (by decide +kernel)]; exact ⟨rfl, rfl⟩))
    (fun os started H enc _ => lifted os started H enc)
end Go.Proofs.YtfoaaamcpknjnadGreat.gzBack
namespace Go.Proofs.YtfoaaamcpknjnadGreat
theorem gzBack_holds : Rows.GzBackSaid := gzBack.over
end Go.Proofs.YtfoaaamcpknjnadGreat
