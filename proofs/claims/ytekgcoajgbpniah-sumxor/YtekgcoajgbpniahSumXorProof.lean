/-
  The law SumXor answers true for all rows of bytes: of three rows of as many bytes the sum of what is turned together is the sums turned together. No condition is asked.
-/
import Derived.Test.YtekgcoajgbpniahSumXor1
import Derived.Test.YtekgcoajgbpniahOpenB
namespace Go.Proofs.Ytekgcoajgbpniah.sumXor
open Go.ChangeShapes Go.WideShapes Go.ChangeAt Go.RowKit
set_option linter.unusedVariables false

theorem least4 (la lb lc : Nat) : ∃ n : Nat, n ≤ la ∧ n ≤ lb ∧ n ≤ lc ∧ n ≤ 12000 ∧ ∀ w : World, (Builtin.min_ #[3, 3, 3, 3] 3 #[.int .i64 la, .int .i64 lb, .int .i64 lc, .int .i64 12000]).run Try.prog w = .ok (.int .i64 (n : Int)) w := by
  refine ⟨min (min (min la lb) lc) 12000, by omega, by omega, by omega, by omega, fun w => ?_⟩
  simp [Builtin.min_, Builtin.min2]
  repeat' split
  all_goals omega

theorem walk (a b c : Option Addr) (la lb lc ca cb cc : Nat) (xs ys zs : List Nat) (w : World) (hla : xs.length = la) (hlb : ys.length = lb) (hlc : zs.length = lc) (hca : la ≤ ca) (hcb : lb ≤ cb) (hcc : lc ≤ cc) (hma : la ≤ maxLen) (hmb : lb ≤ maxLen) (hmc : lc ≤ maxLen)
    (hba : BytesIn w a xs) (hbb : BytesIn w b ys) (hbc : BytesIn w c zs) (hva : ∀ j, xs.getD j 0 < 256) (hvb : ∀ j, ys.getD j 0 < 256) (hvc : ∀ j, zs.getD j 0 < 256) :
    Calls Try.prog 7 #[.slice a la ca, .slice b lb cb, .slice c lc cc] w fun e w' => e = .returned (.bool true) ∧ Below w.heap.size w w' := by
  obtain ⟨n, h1, h2, h3, h4, h5⟩ := least4 la lb lc
  exact sumXor_any a b c la lb lc ca cb cc xs ys zs w hla hlb hlc hca hcb hcc hma hmb hmc hba hbb hbc hva hvb hvc n h1 h2 h3 h4 h5

/-! ### the row's step -/
set_option maxRecDepth 100000 in
theorem lifted (os : Os) (started : os.Started) (H : Type) (enc : TypeId × Value → H) :
    ReturnsInHanded {} Try.checked os 7 .any (Rows.sumXorSpec.pre6 enc Try.prog Try.f7 Rows.sumXorRow.domain false) (Rows.sumXorSpec.post enc Try.prog Try.f7 false true false false) := by
  refine returnsInHanded_of_change (C := Try.checked) own started (by kernel_rfl) Try.func7
    (ChangeSpec.witness6 (enc := enc) (C := Try.checked) false ⟨#[], #[.slice none 0 0, .slice none 0 0, .slice none 0 0], []⟩ 8 (by kernel_rfl) (by kernel_rfl) (by kernel_rfl) (by kernel_rfl)) ?_
  intro W base args ds gs before hval0 hW hcnd _
  have hval : ∀ (j : Nat) t v, Try.f7.params[j]? = some t → args[j]? = some v → Value.okWide Try.prog W .any base t v := hval0
  have hW' := hW
  obtain ⟨p, q, hA0, hV, rfl, hfz, hnd⟩ := hW
  have hA : DataW.TrodAll enc Try.prog W 0 (fun _ => true) true Try.f7.params.toList args.toList ds p := hA0
  rw [Try.params7] at hA hval
  obtain ⟨v0, v1, v2, d0, d1, d2, p0, p1, p2, rfl, rfl, rfl, h0, h1, h2⟩ := trodAll_three hA
  obtain ⟨rfl, rfl⟩ := trodVars_none hV
  obtain ⟨a0, len0, cap0, rfl⟩ := okWide_slice Try.underlying23 (hval 0 23 v0 rfl rfl)
  obtain ⟨a1, len1, cap1, rfl⟩ := okWide_slice Try.underlying23 (hval 1 23 v1 rfl rfl)
  obtain ⟨a2, len2, cap2, rfl⟩ := okWide_slice Try.underlying23 (hval 2 23 v2 rfl rfl)
  have k0 := h0
  have k1 := h1
  have k2 := h2
  have lt0 : ∀ x ∈ p0, x.block < W.heap.size := by obtain ⟨m, hm⟩ := k0; exact DataW.trod_lt m _ _ _ hm
  have lt1 : ∀ x ∈ p1, x.block < W.heap.size := by obtain ⟨m, hm⟩ := k1; exact DataW.trod_lt m _ _ _ hm
  have lt2 : ∀ x ∈ p2, x.block < W.heap.size := by obtain ⟨m, hm⟩ := k2; exact DataW.trod_lt m _ _ _ hm
  obtain ⟨fuel0, hf0⟩ := h0
  have hg0 : DataW.trod enc Try.prog W 0 (fun _ => true) true fuel0 23 [.slice a0 len0 cap0] = some (d0, p0) := by simpa [Value.cells] using hf0
  obtain ⟨fuel1, hf1⟩ := h1
  have hg1 : DataW.trod enc Try.prog W 0 (fun _ => true) true fuel1 23 [.slice a1 len1 cap1] = some (d1, p1) := by simpa [Value.cells] using hf1
  obtain ⟨fuel2, hf2⟩ := h2
  have hg2 : DataW.trod enc Try.prog W 0 (fun _ => true) true fuel2 23 [.slice a2 len2 cap2] = some (d2, p2) := by simpa [Value.cells] using hf2
  obtain ⟨hm0, bs0, hl0, hx0, hB0⟩ := open_bytes hg0
  obtain ⟨hm1, bs1, hl1, hx1, hB1⟩ := open_bytes hg1
  obtain ⟨hm2, bs2, hl2, hx2, hB2⟩ := open_bytes hg2
  clear hA0 hval0
  refine (walk a0 a1 a2 len0 len1 len2 cap0 cap1 cap2 bs0 bs1 bs2 W hl0 hl1 hl2 (open_cap hg0) (open_cap hg1) (open_cap hg2) hm0 hm1 hm2 hB0 hB1 hB2 hx0 hx1 hx2).mono fun e W' ⟨he, bel⟩ => ?_
  subst he
  exact ⟨_, rfl, _, _, _, [], _, [], hW', trodAll_mk1 (shut_bool Try.underlying4 _), (trodAll_cons_mk (Below.trod laidOut (by kernel_rfl) (of_decide_eq_true (by kernel_rfl)) k0 bel lt0) (trodAll_cons_mk (Below.trod laidOut (by kernel_rfl) (of_decide_eq_true (by kernel_rfl)) k1 bel lt1) (trodAll_cons_mk (Below.trod laidOut (by kernel_rfl) (of_decide_eq_true (by kernel_rfl)) k2 bel lt2) trodAll_mk0))), rfl, bel.frame _, fun h => by cases h⟩

theorem over : Rows.sumXorRow.holds Try.pinned (OpenSpec.ofChange Rows.sumXorSpec) :=
  OpenClaim.holds_of_wide 7 Try.f7 rfl rfl rfl rfl rfl rfl rfl ⟨rfl, rfl, rfl, rfl, rfl⟩ rfl rfl rfl rfl rfl (by kernel_rfl) Try.func7 (by kernel_rfl)
    (of_decide_eq_true (by kernel_rfl)) (by unfold Func.isWrapper; first | (rw [if_pos (by decide +kernel)]; kernel_rfl) | (rw [if_neg (by decide +kernel)]; exact ⟨rfl, rfl⟩))
    (fun os started H enc _ => lifted os started H enc)
end Go.Proofs.Ytekgcoajgbpniah.sumXor
namespace Go.Proofs.Ytekgcoajgbpniah
theorem sumXor_holds : Rows.SumXorSaid := sumXor.over
end Go.Proofs.Ytekgcoajgbpniah
