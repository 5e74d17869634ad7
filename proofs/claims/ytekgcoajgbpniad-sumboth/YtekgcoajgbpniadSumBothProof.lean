/-
  The law SumBoth answers true for all rows of bytes and all numbers: two sums make that of both rows, errors too. No condition is asked.
-/
import Derived.Test.YtekgcoajgbpniadSumBoth1
import Derived.Test.YtekgcoajgbpniadOpenU
namespace Go.Proofs.Ytekgcoajgbpniad.sumBoth
open Go.ChangeShapes Go.WideShapes Go.ChangeAt Go.RowKit
set_option linter.unusedVariables false

theorem walk (a b : Option Addr) (la lb ca cb : Nat) (xs ys : List Nat) (x y long : Int) (w : World) (hla : xs.length = la) (hlb : ys.length = lb) (hx : 0 ≤ x ∧ x < 4294967296) (hy : 0 ≤ y ∧ y < 4294967296) (hm : la + lb ≤ 281474976710656)
    (hba : BytesIn w a xs) (hbb : BytesIn w b ys) (hva : ∀ j, xs.getD j 0 < 256) (hvb : ∀ j, ys.getD j 0 < 256) :
    Calls Try.prog 4 #[.slice a la ca, .slice b lb cb, .int .u32 x, .int .u32 y, .int .i64 long] w fun e w' => e = .returned (.bool true) ∧ Below w.heap.size w w' := by
  obtain ⟨x, rfl⟩ := Int.eq_ofNat_of_zero_le hx.1
  obtain ⟨y, rfl⟩ := Int.eq_ofNat_of_zero_le hy.1
  have hx2 : x < 4294967296 := by omega
  have hy2 : y < 4294967296 := by omega
  by_cases hs : la + lb ≤ 12000
  · by_cases h1 : long < 0
    · exact sumBoth_below_few a b la lb ca cb xs ys x y long h1 w hla hlb hx2 hy2 hs hba hbb hva hvb
    · by_cases h2 : 1000000 < long
      · exact sumBoth_above_few a b la lb ca cb xs ys x y long h2 w hla hlb hx2 hy2 hs hba hbb hva hvb
      · obtain ⟨m, rfl⟩ := Int.eq_ofNat_of_zero_le (show 0 ≤ long by omega)
        by_cases h3 : m = 0
        · subst h3
          exact sumBoth_zero_few a b la lb ca cb xs ys x y w hla hlb hx2 hy2 hs hba hbb hva hvb
        · exact sumBoth_in_few a b la lb ca cb xs ys x y m (by omega) (by omega) w hla hlb hx2 hy2 hs hba hbb hva hvb
  · by_cases h1 : long < 0
    · exact sumBoth_below_many a b la lb ca cb xs ys x y long h1 w hla hlb hx2 hy2 (by omega) hm hba hbb hva hvb
    · by_cases h2 : 1000000 < long
      · exact sumBoth_above_many a b la lb ca cb xs ys x y long h2 w hla hlb hx2 hy2 (by omega) hm hba hbb hva hvb
      · obtain ⟨m, rfl⟩ := Int.eq_ofNat_of_zero_le (show 0 ≤ long by omega)
        by_cases h3 : m = 0
        · subst h3
          exact sumBoth_zero_many a b la lb ca cb xs ys x y w hla hlb hx2 hy2 (by omega) hm hba hbb hva hvb
        · exact sumBoth_in_many a b la lb ca cb xs ys x y m (by omega) (by omega) w hla hlb hx2 hy2 (by omega) hm hba hbb hva hvb

/-! ### the row's step -/
set_option maxRecDepth 100000 in
theorem lifted (os : Os) (started : os.Started) (H : Type) (enc : TypeId × Value → H) :
    ReturnsInHanded {} Try.checked os 4 .any (Rows.sumBothSpec.pre6 enc Try.prog Try.f4 Rows.sumBothRow.domain false) (Rows.sumBothSpec.post enc Try.prog Try.f4 false true false false) := by
  refine returnsInHanded_of_change_sized (C := Try.checked) own started (by kernel_rfl) Try.func4
    (ChangeSpec.witness6 (enc := enc) (C := Try.checked) false ⟨#[], #[.slice none 0 0, .slice none 0 0, .int .u32 0, .int .u32 0, .int .i64 0], []⟩ 8 (by kernel_rfl) (by kernel_rfl) (by kernel_rfl) (by kernel_rfl)) ?_
  intro W base args ds gs before hval0 hW hcnd hsz _
  have hval : ∀ (j : Nat) t v, Try.f4.params[j]? = some t → args[j]? = some v → Value.okWide Try.prog W .any base t v := hval0
  have hW' := hW
  obtain ⟨p, q, hA0, hV, rfl, hfz, hnd⟩ := hW
  have hA : DataW.TrodAll enc Try.prog W 0 (fun _ => true) true Try.f4.params.toList args.toList ds p := hA0
  rw [Try.params4] at hA hval
  obtain ⟨v0, v1, v2, v3, v4, d0, d1, d2, d3, d4, p0, p1, p2, p3, p4, rfl, rfl, rfl, h0, h1, h2, h3, h4⟩ := trodAll_five hA
  obtain ⟨rfl, rfl⟩ := trodVars_none hV
  obtain ⟨a0, len0, cap0, rfl⟩ := okWide_slice Try.underlying23 (hval 0 23 v0 rfl rfl)
  obtain ⟨a1, len1, cap1, rfl⟩ := okWide_slice Try.underlying23 (hval 1 23 v1 rfl rfl)
  have k0 := h0
  have k1 := h1
  have lt0 : ∀ x ∈ p0, x.block < W.heap.size := by obtain ⟨m, hm⟩ := k0; exact DataW.trod_lt m _ _ _ hm
  have lt1 : ∀ x ∈ p1, x.block < W.heap.size := by obtain ⟨m, hm⟩ := k1; exact DataW.trod_lt m _ _ _ hm
  obtain ⟨fuel0, hf0⟩ := h0
  have hg0 : DataW.trod enc Try.prog W 0 (fun _ => true) true fuel0 23 [.slice a0 len0 cap0] = some (d0, p0) := by simpa [Value.cells] using hf0
  obtain ⟨fuel1, hf1⟩ := h1
  have hg1 : DataW.trod enc Try.prog W 0 (fun _ => true) true fuel1 23 [.slice a1 len1 cap1] = some (d1, p1) := by simpa [Value.cells] using hf1
  obtain ⟨hm0, bs0, hl0, hx0, hB0⟩ := open_bytes hg0
  obtain ⟨hm1, bs1, hl1, hx1, hB1⟩ := open_bytes hg1
  obtain ⟨n2, rfl, rfl, rfl, w2⟩ := open_int Try.underlying22 (hval 2 22 v2 rfl rfl) h2
  obtain ⟨n3, rfl, rfl, rfl, w3⟩ := open_int Try.underlying22 (hval 3 22 v3 rfl rfl) h3
  obtain ⟨n4, rfl, rfl, rfl, w4⟩ := open_int Try.underlying3 (hval 4 3 v4 rfl rfl) h4
  have z0 := open_size hg0 hsz (j := 0) rfl rfl
  have z1 := open_size hg1 hsz (j := 1) rfl rfl
  clear hA0 hval0
  refine (walk a0 a1 len0 len1 cap0 cap1 bs0 bs1 n2 n3 n4 W hl0 hl1 (wf_u32 w2) (wf_u32 w3) (by omega) hB0 hB1 hx0 hx1).mono fun e W' ⟨he, bel⟩ => ?_
  subst he
  exact ⟨_, rfl, _, _, _, [], _, [], hW', trodAll_mk1 (shut_bool Try.underlying4 _), (trodAll_cons_mk (Below.trod laidOut (by kernel_rfl) (of_decide_eq_true (by kernel_rfl)) k0 bel lt0) (trodAll_cons_mk (Below.trod laidOut (by kernel_rfl) (of_decide_eq_true (by kernel_rfl)) k1 bel lt1) (trodAll_cons_mk (shut_int Try.underlying22 w2) (trodAll_cons_mk (shut_int Try.underlying22 w3) (trodAll_cons_mk (shut_int Try.underlying3 w4) trodAll_mk0))))), rfl, bel.frame _, fun h => by cases h⟩

theorem over : Rows.sumBothRow.holds Try.pinned (OpenSpec.ofChange Rows.sumBothSpec) :=
  OpenClaim.holds_of_wide 4 Try.f4 rfl rfl rfl rfl rfl rfl rfl ⟨rfl, rfl, rfl, rfl, rfl⟩ rfl rfl rfl rfl rfl (by kernel_rfl) Try.func4 (by kernel_rfl)
    (of_decide_eq_true (by kernel_rfl)) (by unfold Func.isWrapper; first | (rw [if_pos (by decide +kernel)]; kernel_rfl) | (rw [if_neg (by decide +kernel)]; exact ⟨rfl, rfl⟩))
    (fun os started H enc _ => lifted os started H enc)
end Go.Proofs.Ytekgcoajgbpniad.sumBoth
namespace Go.Proofs.Ytekgcoajgbpniad
theorem sumBoth_holds : Rows.SumBothSaid := sumBoth.over
end Go.Proofs.Ytekgcoajgbpniad
