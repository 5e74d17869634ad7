/-
  The law InflateBack answers true for all parts, kinds and bytes behind them: what is packed is unpacked as it was, with its kinds, whatever stands behind it. No condition is asked.
-/
import Derived.Test.YtfoaaamcpknjnacQ52
import Derived.SizedLaws
import Derived.Deep.Matrix
namespace Go.Proofs.Ytfoaaamcpknjnac.inflateBack
open Go.ChangeShapes Go.WideShapes Go.ChangeAt Go.RowKit Go.Deep
set_option linter.unusedVariables false

theorem walk (b o cp np nk ck nm cm : Nat) (ap bk am : Option Addr) (A : Nat → Option Addr) (C : Nat → Nat) (bss : List (List Nat)) (ks : List Int) (more : List Nat) (w : World) (hp : bss.length = np) (hkl : ks.length = nk) (hP : 0 < np → ap = some ⟨b, o, none⟩ ∧ PartsIn w b o A C bss) (hK : RowIn .i64 w bk ks) (hml : more.length = nm) (hmb : nm ≤ 140737488351232) (hby : BytesIn w am more) (hvm : ∀ j, more.getD j 0 < 256) :
    Calls Try.prog 6 #[.slice ap np cp, .slice bk nk ck, .slice am nm cm] w fun e w' => e = .returned (.bool true) ∧ Below w.heap.size w w' := by
  by_cases hE : errP (bss.map List.length) ks = 0
  · have hE2 := hE
    unfold errP at hE2
    by_cases c : (bss.map List.length).length = 0 ∨ ks.length ≠ (bss.map List.length).length
    · rw [if_pos c] at hE2; cases hE2
    · rw [List.length_map, hp, hkl] at c
      have h0 : 0 < np := by omega
      have h1 : np = nk := by omega
      obtain ⟨rfl, hPP⟩ := hP h0
      subst h1
      rcases hK with hk0 | ⟨b2, o2, rfl, hb2, hK⟩
      · rw [hk0] at hkl; simp at hkl; omega
      · exact back_ok b o cp b2 o2 np ck nm cm am A C bss ks more w hp hkl hPP hb2 hK hE hml hmb hby hvm
  · refine back_err ap bk am np cp nk ck nm cm _ w hE ?_
    by_cases h0 : np = 0
    · have hb0 : bss = [] := List.eq_nil_of_length_eq_zero (by omega)
      exact pack_err b o cp bk np nk ck A C bss ks w hp hkl (.inl hb0) hK ap (fun e => absurd hb0 e) _ (hide rfl) hE
    · obtain ⟨h1, hPP⟩ := hP (by omega)
      exact pack_err b o cp bk np nk ck A C bss ks w hp hkl (.inr hPP) hK ap (fun _ => h1) _ (hide rfl) hE

/-! ### the row's step -/
set_option maxRecDepth 100000 in
theorem lifted (os : Os) (started : os.Started) (H : Type) (enc : TypeId × Value → H) :
    ReturnsInHanded {} Try.checked os 6 .any (Rows.inflateBackSpec.pre6 enc Try.prog Try.f6 Rows.inflateBackRow.domain false) (Rows.inflateBackSpec.post enc Try.prog Try.f6 false true false false) := by
  refine returnsInHanded_of_change_sized (C := Try.checked) own started (by kernel_rfl) Try.func6
    (ChangeSpec.witness6 (enc := enc) (C := Try.checked) false ⟨#[], #[.slice none 0 0, .slice none 0 0, .slice none 0 0], []⟩ 8 (by kernel_rfl) (by kernel_rfl) (by kernel_rfl) (by kernel_rfl)) ?_
  intro W base args ds gs before hval0 hW hcnd hsz _
  have hval : ∀ (j : Nat) t v, Try.f6.params[j]? = some t → args[j]? = some v → Value.okWide Try.prog W .any base t v := hval0
  have hW' := hW
  obtain ⟨p, q, hA0, hV, rfl, hfz, hnd⟩ := hW
  have hA : DataW.TrodAll enc Try.prog W 0 (fun _ => true) true Try.f6.params.toList args.toList ds p := hA0
  rw [Try.params6] at hA hval
  obtain ⟨v0, v1, v2, d0, d1, d2, p0, p1, p2, rfl, rfl, rfl, h0, h1, h2⟩ := trodAll_three hA
  obtain ⟨rfl, rfl⟩ := trodVars_none hV
  obtain ⟨a0, len0, cap0, rfl⟩ := okWide_slice Try.underlying35 (hval 0 35 v0 rfl rfl)
  obtain ⟨a1, len1, cap1, rfl⟩ := okWide_slice Try.underlying36 (hval 1 36 v1 rfl rfl)
  obtain ⟨a2, len2, cap2, rfl⟩ := okWide_slice Try.underlying22 (hval 2 22 v2 rfl rfl)
  have k0 := h0
  have k1 := h1
  have k2 := h2
  have lt0 : ∀ x ∈ p0, x.block < W.heap.size := by obtain ⟨m, hm⟩ := k0; exact DataW.trod_lt m _ _ _ hm
  have lt1 : ∀ x ∈ p1, x.block < W.heap.size := by obtain ⟨m, hm⟩ := k1; exact DataW.trod_lt m _ _ _ hm
  have lt2 : ∀ x ∈ p2, x.block < W.heap.size := by obtain ⟨m, hm⟩ := k2; exact DataW.trod_lt m _ _ _ hm
  obtain ⟨fuel0, hf0⟩ := h0
  have hg0 : DataW.trod enc Try.prog W 0 (fun _ => true) true fuel0 35 [.slice a0 len0 cap0] = some (d0, p0) := by simpa [Value.cells] using hf0
  obtain ⟨fuel1, hf1⟩ := h1
  obtain ⟨fuel2, hf2⟩ := h2
  have hg2 : DataW.trod enc Try.prog W 0 (fun _ => true) true fuel2 22 [.slice a2 len2 cap2] = some (d2, p2) := by simpa [Value.cells] using hf2
  obtain ⟨hm2, more, hl2, hx2, hB2⟩ := open_bytes hg2
  have hbig2 := open_size hg2 hsz (j := 2) rfl rfl
  obtain ⟨hm1, ks, hl1, hR⟩ := open_nums (by simpa [Value.cells] using hf1)
  obtain ⟨hm0, b, o, A, C, bss, hl0, hP, hbig⟩ := open_parts hg0 lt0 hsz (j := 0) rfl rfl
  clear hA0 hval0
  refine (walk b o cap0 len0 len1 cap1 len2 cap2 a0 a1 a2 A C bss ks more W hl0 hl1 hP hR hl2 hbig2 hB2 hx2).mono fun e W' ⟨he, bel⟩ => ?_
  subst he
  exact ⟨_, rfl, _, _, _, [], _, [], hW', trodAll_mk1 (shut_bool Try.underlying4 _), (trodAll_cons_mk (Below.trod laidOut (by kernel_rfl) (of_decide_eq_true (by kernel_rfl)) k0 bel lt0) (trodAll_cons_mk (Below.trod laidOut (by kernel_rfl) (of_decide_eq_true (by kernel_rfl)) k1 bel lt1) (trodAll_cons_mk (Below.trod laidOut (by kernel_rfl) (of_decide_eq_true (by kernel_rfl)) k2 bel lt2) trodAll_mk0))), rfl, bel.frame _, fun h => by cases h⟩

theorem over : Rows.inflateBackRow.holds Try.pinned (OpenSpec.ofChange Rows.inflateBackSpec) :=
  OpenClaim.holds_of_wide 6 Try.f6 rfl rfl rfl rfl rfl rfl rfl ⟨rfl, rfl, rfl, rfl, rfl⟩ rfl rfl rfl rfl rfl (by kernel_rfl) Try.func6 (by kernel_rfl)
    (of_decide_eq_true (by kernel_rfl)) (by unfold Func.isWrapper; first | (rw [if_pos (by decide +kernel)]; kernel_rfl) | (rw [if_neg (by decide +kernel)]; exact ⟨rfl, rfl⟩))
    (fun os started H enc _ => lifted os started H enc)
end Go.Proofs.Ytfoaaamcpknjnac.inflateBack
namespace Go.Proofs.Ytfoaaamcpknjnac
theorem inflateBack_holds : Rows.InflateBackSaid := inflateBack.over
end Go.Proofs.Ytfoaaamcpknjnac
