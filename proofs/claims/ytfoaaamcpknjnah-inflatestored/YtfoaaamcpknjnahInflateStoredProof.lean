/-
  The law InflateStored answers true for all parts: any bytes, stored by hand in as many blocks as one likes, are unpacked. No condition is asked.
-/
import Derived.Test.YtfoaaamcpknjnahQT
import Derived.SizedLaws
import Derived.Deep.Matrix
namespace Go.Proofs.Ytfoaaamcpknjnah.inflateStored
open Go.ChangeShapes Go.WideShapes Go.ChangeAt Go.RowKit Go.Deep
set_option linter.unusedVariables false

theorem open_pcap {H : Type} {enc : TypeId × Value → H} {w : World} {fuel : Nat} {a0 : Option Addr} {l0 c0 : Nat} {x : DataW H × List MemPlace}
    (h : DataW.trod enc Try.prog w 0 (fun _ => true) true fuel 48 [.slice a0 l0 c0] = some x) : l0 ≤ c0 := by
  rcases open_int_rows Try.underlying48 Try.underlying23 Try.underlying5 cellsPP cells5 h with ⟨hcs, _⟩ | ⟨a, len, cap, A, L, C, Z, hcs, _, hl, hm, hx, hrow⟩
  · simp at hcs
    obtain ⟨rfl, rfl, rfl⟩ := hcs
    exact Nat.le_refl _
  · simp at hcs
    obtain ⟨rfl, rfl, rfl⟩ := hcs
    exact hl

theorem walk (b o cp np : Nat) (ap : Option Addr) (A : Nat → Option Addr) (C : Nat → Nat) (bss : List (List Nat)) (w : World) (hp : bss.length = np) (hP : 0 < np → ap = some ⟨b, o, none⟩ ∧ PartsIn w b o A C bss) (hbig : ∀ j, j < np → (bss.getD j []).length ≤ 140737488351232) (hmp : np ≤ maxLen) (hcap : np ≤ cp) :
    Calls Try.prog 6 #[.slice ap np cp] w fun e w' => e = .returned (.bool true) ∧ Below w.heap.size w w' := by
  unfold maxLen at hmp
  obtain ⟨m, h1, h2, h3⟩ := least40 np hmp
  exact infStored_any b o cp np m ap A C bss w hp (fun h => (hP h).1) (fun h => (hP h).2) hcap hmp hbig h1 h2 h3

/-! ### the row's step -/
set_option maxRecDepth 100000 in
theorem lifted (os : Os) (started : os.Started) (H : Type) (enc : TypeId × Value → H) :
    ReturnsInHanded {} Try.checked os 6 .any (Rows.inflateStoredSpec.pre6 enc Try.prog Try.f6 Rows.inflateStoredRow.domain false) (Rows.inflateStoredSpec.post enc Try.prog Try.f6 false true false false) := by
  refine returnsInHanded_of_change_sized (C := Try.checked) own started (by kernel_rfl) Try.func6
    (ChangeSpec.witness6 (enc := enc) (C := Try.checked) false ⟨#[], #[.slice none 0 0], []⟩ 8 (by kernel_rfl) (by kernel_rfl) (by kernel_rfl) (by kernel_rfl)) ?_
  intro W base args ds gs before hval0 hW hcnd hsz _
  have hval : ∀ (j : Nat) t v, Try.f6.params[j]? = some t → args[j]? = some v → Value.okWide Try.prog W .any base t v := hval0
  have hW' := hW
  obtain ⟨p, q, hA0, hV, rfl, hfz, hnd⟩ := hW
  have hA : DataW.TrodAll enc Try.prog W 0 (fun _ => true) true Try.f6.params.toList args.toList ds p := hA0
  rw [Try.params6] at hA hval
  obtain ⟨v0, d0, rfl, rfl, h0⟩ := trodAll_one hA
  obtain ⟨rfl, rfl⟩ := trodVars_none hV
  obtain ⟨a0, len0, cap0, rfl⟩ := okWide_slice Try.underlying48 (hval 0 48 v0 rfl rfl)
  have k0 := h0
  have lt0 : ∀ x ∈ p, x.block < W.heap.size := by obtain ⟨m, hm⟩ := k0; exact DataW.trod_lt m _ _ _ hm
  obtain ⟨fuel0, hf0⟩ := h0
  have hg0 : DataW.trod enc Try.prog W 0 (fun _ => true) true fuel0 48 [.slice a0 len0 cap0] = some (d0, p) := by simpa [Value.cells] using hf0
  obtain ⟨hm0, b, o, A, C, bss, hl0, hP, hbig⟩ := open_parts hg0 lt0 hsz (j := 0) rfl rfl
  clear hA0 hval0
  refine (walk b o cap0 len0 a0 A C bss W hl0 hP hbig hm0 (open_pcap hg0)).mono fun e W' ⟨he, bel⟩ => ?_
  subst he
  exact ⟨_, rfl, _, _, _, [], _, [], hW', trodAll_mk1 (shut_bool Try.underlying4 _), (trodAll_cons_mk (Below.trod laidOut (by kernel_rfl) (of_decide_eq_true (by kernel_rfl)) k0 bel lt0) trodAll_mk0), rfl, bel.frame _, fun h => by cases h⟩

theorem over : Rows.inflateStoredRow.holds Try.pinned (OpenSpec.ofChange Rows.inflateStoredSpec) :=
  OpenClaim.holds_of_wide 6 Try.f6 rfl rfl rfl rfl rfl rfl rfl ⟨rfl, rfl, rfl, rfl, rfl⟩ rfl rfl rfl rfl rfl (by kernel_rfl) Try.func6 (by kernel_rfl)
    (of_decide_eq_true (by kernel_rfl)) (by unfold Func.isWrapper; first | (rw [if_pos (by decide +kernel)]; kernel_rfl) | (rw [if_neg (by decide +kernel)]; exact ⟨rfl, rfl⟩))
    (fun os started H enc _ => lifted os started H enc)
end Go.Proofs.Ytfoaaamcpknjnah.inflateStored
namespace Go.Proofs.Ytfoaaamcpknjnah
theorem inflateStored_holds : Rows.InflateStoredSaid := inflateStored.over
end Go.Proofs.Ytfoaaamcpknjnah
