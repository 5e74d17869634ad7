/-
  The law MatchTokens answers true for all bytes and all places: the tokens of the bytes, and what stood ahead of the place, are the document's, errors too. No condition is asked.
-/
import Derived.Test.YtmafecagcglaoabMatchTokens1
import Derived.Test.YtmafecagcglaoabOpenIn
namespace Go.Proofs.Ytmafecagcglaoab.matchTokens
open Go.ChangeShapes Go.WideShapes Go.ChangeAt Go.RowKit
set_option linter.unusedVariables false

theorem walk (a1 : Option Addr) (l1 c1 : Nat) (bs : List Nat) (k : Int) (w : World) (hl1 : bs.length = l1) (hc : l1 ≤ c1) (hx : ∀ j, bs.getD j 0 < 256) (hB : BytesIn w a1 bs) :
    Calls Try.prog 8 #[.slice a1 l1 c1, .int .i64 k] w fun e w' => e = .returned (.bool true) ∧ Below w.heap.size w w' := by
  by_cases h : 3000 < l1
  · exact tokens_law_many a1 l1 c1 k w h
  · by_cases hk : k < 0 ∨ (l1 : Int) ≤ k
    · exact tokens_law_who a1 l1 c1 k bs w hl1 (by omega) hc hB hx hk
    · obtain ⟨kk, rfl⟩ := Int.eq_ofNat_of_zero_le (show 0 ≤ k by omega)
      obtain ⟨b, o, rfl, hb, hBy⟩ := bytesIn_some hB (by omega)
      exact tokens_law_ok b o l1 c1 kk bs w hl1 (by omega) hc hb hBy hx (by omega)

/-! ### the row's step -/
set_option maxRecDepth 100000 in
theorem lifted (os : Os) (started : os.Started) (H : Type) (enc : TypeId × Value → H) :
    ReturnsInHanded {} Try.checked os 8 .any (Rows.matchTokensSpec.pre6 enc Try.prog Try.f8 Rows.matchTokensRow.domain false) (Rows.matchTokensSpec.post enc Try.prog Try.f8 false true false false) := by
  refine returnsInHanded_of_change (C := Try.checked) own started (by kernel_rfl) Try.func8
    (ChangeSpec.witness6 (enc := enc) (C := Try.checked) false ⟨#[], #[.slice none 0 0, .int .i64 0], []⟩ 8 (by kernel_rfl) (by kernel_rfl) (by kernel_rfl) (by kernel_rfl)) ?_
  intro W base args ds gs before hval0 hW hcnd _
  have hval : ∀ (j : Nat) t v, Try.f8.params[j]? = some t → args[j]? = some v → Value.okWide Try.prog W .any base t v := hval0
  have hW' := hW
  obtain ⟨p, q, hA0, hV, rfl, hfz, hnd⟩ := hW
  have hA : DataW.TrodAll enc Try.prog W 0 (fun _ => true) true Try.f8.params.toList args.toList ds p := hA0
  rw [Try.params8] at hA hval
  obtain ⟨v1, v2, d1, d2, p1, p2, rfl, rfl, rfl, h1, h2⟩ := trodAll_two hA
  obtain ⟨rfl, rfl⟩ := trodVars_none hV
  obtain ⟨a1, len1, cap1, rfl⟩ := okWide_slice Try.underlying23 (hval 0 23 v1 rfl rfl)
  have k1 := h1
  have lt1 : ∀ x ∈ p1, x.block < W.heap.size := by obtain ⟨m, hm⟩ := k1; exact DataW.trod_lt m _ _ _ hm
  obtain ⟨fuel1, hf1⟩ := h1
  have hf2 : DataW.trod enc Try.prog W 0 (fun _ => true) true fuel1 23 [.slice a1 len1 cap1] = some (d1, p1) := by simpa [Value.cells] using hf1
  obtain ⟨hm1, bs, hl1, hx, hB⟩ := open_bytes hf2
  have hc := open_cap hf2
  obtain ⟨n2, rfl, rfl, rfl, w2⟩ := open_int Try.underlying3 (hval 1 3 v2 rfl rfl) h2
  clear hA0 hval0
  refine (walk a1 len1 cap1 bs n2 W hl1 hc hx hB).mono fun e W' ⟨he, bel⟩ => ?_
  subst he
  exact ⟨_, rfl, _, _, _, [], _, [], hW', trodAll_mk1 (shut_bool Try.underlying4 _), (trodAll_cons_mk (Below.trod laidOut (by kernel_rfl) (of_decide_eq_true (by kernel_rfl)) k1 bel lt1) (trodAll_cons_mk (shut_int Try.underlying3 w2) trodAll_mk0)), rfl, bel.frame _, fun h => by cases h⟩

theorem over : Rows.matchTokensRow.holds Try.pinned (OpenSpec.ofChange Rows.matchTokensSpec) :=
  OpenClaim.holds_of_wide 8 Try.f8 rfl rfl rfl rfl rfl rfl rfl ⟨rfl, rfl, rfl, rfl, rfl⟩ rfl rfl rfl rfl rfl (by kernel_rfl) Try.func8 (by kernel_rfl)
    (of_decide_eq_true (by kernel_rfl)) (by unfold Func.isWrapper; first | (rw [if_pos (by decide +kernel)]; kernel_rfl) | (rw [if_neg (by decide +kernel)]; exact ⟨rfl, rfl⟩))
    (fun os started H enc _ => lifted os started H enc)
end Go.Proofs.Ytmafecagcglaoab.matchTokens
namespace Go.Proofs.Ytmafecagcglaoab
theorem matchTokens_holds : Rows.MatchTokensSaid := matchTokens.over
end Go.Proofs.Ytmafecagcglaoab
