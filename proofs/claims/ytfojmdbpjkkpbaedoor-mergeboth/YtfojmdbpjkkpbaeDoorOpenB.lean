/-
  Rows of bytes as arguments.
-/
import Derived.Test.YtfojmdbpjkkpbaeDoorIn0
import Derived.Deep.Slices
namespace Go.Proofs.YtfojmdbpjkkpbaeDoor
open Go.RowKit Go.ChangeShapes Go.WideShapes Go.ChangeAt Go.Deep
set_option linter.unusedVariables false

theorem add_plain (b o j : Nat) : (⟨b, o, none⟩ : Addr).add j = ⟨b, o + j, none⟩ := by unfold Addr.add; split <;> simp_all

theorem cells5 : Tryd.prog.cellsOf 5 = 1 := by kernel_rfl

theorem open_bytes {H : Type} {enc : TypeId × Value → H} {w : World} {fuel : Nat} {a0 : Option Addr} {l0 c0 : Nat} {x : DataW H × List MemPlace}
    (h : DataW.trod enc Tryd.prog w 0 (fun _ => true) true fuel 38 [.slice a0 l0 c0] = some x) : l0 ≤ maxLen ∧ ∃ xs, xs.length = l0 ∧ (∀ j, xs.getD j 0 < 256) ∧ BytesIn w a0 xs := by
  rcases open_ints Tryd.underlying38 Tryd.underlying5 cells5 h with ⟨hcs, _⟩ | ⟨a, l, c, zs, hcs, _, hl, hm, hz, _, hcell, hwz⟩
  · simp at hcs
    obtain ⟨rfl, rfl, rfl⟩ := hcs
    exact ⟨Nat.zero_le _, [], rfl, fun j => by simp, .inl rfl⟩
  · simp at hcs
    obtain ⟨rfl, rfl, rfl⟩ := hcs
    have hz' : zs.length = c0 := by simpa using hz
    have hb : ∀ j, j < zs.length → 0 ≤ zs.getD j 0 ∧ zs.getD j 0 ≤ 255 := by
      intro j hj
      have hmem : zs.getD j 0 ∈ zs := by simp [List.getD, hj]
      have := hwz _ hmem
      simpa [Lit.wf, IntKind.min, IntKind.max, IntKind.signed, IntKind.bits] using this
    have e1 : ∀ j, j < l0 → ((zs.take l0).map Int.toNat).getD j 0 = (zs.getD j 0).toNat := by
      intro j hj
      have : j < zs.length := by omega
      simp [List.getD, hj, this]
    refine ⟨Nat.le_trans hl hm, (zs.take l0).map Int.toNat, by simp; omega, ?_, ?_⟩
    · intro j
      by_cases hj : j < l0
      · rw [e1 j hj]
        have := hb j (by omega)
        omega
      · have : ((zs.take l0).map Int.toNat).length ≤ j := by simp; omega
        rw [List.getD_eq_getElem?_getD, List.getElem?_eq_none this]; simp
    by_cases h0 : l0 = 0
    · subst h0
      exact .inl rfl
    · obtain ⟨b, o, spot⟩ := a
      have hc := hcell 0 (by omega)
      have hspot : spot = none := by simpa [Addr.add] using World.cell?_spot hc
      subst hspot
      refine .inr ⟨b, o, rfl, ?_, ?_⟩
      · have := World.block_lt_of_cell? _ _ hc
        simpa [Addr.add] using this
      · intro j hj
        have hj' : j < l0 := by simp at hj; omega
        have h1 := hcell j (by omega)
        rw [e1 j hj', Int.toNat_of_nonneg (hb j (by omega)).1]
        rw [add_plain] at h1
        exact h1
theorem open_cap {H : Type} {enc : TypeId × Value → H} {w : World} {fuel : Nat} {a0 : Option Addr} {l0 c0 : Nat} {x : DataW H × List MemPlace}
    (h : DataW.trod enc Tryd.prog w 0 (fun _ => true) true fuel 38 [.slice a0 l0 c0] = some x) : l0 ≤ c0 := by
  rcases open_ints Tryd.underlying38 Tryd.underlying5 cells5 h with ⟨hcs, _⟩ | ⟨a, l, c, zs, hcs, _, hl, hm, hz, _, hcell, hwz⟩
  · simp at hcs
    obtain ⟨rfl, rfl, rfl⟩ := hcs
    exact Nat.le_refl _
  · simp at hcs
    obtain ⟨rfl, rfl, rfl⟩ := hcs
    exact hl
end Go.Proofs.YtfojmdbpjkkpbaeDoor
