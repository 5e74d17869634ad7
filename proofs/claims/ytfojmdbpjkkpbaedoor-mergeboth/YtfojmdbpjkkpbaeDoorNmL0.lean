/-
  Rows of texts of a call's own.
-/
import Derived.Test.YtfojmdbpjkkpbaeDoorNmS
import Derived.Test.YtfojmdbpjkkpbaeDoorOwnB
namespace Go.Proofs.YtfojmdbpjkkpbaeDoor
open Go.RowKit
set_option linter.unusedVariables false
set_option maxRecDepth 100000

/-- v is a row of the call's own, from block b on, that holds the texts ps -/
def SRow (w : World) (b : Nat) (v : Value) (ps : List (List UInt8)) : Prop := w.ownsRow b 9 1 v ps.length (strV ps)
theorem strV_len (ps : List (List UInt8)) : (strV ps).length = ps.length := by simp [strV]
theorem SRow.nil (w : World) (b : Nat) : SRow w b (.slice none 0 0) [] := World.ownsRow_nil _ _ _ _
theorem SRow.new (w : World) (ps : List (List UInt8)) (h : ps.length ≤ maxLen) : SRow (w.alloc (.cells (strV ps).toArray 9)) w.heap.size (.slice (some ⟨w.heap.size, 0, none⟩) ps.length ps.length) ps :=
  ⟨by rw [strV_len]; omega, .inr ⟨w.heap.size, ps.length, (strV ps).toArray, rfl, Nat.le_refl _, heap_alloc_new w _, Nat.le_refl _, h, by simp [strV_len], by simp [← strV_len]⟩⟩
theorem SRow.below {w w' : World} {b : Nat} {v : Value} {ps : List (List UInt8)} (h : SRow w b v ps) (hg : Below w.heap.size w w') : SRow w' b v ps := own_below h hg
theorem SRow.drewN {w : World} {b : Nat} {v : Value} {ps : List (List UInt8)} (h : SRow w b v ps) (n : Nat) : SRow (w.drewN n) b v ps := h.below (below_drewN (Below.refl _ _) n)
theorem SRow.mono {w : World} {b c : Nat} {v : Value} {ps : List (List UInt8)} (h : SRow w b v ps) (hc : c ≤ b) : SRow w c v ps := by
  obtain ⟨h1, h2⟩ := h
  refine ⟨h1, h2.imp id ?_⟩
  rintro ⟨g, cap, cur, a1, a2, a3⟩
  exact ⟨g, cap, cur, a1, Nat.le_trans hc a2, a3⟩
/-- what it is -/
theorem SRow.cases {w : World} {b : Nat} {v : Value} {ps : List (List UInt8)} (h : SRow w b v ps) : (v = .slice none 0 0 ∧ ps = []) ∨ ∃ g cap, v = .slice (some ⟨g, 0, none⟩) ps.length cap ∧ b ≤ g ∧ g < w.heap.size ∧ ps.length ≤ cap ∧ cap ≤ maxLen ∧ ∀ j x, (ps.map B)[j]? = some x → w.cell? ⟨g, 0 + j, none⟩ = some (.string x) := by
  obtain ⟨h1, h2 | ⟨g, cap, cur, a1, a2, a3, a4, a5, a6, a7⟩⟩ := h
  · exact .inl ⟨h2.1, List.length_eq_zero_iff.1 h2.2⟩
  · have hg : g < w.heap.size := by
      rcases Nat.lt_or_ge g w.heap.size with h' | h'
      · exact h'
      · simp [Array.getElem?_eq_none h'] at a3
    refine .inr ⟨g, cap, a1, a2, hg, a4, a5, ?_⟩
    intro j x hx
    have hj : j < ps.length := by
      rcases Nat.lt_or_ge j ps.length with h' | h'
      · exact h'
      · rw [List.getElem?_eq_none (by simpa using h')] at hx; exact absurd hx (by simp)
    rw [Nat.zero_add, Lib.cell_of_heap a3]
    have e : (cur.toList.take (ps.length * 1))[j]? = (strV ps)[j]? := by rw [a7]
    rw [List.getElem?_take, if_pos (by omega)] at e
    simp only [strV, List.getElem?_map] at e hx
    rw [← Array.getElem?_toList, e]
    cases hp : ps[j]? with
    | none => rw [hp] at hx; exact absurd hx (by simp)
    | some p => rw [hp] at hx; simp at hx ⊢; exact hx
/-- its last text taken off -/
theorem SRow.cut {w : World} {b g cap : Nat} {ps : List (List UInt8)} (h : SRow w b (.slice (some ⟨g, 0, none⟩) ps.length cap) ps) : SRow w b (.slice (some ⟨g, 0, none⟩) (ps.length - 1) cap) ps.dropLast := by
  obtain ⟨h1, h2 | ⟨g', cap', cur, a1, a2, a3, a4, a5, a6, a7⟩⟩ := h
  · exact absurd h2.1 (by simp)
  · injection a1 with b1 b2 b3
    injection b1 with b1
    injection b1 with b1
    subst b1; subst b3
    refine ⟨by simp [strV_len], .inr ⟨g, cap, cur, by simp, a2, a3, by simp; omega, a5, a6, ?_⟩⟩
    simp only [List.length_dropLast, Nat.mul_one] at a7 ⊢
    have : strV ps.dropLast = (strV ps).take (ps.length - 1) := by
      simp [strV, List.dropLast_eq_take]
    rw [this, ← a7, List.take_take]
    congr 1
    omega
end Go.Proofs.YtfojmdbpjkkpbaeDoor
