/-
  Package inflate: a byte is said.
-/
import Derived.Test.YtfoaaamcpknjnahInf3
namespace Go.Proofs.Ytfoaaamcpknjnah
open Go.RowKit
set_option linter.unusedVariables false
set_option maxRecDepth 100000

/-- a byte was appended to what the reader says, behind a new block -/
theorem IIs.said {No : Nat → Prop} {B b c : Nat} {w w3 : World} {R f1 f2 ov kv v' : Value} {u : US} {o : Obj} (hb : B ≤ b) (hbn : ¬ No b) (hh : w.heap[b]? = some (.cells (icells R f1 f2 u ov kv) 91 (0, 0)))
    (hov : w.ownsRow (b + 1) 5 1 ov u.out.length (u8s u.out)) (hkv : w.ownsRow (b + 1) 3 1 kv u.ks.length (i64s u.ks)) (hap : ov.ownBlock = none ∨ ov.ownBlock ≠ kv.ownBlock) (hn1 : ∀ g, ov.ownBlock = some g → ¬ No g) (hn2 : ∀ g, kv.ownBlock = some g → ¬ No g) (hNo : ∀ g, w.heap.size ≤ g → ¬ No g)
    (hO3 : w3.ownsRow (b + 1) 5 1 v' (u.out.length + 1) (u8s u.out ++ [.int .u8 (c : Int)])) (hgrow : (w.alloc o).grownBy w3 ov.ownBlock) (hspot : v'.ownBlock = ov.ownBlock ∨ v'.ownBlock = some (w.alloc o).heap.size) :
    w3.cell? ⟨b, 2, none⟩ = some ov ∧ w3.frozen? ⟨b, 2, none⟩ = false ∧ IUp No B w b R f1 f2 { u with out := u.out ++ [c] } (w3.setCell ⟨b, 2, none⟩ v') := by
  have hbl : b < w.heap.size := (Array.getElem?_eq_some_iff.1 hh).1
  have hVb : ov.ownBlock = none ∨ ov.ownBlock ≠ some b := by
    cases hx : ov.ownBlock with
    | none => exact .inl rfl
    | some g =>
      refine .inr (fun e => ?_)
      have := (hov.lt g hx).1
      cases e
      omega
  have hgb : w3.heap[b]? = some (.cells (icells R f1 f2 u ov kv) 91 (0, 0)) := by
    rw [hgrow.block b (by simp; omega) (fun e => by rcases hVb with h | h; rw [h] at e; cases e; exact h e.symm)]
    exact (Below.heap_alloc w _ b hbl).trans hh
  have hgw : ∀ g, g < w.heap.size → ov.ownBlock ≠ some g → w3.heap[g]? = w.heap[g]? := fun g hg hne => by
    rw [hgrow.block g (by simp; omega) (fun e => hne e.symm)]
    exact Below.heap_alloc w _ g hg
  have hsz := hgrow.size
  simp only [World.size_alloc] at hsz hspot
  have hset := grown_setCell w3 b 2 v'
  have hv'b : v'.ownBlock = none ∨ v'.ownBlock ≠ some b := by
    cases hx : v'.ownBlock with
    | none => exact .inl rfl
    | some g =>
      refine .inr (fun e => ?_)
      have := (hO3.lt g hx).1
      cases e
      omega
  have hk3 : w3.ownsRow (b + 1) 3 1 kv u.ks.length (i64s u.ks) := own_kp hkv (fun g hg => hgw g (hkv.lt g hg).2 (fun e => by
    rcases hap with h | h
    · rw [h] at e; cases e
    · exact h (by rw [hg]; exact e)))
  have hkb : kv.ownBlock = none ∨ kv.ownBlock ≠ some b := by
    cases hx : kv.ownBlock with
    | none => exact .inl rfl
    | some g =>
      refine .inr (fun e => ?_)
      have := (hkv.lt g hx).1
      cases e
      omega
  refine ⟨heap_row hgb, frozen_of_row w3 b 2 _ _ hgb, ⟨hb, hbn, v', kv, ?_, ?_, hk3.kept hset hkb, ?_, ?_, hn2⟩, ?_, ?_⟩
  · rw [heap_setCell_same w3 b 2 _ _ _ hgb]; rfl
  · have := hO3.kept hset hv'b
    show (w3.setCell ⟨b, 2, none⟩ v').ownsRow (b + 1) 5 1 v' (u.out ++ [c]).length (u8s (u.out ++ [c]))
    rw [u8_snoc, List.length_append]
    exact this
  · rcases hspot with h | h
    · rw [h]; exact hap
    · refine .inr (fun e => ?_)
      rw [h] at e
      have := (hkv.lt _ e.symm).2
      omega
  · intro g hg
    rcases hspot with h | h
    · exact hn1 g (by rw [← h]; exact hg)
    · rw [h] at hg
      have := Option.some.inj hg
      exact hNo g (by omega)
  · refine ⟨hset.os.trans (hgrow.os.trans rfl), hset.tape.trans (hgrow.tape.trans rfl), hset.output.trans (hgrow.output.trans rfl), by have := hset.size; omega, ?_⟩
    intro g hg
    rw [hset.block g (by omega) (fun e => by simp at e; omega), hgw g (by omega) (fun e => by have := (hov.lt g e).1; omega)]
  · intro g h1 h2
    rw [hset.block g (by omega) (fun e => by simp at e; subst e; exact hbn h2), hgw g h1 (fun e => hn1 g e h2)]
end Go.Proofs.Ytfoaaamcpknjnah
