/-
  Package world: a world that grows in a box; a copy of a world.
-/
import Derived.Test.YtmgmganbamjnmaaDoorQ20
namespace Go.Proofs.YtmgmganbamjnmaaDoor
open Go.RowKit
set_option linter.unusedVariables false
set_option linter.unusedSimpArgs false
set_option maxRecDepth 100000

theorem wp_append_run {o : Oper} {a : Act} {w w' : World} {K : Act → World → Prop} {Q : Exit → Act → World → Prop} (s x : Operand) (t : TypeId) {v y v' : Value} (ho : o.op = .call { callee := .builtin .append, args := #[s, x], argTypes := #[t, t] })
    (hs : a.eval s = v) (hx : a.eval x = y) (hr : (Builtin.append_ #[t, t] o.type #[v, y]).run Tryd.prog w = .ok v' w') (h : K (a.put o.dst v') w') : o.wp Tryd.prog a w K Q := by
  unfold Oper.wp execOp
  simp only [ho, resolve, invoke, builtin, Sem.run_bind, Sem.run_pure, Result.andThen_ok, List.map_toArray, List.map_cons, List.map_nil, hs, hx, hr]
  exact h
theorem TRow.sl {w : World} {B T k n : Nat} {v : Value} {cs : List Value} (h : TRow w B T k v n cs) : ∃ a c, v = .slice a n c := own_slice' h.own
/-- a world in a box behind all that w had, and rows of its own behind that -/
structure BSt (w W : World) (vn vc vm : Value) (ns : List Lv) (cs : List Int) (ms : List Mv) : Prop where
  bel : Below w.heap.size w W
  box : W.heap[w.heap.size]? = some (.cells #[vn, vc, vm] 27 (0, 0))
  ow : OW W (w.heap.size + 1) vn vc vm ns cs ms
theorem BSt.lt {w W : World} {vn vc vm : Value} {ns : List Lv} {cs : List Int} {ms : List Mv} (h : BSt w W vn vc vm ns cs ms) : w.heap.size < W.heap.size := (Array.getElem?_eq_some_iff.1 h.box).1
theorem BSt.below {w W W' : World} {vn vc vm : Value} {ns : List Lv} {cs : List Int} {ms : List Mv} (h : BSt w W vn vc vm ns cs ms) (hB : Below W.heap.size W W') : BSt w W' vn vc vm ns cs ms :=
  ⟨h.bel.trans (hB.mono h.bel.size), (hB.block _ h.lt).trans h.box, h.ow.below hB⟩
theorem BSt.start (w : World) : BSt w (w.alloc (wbox (.slice none 0 0) (.slice none 0 0) (.slice none 0 0))) (.slice none 0 0) (.slice none 0 0) (.slice none 0 0) [] [] [] :=
  ⟨bel_al (Below.refl _ _) _, heap_alloc_new _ _, OW.nil _ _⟩
theorem BSt.nf {w W : World} {vn vc vm : Value} {ns : List Lv} {cs : List Int} {ms : List Mv} (h : BSt w W vn vc vm ns cs ms) : NFb W w.heap.size := by
  obtain ⟨a1, c1, e1⟩ := h.ow.n.sl
  obtain ⟨a2, c2, e2⟩ := h.ow.c.sl
  obtain ⟨a3, c3, e3⟩ := h.ow.m.sl
  have hb := h.box
  rw [e1, e2, e3] at hb
  exact nf3 hb
theorem BSt.cells {w W : World} {vn vc vm : Value} {ns : List Lv} {cs : List Int} {ms : List Mv} (h : BSt w W vn vc vm ns cs ms) : W.cell? ⟨w.heap.size, 0, none⟩ = some vn ∧ W.cell? ⟨w.heap.size, 1, none⟩ = some vc ∧ W.cell? ⟨w.heap.size, 2, none⟩ = some vm ∧ ∀ i, W.frozen? ⟨w.heap.size, i, none⟩ = false :=
  ⟨heap_row h.box, heap_row h.box, heap_row h.box, fun i => frozen_of_row W w.heap.size i _ _ h.box⟩
/-- what holds behind an append to one of the rows -/
theorem BSt.grown {w W W' : World} {vn vc vm : Value} {ns : List Lv} {cs : List Int} {ms : List Mv} {r : Option Nat} (h : BSt w W vn vc vm ns cs ms) (hg : W.grownBy W' r) (hr : ∀ g, r = some g → w.heap.size + 1 ≤ g ∧ NFb W g) :
    Below w.heap.size w W' ∧ W'.heap[w.heap.size]? = some (.cells #[vn, vc, vm] 27 (0, 0)) ∧ (∀ x l, LIn W x l → LIn W' x l) := by
  refine ⟨h.bel.grown hg h.bel.size (fun g e => by have := (hr g e).1; omega), ?_, fun x l hx => hx.offN hg (fun g e => (hr g e).2)⟩
  rw [hg.block _ h.lt (fun e => by have := (hr _ e.symm).1; omega)]
  exact h.box
theorem own_off {w : World} {B T k n : Nat} {v : Value} {cs : List Value} (h : TRow w (B + 1) T k v n cs) : v.ownBlock = none ∨ v.ownBlock ≠ some B := by
  cases hv : v.ownBlock with
  | none => exact .inl rfl
  | some g => refine .inr (fun e => ?_); cases e; have := (h.lt hv).1; omega
theorem BSt.putN {w W W' : World} {vn vc vm v' : Value} {ns : List Lv} {cs : List Int} {ms : List Mv} {y : Lv} (h : BSt w W vn vc vm ns cs ms) (hy : LIn W y.val y.l) (hT : TRow W' (w.heap.size + 1) 35 1 v' (ns ++ [y]).length (lvs (ns ++ [y]))) (hg : W.grownBy W' vn.ownBlock) :
    W'.cell? ⟨w.heap.size, 0, none⟩ = some vn ∧ W'.frozen? ⟨w.heap.size, 0, none⟩ = false ∧ BSt w (W'.setCell ⟨w.heap.size, 0, none⟩ v') v' vc vm (ns ++ [y]) cs ms := by
  have hr : ∀ g, vn.ownBlock = some g → w.heap.size + 1 ≤ g ∧ NFb W g := fun g e => ⟨(h.ow.n.lt e).1, h.ow.n.nf g e⟩
  obtain ⟨b1, b2, b3⟩ := h.grown hg hr
  have hC := h.ow.c.kept hg (h.ow.c.ne h.ow.n (by decide))
  have hM := h.ow.m.kept hg (h.ow.m.ne h.ow.n (by decide))
  have hs := grown_setCell W' w.heap.size 0 v'
  have hnf : ∀ g, some w.heap.size = some g → NFb W' g := fun g e => by
    cases e
    obtain ⟨a1, c1, e1⟩ := h.ow.n.sl
    obtain ⟨a2, c2, e2⟩ := h.ow.c.sl
    obtain ⟨a3, c3, e3⟩ := h.ow.m.sl
    rw [e1, e2, e3] at b2
    exact nf3 b2
  refine ⟨heap_row b2, frozen_of_row W' _ 0 _ _ b2, b1.grown hs b1.size (fun g e => by cases e; exact Nat.le_refl _), heap_setCell_same W' _ 0 _ _ v' b2, hT.kept hs (own_off hT), hC.kept hs (own_off hC), hM.kept hs (own_off hM), fun x hx => ?_, fun x hx => (b3 _ _ (h.ow.ma x hx)).offN hs hnf⟩
  rcases List.mem_append.1 hx with hx | hx
  · exact (b3 _ _ (h.ow.la x hx)).offN hs hnf
  · rw [List.mem_singleton.1 hx]; exact (b3 _ _ hy).offN hs hnf
theorem BSt.putM {w W W' : World} {vn vc vm v' : Value} {ns : List Lv} {cs : List Int} {ms : List Mv} {y : Mv} (h : BSt w W vn vc vm ns cs ms) (hy : LIn W y.sl y.m.files) (hT : TRow W' (w.heap.size + 1) 63 2 v' (ms ++ [y]).length (mcells (ms ++ [y]))) (hg : W.grownBy W' vm.ownBlock) :
    W'.cell? ⟨w.heap.size, 2, none⟩ = some vm ∧ W'.frozen? ⟨w.heap.size, 2, none⟩ = false ∧ BSt w (W'.setCell ⟨w.heap.size, 2, none⟩ v') vn vc v' ns cs (ms ++ [y]) := by
  have hr : ∀ g, vm.ownBlock = some g → w.heap.size + 1 ≤ g ∧ NFb W g := fun g e => ⟨(h.ow.m.lt e).1, h.ow.m.nf g e⟩
  obtain ⟨b1, b2, b3⟩ := h.grown hg hr
  have hC := h.ow.c.kept hg (h.ow.c.ne h.ow.m (by decide))
  have hN := h.ow.n.kept hg (h.ow.n.ne h.ow.m (by decide))
  have hs := grown_setCell W' w.heap.size 2 v'
  have hnf : ∀ g, some w.heap.size = some g → NFb W' g := fun g e => by
    cases e
    obtain ⟨a1, c1, e1⟩ := h.ow.n.sl
    obtain ⟨a2, c2, e2⟩ := h.ow.c.sl
    obtain ⟨a3, c3, e3⟩ := h.ow.m.sl
    rw [e1, e2, e3] at b2
    exact nf3 b2
  refine ⟨heap_row b2, frozen_of_row W' _ 2 _ _ b2, b1.grown hs b1.size (fun g e => by cases e; exact Nat.le_refl _), heap_setCell_same W' _ 2 _ _ v' b2, hN.kept hs (own_off hN), hC.kept hs (own_off hC), hT.kept hs (own_off hT), fun x hx => (b3 _ _ (h.ow.la x hx)).offN hs hnf, fun x hx => ?_⟩
  rcases List.mem_append.1 hx with hx | hx
  · exact (b3 _ _ (h.ow.ma x hx)).offN hs hnf
  · rw [List.mem_singleton.1 hx]; exact (b3 _ _ hy).offN hs hnf
theorem BSt.putC {w W W' : World} {vn vc vm v' : Value} {ns : List Lv} {cs cs' : List Int} {ms : List Mv} (h : BSt w W vn vc vm ns cs ms) (hT : TRow W' (w.heap.size + 1) 3 1 v' cs'.length (iv cs')) (hg : W.grownBy W' vc.ownBlock) :
    W'.cell? ⟨w.heap.size, 1, none⟩ = some vc ∧ W'.frozen? ⟨w.heap.size, 1, none⟩ = false ∧ BSt w (W'.setCell ⟨w.heap.size, 1, none⟩ v') vn v' vm ns cs' ms := by
  have hr : ∀ g, vc.ownBlock = some g → w.heap.size + 1 ≤ g ∧ NFb W g := fun g e => ⟨(h.ow.c.lt e).1, h.ow.c.nf g e⟩
  obtain ⟨b1, b2, b3⟩ := h.grown hg hr
  have hM := h.ow.m.kept hg (h.ow.m.ne h.ow.c (by decide))
  have hN := h.ow.n.kept hg (h.ow.n.ne h.ow.c (by decide))
  have hs := grown_setCell W' w.heap.size 1 v'
  have hnf : ∀ g, some w.heap.size = some g → NFb W' g := fun g e => by
    cases e
    obtain ⟨a1, c1, e1⟩ := h.ow.n.sl
    obtain ⟨a2, c2, e2⟩ := h.ow.c.sl
    obtain ⟨a3, c3, e3⟩ := h.ow.m.sl
    rw [e1, e2, e3] at b2
    exact nf3 b2
  exact ⟨heap_row b2, frozen_of_row W' _ 1 _ _ b2, b1.grown hs b1.size (fun g e => by cases e; exact Nat.le_refl _), heap_setCell_same W' _ 1 _ _ v' b2, hN.kept hs (own_off hN), hT.kept hs (own_off hT), hM.kept hs (own_off hM), fun x hx => (b3 _ _ (h.ow.la x hx)).offN hs hnf, fun x hx => (b3 _ _ (h.ow.ma x hx)).offN hs hnf⟩
end Go.Proofs.YtmgmganbamjnmaaDoor
