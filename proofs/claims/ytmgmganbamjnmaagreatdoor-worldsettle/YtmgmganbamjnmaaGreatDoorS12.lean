/-
  Package world: a copy of a message.
-/
import Derived.Test.YtmgmganbamjnmaaGreatDoorS11
import Derived.Deep.RegionHeld3
import Derived.Deep.DeepCutAuto
namespace Go.Proofs.YtmgmganbamjnmaaGreatDoor
open Go.RowKit
set_option linter.unusedVariables false
set_option linter.unusedSimpArgs false
set_option maxRecDepth 100000

abbrev mbox (v1 v2 : Value) : Obj := .cells #[v1, v2] 54
theorem mbox_cells {w W : World} {v1 v2 : Value} (hB : Below (w.alloc (mbox v1 v2)).heap.size (w.alloc (mbox v1 v2)) W) : W.cell? ⟨w.heap.size, 0, none⟩ = some v1 ∧ W.cell? ⟨w.heap.size, 1, none⟩ = some v2 := by
  have h := heap_alloc_new w (mbox v1 v2)
  have e : ∀ i, W.cell? ⟨w.heap.size, i, none⟩ = (w.alloc (mbox v1 v2)).cell? ⟨w.heap.size, i, none⟩ := fun i => hB.cell (p := ⟨w.heap.size, i, none⟩) (by simp)
  exact ⟨(e 0).trans (heap_row h), (e 1).trans (heap_row h)⟩
/-- two cells stored over others -/
theorem put2 {W : World} {g : Nat} {t : TypeId} {o0 o1 : Value} (v0 v1 : Value) (h : W.heap[g]? = some (.cells #[o0, o1] t (0, 0))) :
    ((W.setCell ⟨g, 0, none⟩ v0).setCell ⟨g, 1, none⟩ v1).heap[g]? = some (.cells #[v0, v1] t (0, 0)) ∧ W.grownBy ((W.setCell ⟨g, 0, none⟩ v0).setCell ⟨g, 1, none⟩ v1) (some g) := by
  have h0 := heap_setCell_same W g 0 _ _ v0 h
  have h1 := heap_setCell_same _ g 1 _ _ v1 h0
  exact ⟨h1, grown_trans (grown_setCell _ _ _ _) (grown_setCell _ _ _ _)⟩
theorem put3 {W : World} {g : Nat} {t : TypeId} {o0 o1 o2 : Value} (v0 v1 v2 : Value) (h : W.heap[g]? = some (.cells #[o0, o1, o2] t (0, 0))) :
    (((W.setCell ⟨g, 0, none⟩ v0).setCell ⟨g, 1, none⟩ v1).setCell ⟨g, 2, none⟩ v2).heap[g]? = some (.cells #[v0, v1, v2] t (0, 0)) ∧ W.grownBy (((W.setCell ⟨g, 0, none⟩ v0).setCell ⟨g, 1, none⟩ v1).setCell ⟨g, 2, none⟩ v2) (some g) := by
  have h0 := heap_setCell_same W g 0 _ _ v0 h
  have h1 := heap_setCell_same _ g 1 _ _ v1 h0
  have h2 := heap_setCell_same _ g 2 _ _ v2 h1
  exact ⟨h2, grown_trans (grown_trans (grown_setCell _ _ _ _) (grown_setCell _ _ _ _)) (grown_setCell _ _ _ _)⟩
theorem nf2 {w : World} {g n c : Nat} {a : Option Addr} {d : Int} {t : TypeId} (h : w.heap[g]? = some (.cells #[.int .i64 d, .slice a n c] t (0, 0))) : NFb w g := NFb.row h (fun u hu => by simp at hu; rcases hu with rfl | rfl <;> rfl)
theorem nf3 {w : World} {g n1 c1 n2 c2 n3 c3 : Nat} {a1 a2 a3 : Option Addr} {t : TypeId} (h : w.heap[g]? = some (.cells #[.slice a1 n1 c1, .slice a2 n2 c2, .slice a3 n3 c3] t (0, 0))) : NFb w g := NFb.row h (fun u hu => by simp at hu; rcases hu with rfl | rfl | rfl <;> rfl)
set_option maxHeartbeats 2000000 in
theorem copyMsg_l {w : World} {v : Value} {l : List Fl} (d : Int) (h : LIn w v l) :
    Calls Tryz.prog 45 #[.agg #[.int .i64 d, v]] w fun e w' => ∃ x, e = .returned (.agg #[.int .i64 d, x]) ∧ LIn w' x l ∧ Below w.heap.size w w' := by
  obtain ⟨a, c, hv⟩ := h.shape
  obtain ⟨n, hn⟩ : ∃ n, l.length = n := ⟨_, rfl⟩
  rw [hn] at hv
  subst hv
  obtain ⟨X, hX⟩ : ∃ X, w.heap.size = X := ⟨_, rfl⟩
  obtain ⟨W0, hW0⟩ : ∃ W0, (w.alloc (mbox (.int .i64 d) (.slice a n c))).alloc (mbox (.int .i64 0) (.slice none 0 0)) = W0 := ⟨_, rfl⟩
  have hs0 : W0.heap.size = X + 2 := by rw [← hW0, ← hX]; simp
  have hb0 : Below X w W0 := by rw [← hW0, ← hX]; exact bel_al (bel_al (Below.refl _ _) _) _
  have hx0 : W0.heap[X]? = some (.cells #[.int .i64 d, .slice a n c] 54 (0, 0)) := by
    rw [← hW0, ← hX, Below.heap_alloc _ _ _ (by simp), heap_alloc_new]
  have hx1 : W0.heap[X + 1]? = some (.cells #[.int .i64 0, .slice none 0 0] 54 (0, 0)) := by
    rw [← hW0, ← hX]
    have := heap_alloc_new (w.alloc (mbox (.int .i64 d) (.slice a n c))) (mbox (.int .i64 0) (.slice none 0 0))
    rw [World.size_alloc] at this
    exact this
  have HC : Hid (∀ W, Below W0.heap.size W0 W → Calls Tryz.prog 36 #[.slice a n c] W fun e w' => ∃ x, e = .returned x ∧ LIn w' x l ∧ Below W.heap.size W w') := hide (fun W hW => copy_l ((h.below (by rw [hX]; exact hb0)).below hW))
  have HX := hide hX
  have HW0 := hide hW0
  have HB0 := hide hb0
  have HX0 := hide hx0
  have HX1 := hide hx1
  have HS0 := hide hs0
  have hcc : ∀ W, Below (X + 1) W0 W → W.cell? ⟨X, 0, none⟩ = some (.int .i64 d) ∧ W.cell? ⟨X, 1, none⟩ = some (.slice a n c) := fun W hW => ⟨(hW.cell (p := ⟨X, 0, none⟩) (by show X < X + 1; omega)).trans (heap_row hx0), (hW.cell (p := ⟨X, 1, none⟩) (by show X < X + 1; omega)).trans (heap_row hx0)⟩
  have HCC := hide hcc
  clear h hn hx0 hx1 hs0 hb0 hcc hW0 hX
  go_enter Tryz.func45, Tryz.ntmps45
  go_upto_region 1 with fail
  rw [show (w.alloc (mbox (.int .i64 d) (.slice a n c))).alloc (mbox (.int .i64 0) (.slice none 0 0)) = W0 from unhide HW0, show w.heap.size = X from unhide HX]
  refine wp_region_held_drew (S := fun W => Below (X + 1) W0 W) (by kernel_rfl) (below_drewN (Below.refl _ _) 1) (fun hHeld => ?_)
  refine wpAnyH_take (i := 0) (v := .pointer (some ⟨X, 0, none⟩)) rfl (by kernel_rfl) (by kernel_rfl) (by kernel_rfl) (fun _ _ _ h => h) (Or.inl ⟨by rfl, fun W hS => by go_simp⟩) hHeld ?_
  simp only [Act.put, List.setIfInBounds_toArray, List.set_cons_zero, List.set_cons_succ]
  refine wpAnyH_take (i := 1) (v := .int .i64 d) rfl (by kernel_rfl) (by kernel_rfl) (by kernel_rfl) (fun _ _ _ h => h) (Or.inl ⟨by rfl, fun W hS => by obtain ⟨q0, q1⟩ := unhide HCC W hS; go_simp⟩) hHeld ?_
  simp only [Act.put, List.setIfInBounds_toArray, List.set_cons_zero, List.set_cons_succ]
  refine wpAnyH_take (i := 2) (v := .pointer (some ⟨X, 1, none⟩)) rfl (by kernel_rfl) (by kernel_rfl) (by kernel_rfl) (fun _ _ _ h => h) (Or.inl ⟨by rfl, fun W hS => by go_simp⟩) hHeld ?_
  simp only [Act.put, List.setIfInBounds_toArray, List.set_cons_zero, List.set_cons_succ]
  refine wpAnyH_take (i := 3) (v := .slice a n c) rfl (by kernel_rfl) (by kernel_rfl) (by kernel_rfl) (fun _ _ _ h => h) (Or.inl ⟨by rfl, fun W hS => by obtain ⟨q0, q1⟩ := unhide HCC W hS; go_simp⟩) hHeld ?_
  simp only [Act.put, List.setIfInBounds_toArray, List.set_cons_zero, List.set_cons_succ]
  refine wpAnyH_ready (rs := [4]) (by kernel_rfl) (by simp) (AllReadyH.cons rfl (fun K hK => ?_) AllReadyH.nil)
  go_simp
  have hdr : Below W0.heap.size W0 W0.drew := below_drewN (Below.refl _ _) 1
  refine (unhide HC _ hdr).mono ?_
  rintro e w4 ⟨x, rfl, hL, hB4⟩
  have hBw : Below W0.heap.size W0 w4 := hdr.trans (hB4.mono hdr.size)
  dsimp only
  refine hK.out _ _ (hBw.mono (by rw [unhide HS0]; omega)) (fun hHeld4 => ?_)
  clear hK K hHeld
  obtain ⟨a', c', hx⟩ := hL.shape
  obtain ⟨n', hn'⟩ : ∃ n', l.length = n' := ⟨_, rfl⟩
  rw [hn'] at hx
  subst hx
  refine wpAnyH_take (i := 5) (v := .agg #[.int .i64 d, .slice a' n' c']) rfl (by kernel_rfl) (by kernel_rfl) (by kernel_rfl) (fun _ _ _ h => h) (Or.inl ⟨by rfl, fun W hS => by skip; go_simp⟩) hHeld4 ?_
  simp only [Act.put, List.setIfInBounds_toArray, List.set_cons_zero, List.set_cons_succ]
  have hs0 := unhide HS0
  have hx1 := (hBw.block (X + 1) (by rw [hs0]; omega)).trans (unhide HX1)
  obtain ⟨p1, p2⟩ := put2 (.int .i64 d) (.slice a' n' c') hx1
  have c0 := heap_row (i := 0) hx1
  have c1 := heap_row (i := 1) hx1
  have f0 := frozen_of_row w4 (X + 1) 0 _ _ hx1
  have f1 := frozen_of_row w4 (X + 1) 1 _ _ hx1
  have HP1 := hide p1
  have HLF := hide (hL.offN p2 (fun g e => by cases e; exact nf2 hx1))
  have hbx : Below X w ((w4.setCell ⟨X + 1, 0, none⟩ (.int .i64 d)).setCell ⟨X + 1, 1, none⟩ (.slice a' n' c')) := ((unhide HB0).trans (hBw.mono (by rw [hs0]; omega))).grown p2 (by have := hBw.size; omega) (fun g e => by cases e; omega)
  have HBX := hide hbx
  have HQ := hide (hHeld4.grown p2 (by have := hBw.size; omega) (fun g e => by cases e; omega))
  have HLN := hide hn'
  clear p1 p2 hbx hx1 hBw hB4 hdr hL hs0 hn'
  refine wpAnyH_ready (rs := [6]) (by kernel_rfl) (by simp) (AllReadyH.cons rfl (fun K hK => ?_) AllReadyH.nil)
  go_simp
  refine hK.out _ _ (unhide HQ) (fun hHeld6 => ?_)
  clear hK K hHeld4 hHeld6 c0 c1 f0 f1
  refine wpAnyH_done (by kernel_rfl) ?_ _
  go_wp2
  refine bodyPost_ret (v := .agg #[.int .i64 d, .slice a' n' c']) ?_ rfl ⟨_, rfl, unhide HLF, by rw [unhide HX]; exact unhide HBX⟩
  exact results_cell_row rfl _ _ _ _ _ _ _ rfl (unhide HP1) Tryz.underlying54 rfl (by kernel_rfl)
end Go.Proofs.YtmgmganbamjnmaaGreatDoor

/-
  Package world: a world that grows in a box; a copy of a world.
-/
namespace Go.Proofs.YtmgmganbamjnmaaGreatDoor
open Go.RowKit
set_option linter.unusedVariables false
set_option linter.unusedSimpArgs false
set_option maxRecDepth 100000

theorem wp_append_run {o : Oper} {a : Act} {w w' : World} {K : Act → World → Prop} {Q : Exit → Act → World → Prop} (s x : Operand) (t : TypeId) {v y v' : Value} (ho : o.op = .call { callee := .builtin .append, args := #[s, x], argTypes := #[t, t] })
    (hs : a.eval s = v) (hx : a.eval x = y) (hr : (Builtin.append_ #[t, t] o.type #[v, y]).run Tryz.prog w = .ok v' w') (h : K (a.put o.dst v') w') : o.wp Tryz.prog a w K Q := by
  unfold Oper.wp execOp
  simp only [ho, resolve, invoke, builtin, Sem.run_bind, Sem.run_pure, Result.andThen_ok, List.map_toArray, List.map_cons, List.map_nil, hs, hx, hr]
  exact h
theorem TRow.sl {w : World} {B T k n : Nat} {v : Value} {cs : List Value} (h : TRow w B T k v n cs) : ∃ a c, v = .slice a n c := own_slice' h.own
/-- a world in a box behind all that w had, and rows of its own behind that -/
structure BSt (w W : World) (vn vc vm : Value) (ns : List Lv) (cs : List Int) (ms : List Mv) : Prop where
  bel : Below w.heap.size w W
  box : W.heap[w.heap.size]? = some (.cells #[vn, vc, vm] 26 (0, 0))
  ow : OW W (w.heap.size + 1) vn vc vm ns cs ms
theorem BSt.lt {w W : World} {vn vc vm : Value} {ns : List Lv} {cs : List Int} {ms : List Mv} (h : BSt w W vn vc vm ns cs ms) : w.heap.size < W.heap.size := (Array.getElem?_eq_some_iff.1 h.box).1
theorem BSt.below {w W W' : World} {vn vc vm : Value} {ns : List Lv} {cs : List Int} {ms : List Mv} (h : BSt w W vn vc vm ns cs ms) (hB : Below W.heap.size W W') : BSt w W' vn vc vm ns cs ms :=
  ⟨h.bel.trans (hB.mono h.bel.size), (hB.block _ h.lt).trans h.box, h.ow.below hB⟩
theorem BSt.start (w : World) : BSt w (w.alloc (wbox (.slice none 0 0) (.slice none 0 0) (.slice none 0 0))) (.slice none 0 0) (.slice none 0 0) (.slice none 0 0) [] [] [] :=
  ⟨bel_al (Below.refl _ _) _, heap_alloc_new _ _, OW.nil _ _⟩
theorem BSt.nf {w W : World} {vn vc vm : Value} {ns : List Lv} {cs : List Int} {ms : List Mv} (h : BSt w W vn vc vm ns cs ms) : NFb W w.heap.size := by
  obtain ⟨a1, c1, e1⟩ := h.ow.n.sl
  obtain ⟨a2, c2, e2⟩ := h.ow.c.sl
  obtain ⟨a3, c3, e3⟩ := h.ow.m.sl
  have hb := h.box
  rw [e1, e2, e3] at hb
  exact nf3 hb
theorem BSt.cells {w W : World} {vn vc vm : Value} {ns : List Lv} {cs : List Int} {ms : List Mv} (h : BSt w W vn vc vm ns cs ms) : W.cell? ⟨w.heap.size, 0, none⟩ = some vn ∧ W.cell? ⟨w.heap.size, 1, none⟩ = some vc ∧ W.cell? ⟨w.heap.size, 2, none⟩ = some vm ∧ ∀ i, W.frozen? ⟨w.heap.size, i, none⟩ = false :=
  ⟨heap_row h.box, heap_row h.box, heap_row h.box, fun i => frozen_of_row W w.heap.size i _ _ h.box⟩
/-- what holds behind an append to one of the rows -/
theorem BSt.grown {w W W' : World} {vn vc vm : Value} {ns : List Lv} {cs : List Int} {ms : List Mv} {r : Option Nat} (h : BSt w W vn vc vm ns cs ms) (hg : W.grownBy W' r) (hr : ∀ g, r = some g → w.heap.size + 1 ≤ g ∧ NFb W g) :
    Below w.heap.size w W' ∧ W'.heap[w.heap.size]? = some (.cells #[vn, vc, vm] 26 (0, 0)) ∧ (∀ x l, LIn W x l → LIn W' x l) := by
  refine ⟨h.bel.grown hg h.bel.size (fun g e => by have := (hr g e).1; omega), ?_, fun x l hx => hx.offN hg (fun g e => (hr g e).2)⟩
  rw [hg.block _ h.lt (fun e => by have := (hr _ e.symm).1; omega)]
  exact h.box
theorem own_off {w : World} {B T k n : Nat} {v : Value} {cs : List Value} (h : TRow w (B + 1) T k v n cs) : v.ownBlock = none ∨ v.ownBlock ≠ some B := by
  cases hv : v.ownBlock with
  | none => exact .inl rfl
  | some g => refine .inr (fun e => ?_); cases e; have := (h.lt hv).1; omega
theorem BSt.putN {w W W' : World} {vn vc vm v' : Value} {ns : List Lv} {cs : List Int} {ms : List Mv} {y : Lv} (h : BSt w W vn vc vm ns cs ms) (hy : LIn W y.val y.l) (hT : TRow W' (w.heap.size + 1) 46 1 v' (ns ++ [y]).length (lvs (ns ++ [y]))) (hg : W.grownBy W' vn.ownBlock) :
    W'.cell? ⟨w.heap.size, 0, none⟩ = some vn ∧ W'.frozen? ⟨w.heap.size, 0, none⟩ = false ∧ BSt w (W'.setCell ⟨w.heap.size, 0, none⟩ v') v' vc vm (ns ++ [y]) cs ms := by
  have hr : ∀ g, vn.ownBlock = some g → w.heap.size + 1 ≤ g ∧ NFb W g := fun g e => ⟨(h.ow.n.lt e).1, h.ow.n.nf g e⟩
  obtain ⟨b1, b2, b3⟩ := h.grown hg hr
  have hC := h.ow.c.kept hg (h.ow.c.ne h.ow.n (by decide))
  have hM := h.ow.m.kept hg (h.ow.m.ne h.ow.n (by decide))
  have hs := grown_setCell W' w.heap.size 0 v'
  have hnf : ∀ g, some w.heap.size = some g → NFb W' g := fun g e => by
    cases e
    obtain ⟨a1, c1, e1⟩ := h.ow.n.sl
    obtain ⟨a2, c2, e2⟩ := h.ow.c.sl
    obtain ⟨a3, c3, e3⟩ := h.ow.m.sl
    rw [e1, e2, e3] at b2
    exact nf3 b2
  refine ⟨heap_row b2, frozen_of_row W' _ 0 _ _ b2, b1.grown hs b1.size (fun g e => by cases e; exact Nat.le_refl _), heap_setCell_same W' _ 0 _ _ v' b2, hT.kept hs (own_off hT), hC.kept hs (own_off hC), hM.kept hs (own_off hM), fun x hx => ?_, fun x hx => (b3 _ _ (h.ow.ma x hx)).offN hs hnf⟩
  rcases List.mem_append.1 hx with hx | hx
  · exact (b3 _ _ (h.ow.la x hx)).offN hs hnf
  · rw [List.mem_singleton.1 hx]; exact (b3 _ _ hy).offN hs hnf
theorem BSt.putM {w W W' : World} {vn vc vm v' : Value} {ns : List Lv} {cs : List Int} {ms : List Mv} {y : Mv} (h : BSt w W vn vc vm ns cs ms) (hy : LIn W y.sl y.m.files) (hT : TRow W' (w.heap.size + 1) 54 2 v' (ms ++ [y]).length (mcells (ms ++ [y]))) (hg : W.grownBy W' vm.ownBlock) :
    W'.cell? ⟨w.heap.size, 2, none⟩ = some vm ∧ W'.frozen? ⟨w.heap.size, 2, none⟩ = false ∧ BSt w (W'.setCell ⟨w.heap.size, 2, none⟩ v') vn vc v' ns cs (ms ++ [y]) := by
  have hr : ∀ g, vm.ownBlock = some g → w.heap.size + 1 ≤ g ∧ NFb W g := fun g e => ⟨(h.ow.m.lt e).1, h.ow.m.nf g e⟩
  obtain ⟨b1, b2, b3⟩ := h.grown hg hr
  have hC := h.ow.c.kept hg (h.ow.c.ne h.ow.m (by decide))
  have hN := h.ow.n.kept hg (h.ow.n.ne h.ow.m (by decide))
  have hs := grown_setCell W' w.heap.size 2 v'
  have hnf : ∀ g, some w.heap.size = some g → NFb W' g := fun g e => by
    cases e
    obtain ⟨a1, c1, e1⟩ := h.ow.n.sl
    obtain ⟨a2, c2, e2⟩ := h.ow.c.sl
    obtain ⟨a3, c3, e3⟩ := h.ow.m.sl
    rw [e1, e2, e3] at b2
    exact nf3 b2
  refine ⟨heap_row b2, frozen_of_row W' _ 2 _ _ b2, b1.grown hs b1.size (fun g e => by cases e; exact Nat.le_refl _), heap_setCell_same W' _ 2 _ _ v' b2, hN.kept hs (own_off hN), hC.kept hs (own_off hC), hT.kept hs (own_off hT), fun x hx => (b3 _ _ (h.ow.la x hx)).offN hs hnf, fun x hx => ?_⟩
  rcases List.mem_append.1 hx with hx | hx
  · exact (b3 _ _ (h.ow.ma x hx)).offN hs hnf
  · rw [List.mem_singleton.1 hx]; exact (b3 _ _ hy).offN hs hnf
theorem BSt.putC {w W W' : World} {vn vc vm v' : Value} {ns : List Lv} {cs cs' : List Int} {ms : List Mv} (h : BSt w W vn vc vm ns cs ms) (hT : TRow W' (w.heap.size + 1) 3 1 v' cs'.length (iv cs')) (hg : W.grownBy W' vc.ownBlock) :
    W'.cell? ⟨w.heap.size, 1, none⟩ = some vc ∧ W'.frozen? ⟨w.heap.size, 1, none⟩ = false ∧ BSt w (W'.setCell ⟨w.heap.size, 1, none⟩ v') vn v' vm ns cs' ms := by
  have hr : ∀ g, vc.ownBlock = some g → w.heap.size + 1 ≤ g ∧ NFb W g := fun g e => ⟨(h.ow.c.lt e).1, h.ow.c.nf g e⟩
  obtain ⟨b1, b2, b3⟩ := h.grown hg hr
  have hM := h.ow.m.kept hg (h.ow.m.ne h.ow.c (by decide))
  have hN := h.ow.n.kept hg (h.ow.n.ne h.ow.c (by decide))
  have hs := grown_setCell W' w.heap.size 1 v'
  have hnf : ∀ g, some w.heap.size = some g → NFb W' g := fun g e => by
    cases e
    obtain ⟨a1, c1, e1⟩ := h.ow.n.sl
    obtain ⟨a2, c2, e2⟩ := h.ow.c.sl
    obtain ⟨a3, c3, e3⟩ := h.ow.m.sl
    rw [e1, e2, e3] at b2
    exact nf3 b2
  exact ⟨heap_row b2, frozen_of_row W' _ 1 _ _ b2, b1.grown hs b1.size (fun g e => by cases e; exact Nat.le_refl _), heap_setCell_same W' _ 1 _ _ v' b2, hN.kept hs (own_off hN), hT.kept hs (own_off hT), hM.kept hs (own_off hM), fun x hx => (b3 _ _ (h.ow.la x hx)).offN hs hnf, fun x hx => (b3 _ _ (h.ow.ma x hx)).offN hs hnf⟩
end Go.Proofs.YtmgmganbamjnmaaGreatDoor
