/-
  Package world: a copy of a message.
-/
import Derived.Test.YtmgmganbamjnmaaDoorQ19
import Derived.Deep.RegionHeld3
import Derived.Deep.DeepCutAuto
namespace Go.Proofs.YtmgmganbamjnmaaDoor
open Go.RowKit
set_option linter.unusedVariables false
set_option linter.unusedSimpArgs false
set_option maxRecDepth 100000

abbrev mbox (v1 v2 : Value) : Obj := .cells #[v1, v2] 63
theorem mbox_cells {w W : World} {v1 v2 : Value} (hB : Below (w.alloc (mbox v1 v2)).heap.size (w.alloc (mbox v1 v2)) W) : W.cell? ⟨w.heap.size, 0, none⟩ = some v1 ∧ W.cell? ⟨w.heap.size, 1, none⟩ = some v2 := by
  have h := heap_alloc_new w (mbox v1 v2)
  have e : ∀ i, W.cell? ⟨w.heap.size, i, none⟩ = (w.alloc (mbox v1 v2)).cell? ⟨w.heap.size, i, none⟩ := fun i => hB.cell (p := ⟨w.heap.size, i, none⟩) (by simp)
  exact ⟨(e 0).trans (heap_row h), (e 1).trans (heap_row h)⟩
/-- two cells stored over others -/
theorem put2 {W : World} {g : Nat} {t : TypeId} {o0 o1 : Value} (v0 v1 : Value) (h : W.heap[g]? = some (.cells #[o0, o1] t (0, 0))) :
    ((W.setCell ⟨g, 0, none⟩ v0).setCell ⟨g, 1, none⟩ v1).heap[g]? = some (.cells #[v0, v1] t (0, 0)) ∧ W.grownBy ((W.setCell ⟨g, 0, none⟩ v0).setCell ⟨g, 1, none⟩ v1) (some g) := by
  have h0 := heap_setCell_same W g 0 _ _ v0 h
  have h1 := heap_setCell_same _ g 1 _ _ v1 h0
  exact ⟨h1, grown_trans (grown_setCell _ _ _ _) (grown_setCell _ _ _ _)⟩
theorem put3 {W : World} {g : Nat} {t : TypeId} {o0 o1 o2 : Value} (v0 v1 v2 : Value) (h : W.heap[g]? = some (.cells #[o0, o1, o2] t (0, 0))) :
    (((W.setCell ⟨g, 0, none⟩ v0).setCell ⟨g, 1, none⟩ v1).setCell ⟨g, 2, none⟩ v2).heap[g]? = some (.cells #[v0, v1, v2] t (0, 0)) ∧ W.grownBy (((W.setCell ⟨g, 0, none⟩ v0).setCell ⟨g, 1, none⟩ v1).setCell ⟨g, 2, none⟩ v2) (some g) := by
  have h0 := heap_setCell_same W g 0 _ _ v0 h
  have h1 := heap_setCell_same _ g 1 _ _ v1 h0
  have h2 := heap_setCell_same _ g 2 _ _ v2 h1
  exact ⟨h2, grown_trans (grown_trans (grown_setCell _ _ _ _) (grown_setCell _ _ _ _)) (grown_setCell _ _ _ _)⟩
theorem nf2 {w : World} {g n c : Nat} {a : Option Addr} {d : Int} {t : TypeId} (h : w.heap[g]? = some (.cells #[.int .i64 d, .slice a n c] t (0, 0))) : NFb w g := NFb.row h (fun u hu => by simp at hu; rcases hu with rfl | rfl <;> rfl)
theorem nf3 {w : World} {g n1 c1 n2 c2 n3 c3 : Nat} {a1 a2 a3 : Option Addr} {t : TypeId} (h : w.heap[g]? = some (.cells #[.slice a1 n1 c1, .slice a2 n2 c2, .slice a3 n3 c3] t (0, 0))) : NFb w g := NFb.row h (fun u hu => by simp at hu; rcases hu with rfl | rfl | rfl <;> rfl)
set_option maxHeartbeats 2000000 in
theorem copyMsg_l {w : World} {v : Value} {l : List Fl} (d : Int) (h : LIn w v l) :
    Calls Tryd.prog 42 #[.agg #[.int .i64 d, v]] w fun e w' => ∃ x, e = .returned (.agg #[.int .i64 d, x]) ∧ LIn w' x l ∧ Below w.heap.size w w' := by
  obtain ⟨a, c, hv⟩ := h.shape
  obtain ⟨n, hn⟩ : ∃ n, l.length = n := ⟨_, rfl⟩
  rw [hn] at hv
  subst hv
  obtain ⟨X, hX⟩ : ∃ X, w.heap.size = X := ⟨_, rfl⟩
  obtain ⟨W0, hW0⟩ : ∃ W0, (w.alloc (mbox (.int .i64 d) (.slice a n c))).alloc (mbox (.int .i64 0) (.slice none 0 0)) = W0 := ⟨_, rfl⟩
  have hs0 : W0.heap.size = X + 2 := by rw [← hW0, ← hX]; simp
  have hb0 : Below X w W0 := by rw [← hW0, ← hX]; exact bel_al (bel_al (Below.refl _ _) _) _
  have hx0 : W0.heap[X]? = some (.cells #[.int .i64 d, .slice a n c] 63 (0, 0)) := by
    rw [← hW0, ← hX, Below.heap_alloc _ _ _ (by simp), heap_alloc_new]
  have hx1 : W0.heap[X + 1]? = some (.cells #[.int .i64 0, .slice none 0 0] 63 (0, 0)) := by
    rw [← hW0, ← hX]
    have := heap_alloc_new (w.alloc (mbox (.int .i64 d) (.slice a n c))) (mbox (.int .i64 0) (.slice none 0 0))
    rw [World.size_alloc] at this
    exact this
  have HC : Hid (∀ W, Below W0.heap.size W0 W → Calls Tryd.prog 22 #[.slice a n c] W fun e w' => ∃ x, e = .returned x ∧ LIn w' x l ∧ Below W.heap.size W w') := hide (fun W hW => copy_l ((h.below (by rw [hX]; exact hb0)).below hW))
  have HX := hide hX
  have HW0 := hide hW0
  have HB0 := hide hb0
  have HX0 := hide hx0
  have HX1 := hide hx1
  have HS0 := hide hs0
  have hcc : ∀ W, Below (X + 1) W0 W → W.cell? ⟨X, 0, none⟩ = some (.int .i64 d) ∧ W.cell? ⟨X, 1, none⟩ = some (.slice a n c) := fun W hW => ⟨(hW.cell (p := ⟨X, 0, none⟩) (by show X < X + 1; omega)).trans (heap_row hx0), (hW.cell (p := ⟨X, 1, none⟩) (by show X < X + 1; omega)).trans (heap_row hx0)⟩
  have HCC := hide hcc
  clear h hn hx0 hx1 hs0 hb0 hcc hW0 hX
  go_enter Tryd.func42, Tryd.ntmps42
  go_upto_region 1 with fail
  rw [show (w.alloc (mbox (.int .i64 d) (.slice a n c))).alloc (mbox (.int .i64 0) (.slice none 0 0)) = W0 from unhide HW0, show w.heap.size = X from unhide HX]
  refine wp_region_held_drew (S := fun W => Below (X + 1) W0 W) (by kernel_rfl) (below_drewN (Below.refl _ _) 1) (fun hHeld => ?_)
  refine wpAnyH_take (i := 0) (v := .pointer (some ⟨X, 0, none⟩)) rfl (by kernel_rfl) (by kernel_rfl) (by kernel_rfl) (fun _ _ _ h => h) (Or.inl ⟨by rfl, fun W hS => by go_simp⟩) hHeld ?_
  simp only [Act.put, List.setIfInBounds_toArray, List.set_cons_zero, List.set_cons_succ]
  refine wpAnyH_take (i := 1) (v := .int .i64 d) rfl (by kernel_rfl) (by kernel_rfl) (by kernel_rfl) (fun _ _ _ h => h) (Or.inl ⟨by rfl, fun W hS => by obtain ⟨q0, q1⟩ := unhide HCC W hS; go_simp⟩) hHeld ?_
  simp only [Act.put, List.setIfInBounds_toArray, List.set_cons_zero, List.set_cons_succ]
  refine wpAnyH_take (i := 2) (v := .pointer (some ⟨X, 1, none⟩)) rfl (by kernel_rfl) (by kernel_rfl) (by kernel_rfl) (fun _ _ _ h => h) (Or.inl ⟨by rfl, fun W hS => by go_simp⟩) hHeld ?_
  simp only [Act.put, List.setIfInBounds_toArray, List.set_cons_zero, List.set_cons_succ]
  refine wpAnyH_take (i := 3) (v := .slice a n c) rfl (by kernel_rfl) (by kernel_rfl) (by kernel_rfl) (fun _ _ _ h => h) (Or.inl ⟨by rfl, fun W hS => by obtain ⟨q0, q1⟩ := unhide HCC W hS; go_simp⟩) hHeld ?_
  simp only [Act.put, List.setIfInBounds_toArray, List.set_cons_zero, List.set_cons_succ]
  refine wpAnyH_ready (rs := [4]) (by kernel_rfl) (by simp) (AllReadyH.cons rfl (fun K hK => ?_) AllReadyH.nil)
  go_simp
  have hdr : Below W0.heap.size W0 W0.drew := below_drewN (Below.refl _ _) 1
  refine (unhide HC _ hdr).mono ?_
  rintro e w4 ⟨x, rfl, hL, hB4⟩
  have hBw : Below W0.heap.size W0 w4 := hdr.trans (hB4.mono hdr.size)
  dsimp only
  refine hK.out _ _ (hBw.mono (by rw [unhide HS0]; omega)) (fun hHeld4 => ?_)
  clear hK K hHeld
  obtain ⟨a', c', hx⟩ := hL.shape
  obtain ⟨n', hn'⟩ : ∃ n', l.length = n' := ⟨_, rfl⟩
  rw [hn'] at hx
  subst hx
  refine wpAnyH_take (i := 5) (v := .agg #[.int .i64 d, .slice a' n' c']) rfl (by kernel_rfl) (by kernel_rfl) (by kernel_rfl) (fun _ _ _ h => h) (Or.inl ⟨by rfl, fun W hS => by skip; go_simp⟩) hHeld4 ?_
  simp only [Act.put, List.setIfInBounds_toArray, List.set_cons_zero, List.set_cons_succ]
  have hs0 := unhide HS0
  have hx1 := (hBw.block (X + 1) (by rw [hs0]; omega)).trans (unhide HX1)
  obtain ⟨p1, p2⟩ := put2 (.int .i64 d) (.slice a' n' c') hx1
  have c0 := heap_row (i := 0) hx1
  have c1 := heap_row (i := 1) hx1
  have f0 := frozen_of_row w4 (X + 1) 0 _ _ hx1
  have f1 := frozen_of_row w4 (X + 1) 1 _ _ hx1
  have HP1 := hide p1
  have HLF := hide (hL.offN p2 (fun g e => by cases e; exact nf2 hx1))
  have hbx : Below X w ((w4.setCell ⟨X + 1, 0, none⟩ (.int .i64 d)).setCell ⟨X + 1, 1, none⟩ (.slice a' n' c')) := ((unhide HB0).trans (hBw.mono (by rw [hs0]; omega))).grown p2 (by have := hBw.size; omega) (fun g e => by cases e; omega)
  have HBX := hide hbx
  have HQ := hide (hHeld4.grown p2 (by have := hBw.size; omega) (fun g e => by cases e; omega))
  have HLN := hide hn'
  clear p1 p2 hbx hx1 hBw hB4 hdr hL hs0 hn'
  refine wpAnyH_ready (rs := [6]) (by kernel_rfl) (by simp) (AllReadyH.cons rfl (fun K hK => ?_) AllReadyH.nil)
  go_simp
  refine hK.out _ _ (unhide HQ) (fun hHeld6 => ?_)
  clear hK K hHeld4 hHeld6 c0 c1 f0 f1
  refine wpAnyH_done (by kernel_rfl) ?_ _
  go_wp2
  refine bodyPost_ret (v := .agg #[.int .i64 d, .slice a' n' c']) ?_ rfl ⟨_, rfl, unhide HLF, by rw [unhide HX]; exact unhide HBX⟩
  exact results_cell_row rfl _ _ _ _ _ _ _ rfl (unhide HP1) Tryd.underlying63 rfl (by kernel_rfl)
end Go.Proofs.YtmgmganbamjnmaaDoor
