/-
  The law WorldLast: its functions; the world under way, and what was put.
-/
import Derived.Test.YtmgmganbamjnmaaDoorQ46
import Derived.Test.YtmgmganbamjnmaaDoorQ47
import Derived.Test.YtmgmganbamjnmaaDoorQ39
import Derived.Test.YtmgmganbamjnmaaDoorQ42
import Derived.Test.YtmgmganbamjnmaaDoorQ24
import Derived.Test.YtmgmganbamjnmaaDoorQ7
namespace Go.Proofs.YtmgmganbamjnmaaDoor
open Go.RowKit
set_option linter.unusedVariables false
set_option linter.unusedSimpArgs false
set_option maxRecDepth 100000

theorem last1_any {w : World} {bx : Nat} {xk xn xd : Int} {nm : List UInt8} {v : Value} (h0 : w.heap[bx]? = some (.cells #[.int .i64 xk, .int .i64 xn, .int .i64 xd, .string (B nm), v] 41 (0, 0))) : FnIs w 14 (.pointer (some ⟨bx, 0, none⟩)) (fun g => g.name == nm) := by
  refine ⟨enters_of Tryd.func14 (by kernel_rfl) rfl, fun y W hW => ?_⟩
  have he : ((B y.f.name).toList == (B nm).toList) = (y.f.name == nm) := by rw [toList_B, toList_B]
  have hB1 := bel_al (Below.refl W.heap.size W) (.cells #[.string (B y.f.name), .slice y.a y.f.bytes.length y.c, .int .i64 y.f.stamp, .int .i64 y.f.node, .bool y.f.gone] 39)
  have hbl := (Array.getElem?_eq_some_iff.1 h0).1
  have hh := (hB1.block bx (Nat.lt_of_lt_of_le hbl hW.size)).trans ((hW.block bx hbl).trans h0)
  have q3 := heap_row (i := 3) hh
  rw [val_is]
  have HB := hide hB1
  obtain ⟨r, hr⟩ : ∃ r, (y.f.name == nm) = r := ⟨_, rfl⟩
  simp only [hr]
  rw [hr] at he
  clear h0 hW hB1 hbl hh hr
  generalize B y.f.name = t at *
  generalize B nm = t2 at *
  generalize y.f.bytes.length = n at *
  generalize y.f.gone = g at *
  generalize y.f.stamp = s1 at *
  generalize y.f.node = s2 at *
  go_enter Tryd.func14, Tryd.ntmps14
  go_wp2
  go_ret
  exact ⟨rfl, unhide HB⟩
theorem last21_any {w : World} {bx : Nat} {nm : List UInt8} {v1 v2 v3 v4 : Value} (h0 : w.heap[bx]? = some (.cells #[.string (B nm), v1, v2, v3, v4] 39 (0, 0))) : FnIs w 16 (.pointer (some ⟨bx, 0, none⟩)) (fun g => g.name == nm) := by
  refine ⟨enters_of Tryd.func16 (by kernel_rfl) rfl, fun y W hW => ?_⟩
  have he : ((B y.f.name).toList == (B nm).toList) = (y.f.name == nm) := by rw [toList_B, toList_B]
  have hB1 := bel_al (Below.refl W.heap.size W) (.cells #[.string (B y.f.name), .slice y.a y.f.bytes.length y.c, .int .i64 y.f.stamp, .int .i64 y.f.node, .bool y.f.gone] 39)
  have hbl := (Array.getElem?_eq_some_iff.1 h0).1
  have hh := (hB1.block bx (Nat.lt_of_lt_of_le hbl hW.size)).trans ((hW.block bx hbl).trans h0)
  have q0 := heap_row (i := 0) hh
  rw [val_is]
  have HB := hide hB1
  obtain ⟨r, hr⟩ : ∃ r, (y.f.name == nm) = r := ⟨_, rfl⟩
  simp only [hr]
  rw [hr] at he
  clear h0 hW hB1 hbl hh hr
  generalize B y.f.name = t at *
  generalize B nm = t2 at *
  generalize y.f.bytes.length = n at *
  generalize y.f.gone = g at *
  generalize y.f.stamp = s1 at *
  generalize y.f.node = s2 at *
  go_enter Tryd.func16, Tryd.ntmps16
  go_wp2
  go_ret
  exact ⟨rfl, unhide HB⟩
set_option maxHeartbeats 4000000 in
/-- the law's own function: they have it, or a newer one -/
theorem has_yes {w : World} {v : Value} {L : List Fl} {y : Fv} (h : LIn w v L) (hy : FvIn w y) (hh : Has L y.f) (hr : NRise L) : Calls Tryd.prog 15 #[v, y.val] w fun e w' => e = .returned (.bool true) ∧ Below w.heap.size w w' := by
  have hB1 := bel_al (Below.refl w.heap.size w) (.cells #[.string (B y.f.name), y.sl, .int .i64 y.f.stamp, .int .i64 y.f.node, .bool y.f.gone] 39)
  have hx1 := heap_alloc_new w (.cells #[.string (B y.f.name), y.sl, .int .i64 y.f.stamp, .int .i64 y.f.node, .bool y.f.gone] 39)
  have HI := hide (index_l (h.below hB1) (last21_any hx1))
  have hys : y.sl = .slice y.a y.f.bytes.length y.c := rfl
  rw [hys] at hB1 hx1 HI
  have HH := hide (And.intro hh hr)
  obtain ⟨ad, c, ys, hv, hF, hfl⟩ := h
  obtain ⟨m, hm⟩ : ∃ m, L.length = m := ⟨_, rfl⟩
  rw [hm] at hv
  subst hv
  have HF := hide (And.intro hF (And.intro hfl hm))
  have HX := hide (And.intro hx1 (And.intro hB1 hy))
  have HW1 : Hid (∃ w1, w.alloc (.cells #[.string (B y.f.name), .slice y.a y.f.bytes.length y.c, .int .i64 y.f.stamp, .int .i64 y.f.node, .bool y.f.gone] 39) = w1) := hide ⟨_, rfl⟩
  rw [val_is]
  clear hh hr hF hfl hm hB1 hx1 hys hy
  go_enter Tryd.func15, Tryd.ntmps15
  go_wp2_with fail
  refine (unhide HI).mono ?_
  rintro e w2 ⟨r, rfl, hFd, hB2⟩
  obtain ⟨i, g, rfl, hg, hi, hle⟩ := found_has hFd (unhide HH).1 (unhide HH).2
  obtain ⟨hx1, hB1, hy⟩ := unhide HX
  obtain ⟨hF, hfl, hm⟩ := unhide HF
  rw [hm] at hi
  obtain ⟨z, hz, hzm⟩ := get_of (xs := ys) (k := i) (by rw [fls_len hfl, hm]; exact hi)
  have hzg : z.f = g := by
    have : (fls ys)[i]? = some z.f := by simp [fls, hz]
    rw [hfl, hg] at this
    exact (Option.some.inj this).symm
  have hBt := bt hB1 hB2
  obtain ⟨b, o, ha, hb, c0, c1, c2, c3, c4⟩ := hF.get hBt hz
  have hzs : z.sl = .slice z.a z.f.bytes.length z.c := rfl
  rw [hzs] at c1
  subst hzg
  have HN := hide (fun (W : World) (hW : Below w2.heap.size w2 W) => newer_any y z W ((hy.below hBt (Nat.le_refl _)).below hW (Nat.le_refl _)) (((hF.all z hzm).below hBt (Nat.le_refl _)).below hW (Nat.le_refl _)))
  have hx2 := (hB2.block w.heap.size (by rw [World.size_alloc]; omega)).trans hx1
  have hwl : w.heap.size < w2.heap.size := (Array.getElem?_eq_some_iff.1 hx2).1
  have hbl : b < w2.heap.size := Nat.lt_of_lt_of_le hb hBt.size
  have e0 := heap_row (i := 0) hx2
  have e1 := heap_row (i := 1) hx2
  have e2 := heap_row (i := 2) hx2
  have e3 := heap_row (i := 3) hx2
  have e4 := heap_row (i := 4) hx2
  obtain ⟨q, hq⟩ : ∃ q, nwr y.f z.f = q := ⟨_, rfl⟩
  rw [hq] at hle
  simp only [hq] at HN
  rw [val_is] at HN
  rw [val_is] at HN
  have HBT := hide hBt
  have HB2d : Hid (Below w2.heap.size w2 w2.drew) := hide (bel_dr (Below.refl _ _))
  have hI0 : (0 : Int) ≤ (i : Int) := by omega
  have hIm : (i : Int) < (m : Int) := by omega
  clear hFd hB2 hx1 hB1 hy hF hfl hm hz hzm hBt hzs hx2 hq hg HI HH HF HX HW1
  subst ha
  generalize B y.f.name = t at *
  generalize y.f.bytes.length = n at *
  generalize y.f.gone = gg at *
  generalize y.f.stamp = s1 at *
  generalize y.f.node = s2 at *
  generalize B z.f.name = t2 at *
  generalize z.f.bytes.length = n2 at *
  generalize z.f.gone = g2 at *
  generalize z.f.stamp = p1 at *
  generalize z.f.node = p2 at *
  have k0 : ∀ W : World, Below w2.heap.size w2 W → W.cell? ⟨b, o + i * 5, none⟩ = some (.string t2) := fun W hW => (hW.cell (p := ⟨b, _, none⟩) hbl).trans c0
  have k1 : ∀ W : World, Below w2.heap.size w2 W → W.cell? ⟨b, o + i * 5 + 1, none⟩ = some (.slice z.a n2 z.c) := fun W hW => (hW.cell (p := ⟨b, _, none⟩) hbl).trans c1
  have k2 : ∀ W : World, Below w2.heap.size w2 W → W.cell? ⟨b, o + i * 5 + 2, none⟩ = some (.int .i64 p1) := fun W hW => (hW.cell (p := ⟨b, _, none⟩) hbl).trans c2
  have k3 : ∀ W : World, Below w2.heap.size w2 W → W.cell? ⟨b, o + i * 5 + 3, none⟩ = some (.int .i64 p2) := fun W hW => (hW.cell (p := ⟨b, _, none⟩) hbl).trans c3
  have k4 : ∀ W : World, Below w2.heap.size w2 W → W.cell? ⟨b, o + i * 5 + 4, none⟩ = some (.bool g2) := fun W hW => (hW.cell (p := ⟨b, _, none⟩) hbl).trans c4
  have l0 : ∀ W : World, Below w2.heap.size w2 W → W.cell? ⟨w.heap.size, 0, none⟩ = some (.string t) := fun W hW => (hW.cell (p := ⟨w.heap.size, 0, none⟩) hwl).trans e0
  have l1 : ∀ W : World, Below w2.heap.size w2 W → W.cell? ⟨w.heap.size, 1, none⟩ = some (.slice y.a n y.c) := fun W hW => (hW.cell (p := ⟨w.heap.size, 1, none⟩) hwl).trans e1
  have l2 : ∀ W : World, Below w2.heap.size w2 W → W.cell? ⟨w.heap.size, 2, none⟩ = some (.int .i64 s1) := fun W hW => (hW.cell (p := ⟨w.heap.size, 2, none⟩) hwl).trans e2
  have l3 : ∀ W : World, Below w2.heap.size w2 W → W.cell? ⟨w.heap.size, 3, none⟩ = some (.int .i64 s2) := fun W hW => (hW.cell (p := ⟨w.heap.size, 3, none⟩) hwl).trans e3
  have l4 : ∀ W : World, Below w2.heap.size w2 W → W.cell? ⟨w.heap.size, 4, none⟩ = some (.bool gg) := fun W hW => (hW.cell (p := ⟨w.heap.size, 4, none⟩) hwl).trans e4
  clear e0 e1 e2 e3 e4 c0 c1 c2 c3 c4
  go_wp2_with fail
  go_region_held3 (fun W => Below w2.heap.size w2 W) (first | exact bel_dr (Below.refl _ _) | exact hb6) ((go_at_call 17; refine (unhide HN _ (unhide HB2d)).mono ?_; rintro e w5 ⟨rfl, hb5⟩; have hb6 : Below w2.heap.size w2 w5 := (bel_dr (Below.refl _ _)).trans hb5; clear hb5))
  clear k0 k1 k2 k3 k4 l0 l1 l2 l3 l4
  have HB6 := hide (bt (unhide HBT) hb6)
  clear hb6
  go_wp2
  go_ret
  exact ⟨rfl, unhide HB6⟩
theorem HsIn.take {w : World} {a : Option Addr} {c : Nat} {xs : List Hp} (h : HsIn w a c xs) (k : Nat) : HsIn w a c (xs.take k) := by
  have hl : (xs.take k).length ≤ xs.length := List.length_take_le' k xs
  refine ⟨Nat.le_trans hl h.cap, h.capm, Nat.le_trans hl h.lim, ?_⟩
  rcases h.at_ with h1 | ⟨b, o, h1, h2, h3⟩
  · exact .inl (by rw [h1]; simp)
  · refine .inr ⟨b, o, h1, h2, fun j x hj => h3 j x ?_⟩
    rw [List.getElem?_take] at hj
    split at hj
    · exact hj
    · cases hj
/-- the world under way, what was put -/
structure LSt (w0 W : World) (v1 v2 v3 : Value) (Wk : Wd) (vp : Value) (ps : List Fv) : Prop where
  bel : Below w0.heap.size w0 W
  box : W.heap[w0.heap.size]? = some (.cells #[v1, v2, v3] 27 (0, 0))
  win : WIn W (.agg #[v1, v2, v3]) Wk
  row : ZRow W (w0.heap.size + 1) vp ps
  off : ∀ b, vBlocks (.agg #[v1, v2, v3]) b → some b ≠ vp.ownBlock ∧ b ≠ w0.heap.size ∧ b < W.heap.size
  ok : WdOk Wk
  kept : ∀ x ∈ ps, Kept Wk x.f
theorem LSt.lt {w0 W : World} {v1 v2 v3 vp : Value} {Wk : Wd} {ps : List Fv} (h : LSt w0 W v1 v2 v3 Wk vp ps) : w0.heap.size < W.heap.size := (Array.getElem?_eq_some_iff.1 h.box).1
theorem LSt.below {w0 W W' : World} {v1 v2 v3 vp : Value} {Wk : Wd} {ps : List Fv} (h : LSt w0 W v1 v2 v3 Wk vp ps) (hB : Below W.heap.size W W') : LSt w0 W' v1 v2 v3 Wk vp ps :=
  ⟨h.bel.trans (hB.mono h.bel.size), (hB.block _ h.lt).trans h.box, h.win.below hB, h.row.below hB, fun b hb => ⟨(h.off b hb).1, (h.off b hb).2.1, Nat.lt_of_lt_of_le (h.off b hb).2.2 hB.size⟩, h.ok, h.kept⟩
/-- another world is stored in the box -/
theorem LSt.put {w0 W : World} {v1 v2 v3 u1 u2 u3 vp : Value} {Wk W' : Wd} {ps : List Fv} (h : LSt w0 W v1 v2 v3 Wk vp ps) (hw : WIn W (.agg #[u1, u2, u3]) W') (hu : ∀ b, vBlocks (.agg #[u1, u2, u3]) b → some b ≠ vp.ownBlock ∧ b ≠ w0.heap.size ∧ b < W.heap.size) (hok : WdOk W') (hk : ∀ x ∈ ps, Kept W' x.f) :
    LSt w0 (((W.setCell ⟨w0.heap.size, 0, none⟩ u1).setCell ⟨w0.heap.size, 1, none⟩ u2).setCell ⟨w0.heap.size, 2, none⟩ u3) u1 u2 u3 W' vp ps ∧ W.grownBy (((W.setCell ⟨w0.heap.size, 0, none⟩ u1).setCell ⟨w0.heap.size, 1, none⟩ u2).setCell ⟨w0.heap.size, 2, none⟩ u3) (some w0.heap.size) := by
  obtain ⟨p1, p2⟩ := put3 u1 u2 u3 h.box
  have hnf : NFb W w0.heap.size := by
    obtain ⟨a1, c1, a2, c2, a3, c3, e1, e2, e3⟩ := h.win.sl
    have hb := h.box
    rw [e1, e2, e3] at hb
    exact nf3 hb
  refine ⟨⟨h.bel.grown p2 h.bel.size (fun q e => by cases e; exact Nat.le_refl _), p1, hw.offV p2 (fun g e => by cases e; exact hnf) (fun b hb e => (hu b hb).2.1 (Option.some.inj e)), h.row.off p2 hnf (fun e => by have := (h.row.lt e).1; omega), fun b hb => ⟨(hu b hb).1, (hu b hb).2.1, Nat.lt_of_lt_of_le (hu b hb).2.2 p2.size⟩, hok, hk⟩, p2⟩
theorem ok_names {W : Wd} (h : WdOk W) : (∀ l ∈ W.nodes, ∀ f ∈ l, f.name ≠ []) ∧ ∀ m ∈ W.net, ∀ f ∈ m.files, f.name ≠ [] := by
  refine ⟨fun l hl => ?_, fun m hm => errM_ne (h.ms m hm).fl⟩
  obtain ⟨j, hj⟩ := List.getElem?_of_mem hl
  exact errM_ne (node_rise h hj).1
/-- one more was put -/
theorem LSt.say {w0 W W' : World} {v1 v2 v3 vp vp' : Value} {Wk : Wd} {ps : List Fv} {y : Fv} (h : LSt w0 W v1 v2 v3 Wk vp ps) (hT : ZRow W' (w0.heap.size + 1) vp' (ps ++ [y])) (hg : ZKeep W W' vp.ownBlock) (hat : vp'.ownBlock = vp.ownBlock ∨ vp'.ownBlock = some W.heap.size) (hy : Kept Wk y.f) : LSt w0 W' v1 v2 v3 Wk vp' (ps ++ [y]) := by
  have hr : ∀ g, vp.ownBlock = some g → w0.heap.size + 1 ≤ g := fun g e => (h.row.lt e).1
  refine ⟨h.bel.grown hg.g h.bel.size (fun g e => by have := hr g e; omega), ?_, hg.win h.win (ok_names h.ok).1 (ok_names h.ok).2 (fun b hb => (h.off b hb).1), hT, fun b hb => ⟨?_, (h.off b hb).2.1, Nat.lt_of_lt_of_le (h.off b hb).2.2 hg.g.size⟩, h.ok, fun x hx => ?_⟩
  · rw [hg.g.block _ h.lt (fun e => by have := hr _ e.symm; omega)]
    exact h.box
  · rcases hat with e | e
    · rw [e]; exact (h.off b hb).1
    · rw [e]
      intro e2
      have := (h.off b hb).2.2
      have := Option.some.inj e2
      omega
  · rcases List.mem_append.1 hx with q | q
    · exact h.kept x q
    · rw [List.mem_singleton.1 q]; exact hy
end Go.Proofs.YtmgmganbamjnmaaDoor
