/-
  Package world: what a change is in memory, and what it does.
-/
import Derived.Test.YtmgmganbamjnmaaDoorQ22
import Derived.Shelf.Abstract
namespace Go.Proofs.YtmgmganbamjnmaaDoor
open Go.RowKit
set_option linter.unusedVariables false
set_option linter.unusedSimpArgs false
set_option maxRecDepth 100000

/-- what keep and drop answer, in memory -/
structure KeepIn (w : World) (s : Value) (k : Nat) (l : List Fl) (bf bn : Nat) (v : Value) : Prop where
  is : s = .func (.func 58) #[] #[.pointer (some ⟨bf, 0, none⟩), .pointer (some ⟨bn, 0, none⟩)]
  f : w.cell? ⟨bf, 0, none⟩ = some v
  n : w.cell? ⟨bn, 0, none⟩ = some (.int .i64 (k : Int))
  l : LIn w v l
structure DropIn (w : World) (s : Value) (p bp : Nat) : Prop where
  is : s = .func (.func 60) #[] #[.pointer (some ⟨bp, 0, none⟩)]
  p : w.cell? ⟨bp, 0, none⟩ = some (.int .i64 (p : Int))
theorem cell_lt {w : World} {b i : Nat} {v : Value} (h : w.cell? ⟨b, i, none⟩ = some v) : b < w.heap.size := World.block_lt_of_cell? w ⟨b, i, none⟩ h
theorem cell_bel {w w' : World} {b i B : Nat} {v : Value} (h : w.cell? ⟨b, i, none⟩ = some v) (hB : Below B w w') (hb : w.heap.size ≤ B) : w'.cell? ⟨b, i, none⟩ = some v := (hB.cell (p := ⟨b, i, none⟩) (Nat.lt_of_lt_of_le (cell_lt h) hb)).trans h
theorem KeepIn.below {w w' : World} {s v : Value} {k bf bn : Nat} {l : List Fl} (h : KeepIn w s k l bf bn v) (hB : Below w.heap.size w w') : KeepIn w' s k l bf bn v := ⟨h.is, cell_bel h.f hB (Nat.le_refl _), cell_bel h.n hB (Nat.le_refl _), h.l.below hB⟩
theorem DropIn.below {w w' : World} {s : Value} {p bp : Nat} (h : DropIn w s p bp) (hB : Below w.heap.size w w') : DropIn w' s p bp := ⟨h.is, cell_bel h.p hB (Nat.le_refl _)⟩
/-- a change in memory -/
def CgIn (w : World) (s : Value) : Cg → Prop
  | .keep k l => ∃ bf bn v, KeepIn w s k l bf bn v
  | .pass m => ∃ bm v, s = .func (.func 59) #[] #[.pointer (some ⟨bm, 0, none⟩)] ∧ w.cell? ⟨bm, 0, none⟩ = some (.int .i64 m.dst) ∧ w.cell? ⟨bm, 1, none⟩ = some v ∧ LIn w v m.files
  | .drop p => ∃ bp, DropIn w s p bp
  | .both k l p => ∃ bF bL sF sL bf bn v bp, s = .func (.func 55) #[] #[.pointer (some ⟨bF, 0, none⟩), .pointer (some ⟨bL, 0, none⟩)] ∧ w.cell? ⟨bF, 0, none⟩ = some sF ∧ w.cell? ⟨bL, 0, none⟩ = some sL ∧ KeepIn w sL k l bf bn v ∧ DropIn w sF p bp
theorem CgIn.below {w w' : World} {s : Value} {c : Cg} (h : CgIn w s c) (hB : Below w.heap.size w w') : CgIn w' s c := by
  cases c with
  | keep k l => obtain ⟨bf, bn, v, h⟩ := h; exact ⟨bf, bn, v, h.below hB⟩
  | pass m => obtain ⟨bm, v, h1, h2, h3, h4⟩ := h; exact ⟨bm, v, h1, cell_bel h2 hB (Nat.le_refl _), cell_bel h3 hB (Nat.le_refl _), h4.below hB⟩
  | drop p => obtain ⟨bp, h⟩ := h; exact ⟨bp, h.below hB⟩
  | both k l p => obtain ⟨bF, bL, sF, sL, bf, bn, v, bp, h1, h2, h3, h4, h5⟩ := h; exact ⟨bF, bL, sF, sL, bf, bn, v, bp, h1, cell_bel h2 hB (Nat.le_refl _), cell_bel h3 hB (Nat.le_refl _), h4.below hB, h5.below hB⟩
/-- a change that can be done -/
def Cg.fits : Cg → Wd → Prop
  | .keep k l, W => k < W.nodes.length ∧ W.clock.length = W.nodes.length
  | .pass m, W => True
  | .drop p, W => p < W.net.length
  | .both k l p, W => k < W.nodes.length ∧ W.clock.length = W.nodes.length ∧ p < W.net.length
set_option maxHeartbeats 4000000 in
theorem both1_any {w : World} {B bF bL bf bn bp k p : Nat} {vn vc vm sF sL v : Value} {ns : List Lv} {cs : List Int} {ms : List Mv} {l : List Fl} (h : OW w B vn vc vm ns cs ms) (hB : B ≤ w.heap.size) (hk : k < ns.length) (hk2 : cs.length = ns.length) (hlim : ns.length ≤ 1000) (hp : p < ms.length) (hlm : ms.length ≤ 1000)
    (hF : w.cell? ⟨bF, 0, none⟩ = some sF) (hL : w.cell? ⟨bL, 0, none⟩ = some sL) (hbF : bF < B) (hbL : bL < B) (hbf : bf < B) (hbn : bn < B) (hbp : bp < B) (hK : KeepIn w sL k l bf bn v) (hD : DropIn w sF p bp) :
    Calls Tryd.prog 55 #[.agg #[vn, vc, vm], .pointer (some ⟨bF, 0, none⟩), .pointer (some ⟨bL, 0, none⟩)] w fun e w' => ∃ vm' y, y.l = l ∧ e = .returned (.agg #[vn, vc, vm']) ∧ OW w' B vn vc vm' (ns.set k y) (cs.set k (rsd (cs.getD k 0) l)) (ms.eraseIdx p) ∧ Below B w w' := by
  obtain ⟨m, hm⟩ : ∃ m, ms.length = m := ⟨_, rfl⟩
  obtain ⟨an, cn, hvn⟩ := h.n.sl
  obtain ⟨ac, cc, hvc⟩ := h.c.sl
  obtain ⟨am, cm, hvm⟩ := h.m.sl
  obtain ⟨n, hn⟩ : ∃ n, ns.length = n := ⟨_, rfl⟩
  obtain ⟨q, hq⟩ : ∃ q, cs.length = q := ⟨_, rfl⟩
  rw [hn] at hvn
  rw [hq] at hvc
  rw [hm] at hvm
  subst hvn hvc hvm
  obtain ⟨w1, hw1, hz1, hb1, hx0, hx1⟩ := two_boxes w (.slice an n cn) (.slice ac q cc) (.slice am m cm)
  have h1 := (h.below hb1).below (below_drewN (Below.refl w1.heap.size w1) 1)
  have hbd : Below w.heap.size w w1.drew := below_drewN hb1 1
  have hK1 := hK.below hbd
  have hD1 := hD.below hbd
  have hF1 := cell_bel hF hbd (Nat.le_refl _)
  have hL1 := cell_bel hL hbd (Nat.le_refl _)
  have HC := hide (keep1_any (k := k) h1 (by show B ≤ w1.heap.size; omega) hk hk2 hlim hK1.n hK1.f hbn hbf hK1.l)
  have hisK := hK.is
  have hisD := hD.is
  subst hisK hisD
  have q0 : w1.drew.cell? ⟨w.heap.size, 0, none⟩ = some (.slice an n cn) := heap_row (i := 0) hx0
  have q1 : w1.drew.cell? ⟨w.heap.size, 1, none⟩ = some (.slice ac q cc) := heap_row (i := 1) hx0
  have q2 : w1.drew.cell? ⟨w.heap.size, 2, none⟩ = some (.slice am m cm) := heap_row (i := 2) hx0
  have HX := hide (And.intro hx0 (And.intro hx1 (And.intro hz1 (And.intro hb1 (And.intro hB (And.intro hbF (And.intro hbL (And.intro hbp (And.intro hF1 (And.intro hL1 (And.intro hD1 (And.intro hp hlm))))))))))))
  have HM := hide hm
  have HW1 := hide hw1
  clear h h1 hm hn hq hx0 hx1 hz1 hb1 hw1 hB hbF hbL hbp hbf hbn hF hL hK hD hK1 hD1 hF1 hL1 hbd hk hk2 hlim hp hlm
  go_enter Tryd.func55, Tryd.ntmps55
  go_upto_region 1 with fail
  rw [show (w.alloc (wbox (.slice an n cn) (.slice ac q cc) (.slice am m cm))).alloc (wbox (.slice none 0 0) (.slice none 0 0) (.slice none 0 0)) = w1 from unhide HW1]
  obtain ⟨hx0, hx1, hz1, hb1, hB, hbF, hbL, hbp, hF1, hL1, hD1, hp, hlm⟩ := unhide HX
  clear HX HW1
  refine wp_region_held_drew (S := fun W => W.cell? ⟨bF, 0, none⟩ = some (.func (.func 60) #[] #[.pointer (some ⟨bp, 0, none⟩)]) ∧ W.cell? ⟨bL, 0, none⟩ = some (.func (.func 58) #[] #[.pointer (some ⟨bf, 0, none⟩), .pointer (some ⟨bn, 0, none⟩)])) (by kernel_rfl) ⟨hF1, hL1⟩ (fun hHeld => ?_)
  refine wpAnyH_take (i := 0) (v := .func (.func 60) #[] #[.pointer (some ⟨bp, 0, none⟩)]) rfl (by kernel_rfl) (by kernel_rfl) (by kernel_rfl) (fun _ _ _ h => h) (Or.inl ⟨by rfl, fun W hS => by obtain ⟨z1, z2⟩ := hS; go_simp⟩) hHeld ?_
  simp only [Act.put, List.setIfInBounds_toArray, List.set_cons_zero, List.set_cons_succ]
  refine wpAnyH_take (i := 1) (v := .func (.func 58) #[] #[.pointer (some ⟨bf, 0, none⟩), .pointer (some ⟨bn, 0, none⟩)]) rfl (by kernel_rfl) (by kernel_rfl) (by kernel_rfl) (fun _ _ _ h => h) (Or.inl ⟨by rfl, fun W hS => by obtain ⟨z1, z2⟩ := hS; go_simp⟩) hHeld ?_
  simp only [Act.put, List.setIfInBounds_toArray, List.set_cons_zero, List.set_cons_succ]
  refine wpAnyH_ready (rs := [2]) (by kernel_rfl) (by simp) (AllReadyH.cons rfl (fun K hK => ?_) AllReadyH.nil)
  go_simp
  refine hK.out _ _ hHeld (fun hHeld => ?_)
  clear hK K
  refine wpAnyH_ready (rs := [3]) (by kernel_rfl) (by simp) (AllReadyH.cons rfl (fun K hK => ?_) AllReadyH.nil)
  go_simp
  refine (unhide HC).mono ?_
  rintro e w4 ⟨y, hy, rfl, h4, hB4, hW4⟩
  replace hB4 : Below B w1 w4 := (below_drewN (Below.refl B w1) 1).trans hB4
  replace hW4 : KpW w1 w4 := hW4
  dsimp only
  have hS4 := And.intro ((hB4.cell (p := ⟨bF, 0, none⟩) hbF).trans hF1) ((hB4.cell (p := ⟨bL, 0, none⟩) hbL).trans hL1)
  refine hK.out _ _ hS4 (fun hHeld => ?_)
  clear hK K
  have hp4 : w4.cell? ⟨bp, 0, none⟩ = some (.int .i64 (p : Int)) := (hB4.cell (p := ⟨bp, 0, none⟩) hbp).trans hD1.p
  have hs4 := hB4.size
  have HD := hide (drop1_any h4 (by omega) (by rw [unhide HM]; rw [unhide HM] at hp; exact hp) (by omega) hp4 hbp)
  refine wpAnyH_ready (rs := [4]) (by kernel_rfl) (by simp) (AllReadyH.cons rfl (fun K hK => ?_) AllReadyH.nil)
  go_simp
  refine (unhide HD).mono ?_
  rintro e w5 ⟨vm', rfl, h5, hB5, hW5⟩
  dsimp only
  have hS5 := And.intro ((hB5.cell (p := ⟨bF, 0, none⟩) hbF).trans hS4.1) ((hB5.cell (p := ⟨bL, 0, none⟩) hbL).trans hS4.2)
  refine hK.out _ _ hS5 (fun hHeld => ?_)
  clear hK K
  have hx5 := (hW4.trans hW5) _ _ _ hx1
  obtain ⟨a5, c5, hv5⟩ := h5.m.sl
  obtain ⟨m5, hm5⟩ : ∃ m5, (ms.eraseIdx p).length = m5 := ⟨_, rfl⟩
  rw [hm5] at hv5
  subst hv5
  obtain ⟨p1, p2⟩ := put3 (.slice an n cn) (.slice ac q cc) (.slice a5 m5 c5) hx5
  have h6 := h5.offT p2 hx5 (nf3 hx5) (by decide) (by decide) (by decide)
  have hB6 : Below B w _ := ((hb1.mono hB).trans (hB4.trans hB5)).grown p2 (by have := hB5.size; omega) (fun q e => by cases e; omega)
  have hS6 := And.intro (p2.cell hS5.1 (fun e => by have := Option.some.inj e; simp at this; omega)) (p2.cell hS5.2 (fun e => by have := Option.some.inj e; simp at this; omega))
  have c0 := heap_row (i := 0) hx5
  have c1 := heap_row (i := 1) hx5
  have c2 := heap_row (i := 2) hx5
  have f0 := frozen_of_row _ _ 0 _ _ hx5
  have f1 := frozen_of_row _ _ 1 _ _ hx5
  have f2 := frozen_of_row _ _ 2 _ _ hx5
  have HP := hide p1
  have H6 := hide h6
  have HB6 := hide hB6
  have HS6 := hide hS6
  have HY := hide hy
  clear h4 h5 hB4 hB5 hW4 hW5 hx5 p1 p2 h6 hB6 hS4 hS5 hS6 hx0 hx1 hb1 hF1 hL1 hD1 hp4 HD HC hy hp hlm q0 q1 q2 hm5 hs4 hB hbF hbL hbp hz1
  refine wpAnyH_ready (rs := [5]) (by kernel_rfl) (by simp) (AllReadyH.cons rfl (fun K hK => ?_) AllReadyH.nil)
  go_simp
  refine hK.out _ _ (unhide HS6) (fun _ => ?_)
  clear hK K hHeld c0 c1 c2 f0 f1 f2
  refine wpAnyH_done (by kernel_rfl) ?_ _
  go_wp2
  refine bodyPost_ret (v := .agg #[.slice an n cn, .slice ac q cc, .slice a5 m5 c5]) ?_ rfl ⟨_, y, unhide HY, rfl, unhide H6, unhide HB6⟩
  exact results_cell_row rfl _ _ _ _ _ _ _ rfl (unhide HP) Tryd.underlying27 rfl (by kernel_rfl)
end Go.Proofs.YtmgmganbamjnmaaDoor
