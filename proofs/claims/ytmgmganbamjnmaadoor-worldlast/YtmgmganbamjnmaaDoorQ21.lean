/-
  Package world: what drop answers.
-/
import Derived.Test.YtmgmganbamjnmaaDoorQ20
namespace Go.Proofs.YtmgmganbamjnmaaDoor
open Go.RowKit
set_option linter.unusedVariables false
set_option linter.unusedSimpArgs false
set_option maxRecDepth 100000

/-- the rows, if the messages' one was worked upon -/
theorem OW.msgs {w w' : World} {B g : Nat} {vn vc vm vm' : Value} {ns : List Lv} {cs : List Int} {ms ms' : List Mv} (h : OW w B vn vc vm ns cs ms) (hg : w.grownBy w' (some g)) (hm : vm.ownBlock = some g) (ht : TRow w' B 63 2 vm' ms'.length (mcells ms')) (hs : ∀ x ∈ ms', x ∈ ms) : OW w' B vn vc vm' ns cs ms' := by
  have hnf : ∀ q, some g = some q → NFb w q := fun q e => by cases e; exact h.m.nf g hm
  have hN := h.n.ne h.m (by decide)
  have hC := h.c.ne h.m (by decide)
  rw [hm] at hN hC
  exact ⟨h.n.kept hg hN, h.c.kept hg hC, ht, fun x hx => (h.la x hx).offN hg hnf, fun x hx => (h.ma x (hs x hx)).offN hg hnf⟩
set_option maxHeartbeats 4000000 in
theorem drop1_any {w : World} {B bp : Nat} {vn vc vm : Value} {ns : List Lv} {cs : List Int} {ms : List Mv} {i : Nat} (h : OW w B vn vc vm ns cs ms) (hB : B ≤ w.heap.size) (hi : i < ms.length) (hlim : ms.length ≤ 1000) (hcp : w.cell? ⟨bp, 0, none⟩ = some (.int .i64 (i : Int))) (hbp : bp < B) :
    Calls Tryd.prog 60 #[.agg #[vn, vc, vm], .pointer (some ⟨bp, 0, none⟩)] w fun e w' => ∃ vm', e = .returned (.agg #[vn, vc, vm']) ∧ OW w' B vn vc vm' ns cs (ms.eraseIdx i) ∧ Below B w w' ∧ KpW w w' := by
  obtain ⟨m, hm⟩ : ∃ m, ms.length = m := ⟨_, rfl⟩
  rw [hm] at hi hlim
  obtain ⟨g, cap, hvm, hg1, hg2⟩ := own_shape h.m.own (by omega)
  rw [hm] at hvm
  subst hvm
  obtain ⟨an, cn, hvn⟩ := h.n.sl
  obtain ⟨ac, cc, hvc⟩ := h.c.sl
  obtain ⟨n, hn⟩ : ∃ n, ns.length = n := ⟨_, rfl⟩
  obtain ⟨q, hq⟩ : ∃ q, cs.length = q := ⟨_, rfl⟩
  rw [hn] at hvn
  rw [hq] at hvc
  subst hvn hvc
  obtain ⟨w1, hw1, hz1, hb1, hx0, hx1⟩ := two_boxes w (.slice an n cn) (.slice ac q cc) (.slice (some ⟨g, 0, none⟩) m cap)
  have h1 := h.below hb1
  have hcp1 : w1.cell? ⟨bp, 0, none⟩ = some (.int .i64 (i : Int)) := (hb1.cell (p := ⟨bp, 0, none⟩) (by show bp < _; omega)).trans hcp
  obtain ⟨r, hr⟩ : ∃ r, m - 1 = r := ⟨_, rfl⟩
  have hel : (ms.eraseIdx i).length = r := by rw [List.length_eraseIdx, hm, if_pos hi]; exact hr
  have HKC := hide (fun (W W' : World) (k1 : KpW w W) (k2 : W.grownBy W' (some g)) => KpW.row (v := .slice (some ⟨g, 0, none⟩) m cap) k1 h.m k2 (by decide))
  have HD := hide (delete_any (by have := h1.m; rw [hm] at this; exact this) hm hi rfl hr hlim)
  have e1 : (((i + 1 : Nat)) : Int) = (i : Int) + 1 := by omega
  rw [e1] at HD
  have q2 := heap_row (i := 2) hx0
  have HX := hide (And.intro hx0 hx1)
  have HZ := hide hz1
  have HB := hide (And.intro hb1 hB)
  have H1 := hide h1
  have HEL := hide hel
  have HGL := hide (And.intro hg1 hg2)
  have HW1 := hide hw1
  rw [← hw1] at hcp1 q2 HD
  clear h h1 hm hn hq hx0 hx1 hz1 hb1 hw1 hcp hr hel hg1 hg2 hB e1
  go_enter Tryd.func60, Tryd.ntmps60
  go_wp2_with fail
  refine (unhide HD).mono ?_
  rintro e w4 ⟨rfl, hT, hg⟩
  rw [show (w.alloc (wbox (.slice an n cn) (.slice ac q cc) (.slice (some ⟨g, 0, none⟩) m cap))).alloc (wbox (.slice none 0 0) (.slice none 0 0) (.slice none 0 0)) = w1 from unhide HW1] at hg
  obtain ⟨hx0, hx1⟩ := unhide HX
  obtain ⟨hb1, hB⟩ := unhide HB
  obtain ⟨hg1, hg2⟩ := unhide HGL
  have hz1 := unhide HZ
  rw [← unhide HEL] at hT
  have h4 := (unhide H1).msgs hg rfl hT (fun x hx => List.mem_of_mem_eraseIdx hx)
  rw [unhide HEL] at h4
  have y0 := (hg.block w.heap.size (by omega) (fun e => by have := Option.some.inj e; omega)).trans hx0
  have y1 := (hg.block (w.heap.size + 1) (by omega) (fun e => by have := Option.some.inj e; omega)).trans hx1
  have hB4 : Below B w w4 := (hb1.mono hB).grown hg (by omega) (fun q e => by cases e; exact hg1)
  have a0 := heap_row (i := 2) y0
  have a1 := frozen_of_row w4 w.heap.size 2 _ _ y0
  have s5 := grown_setCell w4 w.heap.size 2 (.slice (some ⟨g, 0, none⟩) r cap)
  have h5 := h4.offT s5 y0 (nf3 y0) (by decide) (by decide) (by decide)
  have z0 := heap_setCell_same w4 w.heap.size 2 _ _ (.slice (some ⟨g, 0, none⟩) r cap) y0
  have z1 := (s5.block (w.heap.size + 1) (by have := hg.size; omega) (fun e => by have := Option.some.inj e; omega)).trans y1
  have hB5 := hB4.grown s5 (by have := hg.size; omega) (fun q e => by cases e; exact hB)
  have b0 := heap_row (i := 0) z0
  have b1 := heap_row (i := 1) z0
  have b2 := heap_row (i := 2) z0
  have c0 := heap_row (i := 0) z1
  have c1 := heap_row (i := 1) z1
  have c2 := heap_row (i := 2) z1
  have f0 := frozen_of_row _ _ 0 _ _ z1
  have f1 := frozen_of_row _ _ 1 _ _ z1
  have f2 := frozen_of_row _ _ 2 _ _ z1
  obtain ⟨p1, p2⟩ := put3 (.slice an n cn) (.slice ac q cc) (.slice (some ⟨g, 0, none⟩) r cap) z1
  have h6 := h5.offT p2 z1 (nf3 z1) (by decide) (by decide) (by decide)
  have hB6 := hB5.grown p2 (by have := (Array.getElem?_eq_some_iff.1 z1).1; omega) (fun q e => by cases e; omega)
  have HKF := hide ((((unhide HKC _ _ (KpW.below hb1) hg).new s5 (by omega))).new p2 (by omega))
  have HP := hide p1
  have H6 := hide h6
  have HB6 := hide hB6
  clear hT hg h4 y0 y1 hB4 s5 h5 z0 z1 hB5 p1 p2 h6 hB6 hx0 hx1 hb1 hB hz1 hg1 hg2 hcp1 q2
  go_wp2
  refine bodyPost_ret (v := .agg #[.slice an n cn, .slice ac q cc, .slice (some ⟨g, 0, none⟩) r cap]) ?_ rfl ⟨_, rfl, unhide H6, unhide HB6, unhide HKF⟩
  exact results_cell_row rfl _ _ _ _ _ _ _ rfl (unhide HP) Tryd.underlying27 rfl (by kernel_rfl)
end Go.Proofs.YtmgmganbamjnmaaDoor
