/-
  Package world: pass, and what it answers.
-/
import Derived.Test.YtmgmganbamjnmaaGreatDoorS26
namespace Go.Proofs.YtmgmganbamjnmaaGreatDoor
open Go.RowKit
set_option linter.unusedVariables false
set_option linter.unusedSimpArgs false
set_option maxRecDepth 100000

theorem OW.msgs2 {w w' : World} {B : Nat} {vn vc vm vm' : Value} {ns : List Lv} {cs : List Int} {ms ms' : List Mv} (h : OW w B vn vc vm ns cs ms) (hg : w.grownBy w' vm.ownBlock) (ht : TRow w' B 54 2 vm' ms'.length (mcells ms')) (hs : ∀ x ∈ ms', LIn w x.sl x.m.files) : OW w' B vn vc vm' ns cs ms' := by
  have hnf : ∀ q, vm.ownBlock = some q → NFb w q := fun q e => h.m.nf q e
  exact ⟨h.n.kept hg (h.n.ne h.m (by decide)), h.c.kept hg (h.c.ne h.m (by decide)), ht, fun x hx => (h.la x hx).offN hg hnf, fun x hx => (hs x hx).offN hg hnf⟩
set_option maxHeartbeats 4000000 in
theorem pass1_any {w : World} {B bm : Nat} {vn vc vm v : Value} {ns : List Lv} {cs : List Int} {ms : List Mv} {d : Int} {l : List Fl} (h : OW w B vn vc vm ns cs ms) (hB : B ≤ w.heap.size) (hlim : ms.length ≤ 1000) (hcm0 : w.cell? ⟨bm, 0, none⟩ = some (.int .i64 d)) (hcm1 : w.cell? ⟨bm, 1, none⟩ = some v) (hbm : bm < B) (hl : LIn w v l) :
    Calls Tryz.prog 78 #[.agg #[vn, vc, vm], .pointer (some ⟨bm, 0, none⟩)] w fun e w' => ∃ vm' y, y.m = ⟨d, l⟩ ∧ e = .returned (.agg #[vn, vc, vm']) ∧ OW w' B vn vc vm' ns cs (ms ++ [y]) ∧ Below B w w' := by
  obtain ⟨m, hm⟩ : ∃ m, ms.length = m := ⟨_, rfl⟩
  obtain ⟨an, cn, hvn⟩ := h.n.sl
  obtain ⟨ac, cc, hvc⟩ := h.c.sl
  obtain ⟨am, cm, hvm⟩ := h.m.sl
  obtain ⟨n, hn⟩ : ∃ n, ns.length = n := ⟨_, rfl⟩
  obtain ⟨q, hq⟩ : ∃ q, cs.length = q := ⟨_, rfl⟩
  rw [hn] at hvn
  rw [hq] at hvc
  rw [hm] at hvm
  subst hvn hvc hvm
  obtain ⟨af, cf, hvf⟩ := hl.shape
  obtain ⟨nl, hnl⟩ : ∃ nl, l.length = nl := ⟨_, rfl⟩
  rw [hnl] at hvf
  subst hvf
  have hlt : ∀ q, (Value.slice am m cm).ownBlock = some q → B ≤ q ∧ q < w.heap.size := fun q e => h.m.lt e
  obtain ⟨w1, hw1, hz1, hb1, hx0, hx1⟩ := two_boxes w (.slice an n cn) (.slice ac q cc) (.slice am m cm)
  have h1 := h.below hb1
  replace hcm0 : w1.cell? ⟨bm, 0, none⟩ = some (.int .i64 d) := (hb1.cell (p := ⟨bm, 0, none⟩) (by show bm < _; omega)).trans hcm0
  replace hcm1 : w1.cell? ⟨bm, 1, none⟩ = some (.slice af nl cf) := (hb1.cell (p := ⟨bm, 1, none⟩) (by show bm < _; omega)).trans hcm1
  have HC := hide (copyMsg_l d ((hl.below hb1).below (below_drewN (Below.refl w1.heap.size w1) 1)))
  have HX := hide (And.intro hx0 (And.intro hx1 (And.intro hz1 (And.intro hb1 (And.intro hB (And.intro hbm (And.intro hcm0 (And.intro hcm1 (And.intro h1 (And.intro hlt (And.intro hm (And.intro hlim hw1))))))))))))
  clear h h1 hm hn hq hx0 hx1 hz1 hb1 hw1 hcm0 hcm1 hB hl hnl hlt hlim hbm
  go_enter Tryz.func78, Tryz.ntmps78
  go_upto_region 1 with fail
  go_cut [] (fun wc => ∃ (a6 : Option Addr) (c6 : Nat), Hid (∃ y : Mv, y.m = ⟨d, l⟩ ∧ OW wc B (.slice an n cn) (.slice ac q cc) (.slice a6 (m + 1) c6) ns cs (ms ++ [y]) ∧ Below B w wc ∧ wc.heap[w.heap.size]? = some (.cells #[.slice an n cn, .slice ac q cc, .slice a6 (m + 1) c6] 26 (0, 0)) ∧ wc.heap[w.heap.size + 1]? = some (.cells #[(.slice none 0 0), (.slice none 0 0), (.slice none 0 0)] 26 (0, 0))))
  case first =>
    obtain ⟨hx0, hx1, hz1, hb1, hB, hbm, hcm0, hcm1, h1, hlt, hm, hlim, hw1⟩ := unhide HX
    rw [show (w.alloc (wbox (.slice an n cn) (.slice ac q cc) (.slice am m cm))).alloc (wbox (.slice none 0 0) (.slice none 0 0) (.slice none 0 0)) = w1 from hw1]
    have q2 := heap_row (i := 2) hx0
    clear hw1 HX
    refine wp_region_held_drew (S := fun W => W.cell? ⟨bm, 0, none⟩ = some (.int .i64 d) ∧ W.cell? ⟨bm, 1, none⟩ = some (.slice af nl cf)) (by kernel_rfl) ⟨hcm0, hcm1⟩ (fun hHeld => ?_)
    refine wpAnyH_take (i := 0) (v := .pointer (some ⟨w.heap.size, 2, none⟩)) rfl (by kernel_rfl) (by kernel_rfl) (by kernel_rfl) (fun _ _ _ h => h) (Or.inl ⟨by rfl, fun W hS => by go_simp⟩) hHeld ?_
    simp only [Act.put, List.setIfInBounds_toArray, List.set_cons_zero, List.set_cons_succ]
    refine wpAnyH_take (i := 2) (v := .agg #[.int .i64 d, .slice af nl cf]) rfl (by kernel_rfl) (by kernel_rfl) (by kernel_rfl) (fun _ _ _ h => h) (Or.inl ⟨by rfl, fun W hS => by obtain ⟨z1, z2⟩ := hS; go_simp⟩) hHeld ?_
    simp only [Act.put, List.setIfInBounds_toArray, List.set_cons_zero, List.set_cons_succ]
    refine wpAnyH_ready (rs := [1, 3]) (by kernel_rfl) (by simp) (AllReadyH.cons rfl (fun K hK => ?_) (AllReadyH.cons rfl (fun K hK => ?_) AllReadyH.nil))
    · have q2' : w1.drew.cell? ⟨w.heap.size, 2, none⟩ = some (.slice am m cm) := q2
      go_simp
      refine hK.out _ _ hHeld (fun hHeld => ?_)
      clear hK K q2'
      refine wpAnyH_ready (rs := [3]) (by kernel_rfl) (by simp) (AllReadyH.cons rfl (fun K hK => ?_) AllReadyH.nil)
      go_simp
      refine (unhide HC).mono ?_
      rintro e w4 ⟨x4, rfl, hL, hB4⟩
      replace hB4 : Below w1.heap.size w1 w4 := (below_drewN (Below.refl w1.heap.size w1) 1).trans hB4
      dsimp only
      obtain ⟨a', c', hx4⟩ := hL.shape
      obtain ⟨n', hn'⟩ : ∃ n', l.length = n' := ⟨_, rfl⟩
      rw [hn'] at hx4
      subst hx4
      have h4 := h1.below hB4
      have hM4 : w4.cell? ⟨bm, 0, none⟩ = some (.int .i64 d) ∧ w4.cell? ⟨bm, 1, none⟩ = some (.slice af nl cf) := ⟨(hB4.cell (p := ⟨bm, 0, none⟩) (by show bm < _; omega)).trans hcm0, (hB4.cell (p := ⟨bm, 1, none⟩) (by show bm < _; omega)).trans hcm1⟩
      have g2 : w4.cell? ⟨w.heap.size, 2, none⟩ = some (.slice am m cm) := (hB4.cell (p := ⟨w.heap.size, 2, none⟩) (by show w.heap.size < _; omega)).trans q2
      refine hK.out _ _ hM4 (fun hHeld => ?_)
      clear hK K
      refine wpAnyH_ready (rs := [4]) (by kernel_rfl) (by simp) (AllReadyH.cons rfl (fun K hK => ?_) AllReadyH.nil)
      go_simp
      refine hK.out _ _ ⟨cell_al hM4.1, cell_al hM4.2⟩ (fun hHeld => ?_)
      clear hK K
      have hB5 : Below w4.heap.size w4 (w4.alloc (.cells #[.int .i64 d, .slice a' n' c'] 54)) := bel_al (Below.refl _ _) _
      have h5 := h4.below hB5
      have hY5 : (w4.alloc (.cells #[.int .i64 d, .slice a' n' c'] 54)).cell? ⟨w4.heap.size, 0, none⟩ = some (.int .i64 (Mv.mk ⟨d, l⟩ a' c').m.dst) := heap_row (heap_alloc_new w4 _)
      have hZ5 : (w4.alloc (.cells #[.int .i64 d, .slice a' n' c'] 54)).cell? ⟨w4.heap.size, 1, none⟩ = some (Mv.mk ⟨d, l⟩ a' c').sl := by rw [heap_row (heap_alloc_new w4 _)]; simp [Mv.sl, hn']
      have hL5 : LIn (w4.alloc (.cells #[.int .i64 d, .slice a' n' c'] 54)) (Mv.mk ⟨d, l⟩ a' c').sl l := by have := hL.below hB5; simpa [Mv.sl, hn'] using this
      have hB45 := hB4.trans (hB5.mono hB4.size)
      have hsz5 := hB45.size
      obtain ⟨v', w6, hr, hT, hg, hat⟩ := app_m (w4.alloc (.cells #[.int .i64 d, .slice a' n' c'] 54)) 24 (y := ⟨⟨d, l⟩, a', c'⟩) h5.m hY5 hZ5 (by omega) (by omega)
      have h6 := h5.msgs2 hg hT (fun x hx => by
        rcases List.mem_append.1 hx with hx | hx
        · exact h5.ma x hx
        · rw [List.mem_singleton.1 hx]; exact hL5)
      obtain ⟨a6, c6, hv6⟩ := hT.sl
      rw [List.length_append, List.length_singleton, hm] at hv6
      subst hv6
      have hgr : ∀ q, (Value.slice am m cm).ownBlock = some q → B ≤ q ∧ q < w.heap.size := fun q e => hlt q e
      have y0 := (hg.block w.heap.size (by omega) (fun e => by have := hgr _ e.symm; omega)).trans ((hB45.block _ (by omega)).trans hx0)
      have y1 := (hg.block (w.heap.size + 1) (by omega) (fun e => by have := hgr _ e.symm; omega)).trans ((hB45.block _ (by omega)).trans hx1)
      have hB6 : Below B w w6 := ((hb1.mono hB).trans (hB45.mono (by omega))).grown hg (by omega) (fun q e => (hgr q e).1)
      have hM6 : w6.cell? ⟨bm, 0, none⟩ = some (.int .i64 d) ∧ w6.cell? ⟨bm, 1, none⟩ = some (.slice af nl cf) := ⟨hg.cell (cell_al hM4.1) (fun e => by have := (hgr _ e.symm).1; simp at this; omega), hg.cell (cell_al hM4.2) (fun e => by have := (hgr _ e.symm).1; simp at this; omega)⟩
      have s7 := grown_setCell w6 w.heap.size 2 (.slice a6 (m + 1) c6)
      have h7 := h6.offT s7 y0 (nf3 y0) (by decide) (by decide) (by decide)
      have z0 := heap_setCell_same w6 w.heap.size 2 _ _ (.slice a6 (m + 1) c6) y0
      have z1 := (s7.block (w.heap.size + 1) (by have := hg.size; omega) (fun e => by have := Option.some.inj e; omega)).trans y1
      have hB7 := hB6.grown s7 (by have := hg.size; omega) (fun q e => by cases e; exact hB)
      have hM7 := And.intro (s7.cell hM6.1 (fun e => by have := Option.some.inj e; simp at this; omega)) (s7.cell hM6.2 (fun e => by have := Option.some.inj e; simp at this; omega))
      have k0 := heap_row (i := 2) y0
      have k1 := frozen_of_row w6 w.heap.size 2 _ _ y0
      have HF : Hid (∃ y : Mv, y.m = ⟨d, l⟩ ∧ OW (w6.setCell ⟨w.heap.size, 2, none⟩ (.slice a6 (m + 1) c6)) B (.slice an n cn) (.slice ac q cc) (.slice a6 (m + 1) c6) ns cs (ms ++ [y]) ∧ Below B w (w6.setCell ⟨w.heap.size, 2, none⟩ (.slice a6 (m + 1) c6)) ∧ (w6.setCell ⟨w.heap.size, 2, none⟩ (.slice a6 (m + 1) c6)).heap[w.heap.size]? = some (.cells #[.slice an n cn, .slice ac q cc, .slice a6 (m + 1) c6] 26 (0, 0)) ∧ (w6.setCell ⟨w.heap.size, 2, none⟩ (.slice a6 (m + 1) c6)).heap[w.heap.size + 1]? = some (.cells #[(.slice none 0 0), (.slice none 0 0), (.slice none 0 0)] 26 (0, 0))) := hide ⟨_, rfl, h7, hB7, z0, z1⟩
      have HM7 := hide hM7
      clear h5 hL5 hT hg hat h6 y0 y1 hB6 s7 h7 z0 z1 hB7 hM7 hB5 hB45 hgr
      refine wpAnyH_ready (rs := [5]) (by kernel_rfl) (by simp) (AllReadyH.cons rfl (fun K hK => ?_) AllReadyH.nil)
      rw [if_pos (by rfl)]
      refine wp_append_run (.tmp 5) (.tmp 8) 24 rfl rfl rfl hr ?_
      refine hK.out _ _ hM6 (fun hHeld => ?_)
      clear hK K hr hY5 hZ5
      simp only [Act.put, List.setIfInBounds_toArray, List.set_cons_zero, List.set_cons_succ]
      refine wpAnyH_take (i := 6) (v := .pointer (some ⟨w.heap.size, 2, none⟩)) rfl (by kernel_rfl) (by kernel_rfl) (by kernel_rfl) (fun _ _ _ h => h) (Or.inl ⟨by rfl, fun W hS => by go_simp⟩) hHeld ?_
      simp only [Act.put, List.setIfInBounds_toArray, List.set_cons_zero, List.set_cons_succ]
      refine wpAnyH_ready (rs := [7]) (by kernel_rfl) (by simp) (AllReadyH.cons rfl (fun K hK => ?_) AllReadyH.nil)
      go_simp
      refine hK.out _ _ (unhide HM7) (fun _ => ?_)
      clear hK K
      refine wpAnyH_done (by kernel_rfl) ?_ _
      clear hM6 k0 k1 hHeld
      go_wp2_with fail
      go_meet
      exact ⟨_, _, HF⟩
    · skip
      go_simp
      refine (unhide HC).mono ?_
      rintro e w4 ⟨x4, rfl, hL, hB4⟩
      replace hB4 : Below w1.heap.size w1 w4 := (below_drewN (Below.refl w1.heap.size w1) 1).trans hB4
      dsimp only
      obtain ⟨a', c', hx4⟩ := hL.shape
      obtain ⟨n', hn'⟩ : ∃ n', l.length = n' := ⟨_, rfl⟩
      rw [hn'] at hx4
      subst hx4
      have h4 := h1.below hB4
      have hM4 : w4.cell? ⟨bm, 0, none⟩ = some (.int .i64 d) ∧ w4.cell? ⟨bm, 1, none⟩ = some (.slice af nl cf) := ⟨(hB4.cell (p := ⟨bm, 0, none⟩) (by show bm < _; omega)).trans hcm0, (hB4.cell (p := ⟨bm, 1, none⟩) (by show bm < _; omega)).trans hcm1⟩
      have g2 : w4.cell? ⟨w.heap.size, 2, none⟩ = some (.slice am m cm) := (hB4.cell (p := ⟨w.heap.size, 2, none⟩) (by show w.heap.size < _; omega)).trans q2
      refine hK.out _ _ hM4 (fun hHeld => ?_)
      clear hK K
      refine wpAnyH_ready (rs := [1, 4]) (by kernel_rfl) (by simp) (AllReadyH.cons rfl (fun K hK => ?_) (AllReadyH.cons rfl (fun K hK => ?_) AllReadyH.nil))
      · go_simp
        refine hK.out _ _ hHeld (fun hHeld => ?_)
        clear hK K
        refine wpAnyH_ready (rs := [4]) (by kernel_rfl) (by simp) (AllReadyH.cons rfl (fun K hK => ?_) AllReadyH.nil)
        go_simp
        refine hK.out _ _ ⟨cell_al hM4.1, cell_al hM4.2⟩ (fun hHeld => ?_)
        clear hK K
        have hB5 : Below w4.heap.size w4 (w4.alloc (.cells #[.int .i64 d, .slice a' n' c'] 54)) := bel_al (Below.refl _ _) _
        have h5 := h4.below hB5
        have hY5 : (w4.alloc (.cells #[.int .i64 d, .slice a' n' c'] 54)).cell? ⟨w4.heap.size, 0, none⟩ = some (.int .i64 (Mv.mk ⟨d, l⟩ a' c').m.dst) := heap_row (heap_alloc_new w4 _)
        have hZ5 : (w4.alloc (.cells #[.int .i64 d, .slice a' n' c'] 54)).cell? ⟨w4.heap.size, 1, none⟩ = some (Mv.mk ⟨d, l⟩ a' c').sl := by rw [heap_row (heap_alloc_new w4 _)]; simp [Mv.sl, hn']
        have hL5 : LIn (w4.alloc (.cells #[.int .i64 d, .slice a' n' c'] 54)) (Mv.mk ⟨d, l⟩ a' c').sl l := by have := hL.below hB5; simpa [Mv.sl, hn'] using this
        have hB45 := hB4.trans (hB5.mono hB4.size)
        have hsz5 := hB45.size
        obtain ⟨v', w6, hr, hT, hg, hat⟩ := app_m (w4.alloc (.cells #[.int .i64 d, .slice a' n' c'] 54)) 24 (y := ⟨⟨d, l⟩, a', c'⟩) h5.m hY5 hZ5 (by omega) (by omega)
        have h6 := h5.msgs2 hg hT (fun x hx => by
          rcases List.mem_append.1 hx with hx | hx
          · exact h5.ma x hx
          · rw [List.mem_singleton.1 hx]; exact hL5)
        obtain ⟨a6, c6, hv6⟩ := hT.sl
        rw [List.length_append, List.length_singleton, hm] at hv6
        subst hv6
        have hgr : ∀ q, (Value.slice am m cm).ownBlock = some q → B ≤ q ∧ q < w.heap.size := fun q e => hlt q e
        have y0 := (hg.block w.heap.size (by omega) (fun e => by have := hgr _ e.symm; omega)).trans ((hB45.block _ (by omega)).trans hx0)
        have y1 := (hg.block (w.heap.size + 1) (by omega) (fun e => by have := hgr _ e.symm; omega)).trans ((hB45.block _ (by omega)).trans hx1)
        have hB6 : Below B w w6 := ((hb1.mono hB).trans (hB45.mono (by omega))).grown hg (by omega) (fun q e => (hgr q e).1)
        have hM6 : w6.cell? ⟨bm, 0, none⟩ = some (.int .i64 d) ∧ w6.cell? ⟨bm, 1, none⟩ = some (.slice af nl cf) := ⟨hg.cell (cell_al hM4.1) (fun e => by have := (hgr _ e.symm).1; simp at this; omega), hg.cell (cell_al hM4.2) (fun e => by have := (hgr _ e.symm).1; simp at this; omega)⟩
        have s7 := grown_setCell w6 w.heap.size 2 (.slice a6 (m + 1) c6)
        have h7 := h6.offT s7 y0 (nf3 y0) (by decide) (by decide) (by decide)
        have z0 := heap_setCell_same w6 w.heap.size 2 _ _ (.slice a6 (m + 1) c6) y0
        have z1 := (s7.block (w.heap.size + 1) (by have := hg.size; omega) (fun e => by have := Option.some.inj e; omega)).trans y1
        have hB7 := hB6.grown s7 (by have := hg.size; omega) (fun q e => by cases e; exact hB)
        have hM7 := And.intro (s7.cell hM6.1 (fun e => by have := Option.some.inj e; simp at this; omega)) (s7.cell hM6.2 (fun e => by have := Option.some.inj e; simp at this; omega))
        have k0 := heap_row (i := 2) y0
        have k1 := frozen_of_row w6 w.heap.size 2 _ _ y0
        have HF : Hid (∃ y : Mv, y.m = ⟨d, l⟩ ∧ OW (w6.setCell ⟨w.heap.size, 2, none⟩ (.slice a6 (m + 1) c6)) B (.slice an n cn) (.slice ac q cc) (.slice a6 (m + 1) c6) ns cs (ms ++ [y]) ∧ Below B w (w6.setCell ⟨w.heap.size, 2, none⟩ (.slice a6 (m + 1) c6)) ∧ (w6.setCell ⟨w.heap.size, 2, none⟩ (.slice a6 (m + 1) c6)).heap[w.heap.size]? = some (.cells #[.slice an n cn, .slice ac q cc, .slice a6 (m + 1) c6] 26 (0, 0)) ∧ (w6.setCell ⟨w.heap.size, 2, none⟩ (.slice a6 (m + 1) c6)).heap[w.heap.size + 1]? = some (.cells #[(.slice none 0 0), (.slice none 0 0), (.slice none 0 0)] 26 (0, 0))) := hide ⟨_, rfl, h7, hB7, z0, z1⟩
        have HM7 := hide hM7
        clear h5 hL5 hT hg hat h6 y0 y1 hB6 s7 h7 z0 z1 hB7 hM7 hB5 hB45 hgr
        refine wpAnyH_ready (rs := [5]) (by kernel_rfl) (by simp) (AllReadyH.cons rfl (fun K hK => ?_) AllReadyH.nil)
        rw [if_pos (by rfl)]
        refine wp_append_run (.tmp 5) (.tmp 8) 24 rfl rfl rfl hr ?_
        refine hK.out _ _ hM6 (fun hHeld => ?_)
        clear hK K hr hY5 hZ5
        simp only [Act.put, List.setIfInBounds_toArray, List.set_cons_zero, List.set_cons_succ]
        refine wpAnyH_take (i := 6) (v := .pointer (some ⟨w.heap.size, 2, none⟩)) rfl (by kernel_rfl) (by kernel_rfl) (by kernel_rfl) (fun _ _ _ h => h) (Or.inl ⟨by rfl, fun W hS => by go_simp⟩) hHeld ?_
        simp only [Act.put, List.setIfInBounds_toArray, List.set_cons_zero, List.set_cons_succ]
        refine wpAnyH_ready (rs := [7]) (by kernel_rfl) (by simp) (AllReadyH.cons rfl (fun K hK => ?_) AllReadyH.nil)
        go_simp
        refine hK.out _ _ (unhide HM7) (fun _ => ?_)
        clear hK K
        refine wpAnyH_done (by kernel_rfl) ?_ _
        clear hM6 k0 k1 hHeld
        go_wp2_with fail
        go_meet
        exact ⟨_, _, HF⟩
      · skip
        go_simp
        refine hK.out _ _ ⟨cell_al hM4.1, cell_al hM4.2⟩ (fun hHeld => ?_)
        clear hK K
        have g2' : (w4.alloc (.cells #[.int .i64 d, .slice a' n' c'] 54)).cell? ⟨w.heap.size, 2, none⟩ = some (.slice am m cm) := cell_al g2
        refine wpAnyH_ready (rs := [1]) (by kernel_rfl) (by simp) (AllReadyH.cons rfl (fun K hK => ?_) AllReadyH.nil)
        go_simp
        refine hK.out _ _ hHeld (fun hHeld => ?_)
        clear hK K g2'
        have hB5 : Below w4.heap.size w4 (w4.alloc (.cells #[.int .i64 d, .slice a' n' c'] 54)) := bel_al (Below.refl _ _) _
        have h5 := h4.below hB5
        have hY5 : (w4.alloc (.cells #[.int .i64 d, .slice a' n' c'] 54)).cell? ⟨w4.heap.size, 0, none⟩ = some (.int .i64 (Mv.mk ⟨d, l⟩ a' c').m.dst) := heap_row (heap_alloc_new w4 _)
        have hZ5 : (w4.alloc (.cells #[.int .i64 d, .slice a' n' c'] 54)).cell? ⟨w4.heap.size, 1, none⟩ = some (Mv.mk ⟨d, l⟩ a' c').sl := by rw [heap_row (heap_alloc_new w4 _)]; simp [Mv.sl, hn']
        have hL5 : LIn (w4.alloc (.cells #[.int .i64 d, .slice a' n' c'] 54)) (Mv.mk ⟨d, l⟩ a' c').sl l := by have := hL.below hB5; simpa [Mv.sl, hn'] using this
        have hB45 := hB4.trans (hB5.mono hB4.size)
        have hsz5 := hB45.size
        obtain ⟨v', w6, hr, hT, hg, hat⟩ := app_m (w4.alloc (.cells #[.int .i64 d, .slice a' n' c'] 54)) 24 (y := ⟨⟨d, l⟩, a', c'⟩) h5.m hY5 hZ5 (by omega) (by omega)
        have h6 := h5.msgs2 hg hT (fun x hx => by
          rcases List.mem_append.1 hx with hx | hx
          · exact h5.ma x hx
          · rw [List.mem_singleton.1 hx]; exact hL5)
        obtain ⟨a6, c6, hv6⟩ := hT.sl
        rw [List.length_append, List.length_singleton, hm] at hv6
        subst hv6
        have hgr : ∀ q, (Value.slice am m cm).ownBlock = some q → B ≤ q ∧ q < w.heap.size := fun q e => hlt q e
        have y0 := (hg.block w.heap.size (by omega) (fun e => by have := hgr _ e.symm; omega)).trans ((hB45.block _ (by omega)).trans hx0)
        have y1 := (hg.block (w.heap.size + 1) (by omega) (fun e => by have := hgr _ e.symm; omega)).trans ((hB45.block _ (by omega)).trans hx1)
        have hB6 : Below B w w6 := ((hb1.mono hB).trans (hB45.mono (by omega))).grown hg (by omega) (fun q e => (hgr q e).1)
        have hM6 : w6.cell? ⟨bm, 0, none⟩ = some (.int .i64 d) ∧ w6.cell? ⟨bm, 1, none⟩ = some (.slice af nl cf) := ⟨hg.cell (cell_al hM4.1) (fun e => by have := (hgr _ e.symm).1; simp at this; omega), hg.cell (cell_al hM4.2) (fun e => by have := (hgr _ e.symm).1; simp at this; omega)⟩
        have s7 := grown_setCell w6 w.heap.size 2 (.slice a6 (m + 1) c6)
        have h7 := h6.offT s7 y0 (nf3 y0) (by decide) (by decide) (by decide)
        have z0 := heap_setCell_same w6 w.heap.size 2 _ _ (.slice a6 (m + 1) c6) y0
        have z1 := (s7.block (w.heap.size + 1) (by have := hg.size; omega) (fun e => by have := Option.some.inj e; omega)).trans y1
        have hB7 := hB6.grown s7 (by have := hg.size; omega) (fun q e => by cases e; exact hB)
        have hM7 := And.intro (s7.cell hM6.1 (fun e => by have := Option.some.inj e; simp at this; omega)) (s7.cell hM6.2 (fun e => by have := Option.some.inj e; simp at this; omega))
        have k0 := heap_row (i := 2) y0
        have k1 := frozen_of_row w6 w.heap.size 2 _ _ y0
        have HF : Hid (∃ y : Mv, y.m = ⟨d, l⟩ ∧ OW (w6.setCell ⟨w.heap.size, 2, none⟩ (.slice a6 (m + 1) c6)) B (.slice an n cn) (.slice ac q cc) (.slice a6 (m + 1) c6) ns cs (ms ++ [y]) ∧ Below B w (w6.setCell ⟨w.heap.size, 2, none⟩ (.slice a6 (m + 1) c6)) ∧ (w6.setCell ⟨w.heap.size, 2, none⟩ (.slice a6 (m + 1) c6)).heap[w.heap.size]? = some (.cells #[.slice an n cn, .slice ac q cc, .slice a6 (m + 1) c6] 26 (0, 0)) ∧ (w6.setCell ⟨w.heap.size, 2, none⟩ (.slice a6 (m + 1) c6)).heap[w.heap.size + 1]? = some (.cells #[(.slice none 0 0), (.slice none 0 0), (.slice none 0 0)] 26 (0, 0))) := hide ⟨_, rfl, h7, hB7, z0, z1⟩
        have HM7 := hide hM7
        clear h5 hL5 hT hg hat h6 y0 y1 hB6 s7 h7 z0 z1 hB7 hM7 hB5 hB45 hgr
        refine wpAnyH_ready (rs := [5]) (by kernel_rfl) (by simp) (AllReadyH.cons rfl (fun K hK => ?_) AllReadyH.nil)
        rw [if_pos (by rfl)]
        refine wp_append_run (.tmp 5) (.tmp 8) 24 rfl rfl rfl hr ?_
        refine hK.out _ _ hM6 (fun hHeld => ?_)
        clear hK K hr hY5 hZ5
        simp only [Act.put, List.setIfInBounds_toArray, List.set_cons_zero, List.set_cons_succ]
        refine wpAnyH_take (i := 6) (v := .pointer (some ⟨w.heap.size, 2, none⟩)) rfl (by kernel_rfl) (by kernel_rfl) (by kernel_rfl) (fun _ _ _ h => h) (Or.inl ⟨by rfl, fun W hS => by go_simp⟩) hHeld ?_
        simp only [Act.put, List.setIfInBounds_toArray, List.set_cons_zero, List.set_cons_succ]
        refine wpAnyH_ready (rs := [7]) (by kernel_rfl) (by simp) (AllReadyH.cons rfl (fun K hK => ?_) AllReadyH.nil)
        go_simp
        refine hK.out _ _ (unhide HM7) (fun _ => ?_)
        clear hK K
        refine wpAnyH_done (by kernel_rfl) ?_ _
        clear hM6 k0 k1 hHeld
        go_wp2_with fail
        go_meet
        exact ⟨_, _, HF⟩
  case rest =>
    obtain ⟨a6, c6, HF⟩ := hcut
    obtain ⟨y, hy, h7, hB7, z0, z1⟩ := unhide HF
    have hB := (unhide HX).2.2.2.2.1
    have b0 := heap_row (i := 0) z0
    have b1 := heap_row (i := 1) z0
    have b2 := heap_row (i := 2) z0
    have c0 := heap_row (i := 0) z1
    have c1 := heap_row (i := 1) z1
    have c2 := heap_row (i := 2) z1
    have f0 := frozen_of_row _ _ 0 _ _ z1
    have f1 := frozen_of_row _ _ 1 _ _ z1
    have f2 := frozen_of_row _ _ 2 _ _ z1
    obtain ⟨p1, p2⟩ := put3 (.slice an n cn) (.slice ac q cc) (.slice a6 (m + 1) c6) z1
    have h8 := h7.offT p2 z1 (nf3 z1) (by decide) (by decide) (by decide)
    have hB8 := hB7.grown p2 (by have := (Array.getElem?_eq_some_iff.1 z1).1; omega) (fun q e => by cases e; omega)
    have HP := hide p1
    have H8 := hide h8
    have HB8 := hide hB8
    have HY := hide hy
    clear hy h7 hB7 z0 z1 p1 p2 h8 hB8 hB HF HX
    go_wp2
    refine bodyPost_ret (v := .agg #[.slice an n cn, .slice ac q cc, .slice a6 (m + 1) c6]) ?_ rfl ⟨_, y, unhide HY, rfl, unhide H8, unhide HB8⟩
    exact results_cell_row rfl _ _ _ _ _ _ _ rfl (unhide HP) Tryz.underlying26 rfl (by kernel_rfl)
theorem pass_any {v1 v2 : Value} {a3 af : Option Addr} {m c3 nl cf : Nat} {d : Int} {w : World} (h1 : ∃ a n c, v1 = .slice a n c) (h2 : ∃ a n c, v2 = .slice a n c) :
    Calls Tryz.prog 59 #[.agg #[v1, v2, .slice a3 m c3], .agg #[.int .i64 d, .slice af nl cf]] w fun e w' => (20 ≤ m ∧ e = .returned (.tuple #[.nilFunc, .int .i64 11]) ∨ m < 20 ∧ e = .returned (.tuple #[.func (.func 78) #[] #[.pointer (some ⟨w.heap.size + 1, 0, none⟩)], .int .i64 0])) ∧ w' = (w.alloc (wbox v1 v2 (.slice a3 m c3))).alloc (mbox (.int .i64 d) (.slice af nl cf)) := by
  obtain ⟨x1, y1, z1, rfl⟩ := h1
  obtain ⟨x2, y2, z2, rfl⟩ := h2
  by_cases hm : 20 ≤ m
  · have hmI : (20 : Int) ≤ (m : Int) := by omega
    go_enter Tryz.func59, Tryz.ntmps59
    go_wp2
    go_ret2
    exact ⟨.inl ⟨hm, rfl⟩, rfl⟩
  · have hmI : ¬ (20 : Int) ≤ (m : Int) := by omega
    go_enter Tryz.func59, Tryz.ntmps59
    go_wp2
    go_ret2
    exact ⟨⟨by omega, rfl⟩, rfl⟩
end Go.Proofs.YtmgmganbamjnmaaGreatDoor
