/-
  Package world: what it does that a message comes, is lost, or is there twice.
-/
import Derived.Test.YtmgmganbamjnmaaGreatDoorS30
import Derived.Laws.EntriesVeiled
namespace Go.Proofs.YtmgmganbamjnmaaGreatDoor
open Go.RowKit
set_option linter.unusedVariables false
set_option linter.unusedSimpArgs false
set_option maxRecDepth 100000

theorem net_who (a1 a2 a3 ab : Option Addr) (n c1 n2 c2 m c3 nb cb : Nat) (kd nd ds : Int) (t : ByteArray) (w : World) (h : isP ds m = false) :
    Calls Tryz.prog 44 #[.agg #[.slice a1 n c1, .slice a2 n2 c2, .slice a3 m c3], .agg #[.int .i64 kd, .int .i64 nd, .int .i64 ds, .string t, .slice ab nb cb]] w fun e w' => ChA w e w' 5 (.drop 0) := by
  obtain ⟨w1, hw1, hz1, hb1, hx0, hx1⟩ := wh_boxes w (.slice a1 n c1) (.slice a2 n2 c2) (.slice a3 m c3) kd nd ds t (.slice ab nb cb)
  have HB := hide hb1
  have HP := hide (fun W => isPlace_any ds m W)
  rw [← hw1] at HB
  rw [h] at HP
  clear hw1 hz1 hb1 hx0 hx1 h
  go_enter Tryz.func44, Tryz.ntmps44
  go_wp2_with fail
  refine (unhide HP _).mono ?_
  rintro e w' ⟨rfl, rfl⟩
  go_wp2_with fail
  go_ret2
  exact ⟨unhide HB, _, rfl, fun e => by cases e⟩
theorem dropIn_new (w : World) (p : Nat) : DropIn (w.alloc (.cells #[.int .i64 (p : Int)] 3)) (.func (.func 79) #[] #[.pointer (some ⟨w.heap.size, 0, none⟩)]) p w.heap.size := ⟨rfl, heap_row (heap_alloc_new w _)⟩
theorem keepIn_is {w : World} {a : Option Addr} {n c k : Nat} {l : List Fl} (h : LIn w (.slice a n c) l) : KeepIn ((w.alloc (.cells #[.int .i64 (k : Int)] 3)).alloc (.cells #[.slice a n c] 46)) (.func (.func 77) #[] #[.pointer (some ⟨w.heap.size + 1, 0, none⟩), .pointer (some ⟨w.heap.size, 0, none⟩)]) k l (w.heap.size + 1) w.heap.size (.slice a n c) := by
  refine ⟨rfl, ?_, ?_, h.below (bel_al (bel_al (Below.refl _ _) _) _)⟩
  · have := heap_alloc_new (w.alloc (.cells #[.int .i64 (k : Int)] 3)) (.cells #[.slice a n c] 46)
    rw [World.size_alloc] at this
    exact heap_row this
  · refine cell_al ?_
    exact heap_row (heap_alloc_new w _)
theorem NFb.nilf {w : World} {g : Nat} {t : TypeId} (h : w.heap[g]? = some (.cells #[.nilFunc] t (0, 0))) : NFb w g := NFb.row h (fun u hu => by simp at hu; subst hu; rfl)
theorem cell_ne {w : World} {a b : Nat} {u v : Value} (h : w.cell? ⟨a, 0, none⟩ = some u) (k : w.cell? ⟨b, 0, none⟩ = some v) (hne : u ≠ v) : some a ≠ some b := by
  intro e
  cases e
  rw [h] at k
  exact hne (Option.some.inj k)
set_option maxHeartbeats 4000000 in
theorem net_lose (a1 a2 a3 ab : Option Addr) (n c1 n2 c2 m c3 nb cb p : Nat) (nd d : Int) (t : ByteArray) (W : Wd) (w : World) (h : WAt w W a1 c1 a2 c2 a3 c3) (hpm : p < m) (fl : List Fl) (hnp : W.net[p]? = some ⟨d, fl⟩) :
    Calls Tryz.prog 44 #[.agg #[.slice a1 n c1, .slice a2 n2 c2, .slice a3 m c3], .agg #[.int .i64 5, .int .i64 nd, .int .i64 (p : Int), .string t, .slice ab nb cb]] w fun e w' => ChA w e w' 0 (.drop p) := by
  obtain ⟨w1, hw1, hz1, hb1, hx0, hx1⟩ := wh_boxes w (.slice a1 n c1) (.slice a2 n2 c2) (.slice a3 m c3) 5 nd p t (.slice ab nb cb)
  have h1 := h.below hb1
  obtain ⟨b3, o3, xf, ha3, hbb3, hxd, hxf, hL⟩ := h1.ms.get hnp
  simp only at hxd hL
  obtain ⟨af, cf, hvf⟩ := hL.shape
  obtain ⟨nf, hnf⟩ : ∃ nf, fl.length = nf := ⟨_, rfl⟩
  rw [hnf] at hvf
  subst hvf ha3
  have HP := hide (fun W => isPlace_any (p : Int) m W)
  rw [isP_nat hpm] at HP
  have hki0 : (0 : Int) ≤ (p : Int) := by omega
  have hki1 : (p : Int) < (m : Int) := by omega
  have hB2 := bel_al (Below.refl w1.heap.size w1) (mbox (.int .i64 d) (.slice af nf cf))
  have hB2w := hb1.trans (hB2.mono (by omega))
  have q2 := heap_row (i := 2) hx0
  have g0 := heap_row (i := 0) hx1
  have g2 := heap_row (i := 2) hx1
  have g0' := cell_bel g0 hB2 (Nat.le_refl _)
  have g2' := cell_bel g2 hB2 (Nat.le_refl _)
  have HD := hide (drop_any (p : Int) (w1.alloc (mbox (.int .i64 d) (.slice af nf cf))))
  have HDI : Hid (∀ b, b = (w1.alloc (mbox (.int .i64 d) (.slice af nf cf))).heap.size → DropIn ((w1.alloc (mbox (.int .i64 d) (.slice af nf cf))).alloc (.cells #[.int .i64 (p : Int)] 3)) (.func (.func 79) #[] #[.pointer (some ⟨b, 0, none⟩)]) p b) := hide (fun b e => by rw [e]; exact dropIn_new _ p)
  have HF := hide (bel_al hB2w (.cells #[.int .i64 (p : Int)] 3))
  have HW1 := hide hw1
  rw [← hw1] at HD HDI HF q2 g0 g2 g0' g2' hxd hxf
  clear h h1 hnp hL hnf hbb3 hx0 hx1 hz1 hb1 hw1 hB2 hB2w hpm HW1
  go_enter Tryz.func44, Tryz.ntmps44
  go_wp2_with fail
  refine (unhide HP _).mono ?_
  rintro e w' ⟨rfl, rfl⟩
  go_wp2_with fail
  refine (unhide HD).mono ?_
  rintro e w' ⟨rfl, rfl⟩
  go_wp2
  go_ret2
  exact ⟨unhide HF, _, rfl, fun _ => ⟨_, unhide HDI _ (by simp)⟩⟩
set_option maxHeartbeats 4000000 in
theorem net_double (a1 a2 a3 ab : Option Addr) (n c1 n2 c2 m c3 nb cb p : Nat) (nd d : Int) (t : ByteArray) (W : Wd) (w : World) (h : WAt w W a1 c1 a2 c2 a3 c3) (hpm : p < m) (fl : List Fl) (hnp : W.net[p]? = some ⟨d, fl⟩) (E : Nat) (hE : (if 20 ≤ m then 11 else 0) = E) :
    Calls Tryz.prog 44 #[.agg #[.slice a1 n c1, .slice a2 n2 c2, .slice a3 m c3], .agg #[.int .i64 6, .int .i64 nd, .int .i64 (p : Int), .string t, .slice ab nb cb]] w fun e w' => ChA w e w' E (.pass ⟨d, fl⟩) := by
  obtain ⟨w1, hw1, hz1, hb1, hx0, hx1⟩ := wh_boxes w (.slice a1 n c1) (.slice a2 n2 c2) (.slice a3 m c3) 6 nd p t (.slice ab nb cb)
  have h1 := h.below hb1
  obtain ⟨b3, o3, xf, ha3, hbb3, hxd, hxf, hL⟩ := h1.ms.get hnp
  simp only at hxd hL
  obtain ⟨af, cf, hvf⟩ := hL.shape
  obtain ⟨nf, hnf⟩ : ∃ nf, fl.length = nf := ⟨_, rfl⟩
  rw [hnf] at hvf
  subst hvf ha3
  have HP := hide (fun W => isPlace_any (p : Int) m W)
  rw [isP_nat hpm] at HP
  have hki0 : (0 : Int) ≤ (p : Int) := by omega
  have hki1 : (p : Int) < (m : Int) := by omega
  have hB2 := bel_al (Below.refl w1.heap.size w1) (mbox (.int .i64 d) (.slice af nf cf))
  have hB2w := hb1.trans (hB2.mono (by omega))
  have q2 := heap_row (i := 2) hx0
  have g0 := heap_row (i := 0) hx1
  have g2 := heap_row (i := 2) hx1
  have g0' := cell_bel g0 hB2 (Nat.le_refl _)
  have g2' := cell_bel g2 hB2 (Nat.le_refl _)
  have q0 := cell_bel (heap_row (i := 0) hx0) hB2 (Nat.le_refl _)
  have q1 := cell_bel (heap_row (i := 1) hx0) hB2 (Nat.le_refl _)
  have q2' := cell_bel q2 hB2 (Nat.le_refl _)
  have HC := hide (pass_ch (a1 := a1) (n1 := n) (c1 := c1) (a2 := a2) (n2 := n2) (c2 := c2) (a3 := some ⟨b3, o3, none⟩) (c3 := c3) (d := d) (hL.below hB2) E hE)
  have HB := hide hB2w
  rw [← hw1] at HC HB q0 q1 q2 q2' g0 g2 g0' g2' hxd hxf
  clear h h1 hnp hL hnf hbb3 hx0 hx1 hz1 hb1 hw1 hB2 hB2w hpm hE
  go_enter Tryz.func44, Tryz.ntmps44
  go_wp2_with fail
  refine (unhide HP _).mono ?_
  rintro e w' ⟨rfl, rfl⟩
  go_wp2_with fail
  refine (unhide HC).mono ?_
  rintro e w4 ⟨hB4, s4, rfl, hs4⟩
  have HF : Hid (ChA w (.returned (.tuple #[s4, .int .i64 (E : Int)])) w4 E (.pass ⟨d, fl⟩)) := hide ⟨(unhide HB).trans (hB4.mono (unhide HB).size), s4, rfl, hs4⟩
  clear hB4 hs4
  go_wp2
  go_ret2
  exact unhide HF
set_option maxHeartbeats 4000000 in
theorem net_arrive (a1 a2 a3 ab : Option Addr) (n c1 n2 c2 m c3 nb cb p k : Nat) (nd d : Int) (hd : d = (k : Int)) (t : ByteArray) (W : Wd) (w : World) (h : WAt w W a1 c1 a2 c2 a3 c3) (hpm : p < m) (hkn : k < n) (fl l : List Fl) (hnp : W.net[p]? = some ⟨d, fl⟩) (hnk : W.nodes[k]? = some l) (E : Nat) (hE : bothE l fl = E) :
    Calls Tryz.prog 44 #[.agg #[.slice a1 n c1, .slice a2 n2 c2, .slice a3 m c3], .agg #[.int .i64 4, .int .i64 nd, .int .i64 (p : Int), .string t, .slice ab nb cb]] w fun e w' => ChA w e w' E (.both k (bothL l fl) p) := by
  obtain ⟨w1, hw1, hz1, hb1, hx0, hx1⟩ := wh_boxes w (.slice a1 n c1) (.slice a2 n2 c2) (.slice a3 m c3) 4 nd p t (.slice ab nb cb)
  have h1 := h.below hb1
  obtain ⟨b3, o3, xf, ha3, hbb3, hxd, hxf, hL⟩ := h1.ms.get hnp
  simp only at hxd hL
  obtain ⟨af, cf, hvf⟩ := hL.shape
  obtain ⟨nf, hnf⟩ : ∃ nf, fl.length = nf := ⟨_, rfl⟩
  rw [hnf] at hvf
  subst hvf ha3
  have HP := hide (fun W => isPlace_any (p : Int) m W)
  rw [isP_nat hpm] at HP
  have hki0 : (0 : Int) ≤ (p : Int) := by omega
  have hki1 : (p : Int) < (m : Int) := by omega
  have hB2 := bel_al (Below.refl w1.heap.size w1) (mbox (.int .i64 d) (.slice af nf cf))
  have hB2w := hb1.trans (hB2.mono (by omega))
  have q2 := heap_row (i := 2) hx0
  have g0 := heap_row (i := 0) hx1
  have g2 := heap_row (i := 2) hx1
  have g0' := cell_bel g0 hB2 (Nat.le_refl _)
  have g2' := cell_bel g2 hB2 (Nat.le_refl _)
  subst hd
  obtain ⟨b1, o1, xl, ha1, hbb1, hxl, hLl⟩ := h1.ns.get hnk
  obtain ⟨al, cl, hvl⟩ := hLl.shape
  obtain ⟨nl, hnl⟩ : ∃ nl, l.length = nl := ⟨_, rfl⟩
  rw [hnl] at hvl
  subst hvl ha1
  obtain ⟨w2, hw2⟩ : ∃ w2, w1.alloc (mbox (.int .i64 (k : Int)) (.slice af nf cf)) = w2 := ⟨_, rfl⟩
  have hz2 : w2.heap.size = w.heap.size + 3 := by rw [← hw2, World.size_alloc]; omega
  have hgm : w2.heap[w.heap.size + 2]? = some (.cells #[.int .i64 (k : Int), .slice af nf cf] 54 (0, 0)) := by
    have := heap_alloc_new w1 (mbox (.int .i64 (k : Int)) (.slice af nf cf))
    rw [hw2, hz1] at this
    exact this
  rw [hw2] at hB2 hB2w g0' g2'
  have hd2 : Below w2.heap.size w2 w2.drew := below_drewN (Below.refl _ _) 1
  have HC := hide (both_l ((hLl.below hB2).below hd2) ((hL.below hB2).below hd2))
  rw [hE] at HC
  have hj0 : (0 : Int) ≤ (k : Int) := by omega
  have hj1 : (k : Int) < (n : Int) := by omega
  have hcc : ∀ W, Below w2.heap.size w2 W → W.cell? ⟨w.heap.size, 0, none⟩ = some (.slice (some ⟨b1, o1, none⟩) n c1) ∧ W.cell? ⟨w.heap.size + 2, 0, none⟩ = some (.int .i64 (k : Int)) ∧ W.cell? ⟨w.heap.size + 2, 1, none⟩ = some (.slice af nf cf) ∧ W.cell? ⟨b1, o1 + k, none⟩ = some (.slice al nl cl) ∧ W.cell? ⟨w.heap.size + 1, 2, none⟩ = some (.int .i64 (p : Int)) := fun W hW => ⟨cell_bel (cell_bel (heap_row (i := 0) hx0) hB2 (Nat.le_refl _)) hW (Nat.le_refl _), cell_bel (heap_row (i := 0) hgm) hW (Nat.le_refl _), cell_bel (heap_row (i := 1) hgm) hW (Nat.le_refl _), cell_bel (cell_bel hxl hB2 (Nat.le_refl _)) hW (Nat.le_refl _), cell_bel g2' hW (Nat.le_refl _)⟩
  have HCC := hide hcc
  have HB2 := hide hB2w
  have HW2 := hide (And.intro hw1 hw2)
  rw [← hw1] at q2 g0 g2 hxd hxf
  rw [← hw2, ← hw1] at g0' g2'
  clear h h1 hnp hnk hL hLl hnf hnl hbb3 hbb1 hx0 hx1 hz1 hb1 hw1 hw2 hB2 hB2w hpm hE hxl hgm hcc hd2 hz2 hkn
  go_enter Tryz.func44, Tryz.ntmps44
  go_wp2_with fail
  refine (unhide HP _).mono ?_
  rintro e w' ⟨rfl, rfl⟩
  go_upto_region 9 with fail
  obtain ⟨hw1, hw2⟩ := unhide HW2
  rw [show (w.alloc (wbox (.slice (some ⟨b1, o1, none⟩) n c1) (.slice a2 n2 c2) (.slice (some ⟨b3, o3, none⟩) m c3))).alloc (hbox 4 nd p t (.slice ab nb cb)) = w1 from hw1, show w1.alloc (mbox (.int .i64 (k : Int)) (.slice af nf cf)) = w2 from hw2]
  clear q2 g0 g2 hxd hxf g0' g2' hw1 hw2 HW2
  refine wp_region_held_drew (S := fun W => Below w2.heap.size w2 W) (by kernel_rfl) (below_drewN (Below.refl _ _) 1) (fun hHeld => ?_)
  refine wpAnyH_take (i := 0) (v := .pointer (some ⟨w.heap.size, 0, none⟩)) rfl (by kernel_rfl) (by kernel_rfl) (by kernel_rfl) (fun _ _ _ h => h) (Or.inl ⟨by rfl, fun W hS => by go_simp⟩) hHeld ?_
  simp only [Act.put, List.setIfInBounds_toArray, List.set_cons_zero, List.set_cons_succ]
  refine wpAnyH_take (i := 1) (v := .slice (some ⟨b1, o1, none⟩) n c1) rfl (by kernel_rfl) (by kernel_rfl) (by kernel_rfl) (fun _ _ _ h => h) (Or.inl ⟨by rfl, fun W hS => by obtain ⟨z1, z2, z3, z4, z5⟩ := unhide HCC W hS; go_simp⟩) hHeld ?_
  simp only [Act.put, List.setIfInBounds_toArray, List.set_cons_zero, List.set_cons_succ]
  refine wpAnyH_take (i := 2) (v := .pointer (some ⟨w.heap.size + 2, 0, none⟩)) rfl (by kernel_rfl) (by kernel_rfl) (by kernel_rfl) (fun _ _ _ h => h) (Or.inl ⟨by rfl, fun W hS => by go_simp⟩) hHeld ?_
  simp only [Act.put, List.setIfInBounds_toArray, List.set_cons_zero, List.set_cons_succ]
  refine wpAnyH_take (i := 3) (v := .int .i64 (k : Int)) rfl (by kernel_rfl) (by kernel_rfl) (by kernel_rfl) (fun _ _ _ h => h) (Or.inl ⟨by rfl, fun W hS => by obtain ⟨z1, z2, z3, z4, z5⟩ := unhide HCC W hS; go_simp⟩) hHeld ?_
  simp only [Act.put, List.setIfInBounds_toArray, List.set_cons_zero, List.set_cons_succ]
  refine wpAnyH_take (i := 4) (v := .pointer (some ⟨b1, o1 + k, none⟩)) rfl (by kernel_rfl) (by kernel_rfl) (by kernel_rfl) (fun _ _ _ h => h) (Or.inl ⟨by rfl, fun W hS => by go_simp⟩) hHeld ?_
  simp only [Act.put, List.setIfInBounds_toArray, List.set_cons_zero, List.set_cons_succ]
  refine wpAnyH_take (i := 5) (v := .slice al nl cl) rfl (by kernel_rfl) (by kernel_rfl) (by kernel_rfl) (fun _ _ _ h => h) (Or.inl ⟨by rfl, fun W hS => by obtain ⟨z1, z2, z3, z4, z5⟩ := unhide HCC W hS; go_simp⟩) hHeld ?_
  simp only [Act.put, List.setIfInBounds_toArray, List.set_cons_zero, List.set_cons_succ]
  refine wpAnyH_take (i := 6) (v := .pointer (some ⟨w.heap.size + 2, 1, none⟩)) rfl (by kernel_rfl) (by kernel_rfl) (by kernel_rfl) (fun _ _ _ h => h) (Or.inl ⟨by rfl, fun W hS => by go_simp⟩) hHeld ?_
  simp only [Act.put, List.setIfInBounds_toArray, List.set_cons_zero, List.set_cons_succ]
  refine wpAnyH_take (i := 7) (v := .slice af nf cf) rfl (by kernel_rfl) (by kernel_rfl) (by kernel_rfl) (fun _ _ _ h => h) (Or.inl ⟨by rfl, fun W hS => by obtain ⟨z1, z2, z3, z4, z5⟩ := unhide HCC W hS; go_simp⟩) hHeld ?_
  simp only [Act.put, List.setIfInBounds_toArray, List.set_cons_zero, List.set_cons_succ]
  refine wpAnyH_ready (rs := [8]) (by kernel_rfl) (by simp) (AllReadyH.cons rfl (fun K hK => ?_) AllReadyH.nil)
  go_simp
  refine (unhide HC).mono ?_
  rintro e w4 ⟨y4, rfl, hL4, hB4⟩
  replace hB4 : Below w2.heap.size w2 w4 := (below_drewN (Below.refl w2.heap.size w2) 1).trans hB4
  dsimp only
  refine hK.out _ _ hB4 (fun hHeld => ?_)
  clear hK K
  obtain ⟨a4, c4, hv4⟩ := hL4.shape
  obtain ⟨n4, hn4⟩ : ∃ n4, (bothL l fl).length = n4 := ⟨_, rfl⟩
  rw [hn4] at hv4
  subst hv4
  refine wpAnyH_take (i := 9) (v := .tuple #[.slice a4 n4 c4, .int .i64 (E : Int)]) rfl (by kernel_rfl) (by kernel_rfl) (by kernel_rfl) (fun _ _ _ h => h) (Or.inl ⟨by rfl, fun W hS => by go_simp⟩) hHeld ?_
  simp only [Act.put, List.setIfInBounds_toArray, List.set_cons_zero, List.set_cons_succ]
  refine wpAnyH_take (i := 10) (v := .slice a4 n4 c4) rfl (by kernel_rfl) (by kernel_rfl) (by kernel_rfl) (fun _ _ _ h => h) (Or.inl ⟨by rfl, fun W hS => by go_simp⟩) hHeld ?_
  simp only [Act.put, List.setIfInBounds_toArray, List.set_cons_zero, List.set_cons_succ]
  refine wpAnyH_take (i := 11) (v := .int .i64 (E : Int)) rfl (by kernel_rfl) (by kernel_rfl) (by kernel_rfl) (fun _ _ _ h => h) (Or.inl ⟨by rfl, fun W hS => by go_simp⟩) hHeld ?_
  simp only [Act.put, List.setIfInBounds_toArray, List.set_cons_zero, List.set_cons_succ]
  refine wpAnyH_ready (rs := [12]) (by kernel_rfl) (by simp) (AllReadyH.cons rfl (fun K hK => ?_) AllReadyH.nil)
  go_simp
  refine hK.out _ _ hHeld (fun hHeld => ?_)
  clear hK K
  refine wpAnyH_ready (rs := [13]) (by kernel_rfl) (by simp) (AllReadyH.cons rfl (fun K hK => ?_) AllReadyH.nil)
  go_simp
  refine hK.out _ _ hHeld (fun hHeld => ?_)
  clear hK K
  refine wpAnyH_done (by kernel_rfl) ?_ _
  clear hHeld
  by_cases hE0 : E = 0
  · subst hE0
    have HL4 := hide hL4
    have HB4 := hide hB4
    clear hL4 hB4 hn4
    go_upto_region 12 with fail
    refine wp_region_held_drew (S := fun W => Below w4.heap.size w4 W) (by kernel_rfl) (below_drewN (Below.refl _ _) 1) (fun hHeld => ?_)
    have hL4 := unhide HL4
    have hB4 := unhide HB4
    have hcw : ∀ W, Below w4.heap.size w4 W → Below w2.heap.size w2 W := fun W hW => hB4.trans (hW.mono hB4.size)
    refine wpAnyH_take (i := 0) (v := .pointer (some ⟨w.heap.size + 2, 0, none⟩)) rfl (by kernel_rfl) (by kernel_rfl) (by kernel_rfl) (fun _ _ _ h => h) (Or.inl ⟨by rfl, fun W hS => by go_simp⟩) hHeld ?_
    simp only [Act.put, List.setIfInBounds_toArray, List.set_cons_zero, List.set_cons_succ]
    refine wpAnyH_take (i := 1) (v := .int .i64 (k : Int)) rfl (by kernel_rfl) (by kernel_rfl) (by kernel_rfl) (fun _ _ _ h => h) (Or.inl ⟨by rfl, fun W hS => by obtain ⟨z1, z2, z3, z4, z5⟩ := unhide HCC W (hcw W hS); go_simp⟩) hHeld ?_
    simp only [Act.put, List.setIfInBounds_toArray, List.set_cons_zero, List.set_cons_succ]
    refine wpAnyH_take (i := 2) (v := .slice a4 n4 c4) rfl (by kernel_rfl) (by kernel_rfl) (by kernel_rfl) (fun _ _ _ h => h) (Or.inl ⟨by rfl, fun W hS => by go_simp⟩) hHeld ?_
    simp only [Act.put, List.setIfInBounds_toArray, List.set_cons_zero, List.set_cons_succ]
    refine wpAnyH_take (i := 4) (v := .pointer (some ⟨w.heap.size + 1, 2, none⟩)) rfl (by kernel_rfl) (by kernel_rfl) (by kernel_rfl) (fun _ _ _ h => h) (Or.inl ⟨by rfl, fun W hS => by go_simp⟩) hHeld ?_
    simp only [Act.put, List.setIfInBounds_toArray, List.set_cons_zero, List.set_cons_succ]
    refine wpAnyH_take (i := 5) (v := .int .i64 (p : Int)) rfl (by kernel_rfl) (by kernel_rfl) (by kernel_rfl) (fun _ _ _ h => h) (Or.inl ⟨by rfl, fun W hS => by obtain ⟨z1, z2, z3, z4, z5⟩ := unhide HCC W (hcw W hS); go_simp⟩) hHeld ?_
    simp only [Act.put, List.setIfInBounds_toArray, List.set_cons_zero, List.set_cons_succ]
    obtain ⟨V0, hV0e⟩ : ∃ V0, w4.drew = V0 := ⟨_, rfl⟩
    rw [hV0e] at hHeld ⊢
    have hV0 := hHeld
    clear hV0e
    -- ORDERS
    refine wpAnyH_ready (rs := [3, 7, 8]) (by kernel_rfl) (by simp) (AllReadyH.cons rfl (fun K hK => ?_) (AllReadyH.cons rfl (fun K hK => ?_) (AllReadyH.cons rfl (fun K hK => ?_) AllReadyH.nil)))
    · skip
      go_simp
      refine (keep_any (k : Int) a4 n4 c4 V0).mono ?_
      rintro e V1 ⟨rfl, hq1⟩
      dsimp only
      have hb1 : Below V0.heap.size V0 V1 := by rw [hq1]; exact bel_al (bel_al (Below.refl _ _) _) _
      have hK10 : KeepIn V1 (.func (.func 77) #[] #[.pointer (some ⟨V0.heap.size + 1, 0, none⟩), .pointer (some ⟨V0.heap.size, 0, none⟩)]) k (bothL l fl) (V0.heap.size + 1) V0.heap.size (.slice a4 n4 c4) := by rw [hq1]; exact keepIn_is (hL4.below hV0)
      clear hq1
      obtain ⟨bf, hbf⟩ : ∃ bf, V0.heap.size + 1 = bf := ⟨_, rfl⟩
      obtain ⟨bn, hbn⟩ : ∃ bn, V0.heap.size = bn := ⟨_, rfl⟩
      rw [hbf, hbn] at hK10
      rw [hbf, hbn]
      have hK1 := hK10
      clear hbf hbn hK10
      have hV1 : Below w4.heap.size w4 V1 := hV0.trans (hb1.mono hV0.size)
      refine hK.out _ _ hV1 (fun hHeld => ?_)
      clear hK K hb1
      clear hV0
      refine wpAnyH_ready (rs := [6, 7, 8]) (by kernel_rfl) (by simp) (AllReadyH.cons rfl (fun K hK => ?_) (AllReadyH.cons rfl (fun K hK => ?_) (AllReadyH.cons rfl (fun K hK => ?_) AllReadyH.nil)))
      · skip
        go_simp
        refine (drop_any (p : Int) V1).mono ?_
        rintro e V2 ⟨rfl, hq2⟩
        dsimp only
        have hb2 : Below V1.heap.size V1 V2 := by rw [hq2]; exact bel_al (Below.refl _ _) _
        have hD20 : DropIn V2 (.func (.func 79) #[] #[.pointer (some ⟨V1.heap.size, 0, none⟩)]) p V1.heap.size := by rw [hq2]; exact dropIn_new _ p
        clear hq2
        obtain ⟨bp, hbp⟩ : ∃ bp, V1.heap.size = bp := ⟨_, rfl⟩
        rw [hbp] at hD20
        rw [hbp]
        have hD2 := hD20
        clear hbp hD20
        have hV2 : Below w4.heap.size w4 V2 := hV1.trans (hb2.mono hV1.size)
        have hK2 := hK1.below hb2
        refine hK.out _ _ hV2 (fun hHeld => ?_)
        clear hK K hb2
        clear hV1 hK1
        refine wpAnyH_ready (rs := [7, 8]) (by kernel_rfl) (by simp) (AllReadyH.cons rfl (fun K hK => ?_) (AllReadyH.cons rfl (fun K hK => ?_) AllReadyH.nil))
        · skip
          go_simp
          obtain ⟨V3, hq3⟩ : ∃ V3, V2.alloc (.cells #[.nilFunc] 55) = V3 := ⟨_, rfl⟩
          have hb3 : Below V2.heap.size V2 V3 := by rw [← hq3]; exact bel_al (Below.refl _ _) _
          have hA30 : V3.heap[V2.heap.size]? = some (.cells #[.nilFunc] 55 (0, 0)) := by rw [← hq3]; exact heap_alloc_new _ _
          rw [show V2.alloc (.cells #[.nilFunc] 55) = V3 from hq3]
          clear hq3
          obtain ⟨A, hAe⟩ : ∃ A, V2.heap.size = A := ⟨_, rfl⟩
          rw [hAe] at hA30
          rw [hAe]
          have hA3 := hA30
          have hAg : w4.heap.size ≤ A := by have := hV2.size; omega
          clear hAe hA30
          have hV3 : Below w4.heap.size w4 V3 := hV2.trans (hb3.mono hV2.size)
          have hK3 := hK2.below hb3
          have hD3 := hD2.below hb3
          refine hK.out _ _ hV3 (fun hHeld => ?_)
          clear hK K hb3
          clear hV2 hK2 hD2
          refine wpAnyH_ready (rs := [8]) (by kernel_rfl) (by simp) (AllReadyH.cons rfl (fun K hK => ?_) AllReadyH.nil)
          go_simp
          obtain ⟨V4, hq4⟩ : ∃ V4, V3.alloc (.cells #[.nilFunc] 55) = V4 := ⟨_, rfl⟩
          have hb4 : Below V3.heap.size V3 V4 := by rw [← hq4]; exact bel_al (Below.refl _ _) _
          have hC40 : V4.heap[V3.heap.size]? = some (.cells #[.nilFunc] 55 (0, 0)) := by rw [← hq4]; exact heap_alloc_new _ _
          rw [show V3.alloc (.cells #[.nilFunc] 55) = V4 from hq4]
          clear hq4
          obtain ⟨C, hCe⟩ : ∃ C, V3.heap.size = C := ⟨_, rfl⟩
          rw [hCe] at hC40
          rw [hCe]
          have hC4 := hC40
          have hCg : w4.heap.size ≤ C := by have := hV3.size; omega
          have hAC : A ≠ C := by have := (Array.getElem?_eq_some_iff.1 hA3).1; omega
          clear hCe hC40
          have hV4 : Below w4.heap.size w4 V4 := hV3.trans (hb4.mono hV3.size)
          have hK4 := hK3.below hb4
          have hD4 := hD3.below hb4
          have hA4 := (hb4.block A (Array.getElem?_eq_some_iff.1 hA3).1).trans hA3
          refine hK.out _ _ hV4 (fun hHeld => ?_)
          clear hK K hb4
          clear hV3 hK3 hD3 hA3
          have cA : V4.cell? ⟨A, 0, none⟩ = some .nilFunc := heap_row hA4
          have cC : V4.cell? ⟨C, 0, none⟩ = some .nilFunc := heap_row hC4
          have fA := frozen_of_row V4 A 0 _ _ hA4
          have sA := grown_setCell V4 A 0 (.func (.func 77) #[] #[.pointer (some ⟨bf, 0, none⟩), .pointer (some ⟨bn, 0, none⟩)])
          have hC5 := (sA.block C (Array.getElem?_eq_some_iff.1 hC4).1 (fun e => hAC (Option.some.inj e).symm)).trans hC4
          have cC5 : (V4.setCell ⟨A, 0, none⟩ (.func (.func 77) #[] #[.pointer (some ⟨bf, 0, none⟩), .pointer (some ⟨bn, 0, none⟩)])).cell? ⟨C, 0, none⟩ = some .nilFunc := heap_row hC5
          have fC := frozen_of_row _ C 0 _ _ hC5
          have sC := grown_setCell (V4.setCell ⟨A, 0, none⟩ (.func (.func 77) #[] #[.pointer (some ⟨bf, 0, none⟩), .pointer (some ⟨bn, 0, none⟩)])) C 0 (.func (.func 79) #[] #[.pointer (some ⟨bp, 0, none⟩)])
          have zA := heap_setCell_same V4 A 0 _ _ (.func (.func 77) #[] #[.pointer (some ⟨bf, 0, none⟩), .pointer (some ⟨bn, 0, none⟩)]) hA4
          have zC := heap_setCell_same _ C 0 _ _ (.func (.func 79) #[] #[.pointer (some ⟨bp, 0, none⟩)]) hC5
          have zA2 := (sC.block A (Array.getElem?_eq_some_iff.1 zA).1 (fun e => hAC (Option.some.inj e))).trans zA
          have kf := sC.cell (sA.cell hK4.f (cell_ne hK4.f cA (by simp))) (cell_ne (sA.cell hK4.f (cell_ne hK4.f cA (by simp))) cC5 (by simp))
          have kn := sC.cell (sA.cell hK4.n (cell_ne hK4.n cA (by simp))) (cell_ne (sA.cell hK4.n (cell_ne hK4.n cA (by simp))) cC5 (by simp))
          have kp := sC.cell (sA.cell hD4.p (cell_ne hD4.p cA (by simp))) (cell_ne (sA.cell hD4.p (cell_ne hD4.p cA (by simp))) cC5 (by simp))
          have kl := (hK4.l.offN sA (fun q e => by cases e; exact NFb.nilf hA4)).offN sC (fun q e => by cases e; exact NFb.nilf hC5)
          have HF : Hid (CgIn ((V4.setCell ⟨A, 0, none⟩ (.func (.func 77) #[] #[.pointer (some ⟨bf, 0, none⟩), .pointer (some ⟨bn, 0, none⟩)])).setCell ⟨C, 0, none⟩ (.func (.func 79) #[] #[.pointer (some ⟨bp, 0, none⟩)])) (.func (.func 61) #[] #[.pointer (some ⟨C, 0, none⟩), .pointer (some ⟨A, 0, none⟩)]) (.both k (bothL l fl) p)) := hide ⟨C, A, _, _, bf, bn, _, bp, rfl, heap_row zC, heap_row zA2, ⟨rfl, kf, kn, kl⟩, ⟨rfl, kp⟩⟩
          have hB5 := hV4.grown sA hV4.size (fun q e => by cases e; exact hAg)
          have hB6 := hB5.grown sC hB5.size (fun q e => by cases e; exact hCg)
          have HB5 := hide hB5
          have HB6 := hide hB6
          have HBX := hide (((unhide HB2).trans (hB4.mono (unhide HB2).size)).trans (hB6.mono (by have := (unhide HB2).size; have := hB4.size; omega)))
          clear sA sC zA zC zA2 kf kn kp kl hB5 hB6 hC5 hK4 hD4 hA4 hC4 hV4 hL4 hB4 hcw hAg hCg cC
          refine wpAnyH_ready (rs := [9]) (by kernel_rfl) (by simp) (AllReadyH.cons rfl (fun K hK => ?_) AllReadyH.nil)
          go_simp
          refine hK.out _ _ (unhide HB5) (fun hHeld => ?_)
          clear hK K
          refine wpAnyH_ready (rs := [10]) (by kernel_rfl) (by simp) (AllReadyH.cons rfl (fun K hK => ?_) AllReadyH.nil)
          go_simp
          refine hK.out _ _ (unhide HB6) (fun hHeld => ?_)
          clear hK K
          refine wpAnyH_done (by kernel_rfl) ?_ _
          clear hHeld cA fA cC5 fC
          go_wp2
          go_ret2
          exact ⟨unhide HBX, _, rfl, fun _ => unhide HF⟩
        · skip
          go_simp
          obtain ⟨V3, hq3⟩ : ∃ V3, V2.alloc (.cells #[.nilFunc] 55) = V3 := ⟨_, rfl⟩
          have hb3 : Below V2.heap.size V2 V3 := by rw [← hq3]; exact bel_al (Below.refl _ _) _
          have hC30 : V3.heap[V2.heap.size]? = some (.cells #[.nilFunc] 55 (0, 0)) := by rw [← hq3]; exact heap_alloc_new _ _
          rw [show V2.alloc (.cells #[.nilFunc] 55) = V3 from hq3]
          clear hq3
          obtain ⟨C, hCe⟩ : ∃ C, V2.heap.size = C := ⟨_, rfl⟩
          rw [hCe] at hC30
          rw [hCe]
          have hC3 := hC30
          have hCg : w4.heap.size ≤ C := by have := hV2.size; omega
          clear hCe hC30
          have hV3 : Below w4.heap.size w4 V3 := hV2.trans (hb3.mono hV2.size)
          have hK3 := hK2.below hb3
          have hD3 := hD2.below hb3
          refine hK.out _ _ hV3 (fun hHeld => ?_)
          clear hK K hb3
          clear hV2 hK2 hD2
          refine wpAnyH_ready (rs := [7]) (by kernel_rfl) (by simp) (AllReadyH.cons rfl (fun K hK => ?_) AllReadyH.nil)
          go_simp
          obtain ⟨V4, hq4⟩ : ∃ V4, V3.alloc (.cells #[.nilFunc] 55) = V4 := ⟨_, rfl⟩
          have hb4 : Below V3.heap.size V3 V4 := by rw [← hq4]; exact bel_al (Below.refl _ _) _
          have hA40 : V4.heap[V3.heap.size]? = some (.cells #[.nilFunc] 55 (0, 0)) := by rw [← hq4]; exact heap_alloc_new _ _
          rw [show V3.alloc (.cells #[.nilFunc] 55) = V4 from hq4]
          clear hq4
          obtain ⟨A, hAe⟩ : ∃ A, V3.heap.size = A := ⟨_, rfl⟩
          rw [hAe] at hA40
          rw [hAe]
          have hA4 := hA40
          have hAg : w4.heap.size ≤ A := by have := hV3.size; omega
          have hAC : A ≠ C := by have := (Array.getElem?_eq_some_iff.1 hC3).1; omega
          clear hAe hA40
          have hV4 : Below w4.heap.size w4 V4 := hV3.trans (hb4.mono hV3.size)
          have hK4 := hK3.below hb4
          have hD4 := hD3.below hb4
          have hC4 := (hb4.block C (Array.getElem?_eq_some_iff.1 hC3).1).trans hC3
          refine hK.out _ _ hV4 (fun hHeld => ?_)
          clear hK K hb4
          clear hV3 hK3 hD3 hC3
          have cA : V4.cell? ⟨A, 0, none⟩ = some .nilFunc := heap_row hA4
          have cC : V4.cell? ⟨C, 0, none⟩ = some .nilFunc := heap_row hC4
          have fA := frozen_of_row V4 A 0 _ _ hA4
          have sA := grown_setCell V4 A 0 (.func (.func 77) #[] #[.pointer (some ⟨bf, 0, none⟩), .pointer (some ⟨bn, 0, none⟩)])
          have hC5 := (sA.block C (Array.getElem?_eq_some_iff.1 hC4).1 (fun e => hAC (Option.some.inj e).symm)).trans hC4
          have cC5 : (V4.setCell ⟨A, 0, none⟩ (.func (.func 77) #[] #[.pointer (some ⟨bf, 0, none⟩), .pointer (some ⟨bn, 0, none⟩)])).cell? ⟨C, 0, none⟩ = some .nilFunc := heap_row hC5
          have fC := frozen_of_row _ C 0 _ _ hC5
          have sC := grown_setCell (V4.setCell ⟨A, 0, none⟩ (.func (.func 77) #[] #[.pointer (some ⟨bf, 0, none⟩), .pointer (some ⟨bn, 0, none⟩)])) C 0 (.func (.func 79) #[] #[.pointer (some ⟨bp, 0, none⟩)])
          have zA := heap_setCell_same V4 A 0 _ _ (.func (.func 77) #[] #[.pointer (some ⟨bf, 0, none⟩), .pointer (some ⟨bn, 0, none⟩)]) hA4
          have zC := heap_setCell_same _ C 0 _ _ (.func (.func 79) #[] #[.pointer (some ⟨bp, 0, none⟩)]) hC5
          have zA2 := (sC.block A (Array.getElem?_eq_some_iff.1 zA).1 (fun e => hAC (Option.some.inj e))).trans zA
          have kf := sC.cell (sA.cell hK4.f (cell_ne hK4.f cA (by simp))) (cell_ne (sA.cell hK4.f (cell_ne hK4.f cA (by simp))) cC5 (by simp))
          have kn := sC.cell (sA.cell hK4.n (cell_ne hK4.n cA (by simp))) (cell_ne (sA.cell hK4.n (cell_ne hK4.n cA (by simp))) cC5 (by simp))
          have kp := sC.cell (sA.cell hD4.p (cell_ne hD4.p cA (by simp))) (cell_ne (sA.cell hD4.p (cell_ne hD4.p cA (by simp))) cC5 (by simp))
          have kl := (hK4.l.offN sA (fun q e => by cases e; exact NFb.nilf hA4)).offN sC (fun q e => by cases e; exact NFb.nilf hC5)
          have HF : Hid (CgIn ((V4.setCell ⟨A, 0, none⟩ (.func (.func 77) #[] #[.pointer (some ⟨bf, 0, none⟩), .pointer (some ⟨bn, 0, none⟩)])).setCell ⟨C, 0, none⟩ (.func (.func 79) #[] #[.pointer (some ⟨bp, 0, none⟩)])) (.func (.func 61) #[] #[.pointer (some ⟨C, 0, none⟩), .pointer (some ⟨A, 0, none⟩)]) (.both k (bothL l fl) p)) := hide ⟨C, A, _, _, bf, bn, _, bp, rfl, heap_row zC, heap_row zA2, ⟨rfl, kf, kn, kl⟩, ⟨rfl, kp⟩⟩
          have hB5 := hV4.grown sA hV4.size (fun q e => by cases e; exact hAg)
          have hB6 := hB5.grown sC hB5.size (fun q e => by cases e; exact hCg)
          have HB5 := hide hB5
          have HB6 := hide hB6
          have HBX := hide (((unhide HB2).trans (hB4.mono (unhide HB2).size)).trans (hB6.mono (by have := (unhide HB2).size; have := hB4.size; omega)))
          clear sA sC zA zC zA2 kf kn kp kl hB5 hB6 hC5 hK4 hD4 hA4 hC4 hV4 hL4 hB4 hcw hAg hCg cC
          refine wpAnyH_ready (rs := [9]) (by kernel_rfl) (by simp) (AllReadyH.cons rfl (fun K hK => ?_) AllReadyH.nil)
          go_simp
          refine hK.out _ _ (unhide HB5) (fun hHeld => ?_)
          clear hK K
          refine wpAnyH_ready (rs := [10]) (by kernel_rfl) (by simp) (AllReadyH.cons rfl (fun K hK => ?_) AllReadyH.nil)
          go_simp
          refine hK.out _ _ (unhide HB6) (fun hHeld => ?_)
          clear hK K
          refine wpAnyH_done (by kernel_rfl) ?_ _
          clear hHeld cA fA cC5 fC
          go_wp2
          go_ret2
          exact ⟨unhide HBX, _, rfl, fun _ => unhide HF⟩
      · skip
        go_simp
        obtain ⟨V2, hq2⟩ : ∃ V2, V1.alloc (.cells #[.nilFunc] 55) = V2 := ⟨_, rfl⟩
        have hb2 : Below V1.heap.size V1 V2 := by rw [← hq2]; exact bel_al (Below.refl _ _) _
        have hA20 : V2.heap[V1.heap.size]? = some (.cells #[.nilFunc] 55 (0, 0)) := by rw [← hq2]; exact heap_alloc_new _ _
        rw [show V1.alloc (.cells #[.nilFunc] 55) = V2 from hq2]
        clear hq2
        obtain ⟨A, hAe⟩ : ∃ A, V1.heap.size = A := ⟨_, rfl⟩
        rw [hAe] at hA20
        rw [hAe]
        have hA2 := hA20
        have hAg : w4.heap.size ≤ A := by have := hV1.size; omega
        clear hAe hA20
        have hV2 : Below w4.heap.size w4 V2 := hV1.trans (hb2.mono hV1.size)
        have hK2 := hK1.below hb2
        refine hK.out _ _ hV2 (fun hHeld => ?_)
        clear hK K hb2
        clear hV1 hK1
        refine wpAnyH_ready (rs := [6, 8]) (by kernel_rfl) (by simp) (AllReadyH.cons rfl (fun K hK => ?_) (AllReadyH.cons rfl (fun K hK => ?_) AllReadyH.nil))
        · skip
          go_simp
          refine (drop_any (p : Int) V2).mono ?_
          rintro e V3 ⟨rfl, hq3⟩
          dsimp only
          have hb3 : Below V2.heap.size V2 V3 := by rw [hq3]; exact bel_al (Below.refl _ _) _
          have hD30 : DropIn V3 (.func (.func 79) #[] #[.pointer (some ⟨V2.heap.size, 0, none⟩)]) p V2.heap.size := by rw [hq3]; exact dropIn_new _ p
          clear hq3
          obtain ⟨bp, hbp⟩ : ∃ bp, V2.heap.size = bp := ⟨_, rfl⟩
          rw [hbp] at hD30
          rw [hbp]
          have hD3 := hD30
          clear hbp hD30
          have hV3 : Below w4.heap.size w4 V3 := hV2.trans (hb3.mono hV2.size)
          have hK3 := hK2.below hb3
          have hA3 := (hb3.block A (Array.getElem?_eq_some_iff.1 hA2).1).trans hA2
          refine hK.out _ _ hV3 (fun hHeld => ?_)
          clear hK K hb3
          clear hV2 hK2 hA2
          refine wpAnyH_ready (rs := [8]) (by kernel_rfl) (by simp) (AllReadyH.cons rfl (fun K hK => ?_) AllReadyH.nil)
          go_simp
          obtain ⟨V4, hq4⟩ : ∃ V4, V3.alloc (.cells #[.nilFunc] 55) = V4 := ⟨_, rfl⟩
          have hb4 : Below V3.heap.size V3 V4 := by rw [← hq4]; exact bel_al (Below.refl _ _) _
          have hC40 : V4.heap[V3.heap.size]? = some (.cells #[.nilFunc] 55 (0, 0)) := by rw [← hq4]; exact heap_alloc_new _ _
          rw [show V3.alloc (.cells #[.nilFunc] 55) = V4 from hq4]
          clear hq4
          obtain ⟨C, hCe⟩ : ∃ C, V3.heap.size = C := ⟨_, rfl⟩
          rw [hCe] at hC40
          rw [hCe]
          have hC4 := hC40
          have hCg : w4.heap.size ≤ C := by have := hV3.size; omega
          have hAC : A ≠ C := by have := (Array.getElem?_eq_some_iff.1 hA3).1; omega
          clear hCe hC40
          have hV4 : Below w4.heap.size w4 V4 := hV3.trans (hb4.mono hV3.size)
          have hK4 := hK3.below hb4
          have hD4 := hD3.below hb4
          have hA4 := (hb4.block A (Array.getElem?_eq_some_iff.1 hA3).1).trans hA3
          refine hK.out _ _ hV4 (fun hHeld => ?_)
          clear hK K hb4
          clear hV3 hK3 hD3 hA3
          have cA : V4.cell? ⟨A, 0, none⟩ = some .nilFunc := heap_row hA4
          have cC : V4.cell? ⟨C, 0, none⟩ = some .nilFunc := heap_row hC4
          have fA := frozen_of_row V4 A 0 _ _ hA4
          have sA := grown_setCell V4 A 0 (.func (.func 77) #[] #[.pointer (some ⟨bf, 0, none⟩), .pointer (some ⟨bn, 0, none⟩)])
          have hC5 := (sA.block C (Array.getElem?_eq_some_iff.1 hC4).1 (fun e => hAC (Option.some.inj e).symm)).trans hC4
          have cC5 : (V4.setCell ⟨A, 0, none⟩ (.func (.func 77) #[] #[.pointer (some ⟨bf, 0, none⟩), .pointer (some ⟨bn, 0, none⟩)])).cell? ⟨C, 0, none⟩ = some .nilFunc := heap_row hC5
          have fC := frozen_of_row _ C 0 _ _ hC5
          have sC := grown_setCell (V4.setCell ⟨A, 0, none⟩ (.func (.func 77) #[] #[.pointer (some ⟨bf, 0, none⟩), .pointer (some ⟨bn, 0, none⟩)])) C 0 (.func (.func 79) #[] #[.pointer (some ⟨bp, 0, none⟩)])
          have zA := heap_setCell_same V4 A 0 _ _ (.func (.func 77) #[] #[.pointer (some ⟨bf, 0, none⟩), .pointer (some ⟨bn, 0, none⟩)]) hA4
          have zC := heap_setCell_same _ C 0 _ _ (.func (.func 79) #[] #[.pointer (some ⟨bp, 0, none⟩)]) hC5
          have zA2 := (sC.block A (Array.getElem?_eq_some_iff.1 zA).1 (fun e => hAC (Option.some.inj e))).trans zA
          have kf := sC.cell (sA.cell hK4.f (cell_ne hK4.f cA (by simp))) (cell_ne (sA.cell hK4.f (cell_ne hK4.f cA (by simp))) cC5 (by simp))
          have kn := sC.cell (sA.cell hK4.n (cell_ne hK4.n cA (by simp))) (cell_ne (sA.cell hK4.n (cell_ne hK4.n cA (by simp))) cC5 (by simp))
          have kp := sC.cell (sA.cell hD4.p (cell_ne hD4.p cA (by simp))) (cell_ne (sA.cell hD4.p (cell_ne hD4.p cA (by simp))) cC5 (by simp))
          have kl := (hK4.l.offN sA (fun q e => by cases e; exact NFb.nilf hA4)).offN sC (fun q e => by cases e; exact NFb.nilf hC5)
          have HF : Hid (CgIn ((V4.setCell ⟨A, 0, none⟩ (.func (.func 77) #[] #[.pointer (some ⟨bf, 0, none⟩), .pointer (some ⟨bn, 0, none⟩)])).setCell ⟨C, 0, none⟩ (.func (.func 79) #[] #[.pointer (some ⟨bp, 0, none⟩)])) (.func (.func 61) #[] #[.pointer (some ⟨C, 0, none⟩), .pointer (some ⟨A, 0, none⟩)]) (.both k (bothL l fl) p)) := hide ⟨C, A, _, _, bf, bn, _, bp, rfl, heap_row zC, heap_row zA2, ⟨rfl, kf, kn, kl⟩, ⟨rfl, kp⟩⟩
          have hB5 := hV4.grown sA hV4.size (fun q e => by cases e; exact hAg)
          have hB6 := hB5.grown sC hB5.size (fun q e => by cases e; exact hCg)
          have HB5 := hide hB5
          have HB6 := hide hB6
          have HBX := hide (((unhide HB2).trans (hB4.mono (unhide HB2).size)).trans (hB6.mono (by have := (unhide HB2).size; have := hB4.size; omega)))
          clear sA sC zA zC zA2 kf kn kp kl hB5 hB6 hC5 hK4 hD4 hA4 hC4 hV4 hL4 hB4 hcw hAg hCg cC
          refine wpAnyH_ready (rs := [9]) (by kernel_rfl) (by simp) (AllReadyH.cons rfl (fun K hK => ?_) AllReadyH.nil)
          go_simp
          refine hK.out _ _ (unhide HB5) (fun hHeld => ?_)
          clear hK K
          refine wpAnyH_ready (rs := [10]) (by kernel_rfl) (by simp) (AllReadyH.cons rfl (fun K hK => ?_) AllReadyH.nil)
          go_simp
          refine hK.out _ _ (unhide HB6) (fun hHeld => ?_)
          clear hK K
          refine wpAnyH_done (by kernel_rfl) ?_ _
          clear hHeld cA fA cC5 fC
          go_wp2
          go_ret2
          exact ⟨unhide HBX, _, rfl, fun _ => unhide HF⟩
        · skip
          go_simp
          obtain ⟨V3, hq3⟩ : ∃ V3, V2.alloc (.cells #[.nilFunc] 55) = V3 := ⟨_, rfl⟩
          have hb3 : Below V2.heap.size V2 V3 := by rw [← hq3]; exact bel_al (Below.refl _ _) _
          have hC30 : V3.heap[V2.heap.size]? = some (.cells #[.nilFunc] 55 (0, 0)) := by rw [← hq3]; exact heap_alloc_new _ _
          rw [show V2.alloc (.cells #[.nilFunc] 55) = V3 from hq3]
          clear hq3
          obtain ⟨C, hCe⟩ : ∃ C, V2.heap.size = C := ⟨_, rfl⟩
          rw [hCe] at hC30
          rw [hCe]
          have hC3 := hC30
          have hCg : w4.heap.size ≤ C := by have := hV2.size; omega
          have hAC : A ≠ C := by have := (Array.getElem?_eq_some_iff.1 hA2).1; omega
          clear hCe hC30
          have hV3 : Below w4.heap.size w4 V3 := hV2.trans (hb3.mono hV2.size)
          have hK3 := hK2.below hb3
          have hA3 := (hb3.block A (Array.getElem?_eq_some_iff.1 hA2).1).trans hA2
          refine hK.out _ _ hV3 (fun hHeld => ?_)
          clear hK K hb3
          clear hV2 hK2 hA2
          refine wpAnyH_ready (rs := [6]) (by kernel_rfl) (by simp) (AllReadyH.cons rfl (fun K hK => ?_) AllReadyH.nil)
          go_simp
          refine (drop_any (p : Int) V3).mono ?_
          rintro e V4 ⟨rfl, hq4⟩
          dsimp only
          have hb4 : Below V3.heap.size V3 V4 := by rw [hq4]; exact bel_al (Below.refl _ _) _
          have hD40 : DropIn V4 (.func (.func 79) #[] #[.pointer (some ⟨V3.heap.size, 0, none⟩)]) p V3.heap.size := by rw [hq4]; exact dropIn_new _ p
          clear hq4
          obtain ⟨bp, hbp⟩ : ∃ bp, V3.heap.size = bp := ⟨_, rfl⟩
          rw [hbp] at hD40
          rw [hbp]
          have hD4 := hD40
          clear hbp hD40
          have hV4 : Below w4.heap.size w4 V4 := hV3.trans (hb4.mono hV3.size)
          have hK4 := hK3.below hb4
          have hA4 := (hb4.block A (Array.getElem?_eq_some_iff.1 hA3).1).trans hA3
          have hC4 := (hb4.block C (Array.getElem?_eq_some_iff.1 hC3).1).trans hC3
          refine hK.out _ _ hV4 (fun hHeld => ?_)
          clear hK K hb4
          clear hV3 hK3 hA3 hC3
          have cA : V4.cell? ⟨A, 0, none⟩ = some .nilFunc := heap_row hA4
          have cC : V4.cell? ⟨C, 0, none⟩ = some .nilFunc := heap_row hC4
          have fA := frozen_of_row V4 A 0 _ _ hA4
          have sA := grown_setCell V4 A 0 (.func (.func 77) #[] #[.pointer (some ⟨bf, 0, none⟩), .pointer (some ⟨bn, 0, none⟩)])
          have hC5 := (sA.block C (Array.getElem?_eq_some_iff.1 hC4).1 (fun e => hAC (Option.some.inj e).symm)).trans hC4
          have cC5 : (V4.setCell ⟨A, 0, none⟩ (.func (.func 77) #[] #[.pointer (some ⟨bf, 0, none⟩), .pointer (some ⟨bn, 0, none⟩)])).cell? ⟨C, 0, none⟩ = some .nilFunc := heap_row hC5
          have fC := frozen_of_row _ C 0 _ _ hC5
          have sC := grown_setCell (V4.setCell ⟨A, 0, none⟩ (.func (.func 77) #[] #[.pointer (some ⟨bf, 0, none⟩), .pointer (some ⟨bn, 0, none⟩)])) C 0 (.func (.func 79) #[] #[.pointer (some ⟨bp, 0, none⟩)])
          have zA := heap_setCell_same V4 A 0 _ _ (.func (.func 77) #[] #[.pointer (some ⟨bf, 0, none⟩), .pointer (some ⟨bn, 0, none⟩)]) hA4
          have zC := heap_setCell_same _ C 0 _ _ (.func (.func 79) #[] #[.pointer (some ⟨bp, 0, none⟩)]) hC5
          have zA2 := (sC.block A (Array.getElem?_eq_some_iff.1 zA).1 (fun e => hAC (Option.some.inj e))).trans zA
          have kf := sC.cell (sA.cell hK4.f (cell_ne hK4.f cA (by simp))) (cell_ne (sA.cell hK4.f (cell_ne hK4.f cA (by simp))) cC5 (by simp))
          have kn := sC.cell (sA.cell hK4.n (cell_ne hK4.n cA (by simp))) (cell_ne (sA.cell hK4.n (cell_ne hK4.n cA (by simp))) cC5 (by simp))
          have kp := sC.cell (sA.cell hD4.p (cell_ne hD4.p cA (by simp))) (cell_ne (sA.cell hD4.p (cell_ne hD4.p cA (by simp))) cC5 (by simp))
          have kl := (hK4.l.offN sA (fun q e => by cases e; exact NFb.nilf hA4)).offN sC (fun q e => by cases e; exact NFb.nilf hC5)
          have HF : Hid (CgIn ((V4.setCell ⟨A, 0, none⟩ (.func (.func 77) #[] #[.pointer (some ⟨bf, 0, none⟩), .pointer (some ⟨bn, 0, none⟩)])).setCell ⟨C, 0, none⟩ (.func (.func 79) #[] #[.pointer (some ⟨bp, 0, none⟩)])) (.func (.func 61) #[] #[.pointer (some ⟨C, 0, none⟩), .pointer (some ⟨A, 0, none⟩)]) (.both k (bothL l fl) p)) := hide ⟨C, A, _, _, bf, bn, _, bp, rfl, heap_row zC, heap_row zA2, ⟨rfl, kf, kn, kl⟩, ⟨rfl, kp⟩⟩
          have hB5 := hV4.grown sA hV4.size (fun q e => by cases e; exact hAg)
          have hB6 := hB5.grown sC hB5.size (fun q e => by cases e; exact hCg)
          have HB5 := hide hB5
          have HB6 := hide hB6
          have HBX := hide (((unhide HB2).trans (hB4.mono (unhide HB2).size)).trans (hB6.mono (by have := (unhide HB2).size; have := hB4.size; omega)))
          clear sA sC zA zC zA2 kf kn kp kl hB5 hB6 hC5 hK4 hD4 hA4 hC4 hV4 hL4 hB4 hcw hAg hCg cC
          refine wpAnyH_ready (rs := [9]) (by kernel_rfl) (by simp) (AllReadyH.cons rfl (fun K hK => ?_) AllReadyH.nil)
          go_simp
          refine hK.out _ _ (unhide HB5) (fun hHeld => ?_)
          clear hK K
          refine wpAnyH_ready (rs := [10]) (by kernel_rfl) (by simp) (AllReadyH.cons rfl (fun K hK => ?_) AllReadyH.nil)
          go_simp
          refine hK.out _ _ (unhide HB6) (fun hHeld => ?_)
          clear hK K
          refine wpAnyH_done (by kernel_rfl) ?_ _
          clear hHeld cA fA cC5 fC
          go_wp2
          go_ret2
          exact ⟨unhide HBX, _, rfl, fun _ => unhide HF⟩
      · skip
        go_simp
        obtain ⟨V2, hq2⟩ : ∃ V2, V1.alloc (.cells #[.nilFunc] 55) = V2 := ⟨_, rfl⟩
        have hb2 : Below V1.heap.size V1 V2 := by rw [← hq2]; exact bel_al (Below.refl _ _) _
        have hC20 : V2.heap[V1.heap.size]? = some (.cells #[.nilFunc] 55 (0, 0)) := by rw [← hq2]; exact heap_alloc_new _ _
        rw [show V1.alloc (.cells #[.nilFunc] 55) = V2 from hq2]
        clear hq2
        obtain ⟨C, hCe⟩ : ∃ C, V1.heap.size = C := ⟨_, rfl⟩
        rw [hCe] at hC20
        rw [hCe]
        have hC2 := hC20
        have hCg : w4.heap.size ≤ C := by have := hV1.size; omega
        clear hCe hC20
        have hV2 : Below w4.heap.size w4 V2 := hV1.trans (hb2.mono hV1.size)
        have hK2 := hK1.below hb2
        refine hK.out _ _ hV2 (fun hHeld => ?_)
        clear hK K hb2
        clear hV1 hK1
        refine wpAnyH_ready (rs := [6, 7]) (by kernel_rfl) (by simp) (AllReadyH.cons rfl (fun K hK => ?_) (AllReadyH.cons rfl (fun K hK => ?_) AllReadyH.nil))
        · skip
          go_simp
          refine (drop_any (p : Int) V2).mono ?_
          rintro e V3 ⟨rfl, hq3⟩
          dsimp only
          have hb3 : Below V2.heap.size V2 V3 := by rw [hq3]; exact bel_al (Below.refl _ _) _
          have hD30 : DropIn V3 (.func (.func 79) #[] #[.pointer (some ⟨V2.heap.size, 0, none⟩)]) p V2.heap.size := by rw [hq3]; exact dropIn_new _ p
          clear hq3
          obtain ⟨bp, hbp⟩ : ∃ bp, V2.heap.size = bp := ⟨_, rfl⟩
          rw [hbp] at hD30
          rw [hbp]
          have hD3 := hD30
          clear hbp hD30
          have hV3 : Below w4.heap.size w4 V3 := hV2.trans (hb3.mono hV2.size)
          have hK3 := hK2.below hb3
          have hC3 := (hb3.block C (Array.getElem?_eq_some_iff.1 hC2).1).trans hC2
          refine hK.out _ _ hV3 (fun hHeld => ?_)
          clear hK K hb3
          clear hV2 hK2 hC2
          refine wpAnyH_ready (rs := [7]) (by kernel_rfl) (by simp) (AllReadyH.cons rfl (fun K hK => ?_) AllReadyH.nil)
          go_simp
          obtain ⟨V4, hq4⟩ : ∃ V4, V3.alloc (.cells #[.nilFunc] 55) = V4 := ⟨_, rfl⟩
          have hb4 : Below V3.heap.size V3 V4 := by rw [← hq4]; exact bel_al (Below.refl _ _) _
          have hA40 : V4.heap[V3.heap.size]? = some (.cells #[.nilFunc] 55 (0, 0)) := by rw [← hq4]; exact heap_alloc_new _ _
          rw [show V3.alloc (.cells #[.nilFunc] 55) = V4 from hq4]
          clear hq4
          obtain ⟨A, hAe⟩ : ∃ A, V3.heap.size = A := ⟨_, rfl⟩
          rw [hAe] at hA40
          rw [hAe]
          have hA4 := hA40
          have hAg : w4.heap.size ≤ A := by have := hV3.size; omega
          have hAC : A ≠ C := by have := (Array.getElem?_eq_some_iff.1 hC3).1; omega
          clear hAe hA40
          have hV4 : Below w4.heap.size w4 V4 := hV3.trans (hb4.mono hV3.size)
          have hK4 := hK3.below hb4
          have hD4 := hD3.below hb4
          have hC4 := (hb4.block C (Array.getElem?_eq_some_iff.1 hC3).1).trans hC3
          refine hK.out _ _ hV4 (fun hHeld => ?_)
          clear hK K hb4
          clear hV3 hK3 hD3 hC3
          have cA : V4.cell? ⟨A, 0, none⟩ = some .nilFunc := heap_row hA4
          have cC : V4.cell? ⟨C, 0, none⟩ = some .nilFunc := heap_row hC4
          have fA := frozen_of_row V4 A 0 _ _ hA4
          have sA := grown_setCell V4 A 0 (.func (.func 77) #[] #[.pointer (some ⟨bf, 0, none⟩), .pointer (some ⟨bn, 0, none⟩)])
          have hC5 := (sA.block C (Array.getElem?_eq_some_iff.1 hC4).1 (fun e => hAC (Option.some.inj e).symm)).trans hC4
          have cC5 : (V4.setCell ⟨A, 0, none⟩ (.func (.func 77) #[] #[.pointer (some ⟨bf, 0, none⟩), .pointer (some ⟨bn, 0, none⟩)])).cell? ⟨C, 0, none⟩ = some .nilFunc := heap_row hC5
          have fC := frozen_of_row _ C 0 _ _ hC5
          have sC := grown_setCell (V4.setCell ⟨A, 0, none⟩ (.func (.func 77) #[] #[.pointer (some ⟨bf, 0, none⟩), .pointer (some ⟨bn, 0, none⟩)])) C 0 (.func (.func 79) #[] #[.pointer (some ⟨bp, 0, none⟩)])
          have zA := heap_setCell_same V4 A 0 _ _ (.func (.func 77) #[] #[.pointer (some ⟨bf, 0, none⟩), .pointer (some ⟨bn, 0, none⟩)]) hA4
          have zC := heap_setCell_same _ C 0 _ _ (.func (.func 79) #[] #[.pointer (some ⟨bp, 0, none⟩)]) hC5
          have zA2 := (sC.block A (Array.getElem?_eq_some_iff.1 zA).1 (fun e => hAC (Option.some.inj e))).trans zA
          have kf := sC.cell (sA.cell hK4.f (cell_ne hK4.f cA (by simp))) (cell_ne (sA.cell hK4.f (cell_ne hK4.f cA (by simp))) cC5 (by simp))
          have kn := sC.cell (sA.cell hK4.n (cell_ne hK4.n cA (by simp))) (cell_ne (sA.cell hK4.n (cell_ne hK4.n cA (by simp))) cC5 (by simp))
          have kp := sC.cell (sA.cell hD4.p (cell_ne hD4.p cA (by simp))) (cell_ne (sA.cell hD4.p (cell_ne hD4.p cA (by simp))) cC5 (by simp))
          have kl := (hK4.l.offN sA (fun q e => by cases e; exact NFb.nilf hA4)).offN sC (fun q e => by cases e; exact NFb.nilf hC5)
          have HF : Hid (CgIn ((V4.setCell ⟨A, 0, none⟩ (.func (.func 77) #[] #[.pointer (some ⟨bf, 0, none⟩), .pointer (some ⟨bn, 0, none⟩)])).setCell ⟨C, 0, none⟩ (.func (.func 79) #[] #[.pointer (some ⟨bp, 0, none⟩)])) (.func (.func 61) #[] #[.pointer (some ⟨C, 0, none⟩), .pointer (some ⟨A, 0, none⟩)]) (.both k (bothL l fl) p)) := hide ⟨C, A, _, _, bf, bn, _, bp, rfl, heap_row zC, heap_row zA2, ⟨rfl, kf, kn, kl⟩, ⟨rfl, kp⟩⟩
          have hB5 := hV4.grown sA hV4.size (fun q e => by cases e; exact hAg)
          have hB6 := hB5.grown sC hB5.size (fun q e => by cases e; exact hCg)
          have HB5 := hide hB5
          have HB6 := hide hB6
          have HBX := hide (((unhide HB2).trans (hB4.mono (unhide HB2).size)).trans (hB6.mono (by have := (unhide HB2).size; have := hB4.size; omega)))
          clear sA sC zA zC zA2 kf kn kp kl hB5 hB6 hC5 hK4 hD4 hA4 hC4 hV4 hL4 hB4 hcw hAg hCg cC
          refine wpAnyH_ready (rs := [9]) (by kernel_rfl) (by simp) (AllReadyH.cons rfl (fun K hK => ?_) AllReadyH.nil)
          go_simp
          refine hK.out _ _ (unhide HB5) (fun hHeld => ?_)
          clear hK K
          refine wpAnyH_ready (rs := [10]) (by kernel_rfl) (by simp) (AllReadyH.cons rfl (fun K hK => ?_) AllReadyH.nil)
          go_simp
          refine hK.out _ _ (unhide HB6) (fun hHeld => ?_)
          clear hK K
          refine wpAnyH_done (by kernel_rfl) ?_ _
          clear hHeld cA fA cC5 fC
          go_wp2
          go_ret2
          exact ⟨unhide HBX, _, rfl, fun _ => unhide HF⟩
        · skip
          go_simp
          obtain ⟨V3, hq3⟩ : ∃ V3, V2.alloc (.cells #[.nilFunc] 55) = V3 := ⟨_, rfl⟩
          have hb3 : Below V2.heap.size V2 V3 := by rw [← hq3]; exact bel_al (Below.refl _ _) _
          have hA30 : V3.heap[V2.heap.size]? = some (.cells #[.nilFunc] 55 (0, 0)) := by rw [← hq3]; exact heap_alloc_new _ _
          rw [show V2.alloc (.cells #[.nilFunc] 55) = V3 from hq3]
          clear hq3
          obtain ⟨A, hAe⟩ : ∃ A, V2.heap.size = A := ⟨_, rfl⟩
          rw [hAe] at hA30
          rw [hAe]
          have hA3 := hA30
          have hAg : w4.heap.size ≤ A := by have := hV2.size; omega
          have hAC : A ≠ C := by have := (Array.getElem?_eq_some_iff.1 hC2).1; omega
          clear hAe hA30
          have hV3 : Below w4.heap.size w4 V3 := hV2.trans (hb3.mono hV2.size)
          have hK3 := hK2.below hb3
          have hC3 := (hb3.block C (Array.getElem?_eq_some_iff.1 hC2).1).trans hC2
          refine hK.out _ _ hV3 (fun hHeld => ?_)
          clear hK K hb3
          clear hV2 hK2 hC2
          refine wpAnyH_ready (rs := [6]) (by kernel_rfl) (by simp) (AllReadyH.cons rfl (fun K hK => ?_) AllReadyH.nil)
          go_simp
          refine (drop_any (p : Int) V3).mono ?_
          rintro e V4 ⟨rfl, hq4⟩
          dsimp only
          have hb4 : Below V3.heap.size V3 V4 := by rw [hq4]; exact bel_al (Below.refl _ _) _
          have hD40 : DropIn V4 (.func (.func 79) #[] #[.pointer (some ⟨V3.heap.size, 0, none⟩)]) p V3.heap.size := by rw [hq4]; exact dropIn_new _ p
          clear hq4
          obtain ⟨bp, hbp⟩ : ∃ bp, V3.heap.size = bp := ⟨_, rfl⟩
          rw [hbp] at hD40
          rw [hbp]
          have hD4 := hD40
          clear hbp hD40
          have hV4 : Below w4.heap.size w4 V4 := hV3.trans (hb4.mono hV3.size)
          have hK4 := hK3.below hb4
          have hA4 := (hb4.block A (Array.getElem?_eq_some_iff.1 hA3).1).trans hA3
          have hC4 := (hb4.block C (Array.getElem?_eq_some_iff.1 hC3).1).trans hC3
          refine hK.out _ _ hV4 (fun hHeld => ?_)
          clear hK K hb4
          clear hV3 hK3 hA3 hC3
          have cA : V4.cell? ⟨A, 0, none⟩ = some .nilFunc := heap_row hA4
          have cC : V4.cell? ⟨C, 0, none⟩ = some .nilFunc := heap_row hC4
          have fA := frozen_of_row V4 A 0 _ _ hA4
          have sA := grown_setCell V4 A 0 (.func (.func 77) #[] #[.pointer (some ⟨bf, 0, none⟩), .pointer (some ⟨bn, 0, none⟩)])
          have hC5 := (sA.block C (Array.getElem?_eq_some_iff.1 hC4).1 (fun e => hAC (Option.some.inj e).symm)).trans hC4
          have cC5 : (V4.setCell ⟨A, 0, none⟩ (.func (.func 77) #[] #[.pointer (some ⟨bf, 0, none⟩), .pointer (some ⟨bn, 0, none⟩)])).cell? ⟨C, 0, none⟩ = some .nilFunc := heap_row hC5
          have fC := frozen_of_row _ C 0 _ _ hC5
          have sC := grown_setCell (V4.setCell ⟨A, 0, none⟩ (.func (.func 77) #[] #[.pointer (some ⟨bf, 0, none⟩), .pointer (some ⟨bn, 0, none⟩)])) C 0 (.func (.func 79) #[] #[.pointer (some ⟨bp, 0, none⟩)])
          have zA := heap_setCell_same V4 A 0 _ _ (.func (.func 77) #[] #[.pointer (some ⟨bf, 0, none⟩), .pointer (some ⟨bn, 0, none⟩)]) hA4
          have zC := heap_setCell_same _ C 0 _ _ (.func (.func 79) #[] #[.pointer (some ⟨bp, 0, none⟩)]) hC5
          have zA2 := (sC.block A (Array.getElem?_eq_some_iff.1 zA).1 (fun e => hAC (Option.some.inj e))).trans zA
          have kf := sC.cell (sA.cell hK4.f (cell_ne hK4.f cA (by simp))) (cell_ne (sA.cell hK4.f (cell_ne hK4.f cA (by simp))) cC5 (by simp))
          have kn := sC.cell (sA.cell hK4.n (cell_ne hK4.n cA (by simp))) (cell_ne (sA.cell hK4.n (cell_ne hK4.n cA (by simp))) cC5 (by simp))
          have kp := sC.cell (sA.cell hD4.p (cell_ne hD4.p cA (by simp))) (cell_ne (sA.cell hD4.p (cell_ne hD4.p cA (by simp))) cC5 (by simp))
          have kl := (hK4.l.offN sA (fun q e => by cases e; exact NFb.nilf hA4)).offN sC (fun q e => by cases e; exact NFb.nilf hC5)
          have HF : Hid (CgIn ((V4.setCell ⟨A, 0, none⟩ (.func (.func 77) #[] #[.pointer (some ⟨bf, 0, none⟩), .pointer (some ⟨bn, 0, none⟩)])).setCell ⟨C, 0, none⟩ (.func (.func 79) #[] #[.pointer (some ⟨bp, 0, none⟩)])) (.func (.func 61) #[] #[.pointer (some ⟨C, 0, none⟩), .pointer (some ⟨A, 0, none⟩)]) (.both k (bothL l fl) p)) := hide ⟨C, A, _, _, bf, bn, _, bp, rfl, heap_row zC, heap_row zA2, ⟨rfl, kf, kn, kl⟩, ⟨rfl, kp⟩⟩
          have hB5 := hV4.grown sA hV4.size (fun q e => by cases e; exact hAg)
          have hB6 := hB5.grown sC hB5.size (fun q e => by cases e; exact hCg)
          have HB5 := hide hB5
          have HB6 := hide hB6
          have HBX := hide (((unhide HB2).trans (hB4.mono (unhide HB2).size)).trans (hB6.mono (by have := (unhide HB2).size; have := hB4.size; omega)))
          clear sA sC zA zC zA2 kf kn kp kl hB5 hB6 hC5 hK4 hD4 hA4 hC4 hV4 hL4 hB4 hcw hAg hCg cC
          refine wpAnyH_ready (rs := [9]) (by kernel_rfl) (by simp) (AllReadyH.cons rfl (fun K hK => ?_) AllReadyH.nil)
          go_simp
          refine hK.out _ _ (unhide HB5) (fun hHeld => ?_)
          clear hK K
          refine wpAnyH_ready (rs := [10]) (by kernel_rfl) (by simp) (AllReadyH.cons rfl (fun K hK => ?_) AllReadyH.nil)
          go_simp
          refine hK.out _ _ (unhide HB6) (fun hHeld => ?_)
          clear hK K
          refine wpAnyH_done (by kernel_rfl) ?_ _
          clear hHeld cA fA cC5 fC
          go_wp2
          go_ret2
          exact ⟨unhide HBX, _, rfl, fun _ => unhide HF⟩
    · skip
      go_simp
      obtain ⟨V1, hq1⟩ : ∃ V1, V0.alloc (.cells #[.nilFunc] 55) = V1 := ⟨_, rfl⟩
      have hb1 : Below V0.heap.size V0 V1 := by rw [← hq1]; exact bel_al (Below.refl _ _) _
      have hA10 : V1.heap[V0.heap.size]? = some (.cells #[.nilFunc] 55 (0, 0)) := by rw [← hq1]; exact heap_alloc_new _ _
      rw [show V0.alloc (.cells #[.nilFunc] 55) = V1 from hq1]
      clear hq1
      obtain ⟨A, hAe⟩ : ∃ A, V0.heap.size = A := ⟨_, rfl⟩
      rw [hAe] at hA10
      rw [hAe]
      have hA1 := hA10
      have hAg : w4.heap.size ≤ A := by have := hV0.size; omega
      clear hAe hA10
      have hV1 : Below w4.heap.size w4 V1 := hV0.trans (hb1.mono hV0.size)
      refine hK.out _ _ hV1 (fun hHeld => ?_)
      clear hK K hb1
      clear hV0
      refine wpAnyH_ready (rs := [3, 8]) (by kernel_rfl) (by simp) (AllReadyH.cons rfl (fun K hK => ?_) (AllReadyH.cons rfl (fun K hK => ?_) AllReadyH.nil))
      · skip
        go_simp
        refine (keep_any (k : Int) a4 n4 c4 V1).mono ?_
        rintro e V2 ⟨rfl, hq2⟩
        dsimp only
        have hb2 : Below V1.heap.size V1 V2 := by rw [hq2]; exact bel_al (bel_al (Below.refl _ _) _) _
        have hK20 : KeepIn V2 (.func (.func 77) #[] #[.pointer (some ⟨V1.heap.size + 1, 0, none⟩), .pointer (some ⟨V1.heap.size, 0, none⟩)]) k (bothL l fl) (V1.heap.size + 1) V1.heap.size (.slice a4 n4 c4) := by rw [hq2]; exact keepIn_is (hL4.below hV1)
        clear hq2
        obtain ⟨bf, hbf⟩ : ∃ bf, V1.heap.size + 1 = bf := ⟨_, rfl⟩
        obtain ⟨bn, hbn⟩ : ∃ bn, V1.heap.size = bn := ⟨_, rfl⟩
        rw [hbf, hbn] at hK20
        rw [hbf, hbn]
        have hK2 := hK20
        clear hbf hbn hK20
        have hV2 : Below w4.heap.size w4 V2 := hV1.trans (hb2.mono hV1.size)
        have hA2 := (hb2.block A (Array.getElem?_eq_some_iff.1 hA1).1).trans hA1
        refine hK.out _ _ hV2 (fun hHeld => ?_)
        clear hK K hb2
        clear hV1 hA1
        refine wpAnyH_ready (rs := [6, 8]) (by kernel_rfl) (by simp) (AllReadyH.cons rfl (fun K hK => ?_) (AllReadyH.cons rfl (fun K hK => ?_) AllReadyH.nil))
        · skip
          go_simp
          refine (drop_any (p : Int) V2).mono ?_
          rintro e V3 ⟨rfl, hq3⟩
          dsimp only
          have hb3 : Below V2.heap.size V2 V3 := by rw [hq3]; exact bel_al (Below.refl _ _) _
          have hD30 : DropIn V3 (.func (.func 79) #[] #[.pointer (some ⟨V2.heap.size, 0, none⟩)]) p V2.heap.size := by rw [hq3]; exact dropIn_new _ p
          clear hq3
          obtain ⟨bp, hbp⟩ : ∃ bp, V2.heap.size = bp := ⟨_, rfl⟩
          rw [hbp] at hD30
          rw [hbp]
          have hD3 := hD30
          clear hbp hD30
          have hV3 : Below w4.heap.size w4 V3 := hV2.trans (hb3.mono hV2.size)
          have hK3 := hK2.below hb3
          have hA3 := (hb3.block A (Array.getElem?_eq_some_iff.1 hA2).1).trans hA2
          refine hK.out _ _ hV3 (fun hHeld => ?_)
          clear hK K hb3
          clear hV2 hK2 hA2
          refine wpAnyH_ready (rs := [8]) (by kernel_rfl) (by simp) (AllReadyH.cons rfl (fun K hK => ?_) AllReadyH.nil)
          go_simp
          obtain ⟨V4, hq4⟩ : ∃ V4, V3.alloc (.cells #[.nilFunc] 55) = V4 := ⟨_, rfl⟩
          have hb4 : Below V3.heap.size V3 V4 := by rw [← hq4]; exact bel_al (Below.refl _ _) _
          have hC40 : V4.heap[V3.heap.size]? = some (.cells #[.nilFunc] 55 (0, 0)) := by rw [← hq4]; exact heap_alloc_new _ _
          rw [show V3.alloc (.cells #[.nilFunc] 55) = V4 from hq4]
          clear hq4
          obtain ⟨C, hCe⟩ : ∃ C, V3.heap.size = C := ⟨_, rfl⟩
          rw [hCe] at hC40
          rw [hCe]
          have hC4 := hC40
          have hCg : w4.heap.size ≤ C := by have := hV3.size; omega
          have hAC : A ≠ C := by have := (Array.getElem?_eq_some_iff.1 hA3).1; omega
          clear hCe hC40
          have hV4 : Below w4.heap.size w4 V4 := hV3.trans (hb4.mono hV3.size)
          have hK4 := hK3.below hb4
          have hD4 := hD3.below hb4
          have hA4 := (hb4.block A (Array.getElem?_eq_some_iff.1 hA3).1).trans hA3
          refine hK.out _ _ hV4 (fun hHeld => ?_)
          clear hK K hb4
          clear hV3 hK3 hD3 hA3
          have cA : V4.cell? ⟨A, 0, none⟩ = some .nilFunc := heap_row hA4
          have cC : V4.cell? ⟨C, 0, none⟩ = some .nilFunc := heap_row hC4
          have fA := frozen_of_row V4 A 0 _ _ hA4
          have sA := grown_setCell V4 A 0 (.func (.func 77) #[] #[.pointer (some ⟨bf, 0, none⟩), .pointer (some ⟨bn, 0, none⟩)])
          have hC5 := (sA.block C (Array.getElem?_eq_some_iff.1 hC4).1 (fun e => hAC (Option.some.inj e).symm)).trans hC4
          have cC5 : (V4.setCell ⟨A, 0, none⟩ (.func (.func 77) #[] #[.pointer (some ⟨bf, 0, none⟩), .pointer (some ⟨bn, 0, none⟩)])).cell? ⟨C, 0, none⟩ = some .nilFunc := heap_row hC5
          have fC := frozen_of_row _ C 0 _ _ hC5
          have sC := grown_setCell (V4.setCell ⟨A, 0, none⟩ (.func (.func 77) #[] #[.pointer (some ⟨bf, 0, none⟩), .pointer (some ⟨bn, 0, none⟩)])) C 0 (.func (.func 79) #[] #[.pointer (some ⟨bp, 0, none⟩)])
          have zA := heap_setCell_same V4 A 0 _ _ (.func (.func 77) #[] #[.pointer (some ⟨bf, 0, none⟩), .pointer (some ⟨bn, 0, none⟩)]) hA4
          have zC := heap_setCell_same _ C 0 _ _ (.func (.func 79) #[] #[.pointer (some ⟨bp, 0, none⟩)]) hC5
          have zA2 := (sC.block A (Array.getElem?_eq_some_iff.1 zA).1 (fun e => hAC (Option.some.inj e))).trans zA
          have kf := sC.cell (sA.cell hK4.f (cell_ne hK4.f cA (by simp))) (cell_ne (sA.cell hK4.f (cell_ne hK4.f cA (by simp))) cC5 (by simp))
          have kn := sC.cell (sA.cell hK4.n (cell_ne hK4.n cA (by simp))) (cell_ne (sA.cell hK4.n (cell_ne hK4.n cA (by simp))) cC5 (by simp))
          have kp := sC.cell (sA.cell hD4.p (cell_ne hD4.p cA (by simp))) (cell_ne (sA.cell hD4.p (cell_ne hD4.p cA (by simp))) cC5 (by simp))
          have kl := (hK4.l.offN sA (fun q e => by cases e; exact NFb.nilf hA4)).offN sC (fun q e => by cases e; exact NFb.nilf hC5)
          have HF : Hid (CgIn ((V4.setCell ⟨A, 0, none⟩ (.func (.func 77) #[] #[.pointer (some ⟨bf, 0, none⟩), .pointer (some ⟨bn, 0, none⟩)])).setCell ⟨C, 0, none⟩ (.func (.func 79) #[] #[.pointer (some ⟨bp, 0, none⟩)])) (.func (.func 61) #[] #[.pointer (some ⟨C, 0, none⟩), .pointer (some ⟨A, 0, none⟩)]) (.both k (bothL l fl) p)) := hide ⟨C, A, _, _, bf, bn, _, bp, rfl, heap_row zC, heap_row zA2, ⟨rfl, kf, kn, kl⟩, ⟨rfl, kp⟩⟩
          have hB5 := hV4.grown sA hV4.size (fun q e => by cases e; exact hAg)
          have hB6 := hB5.grown sC hB5.size (fun q e => by cases e; exact hCg)
          have HB5 := hide hB5
          have HB6 := hide hB6
          have HBX := hide (((unhide HB2).trans (hB4.mono (unhide HB2).size)).trans (hB6.mono (by have := (unhide HB2).size; have := hB4.size; omega)))
          clear sA sC zA zC zA2 kf kn kp kl hB5 hB6 hC5 hK4 hD4 hA4 hC4 hV4 hL4 hB4 hcw hAg hCg cC
          refine wpAnyH_ready (rs := [9]) (by kernel_rfl) (by simp) (AllReadyH.cons rfl (fun K hK => ?_) AllReadyH.nil)
          go_simp
          refine hK.out _ _ (unhide HB5) (fun hHeld => ?_)
          clear hK K
          refine wpAnyH_ready (rs := [10]) (by kernel_rfl) (by simp) (AllReadyH.cons rfl (fun K hK => ?_) AllReadyH.nil)
          go_simp
          refine hK.out _ _ (unhide HB6) (fun hHeld => ?_)
          clear hK K
          refine wpAnyH_done (by kernel_rfl) ?_ _
          clear hHeld cA fA cC5 fC
          go_wp2
          go_ret2
          exact ⟨unhide HBX, _, rfl, fun _ => unhide HF⟩
        · skip
          go_simp
          obtain ⟨V3, hq3⟩ : ∃ V3, V2.alloc (.cells #[.nilFunc] 55) = V3 := ⟨_, rfl⟩
          have hb3 : Below V2.heap.size V2 V3 := by rw [← hq3]; exact bel_al (Below.refl _ _) _
          have hC30 : V3.heap[V2.heap.size]? = some (.cells #[.nilFunc] 55 (0, 0)) := by rw [← hq3]; exact heap_alloc_new _ _
          rw [show V2.alloc (.cells #[.nilFunc] 55) = V3 from hq3]
          clear hq3
          obtain ⟨C, hCe⟩ : ∃ C, V2.heap.size = C := ⟨_, rfl⟩
          rw [hCe] at hC30
          rw [hCe]
          have hC3 := hC30
          have hCg : w4.heap.size ≤ C := by have := hV2.size; omega
          have hAC : A ≠ C := by have := (Array.getElem?_eq_some_iff.1 hA2).1; omega
          clear hCe hC30
          have hV3 : Below w4.heap.size w4 V3 := hV2.trans (hb3.mono hV2.size)
          have hK3 := hK2.below hb3
          have hA3 := (hb3.block A (Array.getElem?_eq_some_iff.1 hA2).1).trans hA2
          refine hK.out _ _ hV3 (fun hHeld => ?_)
          clear hK K hb3
          clear hV2 hK2 hA2
          refine wpAnyH_ready (rs := [6]) (by kernel_rfl) (by simp) (AllReadyH.cons rfl (fun K hK => ?_) AllReadyH.nil)
          go_simp
          refine (drop_any (p : Int) V3).mono ?_
          rintro e V4 ⟨rfl, hq4⟩
          dsimp only
          have hb4 : Below V3.heap.size V3 V4 := by rw [hq4]; exact bel_al (Below.refl _ _) _
          have hD40 : DropIn V4 (.func (.func 79) #[] #[.pointer (some ⟨V3.heap.size, 0, none⟩)]) p V3.heap.size := by rw [hq4]; exact dropIn_new _ p
          clear hq4
          obtain ⟨bp, hbp⟩ : ∃ bp, V3.heap.size = bp := ⟨_, rfl⟩
          rw [hbp] at hD40
          rw [hbp]
          have hD4 := hD40
          clear hbp hD40
          have hV4 : Below w4.heap.size w4 V4 := hV3.trans (hb4.mono hV3.size)
          have hK4 := hK3.below hb4
          have hA4 := (hb4.block A (Array.getElem?_eq_some_iff.1 hA3).1).trans hA3
          have hC4 := (hb4.block C (Array.getElem?_eq_some_iff.1 hC3).1).trans hC3
          refine hK.out _ _ hV4 (fun hHeld => ?_)
          clear hK K hb4
          clear hV3 hK3 hA3 hC3
          have cA : V4.cell? ⟨A, 0, none⟩ = some .nilFunc := heap_row hA4
          have cC : V4.cell? ⟨C, 0, none⟩ = some .nilFunc := heap_row hC4
          have fA := frozen_of_row V4 A 0 _ _ hA4
          have sA := grown_setCell V4 A 0 (.func (.func 77) #[] #[.pointer (some ⟨bf, 0, none⟩), .pointer (some ⟨bn, 0, none⟩)])
          have hC5 := (sA.block C (Array.getElem?_eq_some_iff.1 hC4).1 (fun e => hAC (Option.some.inj e).symm)).trans hC4
          have cC5 : (V4.setCell ⟨A, 0, none⟩ (.func (.func 77) #[] #[.pointer (some ⟨bf, 0, none⟩), .pointer (some ⟨bn, 0, none⟩)])).cell? ⟨C, 0, none⟩ = some .nilFunc := heap_row hC5
          have fC := frozen_of_row _ C 0 _ _ hC5
          have sC := grown_setCell (V4.setCell ⟨A, 0, none⟩ (.func (.func 77) #[] #[.pointer (some ⟨bf, 0, none⟩), .pointer (some ⟨bn, 0, none⟩)])) C 0 (.func (.func 79) #[] #[.pointer (some ⟨bp, 0, none⟩)])
          have zA := heap_setCell_same V4 A 0 _ _ (.func (.func 77) #[] #[.pointer (some ⟨bf, 0, none⟩), .pointer (some ⟨bn, 0, none⟩)]) hA4
          have zC := heap_setCell_same _ C 0 _ _ (.func (.func 79) #[] #[.pointer (some ⟨bp, 0, none⟩)]) hC5
          have zA2 := (sC.block A (Array.getElem?_eq_some_iff.1 zA).1 (fun e => hAC (Option.some.inj e))).trans zA
          have kf := sC.cell (sA.cell hK4.f (cell_ne hK4.f cA (by simp))) (cell_ne (sA.cell hK4.f (cell_ne hK4.f cA (by simp))) cC5 (by simp))
          have kn := sC.cell (sA.cell hK4.n (cell_ne hK4.n cA (by simp))) (cell_ne (sA.cell hK4.n (cell_ne hK4.n cA (by simp))) cC5 (by simp))
          have kp := sC.cell (sA.cell hD4.p (cell_ne hD4.p cA (by simp))) (cell_ne (sA.cell hD4.p (cell_ne hD4.p cA (by simp))) cC5 (by simp))
          have kl := (hK4.l.offN sA (fun q e => by cases e; exact NFb.nilf hA4)).offN sC (fun q e => by cases e; exact NFb.nilf hC5)
          have HF : Hid (CgIn ((V4.setCell ⟨A, 0, none⟩ (.func (.func 77) #[] #[.pointer (some ⟨bf, 0, none⟩), .pointer (some ⟨bn, 0, none⟩)])).setCell ⟨C, 0, none⟩ (.func (.func 79) #[] #[.pointer (some ⟨bp, 0, none⟩)])) (.func (.func 61) #[] #[.pointer (some ⟨C, 0, none⟩), .pointer (some ⟨A, 0, none⟩)]) (.both k (bothL l fl) p)) := hide ⟨C, A, _, _, bf, bn, _, bp, rfl, heap_row zC, heap_row zA2, ⟨rfl, kf, kn, kl⟩, ⟨rfl, kp⟩⟩
          have hB5 := hV4.grown sA hV4.size (fun q e => by cases e; exact hAg)
          have hB6 := hB5.grown sC hB5.size (fun q e => by cases e; exact hCg)
          have HB5 := hide hB5
          have HB6 := hide hB6
          have HBX := hide (((unhide HB2).trans (hB4.mono (unhide HB2).size)).trans (hB6.mono (by have := (unhide HB2).size; have := hB4.size; omega)))
          clear sA sC zA zC zA2 kf kn kp kl hB5 hB6 hC5 hK4 hD4 hA4 hC4 hV4 hL4 hB4 hcw hAg hCg cC
          refine wpAnyH_ready (rs := [9]) (by kernel_rfl) (by simp) (AllReadyH.cons rfl (fun K hK => ?_) AllReadyH.nil)
          go_simp
          refine hK.out _ _ (unhide HB5) (fun hHeld => ?_)
          clear hK K
          refine wpAnyH_ready (rs := [10]) (by kernel_rfl) (by simp) (AllReadyH.cons rfl (fun K hK => ?_) AllReadyH.nil)
          go_simp
          refine hK.out _ _ (unhide HB6) (fun hHeld => ?_)
          clear hK K
          refine wpAnyH_done (by kernel_rfl) ?_ _
          clear hHeld cA fA cC5 fC
          go_wp2
          go_ret2
          exact ⟨unhide HBX, _, rfl, fun _ => unhide HF⟩
      · skip
        go_simp
        obtain ⟨V2, hq2⟩ : ∃ V2, V1.alloc (.cells #[.nilFunc] 55) = V2 := ⟨_, rfl⟩
        have hb2 : Below V1.heap.size V1 V2 := by rw [← hq2]; exact bel_al (Below.refl _ _) _
        have hC20 : V2.heap[V1.heap.size]? = some (.cells #[.nilFunc] 55 (0, 0)) := by rw [← hq2]; exact heap_alloc_new _ _
        rw [show V1.alloc (.cells #[.nilFunc] 55) = V2 from hq2]
        clear hq2
        obtain ⟨C, hCe⟩ : ∃ C, V1.heap.size = C := ⟨_, rfl⟩
        rw [hCe] at hC20
        rw [hCe]
        have hC2 := hC20
        have hCg : w4.heap.size ≤ C := by have := hV1.size; omega
        have hAC : A ≠ C := by have := (Array.getElem?_eq_some_iff.1 hA1).1; omega
        clear hCe hC20
        have hV2 : Below w4.heap.size w4 V2 := hV1.trans (hb2.mono hV1.size)
        have hA2 := (hb2.block A (Array.getElem?_eq_some_iff.1 hA1).1).trans hA1
        refine hK.out _ _ hV2 (fun hHeld => ?_)
        clear hK K hb2
        clear hV1 hA1
        refine wpAnyH_ready (rs := [3]) (by kernel_rfl) (by simp) (AllReadyH.cons rfl (fun K hK => ?_) AllReadyH.nil)
        go_simp
        refine (keep_any (k : Int) a4 n4 c4 V2).mono ?_
        rintro e V3 ⟨rfl, hq3⟩
        dsimp only
        have hb3 : Below V2.heap.size V2 V3 := by rw [hq3]; exact bel_al (bel_al (Below.refl _ _) _) _
        have hK30 : KeepIn V3 (.func (.func 77) #[] #[.pointer (some ⟨V2.heap.size + 1, 0, none⟩), .pointer (some ⟨V2.heap.size, 0, none⟩)]) k (bothL l fl) (V2.heap.size + 1) V2.heap.size (.slice a4 n4 c4) := by rw [hq3]; exact keepIn_is (hL4.below hV2)
        clear hq3
        obtain ⟨bf, hbf⟩ : ∃ bf, V2.heap.size + 1 = bf := ⟨_, rfl⟩
        obtain ⟨bn, hbn⟩ : ∃ bn, V2.heap.size = bn := ⟨_, rfl⟩
        rw [hbf, hbn] at hK30
        rw [hbf, hbn]
        have hK3 := hK30
        clear hbf hbn hK30
        have hV3 : Below w4.heap.size w4 V3 := hV2.trans (hb3.mono hV2.size)
        have hA3 := (hb3.block A (Array.getElem?_eq_some_iff.1 hA2).1).trans hA2
        have hC3 := (hb3.block C (Array.getElem?_eq_some_iff.1 hC2).1).trans hC2
        refine hK.out _ _ hV3 (fun hHeld => ?_)
        clear hK K hb3
        clear hV2 hA2 hC2
        refine wpAnyH_ready (rs := [6]) (by kernel_rfl) (by simp) (AllReadyH.cons rfl (fun K hK => ?_) AllReadyH.nil)
        go_simp
        refine (drop_any (p : Int) V3).mono ?_
        rintro e V4 ⟨rfl, hq4⟩
        dsimp only
        have hb4 : Below V3.heap.size V3 V4 := by rw [hq4]; exact bel_al (Below.refl _ _) _
        have hD40 : DropIn V4 (.func (.func 79) #[] #[.pointer (some ⟨V3.heap.size, 0, none⟩)]) p V3.heap.size := by rw [hq4]; exact dropIn_new _ p
        clear hq4
        obtain ⟨bp, hbp⟩ : ∃ bp, V3.heap.size = bp := ⟨_, rfl⟩
        rw [hbp] at hD40
        rw [hbp]
        have hD4 := hD40
        clear hbp hD40
        have hV4 : Below w4.heap.size w4 V4 := hV3.trans (hb4.mono hV3.size)
        have hK4 := hK3.below hb4
        have hA4 := (hb4.block A (Array.getElem?_eq_some_iff.1 hA3).1).trans hA3
        have hC4 := (hb4.block C (Array.getElem?_eq_some_iff.1 hC3).1).trans hC3
        refine hK.out _ _ hV4 (fun hHeld => ?_)
        clear hK K hb4
        clear hV3 hK3 hA3 hC3
        have cA : V4.cell? ⟨A, 0, none⟩ = some .nilFunc := heap_row hA4
        have cC : V4.cell? ⟨C, 0, none⟩ = some .nilFunc := heap_row hC4
        have fA := frozen_of_row V4 A 0 _ _ hA4
        have sA := grown_setCell V4 A 0 (.func (.func 77) #[] #[.pointer (some ⟨bf, 0, none⟩), .pointer (some ⟨bn, 0, none⟩)])
        have hC5 := (sA.block C (Array.getElem?_eq_some_iff.1 hC4).1 (fun e => hAC (Option.some.inj e).symm)).trans hC4
        have cC5 : (V4.setCell ⟨A, 0, none⟩ (.func (.func 77) #[] #[.pointer (some ⟨bf, 0, none⟩), .pointer (some ⟨bn, 0, none⟩)])).cell? ⟨C, 0, none⟩ = some .nilFunc := heap_row hC5
        have fC := frozen_of_row _ C 0 _ _ hC5
        have sC := grown_setCell (V4.setCell ⟨A, 0, none⟩ (.func (.func 77) #[] #[.pointer (some ⟨bf, 0, none⟩), .pointer (some ⟨bn, 0, none⟩)])) C 0 (.func (.func 79) #[] #[.pointer (some ⟨bp, 0, none⟩)])
        have zA := heap_setCell_same V4 A 0 _ _ (.func (.func 77) #[] #[.pointer (some ⟨bf, 0, none⟩), .pointer (some ⟨bn, 0, none⟩)]) hA4
        have zC := heap_setCell_same _ C 0 _ _ (.func (.func 79) #[] #[.pointer (some ⟨bp, 0, none⟩)]) hC5
        have zA2 := (sC.block A (Array.getElem?_eq_some_iff.1 zA).1 (fun e => hAC (Option.some.inj e))).trans zA
        have kf := sC.cell (sA.cell hK4.f (cell_ne hK4.f cA (by simp))) (cell_ne (sA.cell hK4.f (cell_ne hK4.f cA (by simp))) cC5 (by simp))
        have kn := sC.cell (sA.cell hK4.n (cell_ne hK4.n cA (by simp))) (cell_ne (sA.cell hK4.n (cell_ne hK4.n cA (by simp))) cC5 (by simp))
        have kp := sC.cell (sA.cell hD4.p (cell_ne hD4.p cA (by simp))) (cell_ne (sA.cell hD4.p (cell_ne hD4.p cA (by simp))) cC5 (by simp))
        have kl := (hK4.l.offN sA (fun q e => by cases e; exact NFb.nilf hA4)).offN sC (fun q e => by cases e; exact NFb.nilf hC5)
        have HF : Hid (CgIn ((V4.setCell ⟨A, 0, none⟩ (.func (.func 77) #[] #[.pointer (some ⟨bf, 0, none⟩), .pointer (some ⟨bn, 0, none⟩)])).setCell ⟨C, 0, none⟩ (.func (.func 79) #[] #[.pointer (some ⟨bp, 0, none⟩)])) (.func (.func 61) #[] #[.pointer (some ⟨C, 0, none⟩), .pointer (some ⟨A, 0, none⟩)]) (.both k (bothL l fl) p)) := hide ⟨C, A, _, _, bf, bn, _, bp, rfl, heap_row zC, heap_row zA2, ⟨rfl, kf, kn, kl⟩, ⟨rfl, kp⟩⟩
        have hB5 := hV4.grown sA hV4.size (fun q e => by cases e; exact hAg)
        have hB6 := hB5.grown sC hB5.size (fun q e => by cases e; exact hCg)
        have HB5 := hide hB5
        have HB6 := hide hB6
        have HBX := hide (((unhide HB2).trans (hB4.mono (unhide HB2).size)).trans (hB6.mono (by have := (unhide HB2).size; have := hB4.size; omega)))
        clear sA sC zA zC zA2 kf kn kp kl hB5 hB6 hC5 hK4 hD4 hA4 hC4 hV4 hL4 hB4 hcw hAg hCg cC
        refine wpAnyH_ready (rs := [9]) (by kernel_rfl) (by simp) (AllReadyH.cons rfl (fun K hK => ?_) AllReadyH.nil)
        go_simp
        refine hK.out _ _ (unhide HB5) (fun hHeld => ?_)
        clear hK K
        refine wpAnyH_ready (rs := [10]) (by kernel_rfl) (by simp) (AllReadyH.cons rfl (fun K hK => ?_) AllReadyH.nil)
        go_simp
        refine hK.out _ _ (unhide HB6) (fun hHeld => ?_)
        clear hK K
        refine wpAnyH_done (by kernel_rfl) ?_ _
        clear hHeld cA fA cC5 fC
        go_wp2
        go_ret2
        exact ⟨unhide HBX, _, rfl, fun _ => unhide HF⟩
    · skip
      go_simp
      obtain ⟨V1, hq1⟩ : ∃ V1, V0.alloc (.cells #[.nilFunc] 55) = V1 := ⟨_, rfl⟩
      have hb1 : Below V0.heap.size V0 V1 := by rw [← hq1]; exact bel_al (Below.refl _ _) _
      have hC10 : V1.heap[V0.heap.size]? = some (.cells #[.nilFunc] 55 (0, 0)) := by rw [← hq1]; exact heap_alloc_new _ _
      rw [show V0.alloc (.cells #[.nilFunc] 55) = V1 from hq1]
      clear hq1
      obtain ⟨C, hCe⟩ : ∃ C, V0.heap.size = C := ⟨_, rfl⟩
      rw [hCe] at hC10
      rw [hCe]
      have hC1 := hC10
      have hCg : w4.heap.size ≤ C := by have := hV0.size; omega
      clear hCe hC10
      have hV1 : Below w4.heap.size w4 V1 := hV0.trans (hb1.mono hV0.size)
      refine hK.out _ _ hV1 (fun hHeld => ?_)
      clear hK K hb1
      clear hV0
      refine wpAnyH_ready (rs := [3, 7]) (by kernel_rfl) (by simp) (AllReadyH.cons rfl (fun K hK => ?_) (AllReadyH.cons rfl (fun K hK => ?_) AllReadyH.nil))
      · skip
        go_simp
        refine (keep_any (k : Int) a4 n4 c4 V1).mono ?_
        rintro e V2 ⟨rfl, hq2⟩
        dsimp only
        have hb2 : Below V1.heap.size V1 V2 := by rw [hq2]; exact bel_al (bel_al (Below.refl _ _) _) _
        have hK20 : KeepIn V2 (.func (.func 77) #[] #[.pointer (some ⟨V1.heap.size + 1, 0, none⟩), .pointer (some ⟨V1.heap.size, 0, none⟩)]) k (bothL l fl) (V1.heap.size + 1) V1.heap.size (.slice a4 n4 c4) := by rw [hq2]; exact keepIn_is (hL4.below hV1)
        clear hq2
        obtain ⟨bf, hbf⟩ : ∃ bf, V1.heap.size + 1 = bf := ⟨_, rfl⟩
        obtain ⟨bn, hbn⟩ : ∃ bn, V1.heap.size = bn := ⟨_, rfl⟩
        rw [hbf, hbn] at hK20
        rw [hbf, hbn]
        have hK2 := hK20
        clear hbf hbn hK20
        have hV2 : Below w4.heap.size w4 V2 := hV1.trans (hb2.mono hV1.size)
        have hC2 := (hb2.block C (Array.getElem?_eq_some_iff.1 hC1).1).trans hC1
        refine hK.out _ _ hV2 (fun hHeld => ?_)
        clear hK K hb2
        clear hV1 hC1
        refine wpAnyH_ready (rs := [6, 7]) (by kernel_rfl) (by simp) (AllReadyH.cons rfl (fun K hK => ?_) (AllReadyH.cons rfl (fun K hK => ?_) AllReadyH.nil))
        · skip
          go_simp
          refine (drop_any (p : Int) V2).mono ?_
          rintro e V3 ⟨rfl, hq3⟩
          dsimp only
          have hb3 : Below V2.heap.size V2 V3 := by rw [hq3]; exact bel_al (Below.refl _ _) _
          have hD30 : DropIn V3 (.func (.func 79) #[] #[.pointer (some ⟨V2.heap.size, 0, none⟩)]) p V2.heap.size := by rw [hq3]; exact dropIn_new _ p
          clear hq3
          obtain ⟨bp, hbp⟩ : ∃ bp, V2.heap.size = bp := ⟨_, rfl⟩
          rw [hbp] at hD30
          rw [hbp]
          have hD3 := hD30
          clear hbp hD30
          have hV3 : Below w4.heap.size w4 V3 := hV2.trans (hb3.mono hV2.size)
          have hK3 := hK2.below hb3
          have hC3 := (hb3.block C (Array.getElem?_eq_some_iff.1 hC2).1).trans hC2
          refine hK.out _ _ hV3 (fun hHeld => ?_)
          clear hK K hb3
          clear hV2 hK2 hC2
          refine wpAnyH_ready (rs := [7]) (by kernel_rfl) (by simp) (AllReadyH.cons rfl (fun K hK => ?_) AllReadyH.nil)
          go_simp
          obtain ⟨V4, hq4⟩ : ∃ V4, V3.alloc (.cells #[.nilFunc] 55) = V4 := ⟨_, rfl⟩
          have hb4 : Below V3.heap.size V3 V4 := by rw [← hq4]; exact bel_al (Below.refl _ _) _
          have hA40 : V4.heap[V3.heap.size]? = some (.cells #[.nilFunc] 55 (0, 0)) := by rw [← hq4]; exact heap_alloc_new _ _
          rw [show V3.alloc (.cells #[.nilFunc] 55) = V4 from hq4]
          clear hq4
          obtain ⟨A, hAe⟩ : ∃ A, V3.heap.size = A := ⟨_, rfl⟩
          rw [hAe] at hA40
          rw [hAe]
          have hA4 := hA40
          have hAg : w4.heap.size ≤ A := by have := hV3.size; omega
          have hAC : A ≠ C := by have := (Array.getElem?_eq_some_iff.1 hC3).1; omega
          clear hAe hA40
          have hV4 : Below w4.heap.size w4 V4 := hV3.trans (hb4.mono hV3.size)
          have hK4 := hK3.below hb4
          have hD4 := hD3.below hb4
          have hC4 := (hb4.block C (Array.getElem?_eq_some_iff.1 hC3).1).trans hC3
          refine hK.out _ _ hV4 (fun hHeld => ?_)
          clear hK K hb4
          clear hV3 hK3 hD3 hC3
          have cA : V4.cell? ⟨A, 0, none⟩ = some .nilFunc := heap_row hA4
          have cC : V4.cell? ⟨C, 0, none⟩ = some .nilFunc := heap_row hC4
          have fA := frozen_of_row V4 A 0 _ _ hA4
          have sA := grown_setCell V4 A 0 (.func (.func 77) #[] #[.pointer (some ⟨bf, 0, none⟩), .pointer (some ⟨bn, 0, none⟩)])
          have hC5 := (sA.block C (Array.getElem?_eq_some_iff.1 hC4).1 (fun e => hAC (Option.some.inj e).symm)).trans hC4
          have cC5 : (V4.setCell ⟨A, 0, none⟩ (.func (.func 77) #[] #[.pointer (some ⟨bf, 0, none⟩), .pointer (some ⟨bn, 0, none⟩)])).cell? ⟨C, 0, none⟩ = some .nilFunc := heap_row hC5
          have fC := frozen_of_row _ C 0 _ _ hC5
          have sC := grown_setCell (V4.setCell ⟨A, 0, none⟩ (.func (.func 77) #[] #[.pointer (some ⟨bf, 0, none⟩), .pointer (some ⟨bn, 0, none⟩)])) C 0 (.func (.func 79) #[] #[.pointer (some ⟨bp, 0, none⟩)])
          have zA := heap_setCell_same V4 A 0 _ _ (.func (.func 77) #[] #[.pointer (some ⟨bf, 0, none⟩), .pointer (some ⟨bn, 0, none⟩)]) hA4
          have zC := heap_setCell_same _ C 0 _ _ (.func (.func 79) #[] #[.pointer (some ⟨bp, 0, none⟩)]) hC5
          have zA2 := (sC.block A (Array.getElem?_eq_some_iff.1 zA).1 (fun e => hAC (Option.some.inj e))).trans zA
          have kf := sC.cell (sA.cell hK4.f (cell_ne hK4.f cA (by simp))) (cell_ne (sA.cell hK4.f (cell_ne hK4.f cA (by simp))) cC5 (by simp))
          have kn := sC.cell (sA.cell hK4.n (cell_ne hK4.n cA (by simp))) (cell_ne (sA.cell hK4.n (cell_ne hK4.n cA (by simp))) cC5 (by simp))
          have kp := sC.cell (sA.cell hD4.p (cell_ne hD4.p cA (by simp))) (cell_ne (sA.cell hD4.p (cell_ne hD4.p cA (by simp))) cC5 (by simp))
          have kl := (hK4.l.offN sA (fun q e => by cases e; exact NFb.nilf hA4)).offN sC (fun q e => by cases e; exact NFb.nilf hC5)
          have HF : Hid (CgIn ((V4.setCell ⟨A, 0, none⟩ (.func (.func 77) #[] #[.pointer (some ⟨bf, 0, none⟩), .pointer (some ⟨bn, 0, none⟩)])).setCell ⟨C, 0, none⟩ (.func (.func 79) #[] #[.pointer (some ⟨bp, 0, none⟩)])) (.func (.func 61) #[] #[.pointer (some ⟨C, 0, none⟩), .pointer (some ⟨A, 0, none⟩)]) (.both k (bothL l fl) p)) := hide ⟨C, A, _, _, bf, bn, _, bp, rfl, heap_row zC, heap_row zA2, ⟨rfl, kf, kn, kl⟩, ⟨rfl, kp⟩⟩
          have hB5 := hV4.grown sA hV4.size (fun q e => by cases e; exact hAg)
          have hB6 := hB5.grown sC hB5.size (fun q e => by cases e; exact hCg)
          have HB5 := hide hB5
          have HB6 := hide hB6
          have HBX := hide (((unhide HB2).trans (hB4.mono (unhide HB2).size)).trans (hB6.mono (by have := (unhide HB2).size; have := hB4.size; omega)))
          clear sA sC zA zC zA2 kf kn kp kl hB5 hB6 hC5 hK4 hD4 hA4 hC4 hV4 hL4 hB4 hcw hAg hCg cC
          refine wpAnyH_ready (rs := [9]) (by kernel_rfl) (by simp) (AllReadyH.cons rfl (fun K hK => ?_) AllReadyH.nil)
          go_simp
          refine hK.out _ _ (unhide HB5) (fun hHeld => ?_)
          clear hK K
          refine wpAnyH_ready (rs := [10]) (by kernel_rfl) (by simp) (AllReadyH.cons rfl (fun K hK => ?_) AllReadyH.nil)
          go_simp
          refine hK.out _ _ (unhide HB6) (fun hHeld => ?_)
          clear hK K
          refine wpAnyH_done (by kernel_rfl) ?_ _
          clear hHeld cA fA cC5 fC
          go_wp2
          go_ret2
          exact ⟨unhide HBX, _, rfl, fun _ => unhide HF⟩
        · skip
          go_simp
          obtain ⟨V3, hq3⟩ : ∃ V3, V2.alloc (.cells #[.nilFunc] 55) = V3 := ⟨_, rfl⟩
          have hb3 : Below V2.heap.size V2 V3 := by rw [← hq3]; exact bel_al (Below.refl _ _) _
          have hA30 : V3.heap[V2.heap.size]? = some (.cells #[.nilFunc] 55 (0, 0)) := by rw [← hq3]; exact heap_alloc_new _ _
          rw [show V2.alloc (.cells #[.nilFunc] 55) = V3 from hq3]
          clear hq3
          obtain ⟨A, hAe⟩ : ∃ A, V2.heap.size = A := ⟨_, rfl⟩
          rw [hAe] at hA30
          rw [hAe]
          have hA3 := hA30
          have hAg : w4.heap.size ≤ A := by have := hV2.size; omega
          have hAC : A ≠ C := by have := (Array.getElem?_eq_some_iff.1 hC2).1; omega
          clear hAe hA30
          have hV3 : Below w4.heap.size w4 V3 := hV2.trans (hb3.mono hV2.size)
          have hK3 := hK2.below hb3
          have hC3 := (hb3.block C (Array.getElem?_eq_some_iff.1 hC2).1).trans hC2
          refine hK.out _ _ hV3 (fun hHeld => ?_)
          clear hK K hb3
          clear hV2 hK2 hC2
          refine wpAnyH_ready (rs := [6]) (by kernel_rfl) (by simp) (AllReadyH.cons rfl (fun K hK => ?_) AllReadyH.nil)
          go_simp
          refine (drop_any (p : Int) V3).mono ?_
          rintro e V4 ⟨rfl, hq4⟩
          dsimp only
          have hb4 : Below V3.heap.size V3 V4 := by rw [hq4]; exact bel_al (Below.refl _ _) _
          have hD40 : DropIn V4 (.func (.func 79) #[] #[.pointer (some ⟨V3.heap.size, 0, none⟩)]) p V3.heap.size := by rw [hq4]; exact dropIn_new _ p
          clear hq4
          obtain ⟨bp, hbp⟩ : ∃ bp, V3.heap.size = bp := ⟨_, rfl⟩
          rw [hbp] at hD40
          rw [hbp]
          have hD4 := hD40
          clear hbp hD40
          have hV4 : Below w4.heap.size w4 V4 := hV3.trans (hb4.mono hV3.size)
          have hK4 := hK3.below hb4
          have hA4 := (hb4.block A (Array.getElem?_eq_some_iff.1 hA3).1).trans hA3
          have hC4 := (hb4.block C (Array.getElem?_eq_some_iff.1 hC3).1).trans hC3
          refine hK.out _ _ hV4 (fun hHeld => ?_)
          clear hK K hb4
          clear hV3 hK3 hA3 hC3
          have cA : V4.cell? ⟨A, 0, none⟩ = some .nilFunc := heap_row hA4
          have cC : V4.cell? ⟨C, 0, none⟩ = some .nilFunc := heap_row hC4
          have fA := frozen_of_row V4 A 0 _ _ hA4
          have sA := grown_setCell V4 A 0 (.func (.func 77) #[] #[.pointer (some ⟨bf, 0, none⟩), .pointer (some ⟨bn, 0, none⟩)])
          have hC5 := (sA.block C (Array.getElem?_eq_some_iff.1 hC4).1 (fun e => hAC (Option.some.inj e).symm)).trans hC4
          have cC5 : (V4.setCell ⟨A, 0, none⟩ (.func (.func 77) #[] #[.pointer (some ⟨bf, 0, none⟩), .pointer (some ⟨bn, 0, none⟩)])).cell? ⟨C, 0, none⟩ = some .nilFunc := heap_row hC5
          have fC := frozen_of_row _ C 0 _ _ hC5
          have sC := grown_setCell (V4.setCell ⟨A, 0, none⟩ (.func (.func 77) #[] #[.pointer (some ⟨bf, 0, none⟩), .pointer (some ⟨bn, 0, none⟩)])) C 0 (.func (.func 79) #[] #[.pointer (some ⟨bp, 0, none⟩)])
          have zA := heap_setCell_same V4 A 0 _ _ (.func (.func 77) #[] #[.pointer (some ⟨bf, 0, none⟩), .pointer (some ⟨bn, 0, none⟩)]) hA4
          have zC := heap_setCell_same _ C 0 _ _ (.func (.func 79) #[] #[.pointer (some ⟨bp, 0, none⟩)]) hC5
          have zA2 := (sC.block A (Array.getElem?_eq_some_iff.1 zA).1 (fun e => hAC (Option.some.inj e))).trans zA
          have kf := sC.cell (sA.cell hK4.f (cell_ne hK4.f cA (by simp))) (cell_ne (sA.cell hK4.f (cell_ne hK4.f cA (by simp))) cC5 (by simp))
          have kn := sC.cell (sA.cell hK4.n (cell_ne hK4.n cA (by simp))) (cell_ne (sA.cell hK4.n (cell_ne hK4.n cA (by simp))) cC5 (by simp))
          have kp := sC.cell (sA.cell hD4.p (cell_ne hD4.p cA (by simp))) (cell_ne (sA.cell hD4.p (cell_ne hD4.p cA (by simp))) cC5 (by simp))
          have kl := (hK4.l.offN sA (fun q e => by cases e; exact NFb.nilf hA4)).offN sC (fun q e => by cases e; exact NFb.nilf hC5)
          have HF : Hid (CgIn ((V4.setCell ⟨A, 0, none⟩ (.func (.func 77) #[] #[.pointer (some ⟨bf, 0, none⟩), .pointer (some ⟨bn, 0, none⟩)])).setCell ⟨C, 0, none⟩ (.func (.func 79) #[] #[.pointer (some ⟨bp, 0, none⟩)])) (.func (.func 61) #[] #[.pointer (some ⟨C, 0, none⟩), .pointer (some ⟨A, 0, none⟩)]) (.both k (bothL l fl) p)) := hide ⟨C, A, _, _, bf, bn, _, bp, rfl, heap_row zC, heap_row zA2, ⟨rfl, kf, kn, kl⟩, ⟨rfl, kp⟩⟩
          have hB5 := hV4.grown sA hV4.size (fun q e => by cases e; exact hAg)
          have hB6 := hB5.grown sC hB5.size (fun q e => by cases e; exact hCg)
          have HB5 := hide hB5
          have HB6 := hide hB6
          have HBX := hide (((unhide HB2).trans (hB4.mono (unhide HB2).size)).trans (hB6.mono (by have := (unhide HB2).size; have := hB4.size; omega)))
          clear sA sC zA zC zA2 kf kn kp kl hB5 hB6 hC5 hK4 hD4 hA4 hC4 hV4 hL4 hB4 hcw hAg hCg cC
          refine wpAnyH_ready (rs := [9]) (by kernel_rfl) (by simp) (AllReadyH.cons rfl (fun K hK => ?_) AllReadyH.nil)
          go_simp
          refine hK.out _ _ (unhide HB5) (fun hHeld => ?_)
          clear hK K
          refine wpAnyH_ready (rs := [10]) (by kernel_rfl) (by simp) (AllReadyH.cons rfl (fun K hK => ?_) AllReadyH.nil)
          go_simp
          refine hK.out _ _ (unhide HB6) (fun hHeld => ?_)
          clear hK K
          refine wpAnyH_done (by kernel_rfl) ?_ _
          clear hHeld cA fA cC5 fC
          go_wp2
          go_ret2
          exact ⟨unhide HBX, _, rfl, fun _ => unhide HF⟩
      · skip
        go_simp
        obtain ⟨V2, hq2⟩ : ∃ V2, V1.alloc (.cells #[.nilFunc] 55) = V2 := ⟨_, rfl⟩
        have hb2 : Below V1.heap.size V1 V2 := by rw [← hq2]; exact bel_al (Below.refl _ _) _
        have hA20 : V2.heap[V1.heap.size]? = some (.cells #[.nilFunc] 55 (0, 0)) := by rw [← hq2]; exact heap_alloc_new _ _
        rw [show V1.alloc (.cells #[.nilFunc] 55) = V2 from hq2]
        clear hq2
        obtain ⟨A, hAe⟩ : ∃ A, V1.heap.size = A := ⟨_, rfl⟩
        rw [hAe] at hA20
        rw [hAe]
        have hA2 := hA20
        have hAg : w4.heap.size ≤ A := by have := hV1.size; omega
        have hAC : A ≠ C := by have := (Array.getElem?_eq_some_iff.1 hC1).1; omega
        clear hAe hA20
        have hV2 : Below w4.heap.size w4 V2 := hV1.trans (hb2.mono hV1.size)
        have hC2 := (hb2.block C (Array.getElem?_eq_some_iff.1 hC1).1).trans hC1
        refine hK.out _ _ hV2 (fun hHeld => ?_)
        clear hK K hb2
        clear hV1 hC1
        refine wpAnyH_ready (rs := [3]) (by kernel_rfl) (by simp) (AllReadyH.cons rfl (fun K hK => ?_) AllReadyH.nil)
        go_simp
        refine (keep_any (k : Int) a4 n4 c4 V2).mono ?_
        rintro e V3 ⟨rfl, hq3⟩
        dsimp only
        have hb3 : Below V2.heap.size V2 V3 := by rw [hq3]; exact bel_al (bel_al (Below.refl _ _) _) _
        have hK30 : KeepIn V3 (.func (.func 77) #[] #[.pointer (some ⟨V2.heap.size + 1, 0, none⟩), .pointer (some ⟨V2.heap.size, 0, none⟩)]) k (bothL l fl) (V2.heap.size + 1) V2.heap.size (.slice a4 n4 c4) := by rw [hq3]; exact keepIn_is (hL4.below hV2)
        clear hq3
        obtain ⟨bf, hbf⟩ : ∃ bf, V2.heap.size + 1 = bf := ⟨_, rfl⟩
        obtain ⟨bn, hbn⟩ : ∃ bn, V2.heap.size = bn := ⟨_, rfl⟩
        rw [hbf, hbn] at hK30
        rw [hbf, hbn]
        have hK3 := hK30
        clear hbf hbn hK30
        have hV3 : Below w4.heap.size w4 V3 := hV2.trans (hb3.mono hV2.size)
        have hA3 := (hb3.block A (Array.getElem?_eq_some_iff.1 hA2).1).trans hA2
        have hC3 := (hb3.block C (Array.getElem?_eq_some_iff.1 hC2).1).trans hC2
        refine hK.out _ _ hV3 (fun hHeld => ?_)
        clear hK K hb3
        clear hV2 hA2 hC2
        refine wpAnyH_ready (rs := [6]) (by kernel_rfl) (by simp) (AllReadyH.cons rfl (fun K hK => ?_) AllReadyH.nil)
        go_simp
        refine (drop_any (p : Int) V3).mono ?_
        rintro e V4 ⟨rfl, hq4⟩
        dsimp only
        have hb4 : Below V3.heap.size V3 V4 := by rw [hq4]; exact bel_al (Below.refl _ _) _
        have hD40 : DropIn V4 (.func (.func 79) #[] #[.pointer (some ⟨V3.heap.size, 0, none⟩)]) p V3.heap.size := by rw [hq4]; exact dropIn_new _ p
        clear hq4
        obtain ⟨bp, hbp⟩ : ∃ bp, V3.heap.size = bp := ⟨_, rfl⟩
        rw [hbp] at hD40
        rw [hbp]
        have hD4 := hD40
        clear hbp hD40
        have hV4 : Below w4.heap.size w4 V4 := hV3.trans (hb4.mono hV3.size)
        have hK4 := hK3.below hb4
        have hA4 := (hb4.block A (Array.getElem?_eq_some_iff.1 hA3).1).trans hA3
        have hC4 := (hb4.block C (Array.getElem?_eq_some_iff.1 hC3).1).trans hC3
        refine hK.out _ _ hV4 (fun hHeld => ?_)
        clear hK K hb4
        clear hV3 hK3 hA3 hC3
        have cA : V4.cell? ⟨A, 0, none⟩ = some .nilFunc := heap_row hA4
        have cC : V4.cell? ⟨C, 0, none⟩ = some .nilFunc := heap_row hC4
        have fA := frozen_of_row V4 A 0 _ _ hA4
        have sA := grown_setCell V4 A 0 (.func (.func 77) #[] #[.pointer (some ⟨bf, 0, none⟩), .pointer (some ⟨bn, 0, none⟩)])
        have hC5 := (sA.block C (Array.getElem?_eq_some_iff.1 hC4).1 (fun e => hAC (Option.some.inj e).symm)).trans hC4
        have cC5 : (V4.setCell ⟨A, 0, none⟩ (.func (.func 77) #[] #[.pointer (some ⟨bf, 0, none⟩), .pointer (some ⟨bn, 0, none⟩)])).cell? ⟨C, 0, none⟩ = some .nilFunc := heap_row hC5
        have fC := frozen_of_row _ C 0 _ _ hC5
        have sC := grown_setCell (V4.setCell ⟨A, 0, none⟩ (.func (.func 77) #[] #[.pointer (some ⟨bf, 0, none⟩), .pointer (some ⟨bn, 0, none⟩)])) C 0 (.func (.func 79) #[] #[.pointer (some ⟨bp, 0, none⟩)])
        have zA := heap_setCell_same V4 A 0 _ _ (.func (.func 77) #[] #[.pointer (some ⟨bf, 0, none⟩), .pointer (some ⟨bn, 0, none⟩)]) hA4
        have zC := heap_setCell_same _ C 0 _ _ (.func (.func 79) #[] #[.pointer (some ⟨bp, 0, none⟩)]) hC5
        have zA2 := (sC.block A (Array.getElem?_eq_some_iff.1 zA).1 (fun e => hAC (Option.some.inj e))).trans zA
        have kf := sC.cell (sA.cell hK4.f (cell_ne hK4.f cA (by simp))) (cell_ne (sA.cell hK4.f (cell_ne hK4.f cA (by simp))) cC5 (by simp))
        have kn := sC.cell (sA.cell hK4.n (cell_ne hK4.n cA (by simp))) (cell_ne (sA.cell hK4.n (cell_ne hK4.n cA (by simp))) cC5 (by simp))
        have kp := sC.cell (sA.cell hD4.p (cell_ne hD4.p cA (by simp))) (cell_ne (sA.cell hD4.p (cell_ne hD4.p cA (by simp))) cC5 (by simp))
        have kl := (hK4.l.offN sA (fun q e => by cases e; exact NFb.nilf hA4)).offN sC (fun q e => by cases e; exact NFb.nilf hC5)
        have HF : Hid (CgIn ((V4.setCell ⟨A, 0, none⟩ (.func (.func 77) #[] #[.pointer (some ⟨bf, 0, none⟩), .pointer (some ⟨bn, 0, none⟩)])).setCell ⟨C, 0, none⟩ (.func (.func 79) #[] #[.pointer (some ⟨bp, 0, none⟩)])) (.func (.func 61) #[] #[.pointer (some ⟨C, 0, none⟩), .pointer (some ⟨A, 0, none⟩)]) (.both k (bothL l fl) p)) := hide ⟨C, A, _, _, bf, bn, _, bp, rfl, heap_row zC, heap_row zA2, ⟨rfl, kf, kn, kl⟩, ⟨rfl, kp⟩⟩
        have hB5 := hV4.grown sA hV4.size (fun q e => by cases e; exact hAg)
        have hB6 := hB5.grown sC hB5.size (fun q e => by cases e; exact hCg)
        have HB5 := hide hB5
        have HB6 := hide hB6
        have HBX := hide (((unhide HB2).trans (hB4.mono (unhide HB2).size)).trans (hB6.mono (by have := (unhide HB2).size; have := hB4.size; omega)))
        clear sA sC zA zC zA2 kf kn kp kl hB5 hB6 hC5 hK4 hD4 hA4 hC4 hV4 hL4 hB4 hcw hAg hCg cC
        refine wpAnyH_ready (rs := [9]) (by kernel_rfl) (by simp) (AllReadyH.cons rfl (fun K hK => ?_) AllReadyH.nil)
        go_simp
        refine hK.out _ _ (unhide HB5) (fun hHeld => ?_)
        clear hK K
        refine wpAnyH_ready (rs := [10]) (by kernel_rfl) (by simp) (AllReadyH.cons rfl (fun K hK => ?_) AllReadyH.nil)
        go_simp
        refine hK.out _ _ (unhide HB6) (fun hHeld => ?_)
        clear hK K
        refine wpAnyH_done (by kernel_rfl) ?_ _
        clear hHeld cA fA cC5 fC
        go_wp2
        go_ret2
        exact ⟨unhide HBX, _, rfl, fun _ => unhide HF⟩
    -- ORDERS END
  · obtain ⟨hb0, hb2⟩ := nat_ne hE0
    have HF : Hid (∀ s : Value, E = 0 → CgIn w4 s (.both k (bothL l fl) p)) := hide (fun s e => absurd e hE0)
    have HBF := hide ((unhide HB2).trans (hB4.mono (unhide HB2).size))
    clear hL4 hB4 hn4 hE0
    go_wp2
    go_ret2
    exact ⟨unhide HBF, _, rfl, unhide HF _⟩
end Go.Proofs.YtmgmganbamjnmaaGreatDoor
