/-
  Package world: what it does that a node sends all it has.
-/
import Derived.Test.YtmgmganbamjnmaaGreatDoorS29
namespace Go.Proofs.YtmgmganbamjnmaaGreatDoor
open Go.RowKit
set_option linter.unusedVariables false
set_option linter.unusedSimpArgs false
set_option maxRecDepth 100000

theorem pass_ch {w : World} {a1 a2 a3 af : Option Addr} {n1 c1 n2 c2 m c3 nl cf : Nat} {d : Int} {l : List Fl} (h : LIn w (.slice af nl cf) l) (E : Nat) (hE : (if 20 ≤ m then 11 else 0) = E) :
    Calls Tryz.prog 59 #[.agg #[.slice a1 n1 c1, .slice a2 n2 c2, .slice a3 m c3], .agg #[.int .i64 d, .slice af nl cf]] w fun e w' => ChA w e w' E (.pass ⟨d, l⟩) := by
  refine (pass_any (w := w) ⟨_, _, _, rfl⟩ ⟨_, _, _, rfl⟩).mono ?_
  rintro e w' ⟨he, rfl⟩
  have hB := bel_al (bel_al (Below.refl w.heap.size w) (wbox (.slice a1 n1 c1) (.slice a2 n2 c2) (.slice a3 m c3))) (mbox (.int .i64 d) (.slice af nl cf))
  refine ⟨hB, ?_⟩
  rcases he with ⟨hm, rfl⟩ | ⟨hm, rfl⟩
  · rw [if_pos hm] at hE
    subst hE
    exact ⟨_, rfl, fun e => by cases e⟩
  · rw [if_neg (by omega)] at hE
    subst hE
    refine ⟨_, rfl, fun _ => ⟨w.heap.size + 1, .slice af nl cf, rfl, ?_, ?_, h.below hB⟩⟩
    · have := heap_alloc_new (w.alloc (wbox (.slice a1 n1 c1) (.slice a2 n2 c2) (.slice a3 m c3))) (mbox (.int .i64 d) (.slice af nl cf))
      rw [World.size_alloc] at this
      exact heap_row this
    · have := heap_alloc_new (w.alloc (wbox (.slice a1 n1 c1) (.slice a2 n2 c2) (.slice a3 m c3))) (mbox (.int .i64 d) (.slice af nl cf))
      rw [World.size_alloc] at this
      exact heap_row this
theorem send_who (a1 a2 a3 ab : Option Addr) (n c1 n2 c2 m c3 nb cb : Nat) (kd nd ds : Int) (t : ByteArray) (w : World) (h : isP nd n = false ∨ isP ds n = false) :
    Calls Tryz.prog 43 #[.agg #[.slice a1 n c1, .slice a2 n2 c2, .slice a3 m c3], .agg #[.int .i64 kd, .int .i64 nd, .int .i64 ds, .string t, .slice ab nb cb]] w fun e w' => ChA w e w' 5 (.drop 0) := by
  obtain ⟨w1, hw1, hz1, hb1, hx0, hx1⟩ := wh_boxes w (.slice a1 n c1) (.slice a2 n2 c2) (.slice a3 m c3) kd nd ds t (.slice ab nb cb)
  have HB := hide hb1
  have HP := hide (fun W => isPlace_any nd n W)
  have HQ := hide (fun W => isPlace_any ds n W)
  rw [← hw1] at HB
  cases hp : isP nd n with
  | false =>
    rw [hp] at HP
    clear hw1 hz1 hb1 hx0 hx1 h hp
    go_enter Tryz.func43, Tryz.ntmps43
    go_wp2_with fail
    refine (unhide HP _).mono ?_
    rintro e w' ⟨rfl, rfl⟩
    go_wp2_with fail
    go_ret2
    exact ⟨unhide HB, _, rfl, fun e => by cases e⟩
  | true =>
    have hq : isP ds n = false := by rcases h with h | h; rw [hp] at h; cases h; exact h
    rw [hp] at HP
    rw [hq] at HQ
    clear hw1 hz1 hb1 hx0 hx1 h hp hq
    go_enter Tryz.func43, Tryz.ntmps43
    go_wp2_with fail
    refine (unhide HP _).mono ?_
    rintro e w' ⟨rfl, rfl⟩
    go_wp2_with fail
    refine (unhide HQ _).mono ?_
    rintro e w' ⟨rfl, rfl⟩
    go_wp2_with fail
    go_ret2
    exact ⟨unhide HB, _, rfl, fun e => by cases e⟩
set_option maxHeartbeats 4000000 in
theorem send_main (a1 a2 a3 ab : Option Addr) (n c1 n2 c2 m c3 nb cb : Nat) (kd ds : Int) (k : Nat) (t : ByteArray) (W : Wd) (w : World) (h : WAt w W a1 c1 a2 c2 a3 c3) (hn : W.nodes.length = n) (hkn : k < n) (hq : isP ds n = true) (l : List Fl) (hnk : W.nodes[k]? = some l) (E : Nat) (hE : (if 20 ≤ m then 11 else 0) = E) :
    Calls Tryz.prog 43 #[.agg #[.slice a1 n c1, .slice a2 n2 c2, .slice a3 m c3], .agg #[.int .i64 kd, .int .i64 (k : Int), .int .i64 ds, .string t, .slice ab nb cb]] w fun e w' => ChA w e w' E (.pass ⟨ds, l⟩) := by
  obtain ⟨w1, hw1, hz1, hb1, hx0, hx1⟩ := wh_boxes w (.slice a1 n c1) (.slice a2 n2 c2) (.slice a3 m c3) kd k ds t (.slice ab nb cb)
  have h1 := h.below hb1
  obtain ⟨b1, o1, xl, ha1, hbb1, hxl, hL⟩ := h1.ns.get hnk
  obtain ⟨al, cl, hvl⟩ := hL.shape
  obtain ⟨nl, hnl⟩ : ∃ nl, l.length = nl := ⟨_, rfl⟩
  rw [hnl] at hvl
  subst hvl ha1
  have HP := hide (fun W => isPlace_any (k : Int) n W)
  have HQ := hide (fun W => isPlace_any ds n W)
  rw [isP_nat hkn] at HP
  rw [hq] at HQ
  have hbd : Below w1.heap.size w1 w1.drew := below_drewN (Below.refl _ _) 1
  have HC := hide (pass_ch (a1 := some ⟨b1, o1, none⟩) (n1 := n) (c1 := c1) (a2 := a2) (n2 := n2) (c2 := c2) (a3 := a3) (c3 := c3) (d := ds) (hL.below hbd) E hE)
  have hki0 : (0 : Int) ≤ (k : Int) := by omega
  have hki1 : (k : Int) < (n : Int) := by omega
  have hcc : ∀ W, Below w1.heap.size w1 W → W.cell? ⟨w.heap.size, 0, none⟩ = some (.slice (some ⟨b1, o1, none⟩) n c1) ∧ W.cell? ⟨w.heap.size, 1, none⟩ = some (.slice a2 n2 c2) ∧ W.cell? ⟨w.heap.size, 2, none⟩ = some (.slice a3 m c3) ∧ W.cell? ⟨w.heap.size + 1, 1, none⟩ = some (.int .i64 (k : Int)) ∧ W.cell? ⟨w.heap.size + 1, 2, none⟩ = some (.int .i64 ds) ∧ W.cell? ⟨b1, o1 + k, none⟩ = some (.slice al nl cl) := fun W hW => ⟨cell_bel (heap_row (i := 0) hx0) hW (Nat.le_refl _), cell_bel (heap_row (i := 1) hx0) hW (Nat.le_refl _), cell_bel (heap_row (i := 2) hx0) hW (Nat.le_refl _), cell_bel (heap_row (i := 1) hx1) hW (Nat.le_refl _), cell_bel (heap_row (i := 2) hx1) hW (Nat.le_refl _), cell_bel hxl hW (Nat.le_refl _)⟩
  have HCC := hide hcc
  have HW1 := hide hw1
  have HB1 := hide hb1
  clear h h1 hn hnk hE hq hL hnl hxl hbb1 hx0 hx1 hz1 hb1 hw1 hcc hbd hkn
  go_enter Tryz.func43, Tryz.ntmps43
  go_wp2_with fail
  refine (unhide HP _).mono ?_
  rintro e w' ⟨rfl, rfl⟩
  go_wp2_with fail
  refine (unhide HQ _).mono ?_
  rintro e w' ⟨rfl, rfl⟩
  go_upto_region 3 with fail
  rw [show (w.alloc (wbox (.slice (some ⟨b1, o1, none⟩) n c1) (.slice a2 n2 c2) (.slice a3 m c3))).alloc (hbox kd k ds t (.slice ab nb cb)) = w1 from unhide HW1]
  refine wp_region_held_drew (S := fun W => Below w1.heap.size w1 W) (by kernel_rfl) (below_drewN (Below.refl _ _) 1) (fun hHeld => ?_)
  refine wpAnyH_take (i := 0) (v := .agg #[.slice (some ⟨b1, o1, none⟩) n c1, .slice a2 n2 c2, .slice a3 m c3]) rfl (by kernel_rfl) (by kernel_rfl) (by kernel_rfl) (fun _ _ _ h => h) (Or.inl ⟨by rfl, fun W hS => by obtain ⟨z1, z2, z3, z4, z5, z6⟩ := unhide HCC W hS; go_simp⟩) hHeld ?_
  simp only [Act.put, List.setIfInBounds_toArray, List.set_cons_zero, List.set_cons_succ]
  refine wpAnyH_take (i := 1) (v := .pointer (some ⟨w.heap.size + 1, 2, none⟩)) rfl (by kernel_rfl) (by kernel_rfl) (by kernel_rfl) (fun _ _ _ h => h) (Or.inl ⟨by rfl, fun W hS => by go_simp⟩) hHeld ?_
  simp only [Act.put, List.setIfInBounds_toArray, List.set_cons_zero, List.set_cons_succ]
  refine wpAnyH_take (i := 2) (v := .int .i64 ds) rfl (by kernel_rfl) (by kernel_rfl) (by kernel_rfl) (fun _ _ _ h => h) (Or.inl ⟨by rfl, fun W hS => by obtain ⟨z1, z2, z3, z4, z5, z6⟩ := unhide HCC W hS; go_simp⟩) hHeld ?_
  simp only [Act.put, List.setIfInBounds_toArray, List.set_cons_zero, List.set_cons_succ]
  refine wpAnyH_take (i := 3) (v := .pointer (some ⟨w.heap.size, 0, none⟩)) rfl (by kernel_rfl) (by kernel_rfl) (by kernel_rfl) (fun _ _ _ h => h) (Or.inl ⟨by rfl, fun W hS => by go_simp⟩) hHeld ?_
  simp only [Act.put, List.setIfInBounds_toArray, List.set_cons_zero, List.set_cons_succ]
  refine wpAnyH_take (i := 4) (v := .slice (some ⟨b1, o1, none⟩) n c1) rfl (by kernel_rfl) (by kernel_rfl) (by kernel_rfl) (fun _ _ _ h => h) (Or.inl ⟨by rfl, fun W hS => by obtain ⟨z1, z2, z3, z4, z5, z6⟩ := unhide HCC W hS; go_simp⟩) hHeld ?_
  simp only [Act.put, List.setIfInBounds_toArray, List.set_cons_zero, List.set_cons_succ]
  refine wpAnyH_take (i := 5) (v := .pointer (some ⟨w.heap.size + 1, 1, none⟩)) rfl (by kernel_rfl) (by kernel_rfl) (by kernel_rfl) (fun _ _ _ h => h) (Or.inl ⟨by rfl, fun W hS => by go_simp⟩) hHeld ?_
  simp only [Act.put, List.setIfInBounds_toArray, List.set_cons_zero, List.set_cons_succ]
  refine wpAnyH_take (i := 6) (v := .int .i64 (k : Int)) rfl (by kernel_rfl) (by kernel_rfl) (by kernel_rfl) (fun _ _ _ h => h) (Or.inl ⟨by rfl, fun W hS => by obtain ⟨z1, z2, z3, z4, z5, z6⟩ := unhide HCC W hS; go_simp⟩) hHeld ?_
  simp only [Act.put, List.setIfInBounds_toArray, List.set_cons_zero, List.set_cons_succ]
  refine wpAnyH_take (i := 7) (v := .pointer (some ⟨b1, o1 + k, none⟩)) rfl (by kernel_rfl) (by kernel_rfl) (by kernel_rfl) (fun _ _ _ h => h) (Or.inl ⟨by rfl, fun W hS => by go_simp⟩) hHeld ?_
  simp only [Act.put, List.setIfInBounds_toArray, List.set_cons_zero, List.set_cons_succ]
  refine wpAnyH_take (i := 8) (v := .slice al nl cl) rfl (by kernel_rfl) (by kernel_rfl) (by kernel_rfl) (fun _ _ _ h => h) (Or.inl ⟨by rfl, fun W hS => by obtain ⟨z1, z2, z3, z4, z5, z6⟩ := unhide HCC W hS; go_simp⟩) hHeld ?_
  simp only [Act.put, List.setIfInBounds_toArray, List.set_cons_zero, List.set_cons_succ]
  refine wpAnyH_take (i := 9) (v := .agg #[.int .i64 ds, .slice al nl cl]) rfl (by kernel_rfl) (by kernel_rfl) (by kernel_rfl) (fun _ _ _ h => h) (Or.inl ⟨by rfl, fun W hS => by go_simp⟩) hHeld ?_
  simp only [Act.put, List.setIfInBounds_toArray, List.set_cons_zero, List.set_cons_succ]
  refine wpAnyH_ready (rs := [10]) (by kernel_rfl) (by simp) (AllReadyH.cons rfl (fun K hK => ?_) AllReadyH.nil)
  go_simp
  refine (unhide HC).mono ?_
  rintro e w4 ⟨hB4, s4, rfl, hs4⟩
  replace hB4 : Below w1.heap.size w1 w4 := (below_drewN (Below.refl w1.heap.size w1) 1).trans hB4
  have HF : Hid (ChA w (.returned (.tuple #[s4, .int .i64 (E : Int)])) w4 E (.pass ⟨ds, l⟩)) := hide ⟨(unhide HB1).trans (hB4.mono (unhide HB1).size), s4, rfl, hs4⟩
  dsimp only
  refine hK.out _ _ hB4 (fun hHeld => ?_)
  clear hK K hs4
  refine wpAnyH_take (i := 11) (v := s4) rfl (by kernel_rfl) (by kernel_rfl) (by kernel_rfl) (fun _ _ _ h => h) (Or.inl ⟨by rfl, fun W hS => by go_simp⟩) hHeld ?_
  simp only [Act.put, List.setIfInBounds_toArray, List.set_cons_zero, List.set_cons_succ]
  refine wpAnyH_take (i := 12) (v := .int .i64 (E : Int)) rfl (by kernel_rfl) (by kernel_rfl) (by kernel_rfl) (fun _ _ _ h => h) (Or.inl ⟨by rfl, fun W hS => by go_simp⟩) hHeld ?_
  simp only [Act.put, List.setIfInBounds_toArray, List.set_cons_zero, List.set_cons_succ]
  refine wpAnyH_ready (rs := [13]) (by kernel_rfl) (by simp) (AllReadyH.cons rfl (fun K hK => ?_) AllReadyH.nil)
  go_simp
  refine hK.out _ _ hHeld (fun hHeld => ?_)
  clear hK K
  refine wpAnyH_ready (rs := [14]) (by kernel_rfl) (by simp) (AllReadyH.cons rfl (fun K hK => ?_) AllReadyH.nil)
  go_simp
  refine hK.out _ _ hHeld (fun hHeld => ?_)
  clear hK K
  refine wpAnyH_done (by kernel_rfl) ?_ _
  clear hHeld hB4
  go_wp2
  go_ret2
  exact unhide HF
end Go.Proofs.YtmgmganbamjnmaaGreatDoor
