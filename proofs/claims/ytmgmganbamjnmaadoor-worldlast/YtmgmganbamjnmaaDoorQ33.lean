/-
  Package world: New.
-/
import Derived.Test.YtmgmganbamjnmaaDoorQ32
namespace Go.Proofs.YtmgmganbamjnmaaDoor
open Go.RowKit
set_option linter.unusedVariables false
set_option linter.unusedSimpArgs false
set_option maxRecDepth 100000

theorem lin_nil (w : World) : LIn w (.slice none 0 0) [] := ⟨none, 0, [], rfl, FsIn.nil w, rfl⟩
theorem NsIn.made {w : World} {g m : Nat} (h : w.heap[g]? = some (.cells (madeCells #[(.slice none 0 0)] m) 35 (0, 0))) (hm : m ≤ 1000) : NsIn w (some ⟨g, 0, none⟩) m (List.replicate m []) := by
  refine ⟨by simp, by omega, by simp; omega, (fun e => by cases e), .inr ⟨g, 0, rfl, (Array.getElem?_eq_some_iff.1 h).1, fun j l hj => ⟨(.slice none 0 0), ?_, ?_⟩⟩⟩
  · have hjl := (List.getElem?_eq_some_iff.1 hj).1
    simp at hjl
    rw [heap_row h, Nat.zero_add]
    have e : (madeCells #[Value.slice none 0 0] m).toList[j]? = some (.slice none 0 0) := by
      rw [toList_madeCells_one]
      simp [List.getElem?_replicate, hjl]
    simpa using e
  · have hl : l = [] := by
      have := List.mem_of_getElem? hj
      exact (List.mem_replicate.1 this).2
    subst hl
    exact lin_nil w
theorem CsIn.made {w : World} {g m : Nat} (h : w.heap[g]? = some (.cells (madeCells #[.int .i64 0] m) 3 (0, 0))) (hm : m ≤ 1000) : CsIn w (some ⟨g, 0, none⟩) m (List.replicate m 0) := by
  refine ⟨by simp, by omega, by simp; omega, (fun e => by cases e), .inr ⟨g, 0, rfl, (Array.getElem?_eq_some_iff.1 h).1, fun j x hj => ?_⟩⟩
  have hjl := (List.getElem?_eq_some_iff.1 hj).1
  simp at hjl
  have hx : x = 0 := by
    have := List.mem_of_getElem? hj
    exact (List.mem_replicate.1 this).2
  subst hx
  rw [heap_row h, Nat.zero_add]
  have e : (madeCells #[Value.int .i64 0] m).toList[j]? = some (.int .i64 0) := by
    rw [toList_madeCells_one]
    simp [List.getElem?_replicate, hjl]
  simpa using e
theorem new_bad (n : Int) (w : World) (h : n < 1 ∨ 4 < n) : Calls Tryd.prog 11 #[.int .i64 n] w (DoA w 3 noW) := by
  have hx := heap_alloc_new w (wbox (.slice none 0 0) (.slice none 0 0) (.slice none 0 0))
  have hb := bel_al (Below.refl w.heap.size w) (wbox (.slice none 0 0) (.slice none 0 0) (.slice none 0 0))
  have HP := hide hx
  have HB := hide hb
  clear hx hb
  by_cases h1 : n < 1
  · clear h
    go_enter Tryd.func11, Tryd.ntmps11
    go_wp2
    refine bodyPost_ret (v := .tuple #[.agg #[(.slice none 0 0), (.slice none 0 0), (.slice none 0 0)], .int .i64 3]) ?_ rfl ⟨_, rfl, WIn.no _, VFrom.no _ _, unhide HB⟩
    exact results_wt rfl _ _ w.heap.size _ _ rfl (wd_load (unhide HP)) rfl
  · have h2 : 4 < n := by omega
    clear h
    go_enter Tryd.func11, Tryd.ntmps11
    go_wp2
    refine bodyPost_ret (v := .tuple #[.agg #[(.slice none 0 0), (.slice none 0 0), (.slice none 0 0)], .int .i64 3]) ?_ rfl ⟨_, rfl, WIn.no _, VFrom.no _ _, unhide HB⟩
    exact results_wt rfl _ _ w.heap.size _ _ rfl (wd_load (unhide HP)) rfl
set_option maxHeartbeats 2000000 in
theorem new_good (m : Nat) (w : World) (h1 : 1 ≤ m) (h4 : m ≤ 4) : Calls Tryd.prog 11 #[.int .i64 (m : Int)] w (DoA w 0 ⟨List.replicate m [], List.replicate m 0, []⟩) := by
  have mk1 := fun W => run_make_row' (P := Tryd.prog) 23 35 (.slice none 0 0) 24 Tryd.underlying23 info_lists rfl .i64 .i64 m (by omega) (by omega) W
  have mk2 := fun W => run_make_row' (P := Tryd.prog) 24 3 (.int .i64 0) 8 Tryd.underlying24 info_int rfl .i64 .i64 m (by omega) (by omega) W
  have hi1 : ¬ (m : Int) < 1 := by omega
  have hi2 : ¬ (4 : Int) < (m : Int) := by omega
  go_enter Tryd.func11, Tryd.ntmps11
  go_upto_region 3 with fail
  refine wp_region_held_drew (S := fun _ => True) (by kernel_rfl) trivial (fun hHeld => ?_)
  refine wpAnyH_take (i := 0) (v := .int .i64 (m : Int)) rfl (by kernel_rfl) (by kernel_rfl) (by kernel_rfl) (fun _ _ _ h => h) (Or.inl ⟨by rfl, fun W hS => by go_simp⟩) hHeld ?_
  simp only [Act.put, List.setIfInBounds_toArray, List.set_cons_zero, List.set_cons_succ]
  refine wpAnyH_take (i := 2) (v := .int .i64 (m : Int)) rfl (by kernel_rfl) (by kernel_rfl) (by kernel_rfl) (fun _ _ _ h => h) (Or.inl ⟨by rfl, fun W hS => by go_simp⟩) hHeld ?_
  simp only [Act.put, List.setIfInBounds_toArray, List.set_cons_zero, List.set_cons_succ]
  refine wpAnyH_ready (rs := [1, 3]) (by kernel_rfl) (by simp) (AllReadyH.cons rfl (fun K hK => ?_) (AllReadyH.cons rfl (fun K hK => ?_) AllReadyH.nil))
  · go_simp
    refine hK.out _ _ trivial (fun _ => ?_)
    clear hK K
    refine wpAnyH_ready (rs := [3]) (by kernel_rfl) (by simp) (AllReadyH.cons rfl (fun K hK => ?_) AllReadyH.nil)
    go_simp
    refine hK.out _ _ trivial (fun _ => ?_)
    clear hK K
    obtain ⟨V3, hV3⟩ : ∃ V3, (((w.alloc (wbox (.slice none 0 0) (.slice none 0 0) (.slice none 0 0))).alloc (.cells (madeCells #[(.slice none 0 0)] m) 35)).alloc (.cells (madeCells #[.int .i64 0] m) 3)).drew = V3 := ⟨_, rfl⟩
    rw [show (((w.alloc (wbox (.slice none 0 0) (.slice none 0 0) (.slice none 0 0))).alloc (.cells (madeCells #[(.slice none 0 0)] m) 35)).alloc (.cells (madeCells #[.int .i64 0] m) 3)).drew = V3 from hV3]
    have hs3 : V3.heap.size = w.heap.size + 3 := by rw [← hV3]; simp
    have hb3 : Below w.heap.size w V3 := by rw [← hV3]; exact below_drewN (bel_al (bel_al (bel_al (Below.refl _ _) _) _) _) 1
    have hx3 : V3.heap[w.heap.size]? = some (.cells #[(.slice none 0 0), (.slice none 0 0), (.slice none 0 0)] 27 (0, 0)) := by
      rw [← hV3]
      show (((w.alloc _).alloc _).alloc _).heap[w.heap.size]? = _
      rw [Below.heap_alloc _ _ _ (by simp; omega), Below.heap_alloc _ _ _ (by simp)]
      exact heap_alloc_new w _
    obtain ⟨p1, p2⟩ := put3 (.slice (some ⟨w.heap.size + 1, 0, none⟩) m m) (.slice (some ⟨w.heap.size + 2, 0, none⟩) m m) (.slice none 0 0) hx3
    have hN : V3.heap[w.heap.size + 1]? = some (.cells (madeCells #[(.slice none 0 0)] m) 35 (0, 0)) := by
      rw [← hV3]
      show (((w.alloc _).alloc _).alloc _).heap[w.heap.size + 1]? = _
      rw [Below.heap_alloc _ _ _ (by simp)]
      have := heap_alloc_new (w.alloc (wbox (.slice none 0 0) (.slice none 0 0) (.slice none 0 0))) (.cells (madeCells #[(.slice none 0 0)] m) 35)
      rw [World.size_alloc] at this
      exact this
    have hC : V3.heap[w.heap.size + 2]? = some (.cells (madeCells #[.int .i64 0] m) 3 (0, 0)) := by
      rw [← hV3]
      show (((w.alloc _).alloc _).alloc _).heap[w.heap.size + 2]? = _
      have := heap_alloc_new ((w.alloc (wbox (.slice none 0 0) (.slice none 0 0) (.slice none 0 0))).alloc (.cells (madeCells #[(.slice none 0 0)] m) 35)) (.cells (madeCells #[.int .i64 0] m) 3)
      rw [World.size_alloc, World.size_alloc] at this
      exact this
    have hN4 := (p2.block _ (by rw [hs3]; omega) (fun e => by have := Option.some.inj e; omega)).trans hN
    have hC4 := (p2.block _ (by rw [hs3]; omega) (fun e => by have := Option.some.inj e; omega)).trans hC
    have hWF : WIn _ (.agg #[.slice (some ⟨w.heap.size + 1, 0, none⟩) m m, .slice (some ⟨w.heap.size + 2, 0, none⟩) m m, (.slice none 0 0)]) (⟨List.replicate m [], List.replicate m 0, []⟩ : Wd) := ⟨some ⟨w.heap.size + 1, 0, none⟩, m, some ⟨w.heap.size + 2, 0, none⟩, m, none, 0, by simp, NsIn.made hN4 (by omega), CsIn.made hC4 (by omega), MsIn.zero _⟩
    have hBF := hb3.grown p2 (by omega) (fun q e => by cases e; exact Nat.le_refl _)
    have y0 := heap_row (i := 0) hx3
    have y1 := heap_row (i := 1) hx3
    have y2 := heap_row (i := 2) hx3
    have f0 := frozen_of_row _ _ 0 _ _ hx3
    have f1 := frozen_of_row _ _ 1 _ _ hx3
    have f2 := frozen_of_row _ _ 2 _ _ hx3
    have HP := hide p1
    have HW := hide hWF
    have HV : Hid (VFrom w.heap.size (((V3.setCell ⟨w.heap.size, 0, none⟩ (.slice (some ⟨w.heap.size + 1, 0, none⟩) m m)).setCell ⟨w.heap.size, 1, none⟩ (.slice (some ⟨w.heap.size + 2, 0, none⟩) m m)).setCell ⟨w.heap.size, 2, none⟩ (.slice none 0 0)).heap.size (.agg #[.slice (some ⟨w.heap.size + 1, 0, none⟩) m m, .slice (some ⟨w.heap.size + 2, 0, none⟩) m m, (.slice none 0 0)])) := hide (by
      rintro b ⟨a1, n1, c1, a2, n2, c2, a3, n3, c3, o, e, h⟩
      cases e
      have hps := p2.size
      rcases h with h | h | h
      · cases h; omega
      · cases h; omega
      · cases h)
    have HB := hide hBF
    clear hs3 hb3 hx3 p1 p2 hN hC hN4 hC4 hWF hBF hV3
    refine wpAnyH_take (i := 4) (v := .agg #[.slice (some ⟨w.heap.size + 1, 0, none⟩) m m, .slice (some ⟨w.heap.size + 2, 0, none⟩) m m, (.slice none 0 0)]) rfl (by kernel_rfl) (by kernel_rfl) (by kernel_rfl) (fun _ _ _ h => h) (Or.inl ⟨by rfl, fun W hS => by go_simp⟩) hHeld ?_
    simp only [Act.put, List.setIfInBounds_toArray, List.set_cons_zero, List.set_cons_succ]
    refine wpAnyH_ready (rs := [5]) (by kernel_rfl) (by simp) (AllReadyH.cons rfl (fun K hK => ?_) AllReadyH.nil)
    go_simp
    refine hK.out _ _ trivial (fun _ => ?_)
    clear hK K
    refine wpAnyH_ready (rs := [6]) (by kernel_rfl) (by simp) (AllReadyH.cons rfl (fun K hK => ?_) AllReadyH.nil)
    go_simp
    refine hK.out _ _ trivial (fun _ => ?_)
    clear hK K y0 y1 y2 f0 f1 f2
    refine wpAnyH_done (by kernel_rfl) ?_ _
    go_wp2
    refine bodyPost_ret (v := .tuple #[.agg #[.slice (some ⟨w.heap.size + 1, 0, none⟩) m m, .slice (some ⟨w.heap.size + 2, 0, none⟩) m m, (.slice none 0 0)], .int .i64 0]) ?_ rfl ⟨_, rfl, unhide HW, unhide HV, unhide HB⟩
    exact results_wt rfl _ _ w.heap.size _ _ rfl (wd_load (unhide HP)) rfl
  · go_simp
    refine hK.out _ _ trivial (fun _ => ?_)
    clear hK K
    refine wpAnyH_ready (rs := [1]) (by kernel_rfl) (by simp) (AllReadyH.cons rfl (fun K hK => ?_) AllReadyH.nil)
    go_simp
    refine hK.out _ _ trivial (fun _ => ?_)
    clear hK K
    obtain ⟨V3, hV3⟩ : ∃ V3, (((w.alloc (wbox (.slice none 0 0) (.slice none 0 0) (.slice none 0 0))).alloc (.cells (madeCells #[.int .i64 0] m) 3)).alloc (.cells (madeCells #[(.slice none 0 0)] m) 35)).drew = V3 := ⟨_, rfl⟩
    rw [show (((w.alloc (wbox (.slice none 0 0) (.slice none 0 0) (.slice none 0 0))).alloc (.cells (madeCells #[.int .i64 0] m) 3)).alloc (.cells (madeCells #[(.slice none 0 0)] m) 35)).drew = V3 from hV3]
    have hs3 : V3.heap.size = w.heap.size + 3 := by rw [← hV3]; simp
    have hb3 : Below w.heap.size w V3 := by rw [← hV3]; exact below_drewN (bel_al (bel_al (bel_al (Below.refl _ _) _) _) _) 1
    have hx3 : V3.heap[w.heap.size]? = some (.cells #[(.slice none 0 0), (.slice none 0 0), (.slice none 0 0)] 27 (0, 0)) := by
      rw [← hV3]
      show (((w.alloc _).alloc _).alloc _).heap[w.heap.size]? = _
      rw [Below.heap_alloc _ _ _ (by simp; omega), Below.heap_alloc _ _ _ (by simp)]
      exact heap_alloc_new w _
    obtain ⟨p1, p2⟩ := put3 (.slice (some ⟨w.heap.size + 2, 0, none⟩) m m) (.slice (some ⟨w.heap.size + 1, 0, none⟩) m m) (.slice none 0 0) hx3
    have hN : V3.heap[w.heap.size + 2]? = some (.cells (madeCells #[(.slice none 0 0)] m) 35 (0, 0)) := by
      rw [← hV3]
      show (((w.alloc _).alloc _).alloc _).heap[w.heap.size + 2]? = _
      have := heap_alloc_new ((w.alloc (wbox (.slice none 0 0) (.slice none 0 0) (.slice none 0 0))).alloc (.cells (madeCells #[.int .i64 0] m) 3)) (.cells (madeCells #[(.slice none 0 0)] m) 35)
      rw [World.size_alloc, World.size_alloc] at this
      exact this
    have hC : V3.heap[w.heap.size + 1]? = some (.cells (madeCells #[.int .i64 0] m) 3 (0, 0)) := by
      rw [← hV3]
      show (((w.alloc _).alloc _).alloc _).heap[w.heap.size + 1]? = _
      rw [Below.heap_alloc _ _ _ (by simp)]
      have := heap_alloc_new (w.alloc (wbox (.slice none 0 0) (.slice none 0 0) (.slice none 0 0))) (.cells (madeCells #[.int .i64 0] m) 3)
      rw [World.size_alloc] at this
      exact this
    have hN4 := (p2.block _ (by rw [hs3]; omega) (fun e => by have := Option.some.inj e; omega)).trans hN
    have hC4 := (p2.block _ (by rw [hs3]; omega) (fun e => by have := Option.some.inj e; omega)).trans hC
    have hWF : WIn _ (.agg #[.slice (some ⟨w.heap.size + 2, 0, none⟩) m m, .slice (some ⟨w.heap.size + 1, 0, none⟩) m m, (.slice none 0 0)]) (⟨List.replicate m [], List.replicate m 0, []⟩ : Wd) := ⟨some ⟨w.heap.size + 2, 0, none⟩, m, some ⟨w.heap.size + 1, 0, none⟩, m, none, 0, by simp, NsIn.made hN4 (by omega), CsIn.made hC4 (by omega), MsIn.zero _⟩
    have hBF := hb3.grown p2 (by omega) (fun q e => by cases e; exact Nat.le_refl _)
    have y0 := heap_row (i := 0) hx3
    have y1 := heap_row (i := 1) hx3
    have y2 := heap_row (i := 2) hx3
    have f0 := frozen_of_row _ _ 0 _ _ hx3
    have f1 := frozen_of_row _ _ 1 _ _ hx3
    have f2 := frozen_of_row _ _ 2 _ _ hx3
    have HP := hide p1
    have HW := hide hWF
    have HV : Hid (VFrom w.heap.size (((V3.setCell ⟨w.heap.size, 0, none⟩ (.slice (some ⟨w.heap.size + 2, 0, none⟩) m m)).setCell ⟨w.heap.size, 1, none⟩ (.slice (some ⟨w.heap.size + 1, 0, none⟩) m m)).setCell ⟨w.heap.size, 2, none⟩ (.slice none 0 0)).heap.size (.agg #[.slice (some ⟨w.heap.size + 2, 0, none⟩) m m, .slice (some ⟨w.heap.size + 1, 0, none⟩) m m, (.slice none 0 0)])) := hide (by
      rintro b ⟨a1, n1, c1, a2, n2, c2, a3, n3, c3, o, e, h⟩
      cases e
      have hps := p2.size
      rcases h with h | h | h
      · cases h; omega
      · cases h; omega
      · cases h)
    have HB := hide hBF
    clear hs3 hb3 hx3 p1 p2 hN hC hN4 hC4 hWF hBF hV3
    refine wpAnyH_take (i := 4) (v := .agg #[.slice (some ⟨w.heap.size + 2, 0, none⟩) m m, .slice (some ⟨w.heap.size + 1, 0, none⟩) m m, (.slice none 0 0)]) rfl (by kernel_rfl) (by kernel_rfl) (by kernel_rfl) (fun _ _ _ h => h) (Or.inl ⟨by rfl, fun W hS => by go_simp⟩) hHeld ?_
    simp only [Act.put, List.setIfInBounds_toArray, List.set_cons_zero, List.set_cons_succ]
    refine wpAnyH_ready (rs := [5]) (by kernel_rfl) (by simp) (AllReadyH.cons rfl (fun K hK => ?_) AllReadyH.nil)
    go_simp
    refine hK.out _ _ trivial (fun _ => ?_)
    clear hK K
    refine wpAnyH_ready (rs := [6]) (by kernel_rfl) (by simp) (AllReadyH.cons rfl (fun K hK => ?_) AllReadyH.nil)
    go_simp
    refine hK.out _ _ trivial (fun _ => ?_)
    clear hK K y0 y1 y2 f0 f1 f2
    refine wpAnyH_done (by kernel_rfl) ?_ _
    go_wp2
    refine bodyPost_ret (v := .tuple #[.agg #[.slice (some ⟨w.heap.size + 2, 0, none⟩) m m, .slice (some ⟨w.heap.size + 1, 0, none⟩) m m, (.slice none 0 0)], .int .i64 0]) ?_ rfl ⟨_, rfl, unhide HW, unhide HV, unhide HB⟩
    exact results_wt rfl _ _ w.heap.size _ _ rfl (wd_load (unhide HP)) rfl
theorem new_w (n : Int) (w : World) : Calls Tryd.prog 11 #[.int .i64 n] w (DoA w (newE n) (newW n)) := by
  by_cases h : n < 1 ∨ 4 < n
  · have e : newE n = 3 := by unfold newE; rw [if_pos h]
    have e2 : newW n = noW := by unfold newW; rw [e, if_neg (by decide)]
    rw [e, e2]
    exact new_bad n w h
  · obtain ⟨m, rfl⟩ : ∃ m : Nat, n = (m : Int) := ⟨n.toNat, by omega⟩
    have e : newE (m : Int) = 0 := by unfold newE; rw [if_neg h]
    have e2 : newW (m : Int) = ⟨List.replicate m [], List.replicate m 0, []⟩ := by unfold newW; rw [e, if_pos rfl]; simp
    rw [e, e2]
    exact new_good m w (by omega) (by omega)
end Go.Proofs.YtmgmganbamjnmaaDoor
