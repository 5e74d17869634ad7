/-
  Package world: New.
-/
import Derived.Test.YtmgmganbamjnmaaGreatDoorS33
namespace Go.Proofs.YtmgmganbamjnmaaGreatDoor
open Go.RowKit
set_option linter.unusedVariables false
set_option linter.unusedSimpArgs false
set_option maxRecDepth 100000

theorem lin_nil (w : World) : LIn w (.slice none 0 0) [] := ⟨none, 0, [], rfl, FsIn.nil w, rfl⟩
theorem NsIn.made {w : World} {g m : Nat} (h : w.heap[g]? = some (.cells (madeCells #[(.slice none 0 0)] m) 46 (0, 0))) (hm : m ≤ 1000) : NsIn w (some ⟨g, 0, none⟩) m (List.replicate m []) := by
  refine ⟨by simp, by omega, by simp; omega, (fun e => by cases e), .inr ⟨g, 0, rfl, (Array.getElem?_eq_some_iff.1 h).1, fun j l hj => ⟨(.slice none 0 0), ?_, ?_⟩⟩⟩
  · have hjl := (List.getElem?_eq_some_iff.1 hj).1
    simp at hjl
    rw [heap_row h, Nat.zero_add]
    have e : (madeCells #[Value.slice none 0 0] m).toList[j]? = some (.slice none 0 0) := by
      rw [toList_madeCells_one]
      simp [List.getElem?_replicate, hjl]
    simpa using e
  · have hl : l = [] := by
      have := List.mem_of_getElem? hj
      exact (List.mem_replicate.1 this).2
    subst hl
    exact lin_nil w
theorem CsIn.made {w : World} {g m : Nat} (h : w.heap[g]? = some (.cells (madeCells #[.int .i64 0] m) 3 (0, 0))) (hm : m ≤ 1000) : CsIn w (some ⟨g, 0, none⟩) m (List.replicate m 0) := by
  refine ⟨by simp, by omega, by simp; omega, (fun e => by cases e), .inr ⟨g, 0, rfl, (Array.getElem?_eq_some_iff.1 h).1, fun j x hj => ?_⟩⟩
  have hjl := (List.getElem?_eq_some_iff.1 hj).1
  simp at hjl
  have hx : x = 0 := by
    have := List.mem_of_getElem? hj
    exact (List.mem_replicate.1 this).2
  subst hx
  rw [heap_row h, Nat.zero_add]
  have e : (madeCells #[Value.int .i64 0] m).toList[j]? = some (.int .i64 0) := by
    rw [toList_madeCells_one]
    simp [List.getElem?_replicate, hjl]
  simpa using e
theorem new_bad (n : Int) (w : World) (h : n < 1 ∨ 4 < n) : Calls Tryz.prog 14 #[.int .i64 n] w (DoA w 3 noW) := by
  have hx := heap_alloc_new w (wbox (.slice none 0 0) (.slice none 0 0) (.slice none 0 0))
  have hb := bel_al (Below.refl w.heap.size w) (wbox (.slice none 0 0) (.slice none 0 0) (.slice none 0 0))
  have HP := hide hx
  have HB := hide hb
  clear hx hb
  by_cases h1 : n < 1
  · clear h
    go_enter Tryz.func14, Tryz.ntmps14
    go_wp2
    refine bodyPost_ret (v := .tuple #[.agg #[(.slice none 0 0), (.slice none 0 0), (.slice none 0 0)], .int .i64 3]) ?_ rfl ⟨_, rfl, WIn.no _, VFrom.no _ _, unhide HB⟩
    exact results_wt rfl _ _ w.heap.size _ _ rfl (wd_load (unhide HP)) rfl
  · have h2 : 4 < n := by omega
    clear h
    go_enter Tryz.func14, Tryz.ntmps14
    go_wp2
    refine bodyPost_ret (v := .tuple #[.agg #[(.slice none 0 0), (.slice none 0 0), (.slice none 0 0)], .int .i64 3]) ?_ rfl ⟨_, rfl, WIn.no _, VFrom.no _ _, unhide HB⟩
    exact results_wt rfl _ _ w.heap.size _ _ rfl (wd_load (unhide HP)) rfl
set_option maxHeartbeats 2000000 in
theorem new_good (m : Nat) (w : World) (h1 : 1 ≤ m) (h4 : m ≤ 4) : Calls Tryz.prog 14 #[.int .i64 (m : Int)] w (DoA w 0 ⟨List.replicate m [], List.replicate m 0, []⟩) := by
  have mk1 := fun W => run_make_row' (P := Tryz.prog) 22 46 (.slice none 0 0) 24 Tryz.underlying22 info_lists rfl .i64 .i64 m (by omega) (by omega) W
  have mk2 := fun W => run_make_row' (P := Tryz.prog) 23 3 (.int .i64 0) 8 Tryz.underlying23 info_int rfl .i64 .i64 m (by omega) (by omega) W
  have hi1 : ¬ (m : Int) < 1 := by omega
  have hi2 : ¬ (4 : Int) < (m : Int) := by omega
  go_enter Tryz.func14, Tryz.ntmps14
  go_upto_region 3 with fail
  refine wp_region_held_drew (S := fun _ => True) (by kernel_rfl) trivial (fun hHeld => ?_)
  refine wpAnyH_take (i := 0) (v := .int .i64 (m : Int)) rfl (by kernel_rfl) (by kernel_rfl) (by kernel_rfl) (fun _ _ _ h => h) (Or.inl ⟨by rfl, fun W hS => by go_simp⟩) hHeld ?_
  simp only [Act.put, List.setIfInBounds_toArray, List.set_cons_zero, List.set_cons_succ]
  refine wpAnyH_take (i := 2) (v := .int .i64 (m : Int)) rfl (by kernel_rfl) (by kernel_rfl) (by kernel_rfl) (fun _ _ _ h => h) (Or.inl ⟨by rfl, fun W hS => by go_simp⟩) hHeld ?_
  simp only [Act.put, List.setIfInBounds_toArray, List.set_cons_zero, List.set_cons_succ]
  refine wpAnyH_ready (rs := [1, 3]) (by kernel_rfl) (by simp) (AllReadyH.cons rfl (fun K hK => ?_) (AllReadyH.cons rfl (fun K hK => ?_) AllReadyH.nil))
  · go_simp
    refine hK.out _ _ trivial (fun _ => ?_)
    clear hK K
    refine wpAnyH_ready (rs := [3]) (by kernel_rfl) (by simp) (AllReadyH.cons rfl (fun K hK => ?_) AllReadyH.nil)
    go_simp
    refine hK.out _ _ trivial (fun _ => ?_)
    clear hK K
    obtain ⟨V3, hV3⟩ : ∃ V3, (((w.alloc (wbox (.slice none 0 0) (.slice none 0 0) (.slice none 0 0))).alloc (.cells (madeCells #[(.slice none 0 0)] m) 46)).alloc (.cells (madeCells #[.int .i64 0] m) 3)).drew = V3 := ⟨_, rfl⟩
    rw [show (((w.alloc (wbox (.slice none 0 0) (.slice none 0 0) (.slice none 0 0))).alloc (.cells (madeCells #[(.slice none 0 0)] m) 46)).alloc (.cells (madeCells #[.int .i64 0] m) 3)).drew = V3 from hV3]
    have hs3 : V3.heap.size = w.heap.size + 3 := by rw [← hV3]; simp
    have hb3 : Below w.heap.size w V3 := by rw [← hV3]; exact below_drewN (bel_al (bel_al (bel_al (Below.refl _ _) _) _) _) 1
    have hx3 : V3.heap[w.heap.size]? = some (.cells #[(.slice none 0 0), (.slice none 0 0), (.slice none 0 0)] 26 (0, 0)) := by
      rw [← hV3]
      show (((w.alloc _).alloc _).alloc _).heap[w.heap.size]? = _
      rw [Below.heap_alloc _ _ _ (by simp; omega), Below.heap_alloc _ _ _ (by simp)]
      exact heap_alloc_new w _
    obtain ⟨p1, p2⟩ := put3 (.slice (some ⟨w.heap.size + 1, 0, none⟩) m m) (.slice (some ⟨w.heap.size + 2, 0, none⟩) m m) (.slice none 0 0) hx3
    have hN : V3.heap[w.heap.size + 1]? = some (.cells (madeCells #[(.slice none 0 0)] m) 46 (0, 0)) := by
      rw [← hV3]
      show (((w.alloc _).alloc _).alloc _).heap[w.heap.size + 1]? = _
      rw [Below.heap_alloc _ _ _ (by simp)]
      have := heap_alloc_new (w.alloc (wbox (.slice none 0 0) (.slice none 0 0) (.slice none 0 0))) (.cells (madeCells #[(.slice none 0 0)] m) 46)
      rw [World.size_alloc] at this
      exact this
    have hC : V3.heap[w.heap.size + 2]? = some (.cells (madeCells #[.int .i64 0] m) 3 (0, 0)) := by
      rw [← hV3]
      show (((w.alloc _).alloc _).alloc _).heap[w.heap.size + 2]? = _
      have := heap_alloc_new ((w.alloc (wbox (.slice none 0 0) (.slice none 0 0) (.slice none 0 0))).alloc (.cells (madeCells #[(.slice none 0 0)] m) 46)) (.cells (madeCells #[.int .i64 0] m) 3)
      rw [World.size_alloc, World.size_alloc] at this
      exact this
    have hN4 := (p2.block _ (by rw [hs3]; omega) (fun e => by have := Option.some.inj e; omega)).trans hN
    have hC4 := (p2.block _ (by rw [hs3]; omega) (fun e => by have := Option.some.inj e; omega)).trans hC
    have hWF : WIn _ (.agg #[.slice (some ⟨w.heap.size + 1, 0, none⟩) m m, .slice (some ⟨w.heap.size + 2, 0, none⟩) m m, (.slice none 0 0)]) (⟨List.replicate m [], List.replicate m 0, []⟩ : Wd) := ⟨some ⟨w.heap.size + 1, 0, none⟩, m, some ⟨w.heap.size + 2, 0, none⟩, m, none, 0, by simp, NsIn.made hN4 (by omega), CsIn.made hC4 (by omega), MsIn.zero _⟩
    have hBF := hb3.grown p2 (by omega) (fun q e => by cases e; exact Nat.le_refl _)
    have y0 := heap_row (i := 0) hx3
    have y1 := heap_row (i := 1) hx3
    have y2 := heap_row (i := 2) hx3
    have f0 := frozen_of_row _ _ 0 _ _ hx3
    have f1 := frozen_of_row _ _ 1 _ _ hx3
    have f2 := frozen_of_row _ _ 2 _ _ hx3
    have HP := hide p1
    have HW := hide hWF
    have HV : Hid (VFrom w.heap.size (((V3.setCell ⟨w.heap.size, 0, none⟩ (.slice (some ⟨w.heap.size + 1, 0, none⟩) m m)).setCell ⟨w.heap.size, 1, none⟩ (.slice (some ⟨w.heap.size + 2, 0, none⟩) m m)).setCell ⟨w.heap.size, 2, none⟩ (.slice none 0 0)).heap.size (.agg #[.slice (some ⟨w.heap.size + 1, 0, none⟩) m m, .slice (some ⟨w.heap.size + 2, 0, none⟩) m m, (.slice none 0 0)])) := hide (by
      rintro b ⟨a1, n1, c1, a2, n2, c2, a3, n3, c3, o, e, h⟩
      cases e
      have hps := p2.size
      rcases h with h | h | h
      · cases h; omega
      · cases h; omega
      · cases h)
    have HB := hide hBF
    clear hs3 hb3 hx3 p1 p2 hN hC hN4 hC4 hWF hBF hV3
    refine wpAnyH_take (i := 4) (v := .agg #[.slice (some ⟨w.heap.size + 1, 0, none⟩) m m, .slice (some ⟨w.heap.size + 2, 0, none⟩) m m, (.slice none 0 0)]) rfl (by kernel_rfl) (by kernel_rfl) (by kernel_rfl) (fun _ _ _ h => h) (Or.inl ⟨by rfl, fun W hS => by go_simp⟩) hHeld ?_
    simp only [Act.put, List.setIfInBounds_toArray, List.set_cons_zero, List.set_cons_succ]
    refine wpAnyH_ready (rs := [5]) (by kernel_rfl) (by simp) (AllReadyH.cons rfl (fun K hK => ?_) AllReadyH.nil)
    go_simp
    refine hK.out _ _ trivial (fun _ => ?_)
    clear hK K
    refine wpAnyH_ready (rs := [6]) (by kernel_rfl) (by simp) (AllReadyH.cons rfl (fun K hK => ?_) AllReadyH.nil)
    go_simp
    refine hK.out _ _ trivial (fun _ => ?_)
    clear hK K y0 y1 y2 f0 f1 f2
    refine wpAnyH_done (by kernel_rfl) ?_ _
    go_wp2
    refine bodyPost_ret (v := .tuple #[.agg #[.slice (some ⟨w.heap.size + 1, 0, none⟩) m m, .slice (some ⟨w.heap.size + 2, 0, none⟩) m m, (.slice none 0 0)], .int .i64 0]) ?_ rfl ⟨_, rfl, unhide HW, unhide HV, unhide HB⟩
    exact results_wt rfl _ _ w.heap.size _ _ rfl (wd_load (unhide HP)) rfl
  · go_simp
    refine hK.out _ _ trivial (fun _ => ?_)
    clear hK K
    refine wpAnyH_ready (rs := [1]) (by kernel_rfl) (by simp) (AllReadyH.cons rfl (fun K hK => ?_) AllReadyH.nil)
    go_simp
    refine hK.out _ _ trivial (fun _ => ?_)
    clear hK K
    obtain ⟨V3, hV3⟩ : ∃ V3, (((w.alloc (wbox (.slice none 0 0) (.slice none 0 0) (.slice none 0 0))).alloc (.cells (madeCells #[.int .i64 0] m) 3)).alloc (.cells (madeCells #[(.slice none 0 0)] m) 46)).drew = V3 := ⟨_, rfl⟩
    rw [show (((w.alloc (wbox (.slice none 0 0) (.slice none 0 0) (.slice none 0 0))).alloc (.cells (madeCells #[.int .i64 0] m) 3)).alloc (.cells (madeCells #[(.slice none 0 0)] m) 46)).drew = V3 from hV3]
    have hs3 : V3.heap.size = w.heap.size + 3 := by rw [← hV3]; simp
    have hb3 : Below w.heap.size w V3 := by rw [← hV3]; exact below_drewN (bel_al (bel_al (bel_al (Below.refl _ _) _) _) _) 1
    have hx3 : V3.heap[w.heap.size]? = some (.cells #[(.slice none 0 0), (.slice none 0 0), (.slice none 0 0)] 26 (0, 0)) := by
      rw [← hV3]
      show (((w.alloc _).alloc _).alloc _).heap[w.heap.size]? = _
      rw [Below.heap_alloc _ _ _ (by simp; omega), Below.heap_alloc _ _ _ (by simp)]
      exact heap_alloc_new w _
    obtain ⟨p1, p2⟩ := put3 (.slice (some ⟨w.heap.size + 2, 0, none⟩) m m) (.slice (some ⟨w.heap.size + 1, 0, none⟩) m m) (.slice none 0 0) hx3
    have hN : V3.heap[w.heap.size + 2]? = some (.cells (madeCells #[(.slice none 0 0)] m) 46 (0, 0)) := by
      rw [← hV3]
      show (((w.alloc _).alloc _).alloc _).heap[w.heap.size + 2]? = _
      have := heap_alloc_new ((w.alloc (wbox (.slice none 0 0) (.slice none 0 0) (.slice none 0 0))).alloc (.cells (madeCells #[.int .i64 0] m) 3)) (.cells (madeCells #[(.slice none 0 0)] m) 46)
      rw [World.size_alloc, World.size_alloc] at this
      exact this
    have hC : V3.heap[w.heap.size + 1]? = some (.cells (madeCells #[.int .i64 0] m) 3 (0, 0)) := by
      rw [← hV3]
      show (((w.alloc _).alloc _).alloc _).heap[w.heap.size + 1]? = _
      rw [Below.heap_alloc _ _ _ (by simp)]
      have := heap_alloc_new (w.alloc (wbox (.slice none 0 0) (.slice none 0 0) (.slice none 0 0))) (.cells (madeCells #[.int .i64 0] m) 3)
      rw [World.size_alloc] at this
      exact this
    have hN4 := (p2.block _ (by rw [hs3]; omega) (fun e => by have := Option.some.inj e; omega)).trans hN
    have hC4 := (p2.block _ (by rw [hs3]; omega) (fun e => by have := Option.some.inj e; omega)).trans hC
    have hWF : WIn _ (.agg #[.slice (some ⟨w.heap.size + 2, 0, none⟩) m m, .slice (some ⟨w.heap.size + 1, 0, none⟩) m m, (.slice none 0 0)]) (⟨List.replicate m [], List.replicate m 0, []⟩ : Wd) := ⟨some ⟨w.heap.size + 2, 0, none⟩, m, some ⟨w.heap.size + 1, 0, none⟩, m, none, 0, by simp, NsIn.made hN4 (by omega), CsIn.made hC4 (by omega), MsIn.zero _⟩
    have hBF := hb3.grown p2 (by omega) (fun q e => by cases e; exact Nat.le_refl _)
    have y0 := heap_row (i := 0) hx3
    have y1 := heap_row (i := 1) hx3
    have y2 := heap_row (i := 2) hx3
    have f0 := frozen_of_row _ _ 0 _ _ hx3
    have f1 := frozen_of_row _ _ 1 _ _ hx3
    have f2 := frozen_of_row _ _ 2 _ _ hx3
    have HP := hide p1
    have HW := hide hWF
    have HV : Hid (VFrom w.heap.size (((V3.setCell ⟨w.heap.size, 0, none⟩ (.slice (some ⟨w.heap.size + 2, 0, none⟩) m m)).setCell ⟨w.heap.size, 1, none⟩ (.slice (some ⟨w.heap.size + 1, 0, none⟩) m m)).setCell ⟨w.heap.size, 2, none⟩ (.slice none 0 0)).heap.size (.agg #[.slice (some ⟨w.heap.size + 2, 0, none⟩) m m, .slice (some ⟨w.heap.size + 1, 0, none⟩) m m, (.slice none 0 0)])) := hide (by
      rintro b ⟨a1, n1, c1, a2, n2, c2, a3, n3, c3, o, e, h⟩
      cases e
      have hps := p2.size
      rcases h with h | h | h
      · cases h; omega
      · cases h; omega
      · cases h)
    have HB := hide hBF
    clear hs3 hb3 hx3 p1 p2 hN hC hN4 hC4 hWF hBF hV3
    refine wpAnyH_take (i := 4) (v := .agg #[.slice (some ⟨w.heap.size + 2, 0, none⟩) m m, .slice (some ⟨w.heap.size + 1, 0, none⟩) m m, (.slice none 0 0)]) rfl (by kernel_rfl) (by kernel_rfl) (by kernel_rfl) (fun _ _ _ h => h) (Or.inl ⟨by rfl, fun W hS => by go_simp⟩) hHeld ?_
    simp only [Act.put, List.setIfInBounds_toArray, List.set_cons_zero, List.set_cons_succ]
    refine wpAnyH_ready (rs := [5]) (by kernel_rfl) (by simp) (AllReadyH.cons rfl (fun K hK => ?_) AllReadyH.nil)
    go_simp
    refine hK.out _ _ trivial (fun _ => ?_)
    clear hK K
    refine wpAnyH_ready (rs := [6]) (by kernel_rfl) (by simp) (AllReadyH.cons rfl (fun K hK => ?_) AllReadyH.nil)
    go_simp
    refine hK.out _ _ trivial (fun _ => ?_)
    clear hK K y0 y1 y2 f0 f1 f2
    refine wpAnyH_done (by kernel_rfl) ?_ _
    go_wp2
    refine bodyPost_ret (v := .tuple #[.agg #[.slice (some ⟨w.heap.size + 2, 0, none⟩) m m, .slice (some ⟨w.heap.size + 1, 0, none⟩) m m, (.slice none 0 0)], .int .i64 0]) ?_ rfl ⟨_, rfl, unhide HW, unhide HV, unhide HB⟩
    exact results_wt rfl _ _ w.heap.size _ _ rfl (wd_load (unhide HP)) rfl
theorem new_w (n : Int) (w : World) : Calls Tryz.prog 14 #[.int .i64 n] w (DoA w (newE n) (newW n)) := by
  by_cases h : n < 1 ∨ 4 < n
  · have e : newE n = 3 := by unfold newE; rw [if_pos h]
    have e2 : newW n = noW := by unfold newW; rw [e, if_neg (by decide)]
    rw [e, e2]
    exact new_bad n w h
  · obtain ⟨m, rfl⟩ : ∃ m : Nat, n = (m : Int) := ⟨n.toNat, by omega⟩
    have e : newE (m : Int) = 0 := by unfold newE; rw [if_neg h]
    have e2 : newW (m : Int) = ⟨List.replicate m [], List.replicate m 0, []⟩ := by unfold newW; rw [e, if_pos rfl]; simp
    rw [e, e2]
    exact new_good m w (by omega) (by omega)
end Go.Proofs.YtmgmganbamjnmaaGreatDoor

/-
  Package world: Run.
-/
namespace Go.Proofs.YtmgmganbamjnmaaGreatDoor
open Go.RowKit
set_option linter.unusedVariables false
set_option linter.unusedSimpArgs false
set_option maxRecDepth 100000

/-- a script in memory -/
structure HsIn (w : World) (a : Option Addr) (c : Nat) (xs : List Hp) : Prop where
  cap : xs.length ≤ c
  capm : c ≤ 9223372036854775807
  lim : xs.length ≤ 2199023255552
  at_ : xs = [] ∨ ∃ b o, a = some ⟨b, o, none⟩ ∧ b < w.heap.size ∧ ∀ (j : Nat) (x : Hp), xs[j]? = some x → ∃ ab cb, w.cell? ⟨b, o + j * 5, none⟩ = some (.int .i64 x.kind) ∧ w.cell? ⟨b, o + j * 5 + 1, none⟩ = some (.int .i64 x.node) ∧ w.cell? ⟨b, o + j * 5 + 2, none⟩ = some (.int .i64 x.dst) ∧ w.cell? ⟨b, o + j * 5 + 3, none⟩ = some (.string (B x.name)) ∧ w.cell? ⟨b, o + j * 5 + 4, none⟩ = some (.slice ab x.bytes.length cb) ∧ HpAt w x ab cb
theorem HsIn.get {w W : World} {a : Option Addr} {c j : Nat} {xs : List Hp} {x : Hp} (h : HsIn w a c xs) (hB : Below w.heap.size w W) (hj : xs[j]? = some x) : ∃ b o ab cb, a = some ⟨b, o, none⟩ ∧ b < w.heap.size ∧ W.cell? ⟨b, o + j * 5, none⟩ = some (.int .i64 x.kind) ∧ W.cell? ⟨b, o + j * 5 + 1, none⟩ = some (.int .i64 x.node) ∧ W.cell? ⟨b, o + j * 5 + 2, none⟩ = some (.int .i64 x.dst) ∧ W.cell? ⟨b, o + j * 5 + 3, none⟩ = some (.string (B x.name)) ∧ W.cell? ⟨b, o + j * 5 + 4, none⟩ = some (.slice ab x.bytes.length cb) ∧ HpAt W x ab cb := by
  rcases h.at_ with h1 | ⟨b, o, h1, h2, h3⟩
  · subst h1; simp at hj
  · obtain ⟨ab, cb, k0, k1, k2, k3, k4, k5⟩ := h3 j x hj
    exact ⟨b, o, ab, cb, h1, h2, cell_bel k0 hB (Nat.le_refl _), cell_bel k1 hB (Nat.le_refl _), cell_bel k2 hB (Nat.le_refl _), cell_bel k3 hB (Nat.le_refl _), cell_bel k4 hB (Nat.le_refl _), k5.below hB⟩
theorem HsIn.below {w W : World} {a : Option Addr} {c : Nat} {xs : List Hp} (h : HsIn w a c xs) (hB : Below w.heap.size w W) : HsIn W a c xs := by
  refine ⟨h.cap, h.capm, h.lim, ?_⟩
  rcases h.at_ with h1 | ⟨b, o, h1, h2, h3⟩
  · exact .inl h1
  · refine .inr ⟨b, o, h1, Nat.lt_of_lt_of_le h2 hB.size, fun j x hj => ?_⟩
    obtain ⟨ab, cb, k0, k1, k2, k3, k4, k5⟩ := h3 j x hj
    exact ⟨ab, cb, cell_bel k0 hB (Nat.le_refl _), cell_bel k1 hB (Nat.le_refl _), cell_bel k2 hB (Nat.le_refl _), cell_bel k3 hB (Nat.le_refl _), cell_bel k4 hB (Nat.le_refl _), k5.below hB⟩
abbrev en (es : List Nat) : List Int := es.map fun e : Nat => (e : Int)
theorem info_errno : (Tryz.prog.info? 31).map (fun i => (i.zero, i.size, i.bytes)) = some (some (.int .i64 0), 1, 8) := by kernel_rfl
theorem app_e (w : World) (ty : TypeId) {Bs g : Nat} {v : Value} {es : List Nat} {e : Nat} (h : TRow w Bs 31 1 v es.length (iv (en es))) (hc : w.cell? ⟨g, 0, none⟩ = some (.int .i64 (e : Int))) (hl : es.length ≤ 1000) (hB : Bs ≤ w.heap.size) :
    ∃ v' w', (Builtin.append_ #[39, 39] ty #[v, .slice (some ⟨g, 0, none⟩) 1 1]).run Tryz.prog w = .ok v' w' ∧ TRow w' Bs 31 1 v' (es ++ [e]).length (iv (en (es ++ [e]))) ∧ w.grownBy w' v.ownBlock ∧ (v'.ownBlock = v.ownBlock ∨ v'.ownBlock = some w.heap.size) := by
  obtain ⟨i0, hi, hz0, hz1, hz2⟩ := info_parts info_errno
  have e1 : iv (en (es ++ [e])) = iv (en es) ++ [.int .i64 (e : Int)] := by simp [iv, en]
  rw [e1, List.length_append, List.length_singleton]
  exact run_append_T w Bs 39 ty 31 i0 _ 1 8 Tryz.underlying39 hi hz0 hz1 hz2 rfl (by decide) (fun u hu => by simp [Value.cells] at hu; subst hu; rfl) v _ _ h (some ⟨g, 0, none⟩) 1 1 [.int .i64 (e : Int)] (fun e => by cases e) rfl (fun a ha j u hj => by cases ha; exact new_cell hc hj) (fun u hu => by simp at hu; subst hu; rfl) (fun u hu => by simp at hu; subst hu; rfl) (by omega) (by decide) hB
/-- the world under way, what was said -/
structure RSt (w0 W : World) (v1 v2 v3 : Value) (Wk : Wd) (vs : Value) (es : List Nat) : Prop where
  bel : Below w0.heap.size w0 W
  box : W.heap[w0.heap.size]? = some (.cells #[v1, v2, v3] 26 (0, 0))
  win : WIn W (.agg #[v1, v2, v3]) Wk
  row : TRow W (w0.heap.size + 1) 31 1 vs es.length (iv (en es))
  off : ∀ b, vBlocks (.agg #[v1, v2, v3]) b → some b ≠ vs.ownBlock ∧ b ≠ w0.heap.size ∧ b < W.heap.size
theorem RSt.lt {w0 W : World} {v1 v2 v3 vs : Value} {Wk : Wd} {es : List Nat} (h : RSt w0 W v1 v2 v3 Wk vs es) : w0.heap.size < W.heap.size := (Array.getElem?_eq_some_iff.1 h.box).1
theorem RSt.below {w0 W W' : World} {v1 v2 v3 vs : Value} {Wk : Wd} {es : List Nat} (h : RSt w0 W v1 v2 v3 Wk vs es) (hB : Below W.heap.size W W') : RSt w0 W' v1 v2 v3 Wk vs es :=
  ⟨h.bel.trans (hB.mono h.bel.size), (hB.block _ h.lt).trans h.box, h.win.below hB, h.row.below hB, fun b hb => ⟨(h.off b hb).1, (h.off b hb).2.1, Nat.lt_of_lt_of_le (h.off b hb).2.2 hB.size⟩⟩
theorem WIn.sl {w : World} {v1 v2 v3 : Value} {W : Wd} (h : WIn w (.agg #[v1, v2, v3]) W) : ∃ a1 c1 a2 c2 a3 c3, v1 = .slice a1 W.nodes.length c1 ∧ v2 = .slice a2 W.clock.length c2 ∧ v3 = .slice a3 W.net.length c3 := by
  obtain ⟨a1, c1, a2, c2, a3, c3, e, _⟩ := h
  cases e
  exact ⟨a1, c1, a2, c2, a3, c3, rfl, rfl, rfl⟩
/-- another world is stored in the box -/
theorem RSt.put {w0 W : World} {v1 v2 v3 u1 u2 u3 vs : Value} {Wk W' : Wd} {es : List Nat} (h : RSt w0 W v1 v2 v3 Wk vs es) (hw : WIn W (.agg #[u1, u2, u3]) W') (hu : ∀ b, vBlocks (.agg #[u1, u2, u3]) b → some b ≠ vs.ownBlock ∧ b ≠ w0.heap.size ∧ b < W.heap.size) :
    RSt w0 (((W.setCell ⟨w0.heap.size, 0, none⟩ u1).setCell ⟨w0.heap.size, 1, none⟩ u2).setCell ⟨w0.heap.size, 2, none⟩ u3) u1 u2 u3 W' vs es := by
  obtain ⟨p1, p2⟩ := put3 u1 u2 u3 h.box
  have hnf : NFb W w0.heap.size := by
    obtain ⟨a1, c1, a2, c2, a3, c3, e1, e2, e3⟩ := h.win.sl
    have hb := h.box
    rw [e1, e2, e3] at hb
    exact nf3 hb
  refine ⟨h.bel.grown p2 h.bel.size (fun q e => by cases e; exact Nat.le_refl _), p1, hw.offV p2 (fun g e => by cases e; exact hnf) (fun b hb e => (hu b hb).2.1 (Option.some.inj e)), h.row.kept p2 (own_off h.row), fun b hb => ⟨(hu b hb).1, (hu b hb).2.1, Nat.lt_of_lt_of_le (hu b hb).2.2 p2.size⟩⟩
/-- one more is said -/
theorem RSt.say {w0 W W' : World} {v1 v2 v3 vs vs' : Value} {Wk : Wd} {es es' : List Nat} (h : RSt w0 W v1 v2 v3 Wk vs es) (hT : TRow W' (w0.heap.size + 1) 31 1 vs' es'.length (iv (en es'))) (hg : W.grownBy W' vs.ownBlock) (hat : vs'.ownBlock = vs.ownBlock ∨ vs'.ownBlock = some W.heap.size) : RSt w0 W' v1 v2 v3 Wk vs' es' := by
  have hr : ∀ g, vs.ownBlock = some g → w0.heap.size + 1 ≤ g := fun g e => (h.row.lt e).1
  refine ⟨h.bel.grown hg h.bel.size (fun g e => by have := hr g e; omega), ?_, h.win.offV hg (fun g e => h.row.nf g e) (fun b hb => (h.off b hb).1), hT, fun b hb => ⟨?_, (h.off b hb).2.1, Nat.lt_of_lt_of_le (h.off b hb).2.2 hg.size⟩⟩
  · rw [hg.block _ h.lt (fun e => by have := hr _ e.symm; omega)]
    exact h.box
  · rcases hat with e | e
    · rw [e]; exact (h.off b hb).1
    · rw [e]
      intro e2
      have := (h.off b hb).2.2
      have := Option.some.inj e2
      omega
/-- what Run answers -/
def RunA (w : World) (E : Nat) (W : Wd) (S : List Nat) (e : Ending) (w' : World) : Prop := ∃ v a c, e = .returned (.tuple #[v, .slice a S.length c, .int .i64 (E : Int)]) ∧ WIn w' v W ∧ VFrom w.heap.size w'.heap.size v ∧ CsIn w' a c (en S) ∧ Below w.heap.size w w'
theorem run_step {W : Wd} {xs : List Hp} {k : Nat} {x : Hp} (h : xs[k]? = some x) : runW W (xs.drop k) = runW (if doE W x = 0 then doW W x else W) (xs.drop (k + 1)) ∧ runS W (xs.drop k) = doE W x :: runS (if doE W x = 0 then doW W x else W) (xs.drop (k + 1)) := by
  obtain ⟨hk, he⟩ := List.getElem?_eq_some_iff.1 h
  rw [List.drop_eq_getElem_cons hk, he]
  exact ⟨rfl, rfl⟩
theorem results_wtt {fn : Func} {p u r : Tmp} {ty : TypeId} (h : fn.results = #[.cell p ty, .tmp u, .tmp r]) (tmps : Array Value) (w : World) (g : Nat) (v x y : Value)
    (hp : tmps.getD p undef = .pointer (some ⟨g, 0, none⟩)) (hv : (loadVar ty ⟨g, 0, none⟩).run Tryz.prog w = .ok v w) (hx : tmps.getD u undef = x) (hy : tmps.getD r undef = y) :
    (results fn tmps).run Tryz.prog w = .ok (.tuple #[v, x, y]) w := by
  have hp' : tmps[p]?.getD undef = .pointer (some ⟨g, 0, none⟩) := by simpa using hp
  have hx' : tmps[u]?.getD undef = x := by simpa using hx
  have hy' : tmps[r]?.getD undef = y := by simpa using hy
  simp [results, h, hp', hx', hy', asAddr, hv]
theorem TRow.es {w : World} {Bs : Nat} {v : Value} {es : List Nat} (h : TRow w Bs 31 1 v es.length (iv (en es))) (hl : es.length ≤ 1000) : ∃ a c, v = .slice a es.length c ∧ CsIn w a c (en es) := by
  have e : (en es).length = es.length := by simp [en]
  rcases h.own.2 with ⟨h1, h2⟩ | ⟨g, cap, cur, h1, h2, h3, h4, h5, h6, h7⟩
  · have h0 : es = [] := List.eq_nil_of_length_eq_zero h2
    subst h0
    exact ⟨none, 0, h1, CsIn.zero w⟩
  · refine ⟨_, _, h1, by rw [e]; exact h4, by unfold maxLen at h5; omega, by omega, (fun e => by cases e), .inr ⟨g, 0, rfl, (h.lt (g := g) (by rw [h1]; rfl)).2, fun j x hx => ?_⟩⟩
    have hown := h.own
    rw [h1] at hown
    have hjl := (List.getElem?_eq_some_iff.1 hx).1
    rw [Nat.zero_add, hown.cellAt _ (by omega)]
    unfold iv
    rw [List.getElem?_map, hx]
    rfl
end Go.Proofs.YtmgmganbamjnmaaGreatDoor
