/-
  The law WorldOrder.
-/
import Derived.Test.YtnhddmganijilaiDoorQ44
import Derived.Test.YtnhddmganijilaiDoorQ60
import Derived.Test.YtnhddmganijilaiDoorQ45
namespace Go.Proofs.YtnhddmganijilaiDoor
open Go.RowKit
set_option linter.unusedVariables false
set_option linter.unusedSimpArgs false
set_option maxRecDepth 100000

set_option maxHeartbeats 4000000 in
theorem worldOrder_no {w : World} {v : Value} {W : Wd} (h : WIn w v W) (i k : Int) (hbad : ¬ errWd W = 0 ∨ W.net.length < 2) : Calls Tryd.prog 5 #[v, .int .i64 i, .int .i64 k] w fun e w' => e = .returned (.bool true) ∧ Below w.heap.size w w' := by
  obtain ⟨p1, m1, q1, p2, m2, q2, p3, m3, q3, rfl, hm1, hm2, hm3⟩ := h.vals
  have hb0 := WB.new h
  have HB0 := hide (bel_al (Below.refl w.heap.size w) (wbox (.slice p1 m1 q1) (.slice p2 m2 q2) (.slice p3 m3 q3)))
  have HT := hide (told_any (w.alloc (wbox (.slice p1 m1 q1) (.slice p2 m2 q2) (.slice p3 m3 q3))))
  rw [hm3] at hbad
  obtain ⟨E, hE⟩ : ∃ E, errWd W = E := ⟨_, rfl⟩
  rw [hE] at hbad
  have HW0 := hide hb0
  have HE := hide hE
  obtain ⟨x0, x1, x2⟩ := hb0.cells
  clear h hb0 hm1 hm2 hm3 hE
  go_enter Tryd.func5, Tryd.ntmps5
  go_wp2_with fail
  clear x0 x1 x2
  refine (unhide HT).mono ?_
  rintro e w1 ⟨rfl, hB1⟩
  have hbx := (unhide HW0).below hB1
  have HB1 := hide (bt (unhide HB0) hB1)
  have HC := hide (check_w hbx.win)
  rw [unhide HE] at HC
  obtain ⟨x0, x1, x2⟩ := hbx.cells
  have HWx := hide hbx
  clear hB1 hbx HW0 HT
  go_wp2_with fail
  refine (unhide HC).mono ?_
  rintro e w2 ⟨rfl, hB2⟩
  clear x0 x1 x2
  have hbx := (unhide HWx).below hB2
  have HB2 := hide (bt (unhide HB1) hB2)
  obtain ⟨x0, x1, x2⟩ := hbx.cells
  have HW2 := hide hbx
  clear hB2 hbx HWx HC
  by_cases hE0 : E = 0
  · subst hE0
    have hz2 : (m3 : Int) < 2 := by omega
    clear hbad
    have HT2 := hide (told_any w2)
    go_wp2_with fail
    refine (unhide HT2).mono ?_
    rintro e w3 ⟨rfl, hB3⟩
    have HB3 := hide (bt (unhide HB2) hB3)
    clear hB3
    go_wp2
    go_ret
    exact ⟨rfl, unhide HB3⟩
  · obtain ⟨hn1, hn2⟩ := nat_ne hE0
    clear hbad hE0
    have HT2 := hide (told_any w2)
    go_wp2_with fail
    refine (unhide HT2).mono ?_
    rintro e w3 ⟨rfl, hB3⟩
    have HB3 := hide (bt (unhide HB2) hB3)
    clear hB3
    go_wp2
    go_ret
    exact ⟨rfl, unhide HB3⟩
theorem arr_full {W : Wd} {p : Nat} (h : WdOk W) (hp : p < W.net.length) (nd : Int) (nm bs : List UInt8) : doE W ⟨4, nd, p, nm, bs⟩ = 0 ∨ doE W ⟨4, nd, p, nm, bs⟩ = 11 := by
  obtain ⟨mm, hmm⟩ := get_some (l := W.net) hp
  have hmo := h.ms mm (List.mem_of_getElem? hmm)
  obtain ⟨d, fl⟩ := mm
  obtain ⟨kk, hdk, hkn⟩ := nat_of (isP_true.2 ⟨hmo.lo, hmo.hi⟩)
  simp only at hdk
  subst hdk
  obtain ⟨l, ck, hl, hc, hn⟩ := h.node hkn
  rw [(arr_is h hmm hl nd nm bs).1]
  exact bothE_full2 hn.m hmo.fl
set_option maxHeartbeats 8000000 in
theorem worldOrder_yes {w : World} {v : Value} {W : Wd} (h : WIn w v W) (i k : Int) (hok : WdOk W) (h2 : 2 ≤ W.net.length) : Calls Tryd.prog 5 #[v, .int .i64 i, .int .i64 k] w fun e w' => e = .returned (.bool true) ∧ Below w.heap.size w w' := by
  obtain ⟨p1, m1, q1, p2, m2, q2, p3, m3, q3, rfl, hm1, hm2, hm3⟩ := h.vals
  have hb0 := WB.new h
  have HB0 := hide (bel_al (Below.refl w.heap.size w) (wbox (.slice p1 m1 q1) (.slice p2 m2 q2) (.slice p3 m3 q3)))
  have HT := hide (told_any (w.alloc (wbox (.slice p1 m1 q1) (.slice p2 m2 q2) (.slice p3 m3 q3))))
  have hE : errWd W = 0 := errWd_zero.2 hok
  have HE := hide hE
  have HW0 := hide hb0
  have h20 := hok.nt
  have HOK := hide (And.intro hok hm3)
  rw [hm3] at h2 h20
  have hz2 : ¬ (m3 : Int) < 2 := by omega
  have HAI := hide (fun V => at2_burst i m3 V (by omega) (by omega))
  have HAK := hide (fun V => at2_burst k m3 V (by omega) (by omega))
  obtain ⟨x0, x1, x2⟩ := hb0.cells
  clear h hb0 hm1 hm2 hm3 hE hok
  go_enter Tryd.func5, Tryd.ntmps5
  go_wp2_with fail
  clear x0 x1 x2
  refine (unhide HT).mono ?_
  rintro e w1 ⟨rfl, hB1⟩
  have hbx := (unhide HW0).below hB1
  have HB1 := hide (bt (unhide HB0) hB1)
  have HC := hide (check_w hbx.win)
  rw [unhide HE] at HC
  obtain ⟨x0, x1, x2⟩ := hbx.cells
  have HWx := hide hbx
  clear hB1 hbx HW0 HT
  go_wp2_with fail
  refine (unhide HC).mono ?_
  rintro e w2 ⟨rfl, hB2⟩
  clear x0 x1 x2
  have hbx := (unhide HWx).below hB2
  have HB2 := hide (bt (unhide HB1) hB2)
  obtain ⟨x0, x1, x2⟩ := hbx.cells
  have HW2 := hide hbx
  clear hB2 hbx HWx HC
  go_upto_region 3 with fail
  clear x0 x1 x2
  go_cut [1, 2] (fun v1 v2 wc => ∃ I K : Nat, v1 = .int .i64 (I : Int) ∧ v2 = .int .i64 (K : Int) ∧ I < m3 ∧ K < m3 ∧ Hid (wc = w2.drew))
  case first =>
    have c2 : ∀ W', W' = w2.drew → W'.cell? ⟨w.heap.size, 2, none⟩ = some (.slice p3 m3 q3) := fun W' e => by rw [e]; exact (unhide HW2).cells.2.2
    refine wp_region_held_drew (S := fun W => W = w2.drew) (by kernel_rfl) rfl (fun hHeld => ?_)
    refine wpAnyH_take (i := 0) (v := .int .i64 i) rfl (by kernel_rfl) (by kernel_rfl) (by kernel_rfl) (fun _ _ _ h => h) (Or.inl ⟨by rfl, fun W hS => by go_simp⟩) hHeld ?_
    simp only [Act.put, List.setIfInBounds_toArray, List.set_cons_zero, List.set_cons_succ]
    refine wpAnyH_take (i := 1) (v := .pointer (some ⟨w.heap.size, 2, none⟩)) rfl (by kernel_rfl) (by kernel_rfl) (by kernel_rfl) (fun _ _ _ h => h) (Or.inl ⟨by rfl, fun W hS => by go_simp⟩) hHeld ?_
    simp only [Act.put, List.setIfInBounds_toArray, List.set_cons_zero, List.set_cons_succ]
    refine wpAnyH_take (i := 2) (v := .slice p3 m3 q3) rfl (by kernel_rfl) (by kernel_rfl) (by kernel_rfl) (fun _ _ _ h => h) (Or.inl ⟨by rfl, fun W hS => by have z := c2 W hS; go_simp⟩) hHeld ?_
    simp only [Act.put, List.setIfInBounds_toArray, List.set_cons_zero, List.set_cons_succ]
    refine wpAnyH_take (i := 3) (v := .int .i64 (m3 : Int)) rfl (by kernel_rfl) (by kernel_rfl) (by kernel_rfl) (fun _ _ _ h => h) (Or.inl ⟨by rfl, fun W hS => by go_simp⟩) hHeld ?_
    simp only [Act.put, List.setIfInBounds_toArray, List.set_cons_zero, List.set_cons_succ]
    refine wpAnyH_take (i := 5) (v := .int .i64 k) rfl (by kernel_rfl) (by kernel_rfl) (by kernel_rfl) (fun _ _ _ h => h) (Or.inl ⟨by rfl, fun W hS => by go_simp⟩) hHeld ?_
    simp only [Act.put, List.setIfInBounds_toArray, List.set_cons_zero, List.set_cons_succ]
    refine wpAnyH_take (i := 6) (v := .pointer (some ⟨w.heap.size, 2, none⟩)) rfl (by kernel_rfl) (by kernel_rfl) (by kernel_rfl) (fun _ _ _ h => h) (Or.inl ⟨by rfl, fun W hS => by go_simp⟩) hHeld ?_
    simp only [Act.put, List.setIfInBounds_toArray, List.set_cons_zero, List.set_cons_succ]
    refine wpAnyH_take (i := 7) (v := .slice p3 m3 q3) rfl (by kernel_rfl) (by kernel_rfl) (by kernel_rfl) (fun _ _ _ h => h) (Or.inl ⟨by rfl, fun W hS => by have z := c2 W hS; go_simp⟩) hHeld ?_
    simp only [Act.put, List.setIfInBounds_toArray, List.set_cons_zero, List.set_cons_succ]
    refine wpAnyH_take (i := 8) (v := .int .i64 (m3 : Int)) rfl (by kernel_rfl) (by kernel_rfl) (by kernel_rfl) (fun _ _ _ h => h) (Or.inl ⟨by rfl, fun W hS => by go_simp⟩) hHeld ?_
    simp only [Act.put, List.setIfInBounds_toArray, List.set_cons_zero, List.set_cons_succ]
    refine wpAnyH_ready (rs := [4]) (by kernel_rfl) (by simp) (AllReadyH.cons rfl (fun K hK => ?_) AllReadyH.nil)
    go_simp
    refine (unhide HAI _).mono ?_
    rintro e w' ⟨I, rfl, hI, rfl⟩
    dsimp only
    refine hK.out _ _ hHeld (fun hHeld => ?_)
    clear hK K
    refine wpAnyH_ready (rs := [9]) (by kernel_rfl) (by simp) (AllReadyH.cons rfl (fun K hK => ?_) AllReadyH.nil)
    go_simp
    refine (unhide HAK _).mono ?_
    rintro e w' ⟨K', rfl, hK', rfl⟩
    dsimp only
    refine hK.out _ _ hHeld (fun hHeld => ?_)
    clear hK K
    refine wpAnyH_ready (rs := [10]) (by kernel_rfl) (by simp) (AllReadyH.cons rfl (fun K hK => ?_) AllReadyH.nil)
    go_simp
    refine hK.out _ _ hHeld (fun hHeld => ?_)
    clear hK K
    refine wpAnyH_ready (rs := [11]) (by kernel_rfl) (by simp) (AllReadyH.cons rfl (fun K hK => ?_) AllReadyH.nil)
    go_simp
    refine hK.out _ _ hHeld (fun hHeld => ?_)
    clear hK K
    refine wpAnyH_done (by kernel_rfl) ?_ _
    go_wp2_with fail
    go_meet
    exact ⟨I, K', rfl, rfl, hI, hK', hide rfl⟩
  case rest =>
    obtain ⟨I, K, rfl, rfl, hI, hK, hwc⟩ := hcut
    have hd2 : Below w2.heap.size w2 wc := by rw [unhide hwc]; exact below_drewN (Below.refl _ _) 1
    have HW3 := hide ((unhide HW2).below hd2)
    have HB3 := hide (bt (unhide HB2) hd2)
    clear hwc hd2 HAI HAK HW2 HB2 hz2
    rcases Nat.lt_trichotomy I K with hc | hc | hc
    · skip
      have hIK : I < K := by omega
      have hKm : K < m3 := by omega
      obtain ⟨hok, hm3⟩ := unhide HOK
      have hwr : IntKind.i64.wrap ((K : Int) - 1) = (K : Int) - 1 := by simp [IntKind.wrap, IntKind.signed, IntKind.bits]; omega
      have hE1 := arr_full (p := I) hok (by omega) 0 [] []
      have hE2 := arr_full (p := K) hok (by omega) 0 [] []
      have hOR := order_is hok hIK (by omega : K < W.net.length) 0 [] []
      have ek : ((K - 1 : Nat) : Int) = (K : Int) - 1 := by omega
      rw [ek] at hOR
      obtain ⟨E1, hE1e⟩ : ∃ E1, doE W ⟨4, 0, (I : Int), [], []⟩ = E1 := ⟨_, rfl⟩
      obtain ⟨E2, hE2e⟩ : ∃ E2, doE W ⟨4, 0, (K : Int), [], []⟩ = E2 := ⟨_, rfl⟩
      obtain ⟨A, hAe⟩ : ∃ A, doW W ⟨4, 0, (I : Int), [], []⟩ = A := ⟨_, rfl⟩
      obtain ⟨C, hCe⟩ : ∃ C, doW W ⟨4, 0, (K : Int), [], []⟩ = C := ⟨_, rfl⟩
      rw [hE1e] at hE1
      rw [hE2e] at hE2
      rw [hE1e, hE2e, hAe, hCe] at hOR
      have HD := hide (do_b 4 (I : Int) (unhide HW3).win)
      rw [hE1e, hAe] at HD
      have HDK := hide (fun V (hV : WIn V (.agg #[.slice p1 m1 q1, .slice p2 m2 q2, .slice p3 m3 q3]) W) => do_b 4 (K : Int) hV)
      rw [hE2e, hCe] at HDK
      have HOR := hide hOR
      obtain ⟨x0, x1, x2⟩ := (unhide HW3).cells
      have hgt : ¬ (K : Int) < (I : Int) := by omega
      have hlt : (I : Int) < (K : Int) := by omega
      have hne : ((I : Int) == (K : Int)) = false := by rw [beq_eq_false_iff_ne]; omega
      have hne2 : ((K : Int) == (I : Int)) = false := by rw [beq_eq_false_iff_ne]; omega
      clear hok hm3 hOR hE1e hE2e hAe hCe hIK ek hKm
      go_wp2_with fail
      refine (unhide HD).mono ?_
      rintro e wa ⟨uwa, rfl, hWwa, hVwa, hBwa⟩
      obtain ⟨p1wa, m1wa, q1wa, p2wa, m2wa, q2wa, p3wa, m3wa, q3wa, rfl, -, -, hlwa⟩ := hWwa.vals
      have hAwa := bel_al (Below.refl wa.heap.size wa) (wbox (.slice p1wa m1wa q1wa) (.slice p2wa m2wa q2wa) (.slice p3wa m3wa q3wa))
      have hNwa := WB.new hWwa
      have hBAwa := bt hBwa hAwa
      have hb4 := (unhide HW3).below hBAwa
      have HD2 := hide (unhide HDK _ hb4.win)
      clear x0 x1 x2
      obtain ⟨x0, x1, x2⟩ := hb4.cells
      have Ha := hide hNwa
      have HVa := hide hVwa
      have HB4 := hide (bt (unhide HB3) hBAwa)
      have hsa : w.heap.size ≤ wa.heap.size := (bt (unhide HB3) hBwa).size
      clear hWwa hVwa hBwa hlwa hAwa hNwa hBAwa hb4 HD HDK
      go_wp2_with fail
      refine (unhide HD2).mono ?_
      rintro e wb ⟨uwb, rfl, hWwb, hVwb, hBwb⟩
      obtain ⟨p1wb, m1wb, q1wb, p2wb, m2wb, q2wb, p3wb, m3wb, q3wb, rfl, -, -, hlwb⟩ := hWwb.vals
      have hAwb := bel_al (Below.refl wb.heap.size wb) (wbox (.slice p1wb m1wb q1wb) (.slice p2wb m2wb q2wb) (.slice p3wb m3wb q3wb))
      have hNwb := WB.new hWwb
      have hBAwb := bt hBwb hAwb
      have ha5 := (unhide Ha).below hBAwb
      have HB5 := hide (bt (unhide HB4) hBAwb)
      have hszb := hBwb.size
      rw [World.size_alloc] at hszb
      clear x0 x1 x2 Ha
      by_cases hz : E1 = 0 ∧ E2 = 0
      · obtain ⟨hz1, hz2⟩ := hz
        subst hz1 hz2
        obtain ⟨O1, O2⟩ := unhide HOR rfl rfl
        obtain ⟨E3, hE3⟩ : ∃ E3, doE A ⟨4, 0, (K : Int) - 1, [], []⟩ = E3 := ⟨_, rfl⟩
        obtain ⟨R, hR⟩ : ∃ R, doW A ⟨4, 0, (K : Int) - 1, [], []⟩ = R := ⟨_, rfl⟩
        rw [hE3] at O1
        rw [hR] at O2
        have HD3 := hide (do_b 4 ((K : Int) - 1) ha5.win)
        rw [hE3, hR] at HD3
        obtain ⟨x0, x1, x2⟩ := ha5.cells
        have Ha := hide ha5
        have Hb := hide hNwb
        have HVb := hide hVwb
        have HOO := hide (And.intro O1 O2)
        have HSZ := hide hszb
        clear hWwb hVwb hBwb hlwb hAwb hNwb hBAwb ha5 O1 O2 hE3 hR HD2 hE1 hE2 HOR hszb
        go_wp2_with fail
        refine (unhide HD3).mono ?_
        rintro e wc1 ⟨u, rfl, hWc, hVc, hBc⟩
        obtain ⟨e1, f1, g1, e2, f2, g2, e3, f3, g3, rfl, -, -, -⟩ := hWc.vals
        have hac := (unhide Ha).below hBc
        have hbc := (unhide Hb).below hBc
        have hnf : NFb wc1 wa.heap.size := nf3 hac.box
        obtain ⟨s1, s2⟩ := put3 (.slice e1 f1 g1) (.slice e2 f2 g2) (.slice e3 f3 g3) hac.box
        have hszb := unhide HSZ
        have hWa := hWc.offV s2 (fun g e => by cases e; exact hnf) (fun b hb e => by have := (hVc b hb).1; have := Option.some.inj e; rw [World.size_alloc] at *; omega)
        have hWb := hbc.win.offV s2 (fun g e => by cases e; exact hnf) (fun b hb e => by have := (unhide HVb b hb).1; have := Option.some.inj e; rw [World.size_alloc] at *; omega)
        have hbb := (s2.block wb.heap.size hbc.lt (fun e => by have := Option.some.inj e; omega)).trans hbc.box
        have k0 := heap_row (i := 0) hac.box
        have k1 := heap_row (i := 1) hac.box
        have k2 := heap_row (i := 2) hac.box
        have l0 := frozen_of_row _ _ 0 _ _ hac.box
        have l1 := frozen_of_row _ _ 1 _ _ hac.box
        have l2 := frozen_of_row _ _ 2 _ _ hac.box
        obtain ⟨wd, hwd⟩ : ∃ wd, ((wc1.setCell ⟨wa.heap.size, 0, none⟩ (.slice e1 f1 g1)).setCell ⟨wa.heap.size, 1, none⟩ (.slice e2 f2 g2)).setCell ⟨wa.heap.size, 2, none⟩ (.slice e3 f3 g3) = wd := ⟨_, rfl⟩
        rw [hwd] at s1 s2 hWa hWb hbb
        have hWBa : WB wd wa.heap.size (.slice e1 f1 g1) (.slice e2 f2 g2) (.slice e3 f3 g3) R := ⟨s1, hWa⟩
        have hWBb : WB wd wb.heap.size _ _ _ C := ⟨hbb, hWb⟩
        have HBd := hide ((bt (unhide HB5) hBc).grown s2 (bt (unhide HB5) hBc).size (fun q e => by cases e; have := (unhide HB3).size; omega))
        have hVr : Hid (∀ b, vBlocks (.agg #[.slice e1 f1 g1, .slice e2 f2 g2, .slice e3 f3 g3]) b → b ≠ wb.heap.size) := hide (fun b hb => by have := (hVc b hb).1; rw [World.size_alloc] at this; omega)
        have HD4 := hide (do_b 4 (I : Int) hWBb.win)
        obtain ⟨O1, O2⟩ := unhide HOO
        rw [← O1, ← O2] at HD4
        have HWA := hide hWBa
        have HWBb := hide hWBb
        have HWd := hide hwd
        have HSC := hide (Nat.lt_of_lt_of_le hbc.lt s2.size)
        clear x0 x1 x2 hWc hVc hBc hac hbc hnf s1 s2 hWa hWb hbb hwd hWBa hWBb HD3 O1 O2 hszb
        go_upto_region 13 with fail
        rw [show ((wc1.setCell ⟨wa.heap.size, 0, none⟩ (.slice e1 f1 g1)).setCell ⟨wa.heap.size, 1, none⟩ (.slice e2 f2 g2)).setCell ⟨wa.heap.size, 2, none⟩ (.slice e3 f3 g3) = wd from unhide HWd]
        clear k0 k1 k2 l0 l1 l2 HWd
        obtain ⟨y0, y1, y2⟩ := (unhide HWBb).cells
        go_wp2_with fail
        refine (unhide HD4).mono ?_
        rintro e we ⟨u, rfl, hWe, hVe, hBe⟩
        obtain ⟨e1', f1', g1', e2', f2', g2', e3', f3', g3', rfl, -, -, -⟩ := hWe.vals
        have hae := (unhide HWA).below hBe
        have hbe := (unhide HWBb).below hBe
        have hnf : NFb we wb.heap.size := nf3 hbe.box
        obtain ⟨s1, s2⟩ := put3 (.slice e1' f1' g1') (.slice e2' f2' g2') (.slice e3' f3' g3') hbe.box
        have hszb := unhide HSZ
        have hsc := unhide HSC
        have hWb := hWe.offV s2 (fun g e => by cases e; exact hnf) (fun b hb e => by have := (hVe b hb).1; have := Option.some.inj e; omega)
        have hWa := hae.win.offV s2 (fun g e => by cases e; exact hnf) (fun b hb e => (unhide hVr b hb) (Option.some.inj e))
        have hba := (s2.block wa.heap.size hae.lt (fun e => by have := Option.some.inj e; omega)).trans hae.box
        have HS := hide (sameW_yes hWa hWb)
        have hBF := (bt (unhide HBd) hBe).grown s2 (bt (unhide HBd) hBe).size (fun q e => by cases e; have := (unhide HB3).size; have := (unhide HB4).size; omega)
        have HBF := hide hBF
        clear y0 y1 y2
        have x0 := heap_row (i := 0) hba
        have x1 := heap_row (i := 1) hba
        have x2 := heap_row (i := 2) hba
        have k0 := heap_row (i := 0) hbe.box
        have k1 := heap_row (i := 1) hbe.box
        have k2 := heap_row (i := 2) hbe.box
        have l0 := frozen_of_row _ _ 0 _ _ hbe.box
        have l1 := frozen_of_row _ _ 1 _ _ hbe.box
        have l2 := frozen_of_row _ _ 2 _ _ hbe.box
        have z0 := heap_row (i := 0) s1
        have z1 := heap_row (i := 1) s1
        have z2 := heap_row (i := 2) s1
        have hee : ((E3 : Int) == (E3 : Int)) = true := by simp
        clear hWe hVe hBe hae hbe hnf s1 s2 hWb hWa hba hBF HD4 hszb hsc
        go_wp2_with fail
        refine (unhide HS).mono ?_
        rintro e wf ⟨rfl, hBf⟩
        have HBf := hide ((unhide HBF).trans (hBf.mono (unhide HBF).size))
        clear hBf x0 x1 x2 k0 k1 k2 l0 l1 l2 z0 z1 z2
        go_wp2
        go_ret
        exact ⟨rfl, unhide HBf⟩
      · clear hWwb hVwb hBwb hlwb hAwb hNwb hBAwb ha5 HD2 HOR hszb
        rcases hE1 with rfl | rfl
        · rcases hE2 with rfl | rfl
          · exact absurd ⟨rfl, rfl⟩ hz
          · clear hz
            go_wp2
            go_ret
            exact ⟨rfl, unhide HB5⟩
        · clear hz
          rcases hE2 with rfl | rfl
          · go_wp2
            go_ret
            exact ⟨rfl, unhide HB5⟩
          · go_wp2
            go_ret
            exact ⟨rfl, unhide HB5⟩
    · subst hc
      have hee : ((I : Int) == (I : Int)) = true := by simp
      go_wp2
      go_ret
      exact ⟨rfl, unhide HB3⟩
    · obtain ⟨X, hX⟩ : ∃ X, X = I := ⟨_, rfl⟩
      subst hX
      obtain ⟨I, hX⟩ : ∃ I, I = K := ⟨_, rfl⟩
      subst hX
      obtain ⟨K, hX⟩ : ∃ K, K = X := ⟨_, rfl⟩
      subst hX
      have hIK : I < K := by omega
      have hKm : K < m3 := by omega
      obtain ⟨hok, hm3⟩ := unhide HOK
      have hwr : IntKind.i64.wrap ((K : Int) - 1) = (K : Int) - 1 := by simp [IntKind.wrap, IntKind.signed, IntKind.bits]; omega
      have hE1 := arr_full (p := I) hok (by omega) 0 [] []
      have hE2 := arr_full (p := K) hok (by omega) 0 [] []
      have hOR := order_is hok hIK (by omega : K < W.net.length) 0 [] []
      have ek : ((K - 1 : Nat) : Int) = (K : Int) - 1 := by omega
      rw [ek] at hOR
      obtain ⟨E1, hE1e⟩ : ∃ E1, doE W ⟨4, 0, (I : Int), [], []⟩ = E1 := ⟨_, rfl⟩
      obtain ⟨E2, hE2e⟩ : ∃ E2, doE W ⟨4, 0, (K : Int), [], []⟩ = E2 := ⟨_, rfl⟩
      obtain ⟨A, hAe⟩ : ∃ A, doW W ⟨4, 0, (I : Int), [], []⟩ = A := ⟨_, rfl⟩
      obtain ⟨C, hCe⟩ : ∃ C, doW W ⟨4, 0, (K : Int), [], []⟩ = C := ⟨_, rfl⟩
      rw [hE1e] at hE1
      rw [hE2e] at hE2
      rw [hE1e, hE2e, hAe, hCe] at hOR
      have HD := hide (do_b 4 (I : Int) (unhide HW3).win)
      rw [hE1e, hAe] at HD
      have HDK := hide (fun V (hV : WIn V (.agg #[.slice p1 m1 q1, .slice p2 m2 q2, .slice p3 m3 q3]) W) => do_b 4 (K : Int) hV)
      rw [hE2e, hCe] at HDK
      have HOR := hide hOR
      obtain ⟨x0, x1, x2⟩ := (unhide HW3).cells
      have hgt : ¬ (K : Int) < (I : Int) := by omega
      have hlt : (I : Int) < (K : Int) := by omega
      have hne : ((I : Int) == (K : Int)) = false := by rw [beq_eq_false_iff_ne]; omega
      have hne2 : ((K : Int) == (I : Int)) = false := by rw [beq_eq_false_iff_ne]; omega
      clear hok hm3 hOR hE1e hE2e hAe hCe hIK ek hKm
      go_wp2_with fail
      refine (unhide HD).mono ?_
      rintro e wa ⟨uwa, rfl, hWwa, hVwa, hBwa⟩
      obtain ⟨p1wa, m1wa, q1wa, p2wa, m2wa, q2wa, p3wa, m3wa, q3wa, rfl, -, -, hlwa⟩ := hWwa.vals
      have hAwa := bel_al (Below.refl wa.heap.size wa) (wbox (.slice p1wa m1wa q1wa) (.slice p2wa m2wa q2wa) (.slice p3wa m3wa q3wa))
      have hNwa := WB.new hWwa
      have hBAwa := bt hBwa hAwa
      have hb4 := (unhide HW3).below hBAwa
      have HD2 := hide (unhide HDK _ hb4.win)
      clear x0 x1 x2
      obtain ⟨x0, x1, x2⟩ := hb4.cells
      have Ha := hide hNwa
      have HVa := hide hVwa
      have HB4 := hide (bt (unhide HB3) hBAwa)
      have hsa : w.heap.size ≤ wa.heap.size := (bt (unhide HB3) hBwa).size
      clear hWwa hVwa hBwa hlwa hAwa hNwa hBAwa hb4 HD HDK
      go_wp2_with fail
      refine (unhide HD2).mono ?_
      rintro e wb ⟨uwb, rfl, hWwb, hVwb, hBwb⟩
      obtain ⟨p1wb, m1wb, q1wb, p2wb, m2wb, q2wb, p3wb, m3wb, q3wb, rfl, -, -, hlwb⟩ := hWwb.vals
      have hAwb := bel_al (Below.refl wb.heap.size wb) (wbox (.slice p1wb m1wb q1wb) (.slice p2wb m2wb q2wb) (.slice p3wb m3wb q3wb))
      have hNwb := WB.new hWwb
      have hBAwb := bt hBwb hAwb
      have ha5 := (unhide Ha).below hBAwb
      have HB5 := hide (bt (unhide HB4) hBAwb)
      have hszb := hBwb.size
      rw [World.size_alloc] at hszb
      clear x0 x1 x2 Ha
      by_cases hz : E1 = 0 ∧ E2 = 0
      · obtain ⟨hz1, hz2⟩ := hz
        subst hz1 hz2
        obtain ⟨O1, O2⟩ := unhide HOR rfl rfl
        obtain ⟨E3, hE3⟩ : ∃ E3, doE A ⟨4, 0, (K : Int) - 1, [], []⟩ = E3 := ⟨_, rfl⟩
        obtain ⟨R, hR⟩ : ∃ R, doW A ⟨4, 0, (K : Int) - 1, [], []⟩ = R := ⟨_, rfl⟩
        rw [hE3] at O1
        rw [hR] at O2
        have HD3 := hide (do_b 4 ((K : Int) - 1) ha5.win)
        rw [hE3, hR] at HD3
        obtain ⟨x0, x1, x2⟩ := ha5.cells
        have Ha := hide ha5
        have Hb := hide hNwb
        have HVb := hide hVwb
        have HOO := hide (And.intro O1 O2)
        have HSZ := hide hszb
        clear hWwb hVwb hBwb hlwb hAwb hNwb hBAwb ha5 O1 O2 hE3 hR HD2 hE1 hE2 HOR hszb
        go_wp2_with fail
        refine (unhide HD3).mono ?_
        rintro e wc1 ⟨u, rfl, hWc, hVc, hBc⟩
        obtain ⟨e1, f1, g1, e2, f2, g2, e3, f3, g3, rfl, -, -, -⟩ := hWc.vals
        have hac := (unhide Ha).below hBc
        have hbc := (unhide Hb).below hBc
        have hnf : NFb wc1 wa.heap.size := nf3 hac.box
        obtain ⟨s1, s2⟩ := put3 (.slice e1 f1 g1) (.slice e2 f2 g2) (.slice e3 f3 g3) hac.box
        have hszb := unhide HSZ
        have hWa := hWc.offV s2 (fun g e => by cases e; exact hnf) (fun b hb e => by have := (hVc b hb).1; have := Option.some.inj e; rw [World.size_alloc] at *; omega)
        have hWb := hbc.win.offV s2 (fun g e => by cases e; exact hnf) (fun b hb e => by have := (unhide HVb b hb).1; have := Option.some.inj e; rw [World.size_alloc] at *; omega)
        have hbb := (s2.block wb.heap.size hbc.lt (fun e => by have := Option.some.inj e; omega)).trans hbc.box
        have k0 := heap_row (i := 0) hac.box
        have k1 := heap_row (i := 1) hac.box
        have k2 := heap_row (i := 2) hac.box
        have l0 := frozen_of_row _ _ 0 _ _ hac.box
        have l1 := frozen_of_row _ _ 1 _ _ hac.box
        have l2 := frozen_of_row _ _ 2 _ _ hac.box
        obtain ⟨wd, hwd⟩ : ∃ wd, ((wc1.setCell ⟨wa.heap.size, 0, none⟩ (.slice e1 f1 g1)).setCell ⟨wa.heap.size, 1, none⟩ (.slice e2 f2 g2)).setCell ⟨wa.heap.size, 2, none⟩ (.slice e3 f3 g3) = wd := ⟨_, rfl⟩
        rw [hwd] at s1 s2 hWa hWb hbb
        have hWBa : WB wd wa.heap.size (.slice e1 f1 g1) (.slice e2 f2 g2) (.slice e3 f3 g3) R := ⟨s1, hWa⟩
        have hWBb : WB wd wb.heap.size _ _ _ C := ⟨hbb, hWb⟩
        have HBd := hide ((bt (unhide HB5) hBc).grown s2 (bt (unhide HB5) hBc).size (fun q e => by cases e; have := (unhide HB3).size; omega))
        have hVr : Hid (∀ b, vBlocks (.agg #[.slice e1 f1 g1, .slice e2 f2 g2, .slice e3 f3 g3]) b → b ≠ wb.heap.size) := hide (fun b hb => by have := (hVc b hb).1; rw [World.size_alloc] at this; omega)
        have HD4 := hide (do_b 4 (I : Int) hWBb.win)
        obtain ⟨O1, O2⟩ := unhide HOO
        rw [← O1, ← O2] at HD4
        have HWA := hide hWBa
        have HWBb := hide hWBb
        have HWd := hide hwd
        have HSC := hide (Nat.lt_of_lt_of_le hbc.lt s2.size)
        clear x0 x1 x2 hWc hVc hBc hac hbc hnf s1 s2 hWa hWb hbb hwd hWBa hWBb HD3 O1 O2 hszb
        go_upto_region 13 with fail
        rw [show ((wc1.setCell ⟨wa.heap.size, 0, none⟩ (.slice e1 f1 g1)).setCell ⟨wa.heap.size, 1, none⟩ (.slice e2 f2 g2)).setCell ⟨wa.heap.size, 2, none⟩ (.slice e3 f3 g3) = wd from unhide HWd]
        clear k0 k1 k2 l0 l1 l2 HWd
        obtain ⟨y0, y1, y2⟩ := (unhide HWBb).cells
        go_wp2_with fail
        refine (unhide HD4).mono ?_
        rintro e we ⟨u, rfl, hWe, hVe, hBe⟩
        obtain ⟨e1', f1', g1', e2', f2', g2', e3', f3', g3', rfl, -, -, -⟩ := hWe.vals
        have hae := (unhide HWA).below hBe
        have hbe := (unhide HWBb).below hBe
        have hnf : NFb we wb.heap.size := nf3 hbe.box
        obtain ⟨s1, s2⟩ := put3 (.slice e1' f1' g1') (.slice e2' f2' g2') (.slice e3' f3' g3') hbe.box
        have hszb := unhide HSZ
        have hsc := unhide HSC
        have hWb := hWe.offV s2 (fun g e => by cases e; exact hnf) (fun b hb e => by have := (hVe b hb).1; have := Option.some.inj e; omega)
        have hWa := hae.win.offV s2 (fun g e => by cases e; exact hnf) (fun b hb e => (unhide hVr b hb) (Option.some.inj e))
        have hba := (s2.block wa.heap.size hae.lt (fun e => by have := Option.some.inj e; omega)).trans hae.box
        have HS := hide (sameW_yes hWa hWb)
        have hBF := (bt (unhide HBd) hBe).grown s2 (bt (unhide HBd) hBe).size (fun q e => by cases e; have := (unhide HB3).size; have := (unhide HB4).size; omega)
        have HBF := hide hBF
        clear y0 y1 y2
        have x0 := heap_row (i := 0) hba
        have x1 := heap_row (i := 1) hba
        have x2 := heap_row (i := 2) hba
        have k0 := heap_row (i := 0) hbe.box
        have k1 := heap_row (i := 1) hbe.box
        have k2 := heap_row (i := 2) hbe.box
        have l0 := frozen_of_row _ _ 0 _ _ hbe.box
        have l1 := frozen_of_row _ _ 1 _ _ hbe.box
        have l2 := frozen_of_row _ _ 2 _ _ hbe.box
        have z0 := heap_row (i := 0) s1
        have z1 := heap_row (i := 1) s1
        have z2 := heap_row (i := 2) s1
        have hee : ((E3 : Int) == (E3 : Int)) = true := by simp
        clear hWe hVe hBe hae hbe hnf s1 s2 hWb hWa hba hBF HD4 hszb hsc
        go_wp2_with fail
        refine (unhide HS).mono ?_
        rintro e wf ⟨rfl, hBf⟩
        have HBf := hide ((unhide HBF).trans (hBf.mono (unhide HBF).size))
        clear hBf x0 x1 x2 k0 k1 k2 l0 l1 l2 z0 z1 z2
        go_wp2
        go_ret
        exact ⟨rfl, unhide HBf⟩
      · clear hWwb hVwb hBwb hlwb hAwb hNwb hBAwb ha5 HD2 HOR hszb
        rcases hE1 with rfl | rfl
        · rcases hE2 with rfl | rfl
          · exact absurd ⟨rfl, rfl⟩ hz
          · clear hz
            go_wp2
            go_ret
            exact ⟨rfl, unhide HB5⟩
        · clear hz
          rcases hE2 with rfl | rfl
          · go_wp2
            go_ret
            exact ⟨rfl, unhide HB5⟩
          · go_wp2
            go_ret
            exact ⟨rfl, unhide HB5⟩
theorem worldOrder_any {w : World} {v : Value} {W : Wd} (h : WIn w v W) (i k : Int) : Calls Tryd.prog 5 #[v, .int .i64 i, .int .i64 k] w fun e w' => e = .returned (.bool true) ∧ Below w.heap.size w w' := by
  by_cases h0 : errWd W = 0
  · by_cases h1 : W.net.length < 2
    · exact worldOrder_no h i k (.inr h1)
    · exact worldOrder_yes h i k (errWd_zero.1 h0) (by omega)
  · exact worldOrder_no h i k (.inl h0)
end Go.Proofs.YtnhddmganijilaiDoor
