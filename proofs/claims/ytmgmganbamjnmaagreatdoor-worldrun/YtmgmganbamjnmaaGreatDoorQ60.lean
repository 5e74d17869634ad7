/-
  The law WorldRun.
-/
import Derived.Test.YtmgmganbamjnmaaGreatDoorQ49
import Derived.Test.YtmgmganbamjnmaaGreatDoorQ35
import Derived.Test.YtmgmganbamjnmaaGreatDoorQ36
namespace Go.Proofs.YtmgmganbamjnmaaGreatDoor
open Go.RowKit
set_option linter.unusedVariables false
set_option linter.unusedSimpArgs false
set_option maxRecDepth 100000

theorem RSt.made {w0 V : World} {gN gC q : Nat} (hb : Below w0.heap.size w0 V) (hx : V.heap[w0.heap.size]? = some (.cells #[(.slice none 0 0), (.slice none 0 0), (.slice none 0 0)] 26 (0, 0))) (hN : V.heap[gN]? = some (.cells (madeCells #[(.slice none 0 0)] q) 46 (0, 0))) (hC : V.heap[gC]? = some (.cells (madeCells #[.int .i64 0] q) 3 (0, 0))) (hgN : w0.heap.size < gN) (hgC : w0.heap.size < gC) (hq : q ≤ 4) :
    RSt w0 (((V.setCell ⟨w0.heap.size, 0, none⟩ (.slice (some ⟨gN, 0, none⟩) q q)).setCell ⟨w0.heap.size, 1, none⟩ (.slice (some ⟨gC, 0, none⟩) q q)).setCell ⟨w0.heap.size, 2, none⟩ (.slice none 0 0)) (.slice (some ⟨gN, 0, none⟩) q q) (.slice (some ⟨gC, 0, none⟩) q q) (.slice none 0 0) ⟨List.replicate q [], List.replicate q 0, []⟩ (.slice none 0 0) [] := by
  obtain ⟨p1, p2⟩ := put3 (.slice (some ⟨gN, 0, none⟩) q q) (.slice (some ⟨gC, 0, none⟩) q q) (.slice none 0 0) hx
  have lN := (Array.getElem?_eq_some_iff.1 hN).1
  have lC := (Array.getElem?_eq_some_iff.1 hC).1
  have hN4 := (p2.block _ lN (fun e => by have := Option.some.inj e; omega)).trans hN
  have hC4 := (p2.block _ lC (fun e => by have := Option.some.inj e; omega)).trans hC
  have hsz := p2.size
  refine ⟨hb.grown p2 hb.size (fun g e => by cases e; exact Nat.le_refl _), p1, ⟨some ⟨gN, 0, none⟩, q, some ⟨gC, 0, none⟩, q, none, 0, by simp, NsIn.made hN4 (by omega), CsIn.made hC4 (by omega), MsIn.zero _⟩, TRow.nil _ _ _ _, ?_⟩
  rintro b ⟨a1, n1, c1, a2, n2, c2, a3, n3, c3, o, e, hv⟩
  cases e
  rcases hv with h | h | h
  · cases h; exact ⟨by simp [Value.ownBlock], by omega, by omega⟩
  · cases h; exact ⟨by simp [Value.ownBlock], by omega, by omega⟩
  · cases h
theorem step_r {w : World} {v : Value} {W : Wd} {x : Hp} {ab : Option Addr} {cb : Nat} (h : WIn w v W) (hx : HpAt w x ab cb) (hok : WdOk W) : Calls Tryz.prog 12 #[v, hpV x ab cb] w (DoA w (doE W x) (doW W x)) := step_any h hx hok
set_option maxHeartbeats 4000000 in
theorem worldRun_bad (n : Int) (a : Option Addr) (c m : Nat) (xs : List Hp) (w : World) (h : HsIn w a c xs) (hm : xs.length = m) (hn : n < 1 ∨ 4 < n) :
    Calls Tryz.prog 4 #[.int .i64 n, .slice a m c] w fun e w' => e = .returned (.bool true) ∧ Below w.heap.size w w' := by
  have hnE : newE n = 3 := by unfold newE; rw [if_pos hn]
  have hnW : newW n = noW := by unfold newW; rw [hnE]; rfl
  have hrE : runE n xs = 3 := by unfold runE; rw [hnE]; rfl
  have hrR : runR n xs = noW := by unfold runR; rw [hrE]; rfl
  have hrT : runT n xs = [] := by unfold runT; rw [hrE]; rfl
  have HR := hide (run_at n a c m xs w h hm)
  rw [hrE, hrR, hrT] at HR
  have HN : Hid (∀ V, Calls Tryz.prog 14 #[.int .i64 n] V (DoA V 3 noW)) := hide (fun V => by have := new_w n V; rw [hnE, hnW] at this; exact this)
  have HNN := hide hn
  clear h hm hn hnE hnW hrE hrR hrT
  go_enter Tryz.func4, Tryz.ntmps4
  go_wp2_with fail
  refine (unhide HR).mono ?_
  rintro e w1 ⟨v, aS, cS, rfl, hW1, -, hS1, hB1⟩
  obtain ⟨p1, m1, q1, p2, m2, q2, p3, m3, q3, rfl, -, -, -⟩ := hW1.vals
  obtain ⟨w2, hw2⟩ : ∃ w2, w1.alloc (wbox (.slice p1 m1 q1) (.slice p2 m2 q2) (.slice p3 m3 q3)) = w2 := ⟨_, rfl⟩
  have hA2 : Below w1.heap.size w1 w2 := by rw [← hw2]; exact bel_al (Below.refl _ _) _
  have hN2 : WB w2 w1.heap.size (.slice p1 m1 q1) (.slice p2 m2 q2) (.slice p3 m3 q3) noW := by rw [← hw2]; exact WB.new hW1
  have HB2 := hide (bt hB1 hA2)
  have HN2 := hide hN2
  have HW2 := hide hw2
  clear hW1 hS1 hB1 hA2 hN2 hw2 HR
  go_upto_region 2 with fail
  rw [show w1.alloc (wbox (.slice p1 m1 q1) (.slice p2 m2 q2) (.slice p3 m3 q3)) = w2 from unhide HW2]
  go_wp2_with fail
  refine (unhide HN w2).mono ?_
  rintro e w3 ⟨u, rfl, hW3, -, hB3⟩
  obtain ⟨r1, k1, s1, r2, k2, s2, r3, k3, s3, rfl, -, -, -⟩ := hW3.vals
  obtain ⟨w4, hw4⟩ : ∃ w4, w3.alloc (wbox (.slice r1 k1 s1) (.slice r2 k2 s2) (.slice r3 k3 s3)) = w4 := ⟨_, rfl⟩
  have hA4 : Below w3.heap.size w3 w4 := by rw [← hw4]; exact bel_al (Below.refl _ _) _
  have hN4 : WB w4 w3.heap.size (.slice r1 k1 s1) (.slice r2 k2 s2) (.slice r3 k3 s3) noW := by rw [← hw4]; exact WB.new hW3
  obtain ⟨w5, hw5⟩ : ∃ w5, w4.alloc (wbox (.slice none 0 0) (.slice none 0 0) (.slice none 0 0)) = w5 := ⟨_, rfl⟩
  have hA5 : Below w4.heap.size w4 w5 := by rw [← hw5]; exact bel_al (Below.refl _ _) _
  have hN5 : WB w5 w4.heap.size (.slice none 0 0) (.slice none 0 0) (.slice none 0 0) noW := by rw [← hw5]; exact WB.new (WIn.no w4)
  have HB5 := hide (bt (unhide HB2) (bt hB3 (bt hA4 hA5)))
  have HV5 := hide ((unhide HN2).below (bt hB3 (bt hA4 hA5)))
  have HM5 := hide (hN4.below hA5)
  have HN5 := hide hN5
  have HT5 := hide (told_any w5)
  have HW4 := hide hw4
  have HW5 := hide hw5
  clear hW3 hB3 hA4 hN4 hA5 hN5 hw4 hw5 HB2 HN2 HW2 HN
  go_upto_region 4 with fail
  rw [show w3.alloc (wbox (.slice r1 k1 s1) (.slice r2 k2 s2) (.slice r3 k3 s3)) = w4 from unhide HW4]
  go_upto_region 5 with fail
  rw [show w4.alloc (wbox (.slice none 0 0) (.slice none 0 0) (.slice none 0 0)) = w5 from unhide HW5]
  clear HW4 HW5
  have HREST : Hid (n < 1 ∨ 4 < n) := HNN
  by_cases hlo : n < 1
  all_goals (try have hlo2 : (4 : Int) < n := by have := unhide HREST; omega)
  all_goals
    go_wp2_with fail
    refine (unhide HT5).mono ?_
    rintro e w6 ⟨rfl, hB6⟩
    have HB6 := hide (bt (unhide HB5) hB6)
    have HV6 := hide ((unhide HV5).below hB6)
    have HM6 := hide ((unhide HM5).below hB6)
    have HN6 := hide ((unhide HN5).below hB6)
    have c0 := (unhide HM6).cells.1
    have c1 := (unhide HM6).cells.2.1
    have c2 := (unhide HM6).cells.2.2
    have d0 := (unhide HN6).cells.1
    have d1 := (unhide HN6).cells.2.1
    have d2 := (unhide HN6).cells.2.2
    have HS6 := hide (sameW_yes (unhide HM6).win (unhide HN6).win)
    clear hB6 HB5 HV5 HM5 HN5 HT5
    go_wp2_with fail
    refine (unhide HS6).mono ?_
    rintro e w7 ⟨rfl, hB7⟩
    have HB7 := hide (bt (unhide HB6) hB7)
    have HV7 := hide ((unhide HV6).below hB7)
    clear c0 c1 c2 d0 d1 d2 hB7 HB6 HV6 HM6 HN6 HS6
    have c0 := (unhide HV7).cells.1
    have c1 := (unhide HV7).cells.2.1
    have c2 := (unhide HV7).cells.2.2
    have HS7 := hide (sameW_yes (unhide HV7).win (WIn.no w7))
    go_wp2_with fail
    refine (unhide HS7).mono ?_
    rintro e w8 ⟨rfl, hB8⟩
    have HB8 := hide (bt (unhide HB7) hB8)
    clear hB8 c0 c1 c2
    go_wp2
    go_ret
    exact ⟨rfl, unhide HB8⟩
set_option maxHeartbeats 4000000 in
theorem worldRun_good (q : Nat) (a : Option Addr) (c m : Nat) (xs : List Hp) (w : World) (h : HsIn w a c xs) (hm : xs.length = m) (hq1 : 1 ≤ q) (hq4 : q ≤ 4) :
    Calls Tryz.prog 4 #[.int .i64 (q : Int), .slice a m c] w fun e w' => e = .returned (.bool true) ∧ Below w.heap.size w w' := by
  have hnE : newE (q : Int) = 0 := by unfold newE; rw [if_neg (by omega)]
  obtain ⟨W0, hW0⟩ : ∃ W0, newW (q : Int) = W0 := ⟨_, rfl⟩
  have hokw : WdOk W0 := by rw [← hW0]; exact new_ok hnE
  have hw0 : W0 = ⟨List.replicate q [], List.replicate q 0, []⟩ := by rw [← hW0]; unfold newW; rw [if_pos hnE, Int.toNat_natCast]
  have HR := hide (run_at (q : Int) a c m xs w h hm)
  obtain ⟨E, hE⟩ : ∃ E, runE (q : Int) xs = E := ⟨_, rfl⟩
  obtain ⟨R, hR⟩ : ∃ R, runR (q : Int) xs = R := ⟨_, rfl⟩
  obtain ⟨T, hT⟩ : ∃ T, runT (q : Int) xs = T := ⟨_, rfl⟩
  rw [hE, hR, hT] at HR
  have hER : (40 < m → E = 2 ∧ R = noW ∧ T = []) ∧ (m ≤ 40 → E = 0 ∧ R = runW W0 xs ∧ T = runS W0 xs) := by
    have e1 : runE (q : Int) xs = if 40 < m then 2 else 0 := by unfold runE; rw [hnE, hm]; rfl
    refine ⟨fun h40 => ?_, fun h40 => ?_⟩
    · have e2 : runE (q : Int) xs = 2 := by rw [e1, if_pos h40]
      refine ⟨hE.symm.trans e2, ?_, ?_⟩
      · rw [← hR]; unfold runR; rw [if_neg (by rw [e2]; decide)]
      · rw [← hT]; unfold runT; rw [if_neg (by rw [e2]; decide)]
    · have e2 : runE (q : Int) xs = 0 := by rw [e1, if_neg (by omega)]
      refine ⟨hE.symm.trans e2, ?_, ?_⟩
      · rw [← hR]; unfold runR; rw [if_pos e2, hW0]
      · rw [← hT]; unfold runT; rw [if_pos e2, hW0]
  have HER := hide hER
  have HN : Hid (∀ V, Calls Tryz.prog 14 #[.int .i64 (q : Int)] V (DoA V 0 W0)) := hide (fun V => by have := new_w (q : Int) V; rw [hnE, hW0] at this; exact this)
  have HW0 := hide hw0
  have HOKW := hide hokw
  have HM := hide hm
  have HXS := hide h
  have hlimm := h.lim
  rw [hm] at hlimm
  have hi1 : ¬ (q : Int) < 1 := by omega
  have hi2 : ¬ (4 : Int) < (q : Int) := by omega
  obtain ⟨mT, hmT⟩ : ∃ mT, T.length = mT := ⟨_, rfl⟩
  have HMT := hide hmT
  unfold RunA at HR
  rw [hmT] at HR
  clear h hm hnE hW0 hokw hw0 hE hR hT hER hmT
  go_enter Tryz.func4, Tryz.ntmps4
  go_wp2_with fail
  refine (unhide HR).mono ?_
  rintro e w1 ⟨v, aS, cS, rfl, hW1, -, hS1, hB1⟩
  obtain ⟨p1, m1, q1, p2, m2, q2, p3, m3, q3, rfl, -, -, -⟩ := hW1.vals
  obtain ⟨w2, hw2⟩ : ∃ w2, w1.alloc (wbox (.slice p1 m1 q1) (.slice p2 m2 q2) (.slice p3 m3 q3)) = w2 := ⟨_, rfl⟩
  have hA2 : Below w1.heap.size w1 w2 := by rw [← hw2]; exact bel_al (Below.refl _ _) _
  have hN2 : WB w2 w1.heap.size (.slice p1 m1 q1) (.slice p2 m2 q2) (.slice p3 m3 q3) R := by rw [← hw2]; exact WB.new hW1
  have HB2 := hide (bt hB1 hA2)
  have HN2 := hide hN2
  have HC2 := hide (hS1.below hA2)
  have HW2 := hide hw2
  clear hW1 hS1 hB1 hA2 hN2 hw2 HR
  go_upto_region 2 with fail
  rw [show w1.alloc (wbox (.slice p1 m1 q1) (.slice p2 m2 q2) (.slice p3 m3 q3)) = w2 from unhide HW2]
  go_wp2_with fail
  refine (unhide HN w2).mono ?_
  rintro e w3 ⟨u, rfl, hW3, -, hB3⟩
  obtain ⟨r1, k1, s1, r2, k2, s2, r3, k3, s3, rfl, -, -, -⟩ := hW3.vals
  obtain ⟨w4, hw4⟩ : ∃ w4, w3.alloc (wbox (.slice r1 k1 s1) (.slice r2 k2 s2) (.slice r3 k3 s3)) = w4 := ⟨_, rfl⟩
  have hA4 : Below w3.heap.size w3 w4 := by rw [← hw4]; exact bel_al (Below.refl _ _) _
  have hN4 : WB w4 w3.heap.size (.slice r1 k1 s1) (.slice r2 k2 s2) (.slice r3 k3 s3) W0 := by rw [← hw4]; exact WB.new hW3
  have HM4 := hide hN4
  have HB4 := hide (bt (unhide HB2) (bt hB3 hA4))
  have HV4 := hide ((unhide HN2).below (bt hB3 hA4))
  have HCS := hide ((unhide HC2).below (bt hB3 hA4))
  have HH := hide ((unhide HXS).below (unhide HB4))
  have HW4 := hide hw4
  clear hW3 hB3 hA4 hN4 hw4 HB2 HN2 HW2 HN HC2 HXS
  go_upto_region 4 with fail
  rw [show w3.alloc (wbox (.slice r1 k1 s1) (.slice r2 k2 s2) (.slice r3 k3 s3)) = w4 from unhide HW4]
  clear HW4
  have mk1 := fun W => run_make_row' (P := Tryz.prog) 22 46 (.slice none 0 0) 24 Tryz.underlying22 info_lists rfl .i64 .i64 q (by omega) (by omega) W
  have mk2 := fun W => run_make_row' (P := Tryz.prog) 23 3 (.int .i64 0) 8 Tryz.underlying23 info_int rfl .i64 .i64 q (by omega) (by omega) W
  go_upto_region 7 with fail
  refine wp_region_held_drew (S := fun _ => True) (by kernel_rfl) trivial (fun hHeld => ?_)
  refine wpAnyH_take (i := 0) (v := .int .i64 (q : Int)) rfl (by kernel_rfl) (by kernel_rfl) (by kernel_rfl) (fun _ _ _ h => h) (Or.inl ⟨by rfl, fun W hS => by go_simp⟩) hHeld ?_
  simp only [Act.put, List.setIfInBounds_toArray, List.set_cons_zero, List.set_cons_succ]
  refine wpAnyH_take (i := 2) (v := .int .i64 (q : Int)) rfl (by kernel_rfl) (by kernel_rfl) (by kernel_rfl) (fun _ _ _ h => h) (Or.inl ⟨by rfl, fun W hS => by go_simp⟩) hHeld ?_
  simp only [Act.put, List.setIfInBounds_toArray, List.set_cons_zero, List.set_cons_succ]
  refine wpAnyH_ready (rs := [1, 3]) (by kernel_rfl) (by simp) (AllReadyH.cons rfl (fun K hK => ?_) (AllReadyH.cons rfl (fun K hK => ?_) AllReadyH.nil))
  · go_simp
    refine hK.out _ _ trivial (fun _ => ?_)
    clear hK K
    refine wpAnyH_ready (rs := [3]) (by kernel_rfl) (by simp) (AllReadyH.cons rfl (fun K hK => ?_) AllReadyH.nil)
    go_simp
    refine hK.out _ _ trivial (fun _ => ?_)
    clear hK K mk1 mk2
    obtain ⟨V3, hV3⟩ : ∃ V3, (((w4.alloc (wbox (.slice none 0 0) (.slice none 0 0) (.slice none 0 0))).alloc (.cells (madeCells #[(.slice none 0 0)] q) 46)).alloc (.cells (madeCells #[.int .i64 0] q) 3)).drew = V3 := ⟨_, rfl⟩
    rw [show (((w4.alloc (wbox (.slice none 0 0) (.slice none 0 0) (.slice none 0 0))).alloc (.cells (madeCells #[(.slice none 0 0)] q) 46)).alloc (.cells (madeCells #[.int .i64 0] q) 3)).drew = V3 from hV3]
    have hs3 : V3.heap.size = w4.heap.size + 3 := by rw [← hV3]; simp
    have hb3 : Below w4.heap.size w4 V3 := by rw [← hV3]; exact below_drewN (bel_al (bel_al (bel_al (Below.refl _ _) _) _) _) 1
    have hx3 : V3.heap[w4.heap.size]? = some (.cells #[(.slice none 0 0), (.slice none 0 0), (.slice none 0 0)] 26 (0, 0)) := by
      rw [← hV3]
      show (((w4.alloc _).alloc _).alloc _).heap[w4.heap.size]? = _
      rw [Below.heap_alloc _ _ _ (by simp; omega), Below.heap_alloc _ _ _ (by simp)]
      exact heap_alloc_new w4 _
    have hN : V3.heap[w4.heap.size + 1]? = some (.cells (madeCells #[(.slice none 0 0)] q) 46 (0, 0)) := by
      rw [← hV3]
      show (((w4.alloc _).alloc _).alloc _).heap[w4.heap.size + 1]? = _
      rw [Below.heap_alloc _ _ _ (by simp)]
      have := heap_alloc_new (w4.alloc (wbox (.slice none 0 0) (.slice none 0 0) (.slice none 0 0))) (.cells (madeCells #[(.slice none 0 0)] q) 46)
      rw [World.size_alloc] at this
      exact this
    have hC : V3.heap[w4.heap.size + 2]? = some (.cells (madeCells #[.int .i64 0] q) 3 (0, 0)) := by
      rw [← hV3]
      show (((w4.alloc _).alloc _).alloc _).heap[w4.heap.size + 2]? = _
      have := heap_alloc_new ((w4.alloc (wbox (.slice none 0 0) (.slice none 0 0) (.slice none 0 0))).alloc (.cells (madeCells #[(.slice none 0 0)] q) 46)) (.cells (madeCells #[.int .i64 0] q) 3)
      rw [World.size_alloc, World.size_alloc] at this
      exact this
    have hRS := RSt.made hb3 hx3 hN hC (by omega) (by omega) hq4
    obtain ⟨gN, hgN⟩ : ∃ gN, w4.heap.size + 1 = gN := ⟨_, rfl⟩
    obtain ⟨gC, hgC⟩ : ∃ gC, w4.heap.size + 2 = gC := ⟨_, rfl⟩
    rw [hgN, hgC] at hRS
    simp only [Nat.add_assoc, Nat.reduceAdd]
    simp only [hgN, hgC]
    clear hs3 hb3 hN hC hV3 hgN hgC
    -- the world in its box is a new one
    obtain ⟨w6, hw6⟩ : ∃ w6, ((V3.setCell ⟨w4.heap.size, 0, none⟩ (.slice (some ⟨gN, 0, none⟩) q q)).setCell ⟨w4.heap.size, 1, none⟩ (.slice (some ⟨gC, 0, none⟩) q q)).setCell ⟨w4.heap.size, 2, none⟩ (.slice none 0 0) = w6 := ⟨_, rfl⟩
    rw [hw6] at hRS
    have y0 := heap_row (i := 0) hx3
    have y1 := heap_row (i := 1) hx3
    have y2 := heap_row (i := 2) hx3
    have f0 := frozen_of_row _ _ 0 _ _ hx3
    have f1 := frozen_of_row _ _ 1 _ _ hx3
    have f2 := frozen_of_row _ _ 2 _ _ hx3
    have HRS := hide hRS
    have HW6 := hide hw6
    clear hRS hw6 hx3
    refine wpAnyH_take (i := 4) (v := .agg #[.slice (some ⟨gN, 0, none⟩) q q, .slice (some ⟨gC, 0, none⟩) q q, (.slice none 0 0)]) rfl (by kernel_rfl) (by kernel_rfl) (by kernel_rfl) (fun _ _ _ h => h) (Or.inl ⟨by rfl, fun W hS => by go_simp⟩) hHeld ?_
    simp only [Act.put, List.setIfInBounds_toArray, List.set_cons_zero, List.set_cons_succ]
    refine wpAnyH_ready (rs := [5]) (by kernel_rfl) (by simp) (AllReadyH.cons rfl (fun K hK => ?_) AllReadyH.nil)
    go_simp
    refine (show K _ (((V3.setCell ⟨w4.heap.size, 0, none⟩ (.slice (some ⟨gN, 0, none⟩) q q)).setCell ⟨w4.heap.size, 1, none⟩ (.slice (some ⟨gC, 0, none⟩) q q)).setCell ⟨w4.heap.size, 2, none⟩ (.slice none 0 0)) from ?_)
    rw [show ((V3.setCell ⟨w4.heap.size, 0, none⟩ (.slice (some ⟨gN, 0, none⟩) q q)).setCell ⟨w4.heap.size, 1, none⟩ (.slice (some ⟨gC, 0, none⟩) q q)).setCell ⟨w4.heap.size, 2, none⟩ (.slice none 0 0) = w6 from unhide HW6]
    refine hK.out _ _ trivial (fun _ => ?_)
    clear hK K y0 y1 y2 f0 f1 f2 HW6
    refine wpAnyH_done (by kernel_rfl) ?_ _
    have HT6 := hide (told_any w6)
    go_wp2_with fail
    refine (unhide HT6).mono ?_
    rintro e w7 ⟨rfl, hB7⟩
    have HR7 := hide ((unhide HRS).below hB7)
    clear hB7 HRS HT6
    have c0 := ((unhide HM4).below (unhide HR7).bel).cells.1
    have c1 := ((unhide HM4).below (unhide HR7).bel).cells.2.1
    have c2 := ((unhide HM4).below (unhide HR7).bel).cells.2.2
    have d0 := heap_row (i := 0) (unhide HR7).box
    have d1 := heap_row (i := 1) (unhide HR7).box
    have d2 := heap_row (i := 2) (unhide HR7).box
    have HS7 := hide (sameW_yes ((unhide HM4).below (unhide HR7).bel).win (by rw [unhide HW0]; exact (unhide HR7).win : WIn w7 _ W0))
    go_wp2_with fail
    refine (unhide HS7).mono ?_
    rintro e w8 ⟨rfl, hB8⟩
    have HR8 := hide ((unhide HR7).below hB8)
    clear c0 c1 c2 d0 d1 d2 hB8 HR7 HS7
    by_cases h40 : 40 < m
    · have hEV := (unhide HER).1 h40
      have hE1 := hEV.1
      have hR1 := hEV.2.1
      have hT1 := hEV.2.2
      subst hE1 hR1 hT1
      have hmT : mT = 0 := (unhide HMT).symm
      subst hmT
      have h40I : (40 : Int) < (m : Int) := by omega
      have HV8 := hide ((unhide HV4).below (unhide HR8).bel)
      have c0 := (unhide HV8).cells.1
      have c1 := (unhide HV8).cells.2.1
      have c2 := (unhide HV8).cells.2.2
      have HS8 := hide (sameW_yes (unhide HV8).win (WIn.no w8))
      clear hEV h40
      go_wp2_with fail
      refine (unhide HS8).mono ?_
      rintro e w9 ⟨rfl, hB9⟩
      have HB9 := hide (bt (unhide HB4) (bt (unhide HR8).bel hB9))
      clear hB9 c0 c1 c2
      go_wp2
      go_ret
      exact ⟨rfl, unhide HB9⟩
    · have hEV := (unhide HER).2 (by omega)
      have hE1 := hEV.1
      subst hE1
      have h40I : ¬ (40 : Int) < (m : Int) := by omega
      have hm40 : m ≤ 40 := by omega
      have HSR : Hid (runW (⟨List.replicate q [], List.replicate q 0, []⟩ : Wd) (xs.drop 0) = R ∧ [] ++ runS (⟨List.replicate q [], List.replicate q 0, []⟩ : Wd) (xs.drop 0) = T) := hide (by rw [← unhide HW0, List.drop_zero, List.nil_append]; exact ⟨hEV.2.1.symm, hEV.2.2.symm⟩)
      have HOK0 : Hid (WdOk (⟨List.replicate q [], List.replicate q 0, []⟩ : Wd)) := hide (by rw [← unhide HW0]; exact unhide HOKW)
      clear hEV h40
      go_wp2
      go_loopw [12, 78] (fun v12 j wr => ∃ (k : Nat) (v1 v2 v3 : Value) (Wk : Wd) (es : List Nat), k ≤ m ∧ j = .int .i64 (k : Int) ∧ es.length = k ∧ Hid (RSt w4 wr v1 v2 v3 Wk v12 es) ∧ Hid (runW Wk (xs.drop k) = R ∧ es ++ runS Wk (xs.drop k) = T) ∧ Hid (WdOk Wk)) (fun _ j _ => m - (intOf j).toNat)
      case atStart => exact ⟨0, _, _, _, _, [], Nat.zero_le _, rfl, rfl, HR8, HSR, HOK0⟩
      case round =>
        clear HR8 HSR HOK0
        obtain ⟨k, v1, v2, v3, Wk, es, hk, rfl, hes, HS, HR, HOK⟩ := hrel
        have hS := unhide HS
        obtain ⟨s1, t1, s2, t2, s3, t3, e1, e2, e3⟩ := hS.win.sl
        obtain ⟨m1, hm1⟩ : ∃ m1, Wk.nodes.length = m1 := ⟨_, rfl⟩
        obtain ⟨m2, hm2⟩ : ∃ m2, Wk.clock.length = m2 := ⟨_, rfl⟩
        obtain ⟨m3, hm3⟩ : ∃ m3, Wk.net.length = m3 := ⟨_, rfl⟩
        rw [hm1] at e1
        rw [hm2] at e2
        rw [hm3] at e3
        subst e1 e2 e3
        obtain ⟨d1, d2, hds⟩ := hS.row.sl
        rw [hes] at hds
        subst hds
        have q0 := heap_row (i := 0) hS.box
        have q1 := heap_row (i := 1) hS.box
        have q2 := heap_row (i := 2) hS.box
        by_cases hlt : k < m
        · obtain ⟨x, hx⟩ := get_some (l := xs) (k := k) (by rw [unhide HM]; exact hlt)
          obtain ⟨b, o, ab, cb, ha, hbl, g0, g1, g2, g3, g4, hpx⟩ := (unhide HH).get hS.bel hx
          obtain ⟨nb, hnb⟩ : ∃ nb, x.bytes.length = nb := ⟨_, rfl⟩
          rw [hnb] at g4
          have hBx := bel_al (Below.refl wr.heap.size wr) (hbox x.kind x.node x.dst (B x.name) (.slice ab nb cb))
          have HD := hide (step_r (hS.win.below hBx) (hpx.below hBx) (unhide HOK))
          have hsp := run_step (W := Wk) hx
          have hokn : doE Wk x = 0 → WdOk (doW Wk x) := fun e => do_ok e
          obtain ⟨E, hE⟩ : ∃ E, doE Wk x = E := ⟨_, rfl⟩
          obtain ⟨Wn, hWn⟩ : ∃ Wn, doW Wk x = Wn := ⟨_, rfl⟩
          rw [hE, hWn] at hsp HD hokn
          have hvx : hpV x ab cb = .agg #[.int .i64 x.kind, .int .i64 x.node, .int .i64 x.dst, .string (B x.name), .slice ab nb cb] := by unfold hpV; rw [hnb]
          rw [hvx] at HD
          have HSP := hide hsp
          have HKN := hide hokn
          have hSx := hS.below hBx
          have HSx := hide hSx
          have q0' := heap_row (i := 0) hSx.box
          have q1' := heap_row (i := 1) hSx.box
          have q2' := heap_row (i := 2) hSx.box
          generalize B x.name = tn at *
          generalize x.kind = xk at *
          generalize x.node = xn at *
          generalize x.dst = xd at *
          clear hx hbl hpx hnb hBx hsp hE hWn hvx hS hSx hm1 hm2 hm3 HS hokn
          subst ha
          go_wp2_with fail
          refine (unhide HD).mono ?_
          rintro e w9 ⟨u, rfl, hW9, hV9, hB9⟩
          obtain ⟨a1', c1', a2', c2', a3', c3', hu, hat9⟩ := hW9
          subst hu
          obtain ⟨l1', hl1⟩ : ∃ l1, Wn.nodes.length = l1 := ⟨_, rfl⟩
          obtain ⟨l2', hl2⟩ : ∃ l2, Wn.clock.length = l2 := ⟨_, rfl⟩
          obtain ⟨l3', hl3⟩ : ∃ l3, Wn.net.length = l3 := ⟨_, rfl⟩
          have hW9 : WIn w9 (.agg #[.slice a1' l1' c1', .slice a2' l2' c2', .slice a3' l3' c3']) Wn := ⟨a1', c1', a2', c2', a3', c3', by rw [hl1, hl2, hl3], hat9⟩
          rw [hl1, hl2, hl3] at hV9 ⊢
          have hS9 := (unhide HSx).below hB9
          have hB10 := bel_al (Below.refl w9.heap.size w9) (wbox (.slice a1' l1' c1') (.slice a2' l2' c2') (.slice a3' l3' c3'))
          have hS10 := hS9.below hB10
          have hW10 := hW9.below hB10
          have hx10 := heap_alloc_new w9 (wbox (.slice a1' l1' c1') (.slice a2' l2' c2') (.slice a3' l3' c3'))
          obtain ⟨hRk, hTk⟩ := unhide HR
          obtain ⟨hr1, hr2⟩ := unhide HSP
          rw [hr1] at hRk
          rw [hr2] at hTk
          have hszx := (unhide HSx).lt
          by_cases hE0 : E = 0
          · subst hE0
            rw [if_pos rfl] at hRk hTk
            have hoff : ∀ b, vBlocks (.agg #[.slice a1' l1' c1', .slice a2' l2' c2', .slice a3' l3' c3']) b → some b ≠ (Value.slice d1 k d2).ownBlock ∧ b ≠ w4.heap.size ∧ b < (w9.alloc (wbox (.slice a1' l1' c1') (.slice a2' l2' c2') (.slice a3' l3' c3'))).heap.size := by
              intro b hb
              have hv := hV9 b hb
              refine ⟨fun e => ?_, ?_, by rw [World.size_alloc]; omega⟩
              · have := ((unhide HSx).row.lt e.symm).2
                omega
              · omega
            have hS11 := hS10.put hW10 hoff
            have r0 := heap_row (i := 0) hS10.box
            have r1 := heap_row (i := 1) hS10.box
            have r2 := heap_row (i := 2) hS10.box
            have f0 := frozen_of_row _ _ 0 _ _ hS10.box
            have f1 := frozen_of_row _ _ 1 _ _ hS10.box
            have f2 := frozen_of_row _ _ 2 _ _ hS10.box
            obtain ⟨w11, hw11⟩ : ∃ w11, (((w9.alloc (wbox (.slice a1' l1' c1') (.slice a2' l2' c2') (.slice a3' l3' c3'))).setCell ⟨w4.heap.size, 0, none⟩ (.slice a1' l1' c1')).setCell ⟨w4.heap.size, 1, none⟩ (.slice a2' l2' c2')).setCell ⟨w4.heap.size, 2, none⟩ (.slice a3' l3' c3') = w11 := ⟨_, rfl⟩
            rw [hw11] at hS11
            obtain ⟨E, hEe⟩ : ∃ E : Nat, E = 0 := ⟨0, rfl⟩
            obtain ⟨v9', w8, hr, hT8, hg8, hat8⟩ := app_e (w11.alloc (.cells #[.int .i64 (E : Int)] 31)) 39 (e := E) (hS11.below (bel_al (Below.refl w11.heap.size w11) (.cells #[.int .i64 (E : Int)] 31))).row (heap_row (heap_alloc_new w11 _)) (by omega) (by have := hS11.lt; rw [World.size_alloc]; omega)
            have hS8 := (hS11.below (bel_al (Below.refl w11.heap.size w11) (.cells #[.int .i64 (E : Int)] 31))).say hT8 hg8 hat8
            obtain ⟨a9, c9, hv9⟩ := hT8.sl
            rw [List.length_append, List.length_singleton, hes] at hv9
            subst hv9
            have HS8 := hide hS8
            rw [hEe] at hr HS8
            have HR8 := hide (And.intro hRk (show (es ++ [0]) ++ runS Wn (xs.drop (k + 1)) = T by rw [List.append_assoc]; exact hTk))
            have HW11 := hide hw11
            have HRR := hide hr
            have HKK := hide (unhide HKN rfl)
            clear hr hEe hw11 hS8 hT8 hg8 hat8 hS11 hoff hRk hTk hr1 hr2 hszx hW10 hS10 hB10 hS9 hW9 hV9 hat9 hl1 hl2 hl3 hB9 HR HSP HSx HD q0 q1 q2 q0' q1' q2' hx10 HKN
            go_upto_region 21 with fail
            rw [show (((w9.alloc (wbox (.slice a1' l1' c1') (.slice a2' l2' c2') (.slice a3' l3' c3'))).setCell ⟨w4.heap.size, 0, none⟩ (.slice a1' l1' c1')).setCell ⟨w4.heap.size, 1, none⟩ (.slice a2' l2' c2')).setCell ⟨w4.heap.size, 2, none⟩ (.slice a3' l3' c3') = w11 from unhide HW11]
            clear r0 r1 r2 f0 f1 f2 HW11
            go_wp2_with (at_builtin; refine wpList_append_run rfl _ _ _ rfl rfl rfl (unhide HRR) ?_)
            go_wp2
            go_roundw
            case rel => exact ⟨k + 1, _, _, _, Wn, es ++ [0], by omega, by go_num, by simp [hes], HS8, HR8, HKK⟩
            case measure => simp [intOf]; omega
          · rw [if_neg hE0] at hRk hTk
            obtain ⟨hb0, hb2⟩ := nat_ne hE0
            obtain ⟨w10, hw10⟩ : ∃ w10, w9.alloc (wbox (.slice a1' l1' c1') (.slice a2' l2' c2') (.slice a3' l3' c3')) = w10 := ⟨_, rfl⟩
            rw [hw10] at hS10
            obtain ⟨v9', w8, hr, hT8, hg8, hat8⟩ := app_e (w10.alloc (.cells #[.int .i64 (E : Int)] 31)) 39 (e := E) (hS10.below (bel_al (Below.refl w10.heap.size w10) (.cells #[.int .i64 (E : Int)] 31))).row (heap_row (heap_alloc_new w10 _)) (by omega) (by have := hS10.lt; rw [World.size_alloc]; omega)
            have hS8 := (hS10.below (bel_al (Below.refl w10.heap.size w10) (.cells #[.int .i64 (E : Int)] 31))).say hT8 hg8 hat8
            obtain ⟨a9, c9, hv9⟩ := hT8.sl
            rw [List.length_append, List.length_singleton, hes] at hv9
            subst hv9
            have HS8 := hide hS8
            have HR8 := hide (And.intro hRk (show (es ++ [E]) ++ runS Wk (xs.drop (k + 1)) = T by rw [List.append_assoc]; exact hTk))
            have HW10 := hide hw10
            have HRR := hide hr
            clear hr hw10 hS8 hT8 hg8 hat8 hRk hTk hr1 hr2 hszx hW10 hS10 hB10 hS9 hW9 hV9 hat9 hl1 hl2 hl3 hB9 HR HSP HSx HD q0 q1 q2 q0' q1' q2' hE0 hx10 HKN
            go_upto_region 21 with fail
            rw [show w9.alloc (wbox (.slice a1' l1' c1') (.slice a2' l2' c2') (.slice a3' l3' c3')) = w10 from unhide HW10]
            clear HW10
            go_wp2_with (at_builtin; refine wpList_append_run rfl _ _ _ rfl rfl rfl (unhide HRR) ?_)
            go_wp2
            go_roundw
            case rel => exact ⟨k + 1, _, _, _, Wk, es ++ [E], by omega, by go_num, by simp [hes], HS8, HR8, HOK⟩
            case measure => simp [intOf]; omega
        · obtain rfl : m = k := by omega
          obtain ⟨hRk, hTk⟩ := unhide HR
          rw [List.drop_of_length_le (by rw [unhide HM]; exact Nat.le_refl _)] at hRk hTk
          have hR2 : Wk = R := hRk
          have hT2 : es = T := by simpa [runS] using hTk
          subst hR2 hT2
          have hmT : mT = m := by rw [← unhide HMT]; exact hes
          subst hmT
          obtain ⟨a8, c8, hv8, hC8⟩ := hS.row.es (by omega)
          rw [hes] at hv8
          cases hv8
          have HEQ := hide (equalE_yes ((unhide HCS).below hS.bel) hC8 (n := mT) (by simp [en]; exact hes))
          have HV8 := hide ((unhide HV4).below hS.bel)
          clear hRk hTk hlt hS hm1 hm2 hm3 hC8 q0 q1 q2
          go_wp2_with fail
          refine (unhide HEQ).mono ?_
          rintro e w9 ⟨rfl, hB9⟩
          have HS9 := hide ((unhide HS).below hB9)
          have HV9 := hide ((unhide HV8).below hB9)
          clear hB9 HS HV8 HEQ
          have c0 := (unhide HV9).cells.1
          have c1 := (unhide HV9).cells.2.1
          have c2 := (unhide HV9).cells.2.2
          have e0 := heap_row (i := 0) (unhide HS9).box
          have e1 := heap_row (i := 1) (unhide HS9).box
          have e2 := heap_row (i := 2) (unhide HS9).box
          have HSW := hide (sameW_yes (unhide HV9).win (unhide HS9).win)
          go_wp2_with fail
          refine (unhide HSW).mono ?_
          rintro e w10 ⟨rfl, hB10⟩
          have HB10 := hide (bt (unhide HB4) (bt (unhide HS9).bel hB10))
          clear hB10 c0 c1 c2 e0 e1 e2
          go_wp2
          go_ret
          exact ⟨rfl, unhide HB10⟩
  · go_simp
    refine hK.out _ _ trivial (fun _ => ?_)
    clear hK K
    refine wpAnyH_ready (rs := [1]) (by kernel_rfl) (by simp) (AllReadyH.cons rfl (fun K hK => ?_) AllReadyH.nil)
    go_simp
    refine hK.out _ _ trivial (fun _ => ?_)
    clear hK K mk1 mk2
    obtain ⟨V3, hV3⟩ : ∃ V3, (((w4.alloc (wbox (.slice none 0 0) (.slice none 0 0) (.slice none 0 0))).alloc (.cells (madeCells #[.int .i64 0] q) 3)).alloc (.cells (madeCells #[(.slice none 0 0)] q) 46)).drew = V3 := ⟨_, rfl⟩
    rw [show (((w4.alloc (wbox (.slice none 0 0) (.slice none 0 0) (.slice none 0 0))).alloc (.cells (madeCells #[.int .i64 0] q) 3)).alloc (.cells (madeCells #[(.slice none 0 0)] q) 46)).drew = V3 from hV3]
    have hs3 : V3.heap.size = w4.heap.size + 3 := by rw [← hV3]; simp
    have hb3 : Below w4.heap.size w4 V3 := by rw [← hV3]; exact below_drewN (bel_al (bel_al (bel_al (Below.refl _ _) _) _) _) 1
    have hx3 : V3.heap[w4.heap.size]? = some (.cells #[(.slice none 0 0), (.slice none 0 0), (.slice none 0 0)] 26 (0, 0)) := by
      rw [← hV3]
      show (((w4.alloc _).alloc _).alloc _).heap[w4.heap.size]? = _
      rw [Below.heap_alloc _ _ _ (by simp; omega), Below.heap_alloc _ _ _ (by simp)]
      exact heap_alloc_new w4 _
    have hN : V3.heap[w4.heap.size + 2]? = some (.cells (madeCells #[(.slice none 0 0)] q) 46 (0, 0)) := by
      rw [← hV3]
      show (((w4.alloc _).alloc _).alloc _).heap[w4.heap.size + 2]? = _
      have := heap_alloc_new ((w4.alloc (wbox (.slice none 0 0) (.slice none 0 0) (.slice none 0 0))).alloc (.cells (madeCells #[.int .i64 0] q) 3)) (.cells (madeCells #[(.slice none 0 0)] q) 46)
      rw [World.size_alloc, World.size_alloc] at this
      exact this
    have hC : V3.heap[w4.heap.size + 1]? = some (.cells (madeCells #[.int .i64 0] q) 3 (0, 0)) := by
      rw [← hV3]
      show (((w4.alloc _).alloc _).alloc _).heap[w4.heap.size + 1]? = _
      rw [Below.heap_alloc _ _ _ (by simp)]
      have := heap_alloc_new (w4.alloc (wbox (.slice none 0 0) (.slice none 0 0) (.slice none 0 0))) (.cells (madeCells #[.int .i64 0] q) 3)
      rw [World.size_alloc] at this
      exact this
    have hRS := RSt.made hb3 hx3 hN hC (by omega) (by omega) hq4
    obtain ⟨gN, hgN⟩ : ∃ gN, w4.heap.size + 2 = gN := ⟨_, rfl⟩
    obtain ⟨gC, hgC⟩ : ∃ gC, w4.heap.size + 1 = gC := ⟨_, rfl⟩
    rw [hgN, hgC] at hRS
    simp only [Nat.add_assoc, Nat.reduceAdd]
    simp only [hgN, hgC]
    clear hs3 hb3 hN hC hV3 hgN hgC
    -- the world in its box is a new one
    obtain ⟨w6, hw6⟩ : ∃ w6, ((V3.setCell ⟨w4.heap.size, 0, none⟩ (.slice (some ⟨gN, 0, none⟩) q q)).setCell ⟨w4.heap.size, 1, none⟩ (.slice (some ⟨gC, 0, none⟩) q q)).setCell ⟨w4.heap.size, 2, none⟩ (.slice none 0 0) = w6 := ⟨_, rfl⟩
    rw [hw6] at hRS
    have y0 := heap_row (i := 0) hx3
    have y1 := heap_row (i := 1) hx3
    have y2 := heap_row (i := 2) hx3
    have f0 := frozen_of_row _ _ 0 _ _ hx3
    have f1 := frozen_of_row _ _ 1 _ _ hx3
    have f2 := frozen_of_row _ _ 2 _ _ hx3
    have HRS := hide hRS
    have HW6 := hide hw6
    clear hRS hw6 hx3
    refine wpAnyH_take (i := 4) (v := .agg #[.slice (some ⟨gN, 0, none⟩) q q, .slice (some ⟨gC, 0, none⟩) q q, (.slice none 0 0)]) rfl (by kernel_rfl) (by kernel_rfl) (by kernel_rfl) (fun _ _ _ h => h) (Or.inl ⟨by rfl, fun W hS => by go_simp⟩) hHeld ?_
    simp only [Act.put, List.setIfInBounds_toArray, List.set_cons_zero, List.set_cons_succ]
    refine wpAnyH_ready (rs := [5]) (by kernel_rfl) (by simp) (AllReadyH.cons rfl (fun K hK => ?_) AllReadyH.nil)
    go_simp
    refine (show K _ (((V3.setCell ⟨w4.heap.size, 0, none⟩ (.slice (some ⟨gN, 0, none⟩) q q)).setCell ⟨w4.heap.size, 1, none⟩ (.slice (some ⟨gC, 0, none⟩) q q)).setCell ⟨w4.heap.size, 2, none⟩ (.slice none 0 0)) from ?_)
    rw [show ((V3.setCell ⟨w4.heap.size, 0, none⟩ (.slice (some ⟨gN, 0, none⟩) q q)).setCell ⟨w4.heap.size, 1, none⟩ (.slice (some ⟨gC, 0, none⟩) q q)).setCell ⟨w4.heap.size, 2, none⟩ (.slice none 0 0) = w6 from unhide HW6]
    refine hK.out _ _ trivial (fun _ => ?_)
    clear hK K y0 y1 y2 f0 f1 f2 HW6
    refine wpAnyH_done (by kernel_rfl) ?_ _
    have HT6 := hide (told_any w6)
    go_wp2_with fail
    refine (unhide HT6).mono ?_
    rintro e w7 ⟨rfl, hB7⟩
    have HR7 := hide ((unhide HRS).below hB7)
    clear hB7 HRS HT6
    have c0 := ((unhide HM4).below (unhide HR7).bel).cells.1
    have c1 := ((unhide HM4).below (unhide HR7).bel).cells.2.1
    have c2 := ((unhide HM4).below (unhide HR7).bel).cells.2.2
    have d0 := heap_row (i := 0) (unhide HR7).box
    have d1 := heap_row (i := 1) (unhide HR7).box
    have d2 := heap_row (i := 2) (unhide HR7).box
    have HS7 := hide (sameW_yes ((unhide HM4).below (unhide HR7).bel).win (by rw [unhide HW0]; exact (unhide HR7).win : WIn w7 _ W0))
    go_wp2_with fail
    refine (unhide HS7).mono ?_
    rintro e w8 ⟨rfl, hB8⟩
    have HR8 := hide ((unhide HR7).below hB8)
    clear c0 c1 c2 d0 d1 d2 hB8 HR7 HS7
    by_cases h40 : 40 < m
    · have hEV := (unhide HER).1 h40
      have hE1 := hEV.1
      have hR1 := hEV.2.1
      have hT1 := hEV.2.2
      subst hE1 hR1 hT1
      have hmT : mT = 0 := (unhide HMT).symm
      subst hmT
      have h40I : (40 : Int) < (m : Int) := by omega
      have HV8 := hide ((unhide HV4).below (unhide HR8).bel)
      have c0 := (unhide HV8).cells.1
      have c1 := (unhide HV8).cells.2.1
      have c2 := (unhide HV8).cells.2.2
      have HS8 := hide (sameW_yes (unhide HV8).win (WIn.no w8))
      clear hEV h40
      go_wp2_with fail
      refine (unhide HS8).mono ?_
      rintro e w9 ⟨rfl, hB9⟩
      have HB9 := hide (bt (unhide HB4) (bt (unhide HR8).bel hB9))
      clear hB9 c0 c1 c2
      go_wp2
      go_ret
      exact ⟨rfl, unhide HB9⟩
    · have hEV := (unhide HER).2 (by omega)
      have hE1 := hEV.1
      subst hE1
      have h40I : ¬ (40 : Int) < (m : Int) := by omega
      have hm40 : m ≤ 40 := by omega
      have HSR : Hid (runW (⟨List.replicate q [], List.replicate q 0, []⟩ : Wd) (xs.drop 0) = R ∧ [] ++ runS (⟨List.replicate q [], List.replicate q 0, []⟩ : Wd) (xs.drop 0) = T) := hide (by rw [← unhide HW0, List.drop_zero, List.nil_append]; exact ⟨hEV.2.1.symm, hEV.2.2.symm⟩)
      have HOK0 : Hid (WdOk (⟨List.replicate q [], List.replicate q 0, []⟩ : Wd)) := hide (by rw [← unhide HW0]; exact unhide HOKW)
      clear hEV h40
      go_wp2
      go_loopw [12, 78] (fun v12 j wr => ∃ (k : Nat) (v1 v2 v3 : Value) (Wk : Wd) (es : List Nat), k ≤ m ∧ j = .int .i64 (k : Int) ∧ es.length = k ∧ Hid (RSt w4 wr v1 v2 v3 Wk v12 es) ∧ Hid (runW Wk (xs.drop k) = R ∧ es ++ runS Wk (xs.drop k) = T) ∧ Hid (WdOk Wk)) (fun _ j _ => m - (intOf j).toNat)
      case atStart => exact ⟨0, _, _, _, _, [], Nat.zero_le _, rfl, rfl, HR8, HSR, HOK0⟩
      case round =>
        clear HR8 HSR HOK0
        obtain ⟨k, v1, v2, v3, Wk, es, hk, rfl, hes, HS, HR, HOK⟩ := hrel
        have hS := unhide HS
        obtain ⟨s1, t1, s2, t2, s3, t3, e1, e2, e3⟩ := hS.win.sl
        obtain ⟨m1, hm1⟩ : ∃ m1, Wk.nodes.length = m1 := ⟨_, rfl⟩
        obtain ⟨m2, hm2⟩ : ∃ m2, Wk.clock.length = m2 := ⟨_, rfl⟩
        obtain ⟨m3, hm3⟩ : ∃ m3, Wk.net.length = m3 := ⟨_, rfl⟩
        rw [hm1] at e1
        rw [hm2] at e2
        rw [hm3] at e3
        subst e1 e2 e3
        obtain ⟨d1, d2, hds⟩ := hS.row.sl
        rw [hes] at hds
        subst hds
        have q0 := heap_row (i := 0) hS.box
        have q1 := heap_row (i := 1) hS.box
        have q2 := heap_row (i := 2) hS.box
        by_cases hlt : k < m
        · obtain ⟨x, hx⟩ := get_some (l := xs) (k := k) (by rw [unhide HM]; exact hlt)
          obtain ⟨b, o, ab, cb, ha, hbl, g0, g1, g2, g3, g4, hpx⟩ := (unhide HH).get hS.bel hx
          obtain ⟨nb, hnb⟩ : ∃ nb, x.bytes.length = nb := ⟨_, rfl⟩
          rw [hnb] at g4
          have hBx := bel_al (Below.refl wr.heap.size wr) (hbox x.kind x.node x.dst (B x.name) (.slice ab nb cb))
          have HD := hide (step_r (hS.win.below hBx) (hpx.below hBx) (unhide HOK))
          have hsp := run_step (W := Wk) hx
          have hokn : doE Wk x = 0 → WdOk (doW Wk x) := fun e => do_ok e
          obtain ⟨E, hE⟩ : ∃ E, doE Wk x = E := ⟨_, rfl⟩
          obtain ⟨Wn, hWn⟩ : ∃ Wn, doW Wk x = Wn := ⟨_, rfl⟩
          rw [hE, hWn] at hsp HD hokn
          have hvx : hpV x ab cb = .agg #[.int .i64 x.kind, .int .i64 x.node, .int .i64 x.dst, .string (B x.name), .slice ab nb cb] := by unfold hpV; rw [hnb]
          rw [hvx] at HD
          have HSP := hide hsp
          have HKN := hide hokn
          have hSx := hS.below hBx
          have HSx := hide hSx
          have q0' := heap_row (i := 0) hSx.box
          have q1' := heap_row (i := 1) hSx.box
          have q2' := heap_row (i := 2) hSx.box
          generalize B x.name = tn at *
          generalize x.kind = xk at *
          generalize x.node = xn at *
          generalize x.dst = xd at *
          clear hx hbl hpx hnb hBx hsp hE hWn hvx hS hSx hm1 hm2 hm3 HS hokn
          subst ha
          go_wp2_with fail
          refine (unhide HD).mono ?_
          rintro e w9 ⟨u, rfl, hW9, hV9, hB9⟩
          obtain ⟨a1', c1', a2', c2', a3', c3', hu, hat9⟩ := hW9
          subst hu
          obtain ⟨l1', hl1⟩ : ∃ l1, Wn.nodes.length = l1 := ⟨_, rfl⟩
          obtain ⟨l2', hl2⟩ : ∃ l2, Wn.clock.length = l2 := ⟨_, rfl⟩
          obtain ⟨l3', hl3⟩ : ∃ l3, Wn.net.length = l3 := ⟨_, rfl⟩
          have hW9 : WIn w9 (.agg #[.slice a1' l1' c1', .slice a2' l2' c2', .slice a3' l3' c3']) Wn := ⟨a1', c1', a2', c2', a3', c3', by rw [hl1, hl2, hl3], hat9⟩
          rw [hl1, hl2, hl3] at hV9 ⊢
          have hS9 := (unhide HSx).below hB9
          have hB10 := bel_al (Below.refl w9.heap.size w9) (wbox (.slice a1' l1' c1') (.slice a2' l2' c2') (.slice a3' l3' c3'))
          have hS10 := hS9.below hB10
          have hW10 := hW9.below hB10
          have hx10 := heap_alloc_new w9 (wbox (.slice a1' l1' c1') (.slice a2' l2' c2') (.slice a3' l3' c3'))
          obtain ⟨hRk, hTk⟩ := unhide HR
          obtain ⟨hr1, hr2⟩ := unhide HSP
          rw [hr1] at hRk
          rw [hr2] at hTk
          have hszx := (unhide HSx).lt
          by_cases hE0 : E = 0
          · subst hE0
            rw [if_pos rfl] at hRk hTk
            have hoff : ∀ b, vBlocks (.agg #[.slice a1' l1' c1', .slice a2' l2' c2', .slice a3' l3' c3']) b → some b ≠ (Value.slice d1 k d2).ownBlock ∧ b ≠ w4.heap.size ∧ b < (w9.alloc (wbox (.slice a1' l1' c1') (.slice a2' l2' c2') (.slice a3' l3' c3'))).heap.size := by
              intro b hb
              have hv := hV9 b hb
              refine ⟨fun e => ?_, ?_, by rw [World.size_alloc]; omega⟩
              · have := ((unhide HSx).row.lt e.symm).2
                omega
              · omega
            have hS11 := hS10.put hW10 hoff
            have r0 := heap_row (i := 0) hS10.box
            have r1 := heap_row (i := 1) hS10.box
            have r2 := heap_row (i := 2) hS10.box
            have f0 := frozen_of_row _ _ 0 _ _ hS10.box
            have f1 := frozen_of_row _ _ 1 _ _ hS10.box
            have f2 := frozen_of_row _ _ 2 _ _ hS10.box
            obtain ⟨w11, hw11⟩ : ∃ w11, (((w9.alloc (wbox (.slice a1' l1' c1') (.slice a2' l2' c2') (.slice a3' l3' c3'))).setCell ⟨w4.heap.size, 0, none⟩ (.slice a1' l1' c1')).setCell ⟨w4.heap.size, 1, none⟩ (.slice a2' l2' c2')).setCell ⟨w4.heap.size, 2, none⟩ (.slice a3' l3' c3') = w11 := ⟨_, rfl⟩
            rw [hw11] at hS11
            obtain ⟨E, hEe⟩ : ∃ E : Nat, E = 0 := ⟨0, rfl⟩
            obtain ⟨v9', w8, hr, hT8, hg8, hat8⟩ := app_e (w11.alloc (.cells #[.int .i64 (E : Int)] 31)) 39 (e := E) (hS11.below (bel_al (Below.refl w11.heap.size w11) (.cells #[.int .i64 (E : Int)] 31))).row (heap_row (heap_alloc_new w11 _)) (by omega) (by have := hS11.lt; rw [World.size_alloc]; omega)
            have hS8 := (hS11.below (bel_al (Below.refl w11.heap.size w11) (.cells #[.int .i64 (E : Int)] 31))).say hT8 hg8 hat8
            obtain ⟨a9, c9, hv9⟩ := hT8.sl
            rw [List.length_append, List.length_singleton, hes] at hv9
            subst hv9
            have HS8 := hide hS8
            rw [hEe] at hr HS8
            have HR8 := hide (And.intro hRk (show (es ++ [0]) ++ runS Wn (xs.drop (k + 1)) = T by rw [List.append_assoc]; exact hTk))
            have HW11 := hide hw11
            have HRR := hide hr
            have HKK := hide (unhide HKN rfl)
            clear hr hEe hw11 hS8 hT8 hg8 hat8 hS11 hoff hRk hTk hr1 hr2 hszx hW10 hS10 hB10 hS9 hW9 hV9 hat9 hl1 hl2 hl3 hB9 HR HSP HSx HD q0 q1 q2 q0' q1' q2' hx10 HKN
            go_upto_region 21 with fail
            rw [show (((w9.alloc (wbox (.slice a1' l1' c1') (.slice a2' l2' c2') (.slice a3' l3' c3'))).setCell ⟨w4.heap.size, 0, none⟩ (.slice a1' l1' c1')).setCell ⟨w4.heap.size, 1, none⟩ (.slice a2' l2' c2')).setCell ⟨w4.heap.size, 2, none⟩ (.slice a3' l3' c3') = w11 from unhide HW11]
            clear r0 r1 r2 f0 f1 f2 HW11
            go_wp2_with (at_builtin; refine wpList_append_run rfl _ _ _ rfl rfl rfl (unhide HRR) ?_)
            go_wp2
            go_roundw
            case rel => exact ⟨k + 1, _, _, _, Wn, es ++ [0], by omega, by go_num, by simp [hes], HS8, HR8, HKK⟩
            case measure => simp [intOf]; omega
          · rw [if_neg hE0] at hRk hTk
            obtain ⟨hb0, hb2⟩ := nat_ne hE0
            obtain ⟨w10, hw10⟩ : ∃ w10, w9.alloc (wbox (.slice a1' l1' c1') (.slice a2' l2' c2') (.slice a3' l3' c3')) = w10 := ⟨_, rfl⟩
            rw [hw10] at hS10
            obtain ⟨v9', w8, hr, hT8, hg8, hat8⟩ := app_e (w10.alloc (.cells #[.int .i64 (E : Int)] 31)) 39 (e := E) (hS10.below (bel_al (Below.refl w10.heap.size w10) (.cells #[.int .i64 (E : Int)] 31))).row (heap_row (heap_alloc_new w10 _)) (by omega) (by have := hS10.lt; rw [World.size_alloc]; omega)
            have hS8 := (hS10.below (bel_al (Below.refl w10.heap.size w10) (.cells #[.int .i64 (E : Int)] 31))).say hT8 hg8 hat8
            obtain ⟨a9, c9, hv9⟩ := hT8.sl
            rw [List.length_append, List.length_singleton, hes] at hv9
            subst hv9
            have HS8 := hide hS8
            have HR8 := hide (And.intro hRk (show (es ++ [E]) ++ runS Wk (xs.drop (k + 1)) = T by rw [List.append_assoc]; exact hTk))
            have HW10 := hide hw10
            have HRR := hide hr
            clear hr hw10 hS8 hT8 hg8 hat8 hRk hTk hr1 hr2 hszx hW10 hS10 hB10 hS9 hW9 hV9 hat9 hl1 hl2 hl3 hB9 HR HSP HSx HD q0 q1 q2 q0' q1' q2' hE0 hx10 HKN
            go_upto_region 21 with fail
            rw [show w9.alloc (wbox (.slice a1' l1' c1') (.slice a2' l2' c2') (.slice a3' l3' c3')) = w10 from unhide HW10]
            clear HW10
            go_wp2_with (at_builtin; refine wpList_append_run rfl _ _ _ rfl rfl rfl (unhide HRR) ?_)
            go_wp2
            go_roundw
            case rel => exact ⟨k + 1, _, _, _, Wk, es ++ [E], by omega, by go_num, by simp [hes], HS8, HR8, HOK⟩
            case measure => simp [intOf]; omega
        · obtain rfl : m = k := by omega
          obtain ⟨hRk, hTk⟩ := unhide HR
          rw [List.drop_of_length_le (by rw [unhide HM]; exact Nat.le_refl _)] at hRk hTk
          have hR2 : Wk = R := hRk
          have hT2 : es = T := by simpa [runS] using hTk
          subst hR2 hT2
          have hmT : mT = m := by rw [← unhide HMT]; exact hes
          subst hmT
          obtain ⟨a8, c8, hv8, hC8⟩ := hS.row.es (by omega)
          rw [hes] at hv8
          cases hv8
          have HEQ := hide (equalE_yes ((unhide HCS).below hS.bel) hC8 (n := mT) (by simp [en]; exact hes))
          have HV8 := hide ((unhide HV4).below hS.bel)
          clear hRk hTk hlt hS hm1 hm2 hm3 hC8 q0 q1 q2
          go_wp2_with fail
          refine (unhide HEQ).mono ?_
          rintro e w9 ⟨rfl, hB9⟩
          have HS9 := hide ((unhide HS).below hB9)
          have HV9 := hide ((unhide HV8).below hB9)
          clear hB9 HS HV8 HEQ
          have c0 := (unhide HV9).cells.1
          have c1 := (unhide HV9).cells.2.1
          have c2 := (unhide HV9).cells.2.2
          have e0 := heap_row (i := 0) (unhide HS9).box
          have e1 := heap_row (i := 1) (unhide HS9).box
          have e2 := heap_row (i := 2) (unhide HS9).box
          have HSW := hide (sameW_yes (unhide HV9).win (unhide HS9).win)
          go_wp2_with fail
          refine (unhide HSW).mono ?_
          rintro e w10 ⟨rfl, hB10⟩
          have HB10 := hide (bt (unhide HB4) (bt (unhide HS9).bel hB10))
          clear hB10 c0 c1 c2 e0 e1 e2
          go_wp2
          go_ret
          exact ⟨rfl, unhide HB10⟩
theorem worldRun_any (n : Int) (a : Option Addr) (c m : Nat) (xs : List Hp) (w : World) (h : HsIn w a c xs) (hm : xs.length = m) :
    Calls Tryz.prog 4 #[.int .i64 n, .slice a m c] w fun e w' => e = .returned (.bool true) ∧ Below w.heap.size w w' := by
  by_cases hn : n < 1 ∨ 4 < n
  · exact worldRun_bad n a c m xs w h hm hn
  · obtain ⟨q, rfl⟩ : ∃ q : Nat, n = (q : Int) := ⟨n.toNat, by omega⟩
    exact worldRun_good q a c m xs w h hm (by omega) (by omega)
end Go.Proofs.YtmgmganbamjnmaaGreatDoor
