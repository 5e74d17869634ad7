/-
  Package world: Settle.
-/
import Derived.Test.YtmgmganbamjnmaaGreatDoorS33
namespace Go.Proofs.YtmgmganbamjnmaaGreatDoor
open Go.RowKit
set_option linter.unusedVariables false
set_option linter.unusedSimpArgs false
set_option maxRecDepth 100000

theorem setE_step {ls : List (List Fl)} {k : Nat} {l A : List Fl} (h : ls[k]? = some l) : setE A (ls.drop k) = (if bothE A l ≠ 0 then bothE A l else setE (bothL A l) (ls.drop (k + 1))) ∧ setL A (ls.drop k) = setL (bothL A l) (ls.drop (k + 1)) := by
  obtain ⟨k1, e1⟩ := List.getElem?_eq_some_iff.1 h
  rw [List.drop_eq_getElem_cons k1, e1]
  exact ⟨rfl, rfl⟩
theorem csin_one (w : World) (x : Int) (t : TypeId) : CsIn (w.alloc (.cells #[.int .i64 x] t)) (some ⟨w.heap.size, 0, none⟩) 1 [x] := by
  refine ⟨by simp, by omega, by simp, (fun e => by cases e), .inr ⟨w.heap.size, 0, rfl, by simp, fun j y hj => ?_⟩⟩
  have hj0 : j = 0 := by have := (List.getElem?_eq_some_iff.1 hj).1; simpa using this
  subst hj0
  have hy : x = y := by simpa using hj
  subst hy
  exact heap_row (heap_alloc_new w _)
set_option maxHeartbeats 4000000 in
theorem settle_at (a1 a2 a3 : Option Addr) (n1 c1 n2 c2 n3 c3 : Nat) (W : Wd) (w : World) (h : WAt w W a1 c1 a2 c2 a3 c3) (h1 : W.nodes.length = n1) (h2 : W.clock.length = n2) (h3 : W.net.length = n3) :
    Calls Tryz.prog 16 #[.agg #[.slice a1 n1 c1, .slice a2 n2 c2, .slice a3 n3 c3]] w (DoA w (stlE W) (stlW W)) := by
  have hin : WIn w (.agg #[.slice a1 n1 c1, .slice a2 n2 c2, .slice a3 n3 c3]) W := ⟨a1, c1, a2, c2, a3, c3, by rw [h1, h2, h3], h⟩
  obtain ⟨w1, hw1, hz1, hb1, hx0, hx1⟩ := two_boxes w (.slice a1 n1 c1) (.slice a2 n2 c2) (.slice a3 n3 c3)
  obtain ⟨E1, hE1⟩ : ∃ E1, errWd W = E1 := ⟨_, rfl⟩
  have HC := hide (check_w (hin.below hb1))
  rw [hE1] at HC
  have hdo : stlE W = if E1 ≠ 0 then E1 else setE [] W.nodes := by unfold stlE; rw [hE1]
  have hdw : stlW W = if stlE W = 0 then (⟨W.clock.map fun _ => setL [] W.nodes, W.clock.map fun c => rsd c (setL [] W.nodes), []⟩ : Wd) else noW := rfl
  rw [hdw]
  obtain ⟨E, hE⟩ : ∃ E, stlE W = E := ⟨_, rfl⟩
  rw [hE] at hdo ⊢
  obtain ⟨R, hR⟩ : ∃ R, (if E = 0 then (⟨W.clock.map fun _ => setL [] W.nodes, W.clock.map fun c => rsd c (setL [] W.nodes), []⟩ : Wd) else noW) = R := ⟨_, rfl⟩
  rw [hR]
  have z0 := heap_row (i := 0) hx0
  have z1 := heap_row (i := 1) hx0
  have z2 := heap_row (i := 2) hx0
  have HX := hide (And.intro hz1 (And.intro hb1 (And.intro hx0 (And.intro hx1 (h.below hb1)))))
  have HL := hide (And.intro h1 h2)
  have HDO := hide (And.intro hdo hR)
  have HE1 := hide hE1
  have HW1 := hide hw1
  rw [← hw1] at HC z0 z1 z2
  clear h h1 h2 h3 hin hw1 hz1 hb1 hx0 hx1 hE1 hdo hdw hE hR
  go_enter Tryz.func16, Tryz.ntmps16
  go_wp2_with fail
  refine (unhide HC).mono ?_
  rintro e w3 ⟨rfl, hB3⟩
  rw [show (w.alloc (wbox (.slice a1 n1 c1) (.slice a2 n2 c2) (.slice a3 n3 c3))).alloc (wbox (.slice none 0 0) (.slice none 0 0) (.slice none 0 0)) = w1 from unhide HW1] at hB3
  clear z0 z1 z2
  by_cases hE0 : E1 = 0
  · subst hE0
    obtain ⟨hz1, hb1, hx0, hx1, h⟩ := unhide HX
    have q0 := (hB3.cell (p := ⟨w.heap.size, 0, none⟩) (by show w.heap.size < _; omega)).trans (heap_row (i := 0) hx0)
    obtain ⟨hdo, hR⟩ := unhide HDO
    rw [if_neg (by simp)] at hdo
    have hok := errWd_zero.1 (unhide HE1)
    have hl1 := hok.hi
    have hl2 := hok.cl
    rw [(unhide HL).1] at hl1 hl2
    rw [(unhide HL).2] at hl2
    have hl3 : n2 ≤ 4 := by omega
    clear hl2
    have HB3 := hide hB3
    have HDO2 := hide (And.intro hdo hR)
    have HS0 : Hid (setE [] W.nodes = setE [] (W.nodes.drop 0) ∧ setL [] W.nodes = setL [] (W.nodes.drop 0)) := hide ⟨rfl, rfl⟩
    have HL0 : Hid (LIn w3 (.slice none 0 0) []) := hide ⟨none, 0, [], rfl, FsIn.nil w3, rfl⟩
    clear hz1 hb1 hx0 hx1 h hdo hR hok HC HDO HE1 HW1 hB3
    go_wp2
    go_loopw [5, 22] (fun v5 j wr => ∃ (k : Nat) (A : List Fl) (av : Option Addr) (nv cv : Nat), k ≤ n1 ∧ v5 = .slice av nv cv ∧ j = .int .i64 (k : Int) ∧ Hid (LIn wr (.slice av nv cv) A) ∧ Hid (setE [] W.nodes = setE A (W.nodes.drop k) ∧ setL [] W.nodes = setL A (W.nodes.drop k)) ∧ Hid (Below w1.heap.size w1 wr)) (fun _ j _ => n1 - (intOf j).toNat)
    case atStart => exact ⟨0, [], _, _, _, Nat.zero_le _, rfl, rfl, HL0, HS0, HB3⟩
    case round =>
      clear q0 HL0 HS0 HB3
      obtain ⟨k, A, av, nv, cv, hk, rfl, rfl, HA, HS, HB⟩ := hrel
      obtain ⟨hz1, hb1, hx0, hx1, h⟩ := unhide HX
      by_cases hlt : k < n1
      · obtain ⟨l, hl⟩ := get_some (l := W.nodes) (k := k) (by rw [(unhide HL).1]; exact hlt)
        obtain ⟨b, o, x, ha1, hb, hx, hLl⟩ := (h.below (unhide HB)).ns.get hl
        have HBO := hide (both_l (unhide HA) hLl)
        obtain ⟨F, hF⟩ : ∃ F, bothE A l = F := ⟨_, rfl⟩
        have hst := setE_step (A := A) hl
        rw [hF] at HBO hst
        have HST := hide hst
        obtain ⟨ax, cx, hxs⟩ := hLl.shape
        obtain ⟨ln, hln⟩ : ∃ ln, l.length = ln := ⟨_, rfl⟩
        rw [hln] at hxs
        subst hxs
        subst ha1
        clear hz1 hb1 hx0 hx1 h hl hLl hF hst hln
        go_wp2_with fail
        refine (unhide HBO).mono ?_
        rintro e w4 ⟨x4, rfl, hL4, hB4⟩
        replace hB4 : Below w1.heap.size w1 w4 := (unhide HB).trans (hB4.mono (unhide HB).size)
        by_cases hF0 : F = 0
        · subst hF0
          have hst := unhide HST
          rw [if_neg (by simp)] at hst
          obtain ⟨aA, cA, hx4⟩ := hL4.shape
          obtain ⟨nA, hnA⟩ : ∃ nA, (bothL A l).length = nA := ⟨_, rfl⟩
          rw [hnA] at hx4
          subst hx4
          have HS2 := hide (And.intro ((unhide HS).1.trans hst.1) ((unhide HS).2.trans hst.2))
          have HL4 := hide hL4
          have HB4 := hide hB4
          clear hst hL4 hB4 hnA HST HBO
          go_wp2
          go_roundw
          case rel => exact ⟨k + 1, bothL A l, _, _, _, by omega, rfl, by go_num, HL4, HS2, HB4⟩
          case measure => simp [intOf]; omega
        · obtain ⟨hz1, hb1, hx0, hx1, h⟩ := unhide HX
          obtain ⟨hdo, hR⟩ := unhide HDO2
          rw [(unhide HS).1, (unhide HST).1, if_pos hF0] at hdo
          obtain ⟨hn1, hn2⟩ := nat_ne hF0
          subst hdo
          rw [if_neg hF0] at hR
          subst hR
          obtain ⟨aA, cA, hx4⟩ := hL4.shape
          obtain ⟨nA, hnA⟩ : ∃ nA, (bothL A l).length = nA := ⟨_, rfl⟩
          rw [hnA] at hx4
          subst hx4
          have hx5 := (hB4.block (w.heap.size + 1) (by omega)).trans hx1
          have hBw := hb1.trans (hB4.mono (by omega))
          obtain ⟨p1, p2⟩ := put_no hx5 hBw (by omega)
          have y0 := heap_row (i := 0) hx5
          have y1 := heap_row (i := 1) hx5
          have y2 := heap_row (i := 2) hx5
          have f0 := frozen_of_row _ _ 0 _ _ hx5
          have f1 := frozen_of_row _ _ 1 _ _ hx5
          have f2 := frozen_of_row _ _ 2 _ _ hx5
          have HP := hide p1
          have HBF := hide p2
          clear hz1 hb1 hx0 hx1 h hL4 hB4 hnA hx5 hBw p1 p2 HBO HST hF0
          go_wp2
          refine bodyPost_ret (v := .tuple #[.agg #[(.slice none 0 0), (.slice none 0 0), (.slice none 0 0)], .int .i64 (E : Int)]) ?_ rfl ⟨_, rfl, WIn.no _, VFrom.no _ _, unhide HBF⟩
          exact results_wt rfl _ _ (w.heap.size + 1) _ _ rfl (wd_load (unhide HP)) rfl
      · obtain rfl : n1 = k := by omega
        have hs := unhide HS
        rw [List.drop_of_length_le (by rw [(unhide HL).1]; exact Nat.le_refl _)] at hs
        simp only [setE, setL] at hs
        obtain ⟨hdo, hR⟩ := unhide HDO2
        rw [hs.1] at hdo
        subst hdo
        rw [if_pos rfl, hs.2] at hR
        obtain ⟨wB, rfl⟩ : ∃ x, x = wr := ⟨_, rfl⟩
        have q1 := ((unhide HB).cell (p := ⟨w.heap.size, 1, none⟩) (by show w.heap.size < _; omega)).trans (heap_row (i := 1) hx0)
        have hsz := (unhide HB).size
        have HRR := hide hR
        have HST : Hid (∀ W', W' = wB.alloc (wbox (.slice none 0 0) (.slice none 0 0) (.slice none 0 0)) → BSt wB W' (.slice none 0 0) (.slice none 0 0) (.slice none 0 0) [] [] []) := hide (fun W' e => by rw [e]; exact BSt.start wB)
        have q1' := cell_al (o := wbox (.slice none 0 0) (.slice none 0 0) (.slice none 0 0)) q1
        have HX2 := hide (And.intro hz1 (And.intro hb1 (And.intro hx1 ((h.below (unhide HB))))))
        have HSZ := hide hsz
        have HQ1 := hide q1
        clear hz1 hb1 hx0 hx1 h hs hR HS HX HDO2 hlt hsz q1
        go_wp2
        go_loopw [41] (fun j wq => ∃ (k : Nat) (vn vc : Value) (ns : List Lv) (cs : List Int), k ≤ n2 ∧ j = .int .i64 (k : Int) ∧ Hid (BSt wB wq vn vc (.slice none 0 0) ns cs []) ∧ Hid (lss ns = (W.clock.take k).map (fun _ => A) ∧ cs = (W.clock.take k).map (fun c => rsd c A)) ∧ ns.length = k ∧ cs.length = k) (fun j _ => n2 - (intOf j).toNat)
        case atStart => exact ⟨0, _, _, [], [], Nat.zero_le _, rfl, unhide HST _ rfl, hide ⟨rfl, rfl⟩, rfl, rfl⟩
        case round =>
          clear HST q1'
          obtain ⟨k, vn, vc, ns, cs, hk, rfl, HS, HK, hnk, hck⟩ := hrel
          obtain ⟨hz1, hb1, hx1, h⟩ := unhide HX2
          have hsz := unhide HSZ
          by_cases hlt : k < n2
          · have hS := unhide HS
            obtain ⟨c, hcl⟩ := get_some (l := W.clock) (k := k) (by rw [(unhide HL).2]; exact hlt)
            obtain ⟨b, o, ha2, hb, hx⟩ := (h.below hS.bel).cs.get hcl
            have hd := below_drewN (Below.refl wr.heap.size wr) 1
            have HC := hide (copy_l (((unhide HA).below hS.bel).below hd))
            obtain ⟨rc, hrc⟩ : ∃ rc, rsd c A = rc := ⟨_, rfl⟩
            have HRZ : Hid (∀ V, Below wB.heap.size wB V → Calls Tryz.prog 37 #[.int .i64 c, .slice av nv cv] V fun e w' => e = .returned (.int .i64 rc) ∧ Below V.heap.size V w') := hide (fun V hV => by
              have := raised_l c ((unhide HA).below hV)
              rw [hrc] at this
              exact this)
            have HK3 : Hid (∀ y : Lv, y.l = A → lss (ns ++ [y]) = (W.clock.take (k + 1)).map (fun _ => A) ∧ cs ++ [rc] = (W.clock.take (k + 1)).map (fun c => rsd c A)) := hide (fun y hy => by
              obtain ⟨u1, u2⟩ := unhide HK
              rw [take_get hcl, List.map_append, List.map_append, ← u1, ← u2]
              simp [lss, hy, hrc])
            obtain ⟨an, cn, hvn⟩ := hS.ow.n.sl
            obtain ⟨ac, cc, hvc⟩ := hS.ow.c.sl
            rw [hnk] at hvn
            rw [hck] at hvc
            subst hvn hvc
            have HSD := hide (hS.below hd)
            have d0 : wr.drew.cell? ⟨wB.heap.size, 0, none⟩ = some (.slice an k cn) := hS.cells.1
            have HD0 := hide d0
            subst ha2
            clear hz1 hb1 hx1 h hsz hS hcl hd hrc d0 HS HK
            go_upto_region 17 with fail
            have hS := unhide HSD
            have d0 := unhide HD0
            go_cut [] (fun wc => ∃ (a6 : Option Addr) (c6 : Nat) (y : Lv), Hid (BSt wB wc (.slice a6 (k + 1) c6) (.slice ac k cc) (.slice none 0 0) (ns ++ [y]) cs []) ∧ y.l = A)
            case first =>
              refine wp_region_held_drew (S := fun _ => True) (by kernel_rfl) trivial (fun hHeld => ?_)
              refine wpAnyH_take (i := 0) (v := .pointer (some ⟨wB.heap.size, 0, none⟩)) rfl (by kernel_rfl) (by kernel_rfl) (by kernel_rfl) (fun _ _ _ h => h) (Or.inl ⟨by rfl, fun W hS => by go_simp⟩) hHeld ?_
              simp only [Act.put, List.setIfInBounds_toArray, List.set_cons_zero, List.set_cons_succ]
              refine wpAnyH_take (i := 2) (v := .slice av nv cv) rfl (by kernel_rfl) (by kernel_rfl) (by kernel_rfl) (fun _ _ _ h => h) (Or.inl ⟨by rfl, fun W hS => by go_simp⟩) hHeld ?_
              simp only [Act.put, List.setIfInBounds_toArray, List.set_cons_zero, List.set_cons_succ]
              refine wpAnyH_ready (rs := [1, 3]) (by kernel_rfl) (by simp) (AllReadyH.cons rfl (fun K hK => ?_) (AllReadyH.cons rfl (fun K hK => ?_) AllReadyH.nil))
              · go_simp
                refine hK.out _ _ trivial (fun _ => ?_)
                clear hK K
                refine wpAnyH_ready (rs := [3]) (by kernel_rfl) (by simp) (AllReadyH.cons rfl (fun K hK => ?_) AllReadyH.nil)
                go_simp
                refine (unhide HC).mono ?_
                rintro e w4 ⟨x4, rfl, hL, hB4⟩
                dsimp only
                obtain ⟨a', c', hx4⟩ := hL.shape
                obtain ⟨n', hn'⟩ : ∃ n', A.length = n' := ⟨_, rfl⟩
                rw [hn'] at hx4
                subst hx4
                have hS4 := hS.below hB4
                obtain ⟨g0, g1, g2, gf⟩ := hS4.cells
                refine hK.out _ _ trivial (fun _ => ?_)
                clear hK K
                refine wpAnyH_ready (rs := [4]) (by kernel_rfl) (by simp) (AllReadyH.cons rfl (fun K hK => ?_) AllReadyH.nil)
                go_simp
                refine hK.out _ _ trivial (fun _ => ?_)
                clear hK K
                have hB5 : Below w4.heap.size w4 (w4.alloc (.cells #[.slice a' n' c'] 46)) := bel_al (Below.refl _ _) _
                have hS5 := hS4.below hB5
                have hY5 : (w4.alloc (.cells #[.slice a' n' c'] 46)).cell? ⟨w4.heap.size, 0, none⟩ = some (Lv.val ⟨A, a', c'⟩) := by rw [heap_row (heap_alloc_new w4 _)]; simp [Lv.val, hn']
                have hL5 : LIn (w4.alloc (.cells #[.slice a' n' c'] 46)) (Lv.val ⟨A, a', c'⟩) A := by have := hL.below hB5; simpa [Lv.val, hn'] using this
                obtain ⟨v', w6, hr, hT, hg, hat⟩ := app_n (w4.alloc (.cells #[.slice a' n' c'] 46)) 22 (y := ⟨A, a', c'⟩) hS5.ow.n hY5 (by omega) (by have := hS5.lt; omega)
                obtain ⟨e0, ef, hS6⟩ := hS5.putN hL5 hT hg
                obtain ⟨a6, c6, hv6⟩ := hT.sl
                rw [List.length_append, List.length_singleton, hnk] at hv6
                subst hv6
                have HS6 := hide hS6
                clear hS5 hL5 hT hg hat hS6 hB5
                refine wpAnyH_ready (rs := [5]) (by kernel_rfl) (by simp) (AllReadyH.cons rfl (fun K hK => ?_) AllReadyH.nil)
                rw [if_pos (by rfl)]
                refine wp_append_run (.tmp 46) (.tmp 49) 22 rfl rfl rfl hr ?_
                refine hK.out _ _ trivial (fun _ => ?_)
                clear hK K hr hY5
                simp only [Act.put, List.setIfInBounds_toArray, List.set_cons_zero, List.set_cons_succ]
                refine wpAnyH_take (i := 6) (v := .pointer (some ⟨wB.heap.size, 0, none⟩)) rfl (by kernel_rfl) (by kernel_rfl) (by kernel_rfl) (fun _ _ _ h => h) (Or.inl ⟨by rfl, fun W hS => by go_simp⟩) hHeld ?_
                simp only [Act.put, List.setIfInBounds_toArray, List.set_cons_zero, List.set_cons_succ]
                refine wpAnyH_ready (rs := [7]) (by kernel_rfl) (by simp) (AllReadyH.cons rfl (fun K hK => ?_) AllReadyH.nil)
                go_simp
                refine hK.out _ _ trivial (fun _ => ?_)
                clear hK K
                refine wpAnyH_done (by kernel_rfl) ?_ _
                go_wp2_with fail
                go_meet
                exact ⟨a6, c6, ⟨A, a', c'⟩, HS6, rfl⟩
              · skip
                go_simp
                refine (unhide HC).mono ?_
                rintro e w4 ⟨x4, rfl, hL, hB4⟩
                dsimp only
                obtain ⟨a', c', hx4⟩ := hL.shape
                obtain ⟨n', hn'⟩ : ∃ n', A.length = n' := ⟨_, rfl⟩
                rw [hn'] at hx4
                subst hx4
                have hS4 := hS.below hB4
                obtain ⟨g0, g1, g2, gf⟩ := hS4.cells
                refine hK.out _ _ trivial (fun _ => ?_)
                clear hK K
                refine wpAnyH_ready (rs := [1, 4]) (by kernel_rfl) (by simp) (AllReadyH.cons rfl (fun K hK => ?_) (AllReadyH.cons rfl (fun K hK => ?_) AllReadyH.nil))
                · go_simp
                  refine hK.out _ _ trivial (fun _ => ?_)
                  clear hK K
                  refine wpAnyH_ready (rs := [4]) (by kernel_rfl) (by simp) (AllReadyH.cons rfl (fun K hK => ?_) AllReadyH.nil)
                  go_simp
                  refine hK.out _ _ trivial (fun _ => ?_)
                  clear hK K
                  have hB5 : Below w4.heap.size w4 (w4.alloc (.cells #[.slice a' n' c'] 46)) := bel_al (Below.refl _ _) _
                  have hS5 := hS4.below hB5
                  have hY5 : (w4.alloc (.cells #[.slice a' n' c'] 46)).cell? ⟨w4.heap.size, 0, none⟩ = some (Lv.val ⟨A, a', c'⟩) := by rw [heap_row (heap_alloc_new w4 _)]; simp [Lv.val, hn']
                  have hL5 : LIn (w4.alloc (.cells #[.slice a' n' c'] 46)) (Lv.val ⟨A, a', c'⟩) A := by have := hL.below hB5; simpa [Lv.val, hn'] using this
                  obtain ⟨v', w6, hr, hT, hg, hat⟩ := app_n (w4.alloc (.cells #[.slice a' n' c'] 46)) 22 (y := ⟨A, a', c'⟩) hS5.ow.n hY5 (by omega) (by have := hS5.lt; omega)
                  obtain ⟨e0, ef, hS6⟩ := hS5.putN hL5 hT hg
                  obtain ⟨a6, c6, hv6⟩ := hT.sl
                  rw [List.length_append, List.length_singleton, hnk] at hv6
                  subst hv6
                  have HS6 := hide hS6
                  clear hS5 hL5 hT hg hat hS6 hB5
                  refine wpAnyH_ready (rs := [5]) (by kernel_rfl) (by simp) (AllReadyH.cons rfl (fun K hK => ?_) AllReadyH.nil)
                  rw [if_pos (by rfl)]
                  refine wp_append_run (.tmp 46) (.tmp 49) 22 rfl rfl rfl hr ?_
                  refine hK.out _ _ trivial (fun _ => ?_)
                  clear hK K hr hY5
                  simp only [Act.put, List.setIfInBounds_toArray, List.set_cons_zero, List.set_cons_succ]
                  refine wpAnyH_take (i := 6) (v := .pointer (some ⟨wB.heap.size, 0, none⟩)) rfl (by kernel_rfl) (by kernel_rfl) (by kernel_rfl) (fun _ _ _ h => h) (Or.inl ⟨by rfl, fun W hS => by go_simp⟩) hHeld ?_
                  simp only [Act.put, List.setIfInBounds_toArray, List.set_cons_zero, List.set_cons_succ]
                  refine wpAnyH_ready (rs := [7]) (by kernel_rfl) (by simp) (AllReadyH.cons rfl (fun K hK => ?_) AllReadyH.nil)
                  go_simp
                  refine hK.out _ _ trivial (fun _ => ?_)
                  clear hK K
                  refine wpAnyH_done (by kernel_rfl) ?_ _
                  go_wp2_with fail
                  go_meet
                  exact ⟨a6, c6, ⟨A, a', c'⟩, HS6, rfl⟩
                · go_simp
                  refine hK.out _ _ trivial (fun _ => ?_)
                  clear hK K
                  have g0' : (w4.alloc (.cells #[.slice a' n' c'] 46)).cell? ⟨wB.heap.size, 0, none⟩ = some (.slice an k cn) := cell_al g0
                  refine wpAnyH_ready (rs := [1]) (by kernel_rfl) (by simp) (AllReadyH.cons rfl (fun K hK => ?_) AllReadyH.nil)
                  go_simp
                  refine hK.out _ _ trivial (fun _ => ?_)
                  clear hK K g0'
                  have hB5 : Below w4.heap.size w4 (w4.alloc (.cells #[.slice a' n' c'] 46)) := bel_al (Below.refl _ _) _
                  have hS5 := hS4.below hB5
                  have hY5 : (w4.alloc (.cells #[.slice a' n' c'] 46)).cell? ⟨w4.heap.size, 0, none⟩ = some (Lv.val ⟨A, a', c'⟩) := by rw [heap_row (heap_alloc_new w4 _)]; simp [Lv.val, hn']
                  have hL5 : LIn (w4.alloc (.cells #[.slice a' n' c'] 46)) (Lv.val ⟨A, a', c'⟩) A := by have := hL.below hB5; simpa [Lv.val, hn'] using this
                  obtain ⟨v', w6, hr, hT, hg, hat⟩ := app_n (w4.alloc (.cells #[.slice a' n' c'] 46)) 22 (y := ⟨A, a', c'⟩) hS5.ow.n hY5 (by omega) (by have := hS5.lt; omega)
                  obtain ⟨e0, ef, hS6⟩ := hS5.putN hL5 hT hg
                  obtain ⟨a6, c6, hv6⟩ := hT.sl
                  rw [List.length_append, List.length_singleton, hnk] at hv6
                  subst hv6
                  have HS6 := hide hS6
                  clear hS5 hL5 hT hg hat hS6 hB5
                  refine wpAnyH_ready (rs := [5]) (by kernel_rfl) (by simp) (AllReadyH.cons rfl (fun K hK => ?_) AllReadyH.nil)
                  rw [if_pos (by rfl)]
                  refine wp_append_run (.tmp 46) (.tmp 49) 22 rfl rfl rfl hr ?_
                  refine hK.out _ _ trivial (fun _ => ?_)
                  clear hK K hr hY5
                  simp only [Act.put, List.setIfInBounds_toArray, List.set_cons_zero, List.set_cons_succ]
                  refine wpAnyH_take (i := 6) (v := .pointer (some ⟨wB.heap.size, 0, none⟩)) rfl (by kernel_rfl) (by kernel_rfl) (by kernel_rfl) (fun _ _ _ h => h) (Or.inl ⟨by rfl, fun W hS => by go_simp⟩) hHeld ?_
                  simp only [Act.put, List.setIfInBounds_toArray, List.set_cons_zero, List.set_cons_succ]
                  refine wpAnyH_ready (rs := [7]) (by kernel_rfl) (by simp) (AllReadyH.cons rfl (fun K hK => ?_) AllReadyH.nil)
                  go_simp
                  refine hK.out _ _ trivial (fun _ => ?_)
                  clear hK K
                  refine wpAnyH_done (by kernel_rfl) ?_ _
                  go_wp2_with fail
                  go_meet
                  exact ⟨a6, c6, ⟨A, a', c'⟩, HS6, rfl⟩
            case rest =>
              obtain ⟨a6', c6', y, HS7, hy⟩ := hcut
              have hS := (unhide HS7).below (below_drewN (Below.refl wc.heap.size wc) 1)
              have d1 : wc.drew.cell? ⟨wB.heap.size, 1, none⟩ = some (.slice ac k cc) := (unhide HS7).cells.2.1
              have HR := hide (unhide HRZ _ hS.bel)
              have HK2 := hide (unhide HK3 y hy)
              have HSD := hide hS
              have HD1 := hide d1
              clear hS d1 hy HK3 HRZ HC
              go_upto_region 18 with fail
              have hS := unhide HSD
              have d1 := unhide HD1
              refine wp_region_held_drew (S := fun _ => True) (by kernel_rfl) trivial (fun hHeld => ?_)
              refine wpAnyH_take (i := 0) (v := .pointer (some ⟨wB.heap.size, 1, none⟩)) rfl (by kernel_rfl) (by kernel_rfl) (by kernel_rfl) (fun _ _ _ h => h) (Or.inl ⟨by rfl, fun W hS => by go_simp⟩) hHeld ?_
              simp only [Act.put, List.setIfInBounds_toArray, List.set_cons_zero, List.set_cons_succ]
              refine wpAnyH_take (i := 2) (v := .int .i64 c) rfl (by kernel_rfl) (by kernel_rfl) (by kernel_rfl) (fun _ _ _ h => h) (Or.inl ⟨by rfl, fun W hS => by go_simp⟩) hHeld ?_
              simp only [Act.put, List.setIfInBounds_toArray, List.set_cons_zero, List.set_cons_succ]
              refine wpAnyH_take (i := 3) (v := .slice av nv cv) rfl (by kernel_rfl) (by kernel_rfl) (by kernel_rfl) (fun _ _ _ h => h) (Or.inl ⟨by rfl, fun W hS => by go_simp⟩) hHeld ?_
              simp only [Act.put, List.setIfInBounds_toArray, List.set_cons_zero, List.set_cons_succ]
              refine wpAnyH_ready (rs := [1, 4]) (by kernel_rfl) (by simp) (AllReadyH.cons rfl (fun K hK => ?_) (AllReadyH.cons rfl (fun K hK => ?_) AllReadyH.nil))
              · go_simp
                refine hK.out _ _ trivial (fun _ => ?_)
                clear hK K
                refine wpAnyH_ready (rs := [4]) (by kernel_rfl) (by simp) (AllReadyH.cons rfl (fun K hK => ?_) AllReadyH.nil)
                go_simp
                refine (unhide HR).mono ?_
                rintro e w4 ⟨rfl, hB4⟩
                dsimp only
                have hS4 := hS.below hB4
                obtain ⟨g0, g1, g2, gf⟩ := hS4.cells
                refine hK.out _ _ trivial (fun _ => ?_)
                clear hK K
                refine wpAnyH_ready (rs := [5]) (by kernel_rfl) (by simp) (AllReadyH.cons rfl (fun K hK => ?_) AllReadyH.nil)
                go_simp
                refine hK.out _ _ trivial (fun _ => ?_)
                clear hK K
                have hB5 : Below w4.heap.size w4 (w4.alloc (.cells #[.int .i64 rc] 3)) := bel_al (Below.refl _ _) _
                have hS5 := hS4.below hB5
                obtain ⟨v', w6, hr, hT, hg, hat⟩ := app_c (w4.alloc (.cells #[.int .i64 rc] 3)) 23 (ys := [rc]) hS5.ow.c (csin_one w4 rc 3) rfl (by show cs.length + 1 ≤ _; omega) (by have := hS5.lt; omega)
                obtain ⟨e0, ef, hS6⟩ := hS5.putC hT hg
                obtain ⟨a6, c6, hv6⟩ := hT.sl
                rw [List.length_append, List.length_singleton, hck] at hv6
                subst hv6
                have HS6 := hide hS6
                clear hS5 hT hg hat hS6 hB5
                refine wpAnyH_ready (rs := [6]) (by kernel_rfl) (by simp) (AllReadyH.cons rfl (fun K hK => ?_) AllReadyH.nil)
                rw [if_pos (by rfl)]
                refine wp_append_run (.tmp 53) (.tmp 57) 23 rfl rfl rfl hr ?_
                refine hK.out _ _ trivial (fun _ => ?_)
                clear hK K hr
                simp only [Act.put, List.setIfInBounds_toArray, List.set_cons_zero, List.set_cons_succ]
                refine wpAnyH_take (i := 7) (v := .pointer (some ⟨wB.heap.size, 1, none⟩)) rfl (by kernel_rfl) (by kernel_rfl) (by kernel_rfl) (fun _ _ _ h => h) (Or.inl ⟨by rfl, fun W hS => by go_simp⟩) hHeld ?_
                simp only [Act.put, List.setIfInBounds_toArray, List.set_cons_zero, List.set_cons_succ]
                refine wpAnyH_ready (rs := [8]) (by kernel_rfl) (by simp) (AllReadyH.cons rfl (fun K hK => ?_) AllReadyH.nil)
                go_simp
                refine hK.out _ _ trivial (fun _ => ?_)
                clear hK K
                refine wpAnyH_done (by kernel_rfl) ?_ _
                go_wp2
                go_roundw
                case rel => exact ⟨k + 1, _, _, ns ++ [y], cs ++ [rc], by omega, by go_num, HS6, HK2, by simp [hnk], by simp [hck]⟩
                case measure => simp [intOf]; omega
              · skip
                go_simp
                refine (unhide HR).mono ?_
                rintro e w4 ⟨rfl, hB4⟩
                dsimp only
                have hS4 := hS.below hB4
                obtain ⟨g0, g1, g2, gf⟩ := hS4.cells
                refine hK.out _ _ trivial (fun _ => ?_)
                clear hK K
                refine wpAnyH_ready (rs := [1, 5]) (by kernel_rfl) (by simp) (AllReadyH.cons rfl (fun K hK => ?_) (AllReadyH.cons rfl (fun K hK => ?_) AllReadyH.nil))
                · go_simp
                  refine hK.out _ _ trivial (fun _ => ?_)
                  clear hK K
                  refine wpAnyH_ready (rs := [5]) (by kernel_rfl) (by simp) (AllReadyH.cons rfl (fun K hK => ?_) AllReadyH.nil)
                  go_simp
                  refine hK.out _ _ trivial (fun _ => ?_)
                  clear hK K
                  have hB5 : Below w4.heap.size w4 (w4.alloc (.cells #[.int .i64 rc] 3)) := bel_al (Below.refl _ _) _
                  have hS5 := hS4.below hB5
                  obtain ⟨v', w6, hr, hT, hg, hat⟩ := app_c (w4.alloc (.cells #[.int .i64 rc] 3)) 23 (ys := [rc]) hS5.ow.c (csin_one w4 rc 3) rfl (by show cs.length + 1 ≤ _; omega) (by have := hS5.lt; omega)
                  obtain ⟨e0, ef, hS6⟩ := hS5.putC hT hg
                  obtain ⟨a6, c6, hv6⟩ := hT.sl
                  rw [List.length_append, List.length_singleton, hck] at hv6
                  subst hv6
                  have HS6 := hide hS6
                  clear hS5 hT hg hat hS6 hB5
                  refine wpAnyH_ready (rs := [6]) (by kernel_rfl) (by simp) (AllReadyH.cons rfl (fun K hK => ?_) AllReadyH.nil)
                  rw [if_pos (by rfl)]
                  refine wp_append_run (.tmp 53) (.tmp 57) 23 rfl rfl rfl hr ?_
                  refine hK.out _ _ trivial (fun _ => ?_)
                  clear hK K hr
                  simp only [Act.put, List.setIfInBounds_toArray, List.set_cons_zero, List.set_cons_succ]
                  refine wpAnyH_take (i := 7) (v := .pointer (some ⟨wB.heap.size, 1, none⟩)) rfl (by kernel_rfl) (by kernel_rfl) (by kernel_rfl) (fun _ _ _ h => h) (Or.inl ⟨by rfl, fun W hS => by go_simp⟩) hHeld ?_
                  simp only [Act.put, List.setIfInBounds_toArray, List.set_cons_zero, List.set_cons_succ]
                  refine wpAnyH_ready (rs := [8]) (by kernel_rfl) (by simp) (AllReadyH.cons rfl (fun K hK => ?_) AllReadyH.nil)
                  go_simp
                  refine hK.out _ _ trivial (fun _ => ?_)
                  clear hK K
                  refine wpAnyH_done (by kernel_rfl) ?_ _
                  go_wp2
                  go_roundw
                  case rel => exact ⟨k + 1, _, _, ns ++ [y], cs ++ [rc], by omega, by go_num, HS6, HK2, by simp [hnk], by simp [hck]⟩
                  case measure => simp [intOf]; omega
                · go_simp
                  refine hK.out _ _ trivial (fun _ => ?_)
                  clear hK K
                  have g1' : (w4.alloc (.cells #[.int .i64 rc] 3)).cell? ⟨wB.heap.size, 1, none⟩ = some (.slice ac k cc) := cell_al g1
                  refine wpAnyH_ready (rs := [1]) (by kernel_rfl) (by simp) (AllReadyH.cons rfl (fun K hK => ?_) AllReadyH.nil)
                  go_simp
                  refine hK.out _ _ trivial (fun _ => ?_)
                  clear hK K g1'
                  have hB5 : Below w4.heap.size w4 (w4.alloc (.cells #[.int .i64 rc] 3)) := bel_al (Below.refl _ _) _
                  have hS5 := hS4.below hB5
                  obtain ⟨v', w6, hr, hT, hg, hat⟩ := app_c (w4.alloc (.cells #[.int .i64 rc] 3)) 23 (ys := [rc]) hS5.ow.c (csin_one w4 rc 3) rfl (by show cs.length + 1 ≤ _; omega) (by have := hS5.lt; omega)
                  obtain ⟨e0, ef, hS6⟩ := hS5.putC hT hg
                  obtain ⟨a6, c6, hv6⟩ := hT.sl
                  rw [List.length_append, List.length_singleton, hck] at hv6
                  subst hv6
                  have HS6 := hide hS6
                  clear hS5 hT hg hat hS6 hB5
                  refine wpAnyH_ready (rs := [6]) (by kernel_rfl) (by simp) (AllReadyH.cons rfl (fun K hK => ?_) AllReadyH.nil)
                  rw [if_pos (by rfl)]
                  refine wp_append_run (.tmp 53) (.tmp 57) 23 rfl rfl rfl hr ?_
                  refine hK.out _ _ trivial (fun _ => ?_)
                  clear hK K hr
                  simp only [Act.put, List.setIfInBounds_toArray, List.set_cons_zero, List.set_cons_succ]
                  refine wpAnyH_take (i := 7) (v := .pointer (some ⟨wB.heap.size, 1, none⟩)) rfl (by kernel_rfl) (by kernel_rfl) (by kernel_rfl) (fun _ _ _ h => h) (Or.inl ⟨by rfl, fun W hS => by go_simp⟩) hHeld ?_
                  simp only [Act.put, List.setIfInBounds_toArray, List.set_cons_zero, List.set_cons_succ]
                  refine wpAnyH_ready (rs := [8]) (by kernel_rfl) (by simp) (AllReadyH.cons rfl (fun K hK => ?_) AllReadyH.nil)
                  go_simp
                  refine hK.out _ _ trivial (fun _ => ?_)
                  clear hK K
                  refine wpAnyH_done (by kernel_rfl) ?_ _
                  go_wp2
                  go_roundw
                  case rel => exact ⟨k + 1, _, _, ns ++ [y], cs ++ [rc], by omega, by go_num, HS6, HK2, by simp [hnk], by simp [hck]⟩
                  case measure => simp [intOf]; omega
          · obtain rfl : n2 = k := by omega
            have hS := unhide HS
            obtain ⟨u1, u2⟩ := unhide HK
            rw [List.take_of_length_le (by rw [(unhide HL).2]; exact Nat.le_refl _)] at u1 u2
            obtain ⟨an, cn, hvn⟩ := hS.ow.n.sl
            obtain ⟨ac, cc, hvc⟩ := hS.ow.c.sl
            rw [hnk] at hvn
            rw [hck] at hvc
            subst hvn hvc
            obtain ⟨f0, f1, f2, ff⟩ := hS.cells
            have hx2 := (hS.bel.block (w.heap.size + 1) (by omega)).trans (((unhide HB).block (w.heap.size + 1) (by omega)).trans hx1)
            obtain ⟨p1, p2⟩ := put3 (.slice an n2 cn) (.slice ac n2 cc) (.slice none 0 0) hx2
            have hOW := hS.ow.off p2 (by omega) (nf3 hx2)
            have hWF := hOW.win (by omega) (by omega) (by simp)
            have hWW : owd ns cs [] = R := by rw [← unhide HRR]; simp only [owd, u1, u2, mss, List.map_nil]
            rw [hWW] at hWF
            have hBw : Below w.heap.size w wr := (hb1.trans ((unhide HB).mono (by omega))).trans (hS.bel.mono (by omega))
            have y0 := heap_row (i := 0) hx2
            have y1 := heap_row (i := 1) hx2
            have y2 := heap_row (i := 2) hx2
            have x0 := frozen_of_row _ _ 0 _ _ hx2
            have x1 := frozen_of_row _ _ 1 _ _ hx2
            have x2 := frozen_of_row _ _ 2 _ _ hx2
            have HP := hide p1
            have HBF := hide (hBw.grown p2 hBw.size (fun q e => by cases e; omega))
            have HWF := hide hWF
            have HVF := hide (hOW.from.mono (B' := w.heap.size) (by omega) (Nat.le_refl _))
            clear hz1 hb1 hx1 h hsz hS u1 u2 ff hx2 p1 p2 hOW hWF hWW hBw hlt hnk hck
            go_wp2
            refine bodyPost_ret (v := .tuple #[.agg #[.slice an n2 cn, .slice ac n2 cc, (.slice none 0 0)], .int .i64 0]) ?_ rfl ⟨_, rfl, unhide HWF, unhide HVF, unhide HBF⟩
            exact results_wt rfl _ _ (w.heap.size + 1) _ _ rfl (wd_load (unhide HP)) rfl
  · obtain ⟨hz1, hb1, hx0, hx1, h⟩ := unhide HX
    obtain ⟨hdo, hR⟩ := unhide HDO
    rw [if_pos hE0] at hdo
    subst hdo
    rw [if_neg hE0] at hR
    subst hR
    obtain ⟨hn1, hn2⟩ := nat_ne hE0
    have hx5 := (hB3.block (w.heap.size + 1) (by omega)).trans hx1
    have hBw := hb1.trans (hB3.mono (by omega))
    obtain ⟨p1, p2⟩ := put_no hx5 hBw (by omega)
    have y0 := heap_row (i := 0) hx5
    have y1 := heap_row (i := 1) hx5
    have y2 := heap_row (i := 2) hx5
    have f0 := frozen_of_row _ _ 0 _ _ hx5
    have f1 := frozen_of_row _ _ 1 _ _ hx5
    have f2 := frozen_of_row _ _ 2 _ _ hx5
    have HP := hide p1
    have HBF := hide p2
    clear hz1 hb1 hx0 hx1 h hB3 hx5 hBw p1 p2 HC HX HDO HL HW1 hE0
    go_wp2
    refine bodyPost_ret (v := .tuple #[.agg #[(.slice none 0 0), (.slice none 0 0), (.slice none 0 0)], .int .i64 (E : Int)]) ?_ rfl ⟨_, rfl, WIn.no _, VFrom.no _ _, unhide HBF⟩
    exact results_wt rfl _ _ (w.heap.size + 1) _ _ rfl (wd_load (unhide HP)) rfl
theorem settle_w {w : World} {v : Value} {W : Wd} (h : WIn w v W) : Calls Tryz.prog 16 #[v] w (DoA w (stlE W) (stlW W)) := by
  obtain ⟨a1, c1, a2, c2, a3, c3, rfl, h1⟩ := h
  exact settle_at a1 a2 a3 _ c1 _ c2 _ c3 W w h1 rfl rfl rfl
end Go.Proofs.YtmgmganbamjnmaaGreatDoor
