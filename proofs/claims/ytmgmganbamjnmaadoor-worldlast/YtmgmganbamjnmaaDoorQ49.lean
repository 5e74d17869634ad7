/-
  The law WorldLast.
-/
import Derived.Test.YtmgmganbamjnmaaDoorQ48
namespace Go.Proofs.YtmgmganbamjnmaaDoor
open Go.RowKit
set_option linter.unusedVariables false
set_option linter.unusedSimpArgs false
set_option maxRecDepth 100000

theorem cut40 {b o m c : Nat} (h : 40 < m) (hc : m ≤ c) (W : World) : (Instr.slice 22 (.slice (some ⟨b, o, none⟩) m c) none (some (.int .i64 40)) none).run Tryd.prog W = .ok (.slice (some ⟨b, o, none⟩) 40 c) W := by
  have hs := Tryd.sizeOf41
  have ht := Tryd.underlying22
  have h1 : 40 ≤ c := by omega
  have h2 : ¬ c = 0 := by omega
  have h3 : ¬ (c : Int) < 40 := by omega
  simp [go_sem, ht, h1, h2, h3]
set_option maxHeartbeats 16000000 in
theorem worldLast_any (n : Int) (a : Option Addr) (c m : Nat) (xs : List Hp) (w : World) (h : HsIn w a c xs) (hm : xs.length = m) :
    Calls Tryd.prog 4 #[.int .i64 n, .slice a m c] w fun e w' => e = .returned (.bool true) ∧ Below w.heap.size w w' := by
  have HN := hide (new_w n w)
  obtain ⟨E1, hE1⟩ : ∃ E1, newE n = E1 := ⟨_, rfl⟩
  obtain ⟨W0, hW0⟩ : ∃ W0, newW n = W0 := ⟨_, rfl⟩
  rw [hE1, hW0] at HN
  have HE := hide (And.intro hE1 hW0)
  have hcap := h.cap
  have hcapm := h.capm
  have hlim := h.lim
  rw [hm] at hlim hcap
  have HXS := hide (And.intro h hm)
  clear h hm hE1 hW0
  go_enter Tryd.func4, Tryd.ntmps4
  go_wp2_with fail
  refine (unhide HN).mono ?_
  rintro e w2 ⟨v, rfl, hW2, hV2, hB2⟩
  obtain ⟨a1, c1, a2, c2, a3, c3, hv, hat⟩ := hW2
  subst hv
  obtain ⟨l1, hl1⟩ : ∃ l1, W0.nodes.length = l1 := ⟨_, rfl⟩
  obtain ⟨l2, hl2⟩ : ∃ l2, W0.clock.length = l2 := ⟨_, rfl⟩
  obtain ⟨l3, hl3⟩ : ∃ l3, W0.net.length = l3 := ⟨_, rfl⟩
  have hW2 : WIn w2 (.agg #[.slice a1 l1 c1, .slice a2 l2 c2, .slice a3 l3 c3]) W0 := ⟨a1, c1, a2, c2, a3, c3, by rw [hl1, hl2, hl3], hat⟩
  rw [hl1, hl2, hl3] at hV2 ⊢
  have hB3 := bel_al (Below.refl w2.heap.size w2) (wbox (.slice a1 l1 c1) (.slice a2 l2 c2) (.slice a3 l3 c3))
  have HT := hide (told_any (w2.alloc (wbox (.slice a1 l1 c1) (.slice a2 l2 c2) (.slice a3 l3 c3))))
  have HH := hide ((unhide HXS).1.below hB2)
  have HST : Hid (E1 = 0 → LSt w2 (w2.alloc (wbox (.slice a1 l1 c1) (.slice a2 l2 c2) (.slice a3 l3 c3))) (.slice a1 l1 c1) (.slice a2 l2 c2) (.slice a3 l3 c3) W0 (.slice none 0 0) []) := hide (fun e0 => by
    refine ⟨hB3, heap_alloc_new _ _, hW2.below hB3, ZRow.nil _ _, fun b hb => ?_, ?_, fun x hx => by cases hx⟩
    · have hlt := hV2 b hb
      exact ⟨by simp [Value.ownBlock], by omega, by rw [World.size_alloc]; omega⟩
    · obtain ⟨q1, q2⟩ := unhide HE
      rw [← q2]
      exact new_ok (q1.trans e0))
  have HB2 := hide hB2
  have HB3 := hide (bt hB2 hB3)
  clear hat hl1 hl2 hl3 hW2 hV2 hB2 hB3 HN
  go_wp2_with fail
  refine (unhide HT).mono ?_
  rintro e w4 ⟨rfl, hB4⟩
  by_cases hE0 : E1 = 0
  · subst hE0
    have HS4 := hide ((unhide HST rfl).below hB4)
    obtain ⟨ys, hys⟩ : ∃ ys, xs.take 40 = ys := ⟨_, rfl⟩
    obtain ⟨q, hq⟩ : ∃ q, ys.length = q := ⟨_, rfl⟩
    have HY := hide (And.intro hys hq)
    have HHY : Hid (HsIn w2 a c ys) := hide (by rw [← hys]; exact (unhide HH).take 40)
    clear hB4 HST HT hys hq
    go_upto_if 35 with (fail)
    go_cut [1] (fun v1 wc => v1 = .slice a q c ∧ q ≤ 40 ∧ Hid (LSt w2 wc (.slice a1 l1 c1) (.slice a2 l2 c2) (.slice a3 l3 c3) W0 (.slice none 0 0) []))
    case first =>
      obtain ⟨hys, hq⟩ := unhide HY
      have hxm := (unhide HXS).2
      by_cases h40 : 40 < m
      · have hq40 : q = 40 := by rw [← hq, ← hys, List.length_take, hxm]; omega
        subst hq40
        obtain ⟨b, o, ha⟩ : ∃ b o, a = some ⟨b, o, none⟩ := by
          rcases (unhide HXS).1.at_ with h1 | ⟨b, o, h1, _⟩
          · rw [h1] at hxm; simp at hxm; omega
          · exact ⟨b, o, h1⟩
        subst ha
        have hsl := cut40 (b := b) (o := o) h40 hcap
        have h40I : (40 : Int) < (m : Int) := by omega
        clear hys hq hxm h40
        go_wp2
        go_meet
        exact ⟨rfl, by decide, HS4⟩
      · have hq40 : q = m := by rw [← hq, ← hys, List.length_take, hxm]; omega
        subst hq40
        have h40I : ¬ (40 : Int) < (q : Int) := by omega
        clear hys hq hxm
        go_wp2
        go_meet
        exact ⟨rfl, by omega, HS4⟩
    case rest =>
      obtain ⟨rfl, hq40, HSC⟩ := hcut
      clear HS4
      go_wp2
      go_loopw [7, 40] (fun v7 j wr => ∃ (k : Nat) (v1 v2 v3 : Value) (Wk : Wd) (ps : List Fv), k ≤ q ∧ j = .int .i64 (k : Int) ∧ ps.length ≤ k ∧ Hid (LSt w2 wr v1 v2 v3 Wk v7 ps)) (fun _ j _ => q - (intOf j).toNat)
      case atStart => exact ⟨0, _, _, _, W0, [], Nat.zero_le _, rfl, Nat.le_refl _, HSC⟩
      case round =>
        clear HSC
        obtain ⟨k, v1, v2, v3, Wk, ps, hk, rfl, hps, HS⟩ := hrel
        have hS := unhide HS
        obtain ⟨s1, t1, s2, t2, s3, t3, e1, e2, e3⟩ := hS.win.sl
        obtain ⟨m1, hm1⟩ : ∃ m1, Wk.nodes.length = m1 := ⟨_, rfl⟩
        obtain ⟨m2, hm2⟩ : ∃ m2, Wk.clock.length = m2 := ⟨_, rfl⟩
        obtain ⟨m3, hm3⟩ : ∃ m3, Wk.net.length = m3 := ⟨_, rfl⟩
        rw [hm1] at e1
        rw [hm2] at e2
        rw [hm3] at e3
        subst e1 e2 e3
        obtain ⟨np, hnp⟩ : ∃ np, ps.length = np := ⟨_, rfl⟩
        obtain ⟨d1, d2, hds⟩ := hS.row.sl
        rw [hnp] at hds hps
        subst hds
        have HM := hide (And.intro hm1 hnp)
        have q0 := heap_row (i := 0) hS.box
        have q1 := heap_row (i := 1) hS.box
        have q2 := heap_row (i := 2) hS.box
        by_cases hlt : k < q
        · obtain ⟨x, hx⟩ := get_some (l := ys) (k := k) (by rw [(unhide HY).2]; exact hlt)
          obtain ⟨b, o, ab, cb, ha, hbl, g0, g1, g2, g3, g4, hpx⟩ := (unhide HHY).get hS.bel hx
          obtain ⟨nb, hnb⟩ : ∃ nb, x.bytes.length = nb := ⟨_, rfl⟩
          rw [hnb] at g4
          have hBx := bel_al (Below.refl wr.heap.size wr) (hbox x.kind x.node x.dst (B x.name) (.slice ab nb cb))
          have HD := hide (do_w (hS.win.below hBx) (hpx.below hBx))
          obtain ⟨E, hE⟩ : ∃ E, doE Wk x = E := ⟨_, rfl⟩
          obtain ⟨Wn, hWn⟩ : ∃ Wn, doW Wk x = Wn := ⟨_, rfl⟩
          rw [hE, hWn] at HD
          have hvx : hpV x ab cb = .agg #[.int .i64 x.kind, .int .i64 x.node, .int .i64 x.dst, .string (B x.name), .slice ab nb cb] := by unfold hpV; rw [hnb]
          rw [hvx] at HD
          have HDE := hide (And.intro hE hWn)
          have hSx := hS.below hBx
          have HSx := hide hSx
          have HWL := hide hS.lt
          have HXB := hide (heap_alloc_new wr (hbox x.kind x.node x.dst (B x.name) (.slice ab nb cb)))
          have q0' := heap_row (i := 0) hSx.box
          have q1' := heap_row (i := 1) hSx.box
          have q2' := heap_row (i := 2) hSx.box
          obtain ⟨tn, htn⟩ : ∃ tn, B x.name = tn := ⟨_, rfl⟩
          obtain ⟨xk, hxk⟩ : ∃ xk, x.kind = xk := ⟨_, rfl⟩
          obtain ⟨xn, hxn⟩ : ∃ xn, x.node = xn := ⟨_, rfl⟩
          obtain ⟨xd, hxd⟩ : ∃ xd, x.dst = xd := ⟨_, rfl⟩
          rw [htn, hxk, hxn, hxd] at HXB HD HSx q0' q1' q2'
          rw [htn] at g3
          rw [hxk] at g0
          rw [hxn] at g1
          rw [hxd] at g2
          have HXX := hide (And.intro htn (And.intro hxk hxn))
          clear hx hbl hpx hnb hBx hE hWn hvx hS hSx hm1 hm2 hm3 HS htn hxk hxn hxd hnp
          subst ha
          go_wp2_with fail
          refine (unhide HD).mono ?_
          rintro e w4 ⟨u, rfl, hW4, hV4, hB4⟩
          obtain ⟨a1', c1', a2', c2', a3', c3', hu, hat4⟩ := hW4
          subst hu
          obtain ⟨l1', hl1⟩ : ∃ l1, Wn.nodes.length = l1 := ⟨_, rfl⟩
          obtain ⟨l2', hl2⟩ : ∃ l2, Wn.clock.length = l2 := ⟨_, rfl⟩
          obtain ⟨l3', hl3⟩ : ∃ l3, Wn.net.length = l3 := ⟨_, rfl⟩
          have hW4 : WIn w4 (.agg #[.slice a1' l1' c1', .slice a2' l2' c2', .slice a3' l3' c3']) Wn := ⟨a1', c1', a2', c2', a3', c3', by rw [hl1, hl2, hl3], hat4⟩
          rw [hl1, hl2, hl3] at hV4 ⊢
          have hS4 := (unhide HSx).below hB4
          have hB5 := bel_al (Below.refl w4.heap.size w4) (wbox (.slice a1' l1' c1') (.slice a2' l2' c2') (.slice a3' l3' c3'))
          have hS5 := hS4.below hB5
          have hW5 := hW4.below hB5
          have hszx := (unhide HSx).lt
          by_cases hE0 : E = 0
          · subst hE0
            obtain ⟨hE, hWn⟩ := unhide HDE
            have hgw := do_gw hE
            have hok := do_ok hE
            rw [hWn] at hgw hok
            have hoff : ∀ b, vBlocks (.agg #[.slice a1' l1' c1', .slice a2' l2' c2', .slice a3' l3' c3']) b → some b ≠ (Value.slice d1 np d2).ownBlock ∧ b ≠ w2.heap.size ∧ b < (w4.alloc (wbox (.slice a1' l1' c1') (.slice a2' l2' c2') (.slice a3' l3' c3'))).heap.size := by
              intro b hb
              have hv := hV4 b hb
              refine ⟨fun e => ?_, ?_, by rw [World.size_alloc]; omega⟩
              · have := ((unhide HSx).row.lt e.symm).2
                omega
              · omega
            obtain ⟨hS6, hg6⟩ := hS5.put hW5 hoff hok (fun z hz => (hS5.kept z hz).gw hgw)
            have hwx : wr.heap.size < (wr.alloc (hbox xk xn xd tn (.slice ab nb cb))).heap.size := by rw [World.size_alloc]; omega
            have hwl : w2.heap.size < wr.heap.size := unhide HWL
            have hx5 := (hB5.block wr.heap.size (Nat.lt_of_lt_of_le hwx hB4.size)).trans ((hB4.block wr.heap.size hwx).trans (unhide HXB))
            have hx6 := (hg6.block wr.heap.size (Array.getElem?_eq_some_iff.1 hx5).1 (fun e => by have := Option.some.inj e; omega)).trans hx5
            have r0 := heap_row (i := 0) hS5.box
            have r1 := heap_row (i := 1) hS5.box
            have r2 := heap_row (i := 2) hS5.box
            have f0 := frozen_of_row _ _ 0 _ _ hS5.box
            have f1 := frozen_of_row _ _ 1 _ _ hS5.box
            have f2 := frozen_of_row _ _ 2 _ _ hS5.box
            obtain ⟨w6, hw6⟩ : ∃ w6, ((((w4.alloc (wbox (.slice a1' l1' c1') (.slice a2' l2' c2') (.slice a3' l3' c3'))).setCell ⟨w2.heap.size, 0, none⟩ (.slice a1' l1' c1')).setCell ⟨w2.heap.size, 1, none⟩ (.slice a2' l2' c2')).setCell ⟨w2.heap.size, 2, none⟩ (.slice a3' l3' c3')) = w6 := ⟨_, rfl⟩
            rw [hw6] at hS6 hx6
            have HS6 := hide hS6
            have HX6 := hide hx6
            have HW6 := hide hw6
            have HL1 := hide hl1
            clear hw6 hS6 hg6 hx6 hx5 hwx hoff hgw hok hszx hW5 hS5 hB5 hS4 hW4 hV4 hat4 hl1 hl2 hl3 hB4 HSx HD q0 q1 q2 q0' q1' q2' HXB hwl
            go_upto_region 13 with fail
            rw [show ((((w4.alloc (wbox (.slice a1' l1' c1') (.slice a2' l2' c2') (.slice a3' l3' c3'))).setCell ⟨w2.heap.size, 0, none⟩ (.slice a1' l1' c1')).setCell ⟨w2.heap.size, 1, none⟩ (.slice a2' l2' c2')).setCell ⟨w2.heap.size, 2, none⟩ (.slice a3' l3' c3')) = w6 from unhide HW6]
            clear r0 r1 r2 f0 f1 f2 HW6
            have x0 := heap_row (i := 0) (unhide HX6)
            by_cases hkd : xk = 1 ∨ xk = 2
            · obtain ⟨htn, hxk, hxn⟩ := unhide HXX
              obtain ⟨j, cc, L, hj, hjl, hL, hlk, hrs, hall⟩ := do_put hE (by rw [hxk]; exact hkd)
              rw [hWn] at hL
              rw [hxn] at hj
              have hgo := putF_gone x cc
              rw [hxk] at hgo
              have hjn : j < l1' := by rw [← unhide HL1]; exact (List.getElem?_eq_some_iff.1 hL).1
              obtain ⟨p1, p2, p3, p4, p5, p6, hpe, hpat⟩ := (unhide HS6).win
              simp only [Value.agg.injEq, Array.mk.injEq, List.cons.injEq, Value.slice.injEq, and_true] at hpe
              obtain ⟨⟨rfl, -, rfl⟩, ⟨rfl, -, rfl⟩, rfl, -, rfl⟩ := hpe
              obtain ⟨bn, on, vL, han, hbn, hcn, hLn⟩ := hpat.ns.get hL
              have hx6 := unhide HX6
              rw [← htn] at hx6
              have HI := hide (index_l hLn (last1_any hx6))
              have x1 := heap_row (i := 1) (unhide HX6)
              have y0 := heap_row (i := 0) (unhide HS6).box
              obtain ⟨aL, cL, zs, hvL, hFL, hfl⟩ := hLn
              obtain ⟨nL, hnL⟩ : ∃ nL, L.length = nL := ⟨_, rfl⟩
              rw [hnL] at hvL
              subst hvL han hj
              have HFL := hide (And.intro hFL (And.intro hfl hnL))
              have HLK := hide (And.intro hlk (And.intro hrs (And.intro hL hxn)))
              have HGO := hide hgo
              have hj0 : (0 : Int) ≤ (j : Int) := by omega
              have hj1 : ¬ (l1' : Int) ≤ (j : Int) := by omega
              clear htn hxk hE hWn hL hlk hrs hall hpat hx6 hFL hfl hnL hgo hjl
              rcases hkd with hkk | hkk
              all_goals (
                subst hkk
                go_wp2_with fail
                refine (unhide HI).mono ?_
                rintro e w7 ⟨r, rfl, hFd, hB7⟩
                obtain ⟨hlk, hrs, hL, hxn⟩ := unhide HLK
                obtain ⟨hFL, hfl, hnL⟩ := unhide HFL
                obtain ⟨i, rfl, hi, hil⟩ := found_look hFd hlk hrs
                rw [hnL] at hil
                obtain ⟨z, hz, hzm⟩ := get_of (xs := zs) (k := i) (by rw [fls_len hfl, hnL]; exact hil)
                have hzg : z.f = putF x cc := by
                  have : (fls zs)[i]? = some z.f := by simp [fls, hz]
                  rw [hfl, hi] at this
                  exact (Option.some.inj this).symm
                have hzo : z.f.gone = _ := (congrArg Fl.gone hzg).trans (unhide HGO)
                obtain ⟨bf, of, haf, hbf, c0, c1, c2, c3, c4⟩ := hFL.get hB7 hz
                rw [hzo] at c4
                have hzs : z.sl = .slice z.a z.f.bytes.length z.c := rfl
                rw [hzs] at c1
                subst haf
                have hS7 := (unhide HS6).below hB7
                have hx7 := (hB7.block wr.heap.size (Array.getElem?_eq_some_iff.1 (unhide HX6)).1).trans (unhide HX6)
                have z0' := heap_row (i := 0) hx7
                have z1' := heap_row (i := 1) hx7
                have z2' := heap_row (i := 0) hS7.box
                have z3' := (hB7.cell (p := ⟨bn, on + j, none⟩) hbn).trans hcn
                have hiI : (i : Int) < (nL : Int) := by omega
                have hjI : (j : Int) < (l1' : Int) := by omega
                have hd : decide ((i : Int) < 0) = false := decide_eq_false (by omega)
                have HS7 := hide hS7
                have HX7 := hide hx7
                have HF7 := hide ((hFL.all z hzm).below hB7 (Nat.le_refl _))
                have HBL := hide (And.intro (Nat.lt_of_lt_of_le hbf hB7.size) (Nat.lt_of_lt_of_le hbn hB7.size))
                have HKZ : Hid (Kept Wn z.f) := hide (by
                  rw [hzg]
                  exact ⟨j, L, by rw [putF_node, hxn], hL, putF x cc, (look_some hlk).2, rfl, by rw [nwr_self]; exact Int.le_refl _⟩)
                have HZO := hide hzo
                clear hFd hB7 hlk hrs hL hxn hFL hfl hnL hi hz hzm hzg hzo hzs hS7 hx7 HI HFL HLK HGO HS6 HX6 x0 x1 y0 hcn
                simp only [Int.reduceEq, decide_true, decide_false] at c4 HZO
                obtain ⟨tz, htz⟩ : ∃ t, B z.f.name = t := ⟨_, rfl⟩
                obtain ⟨zn, hzn⟩ : ∃ t, z.f.bytes.length = t := ⟨_, rfl⟩
                obtain ⟨zst, hzst⟩ : ∃ t, z.f.stamp = t := ⟨_, rfl⟩
                obtain ⟨znd, hznd⟩ : ∃ t, z.f.node = t := ⟨_, rfl⟩
                rw [htz] at c0
                rw [hzn] at c1
                rw [hzst] at c2
                rw [hznd] at c3
                have HTZ := hide (And.intro htz (And.intro hzn (And.intro hzst hznd)))
                clear htz hzn hzst hznd
                go_upto_region 17 with fail
                go_quiet (fail)
                go_upto_region 19 with fail
                generalize hw8 : World.drewN w7 _ = w8
                have hB8 : Below w7.heap.size w7 w8 := by rw [← hw8]; exact below_drewN (Below.refl _ _) _
                obtain ⟨htz, hzn, hzst, hznd⟩ := unhide HTZ
                have hS8 := (unhide HS7).below hB8
                have hFz := (unhide HF7).below hB8 (Nat.le_refl _)
                have hzs : z.cells = [.string tz, .slice z.a zn z.c, .int .i64 zst, .int .i64 znd, .bool z.f.gone] := by
                  simp only [Fv.cells, Fv.sl, htz, hzn, hzst, hznd]
                have hA8 := bel_al (Below.refl w8.heap.size w8) (.cells z.cells.toArray 39)
                have hnw := heap_alloc_new w8 (.cells z.cells.toArray 39)
                obtain ⟨v9, w9, hr9, hT9, hK9, hat9⟩ := run_append_Z (w8.alloc (.cells z.cells.toArray 39)) 35 (y := z) (hS8.below hA8).row (fun j u hj => by rw [heap_row hnw]; simpa using hj) (hFz.below hA8 (Nat.le_refl _)) (by rw [(unhide HM).2]; omega) (by have := hS8.lt; rw [World.size_alloc]; omega)
                have hS9 := (hS8.below hA8).say hT9 hK9 hat9 (unhide HKZ)
                obtain ⟨d9, f9, hv9⟩ := hT9.sl
                rw [List.length_append, List.length_singleton, (unhide HM).2] at hv9
                subst hv9
                rw [hzs, unhide HZO] at hr9
                have HS9 := hide hS9
                have HR9 := hide hr9
                have HLN : Hid ((ps ++ [z]).length = np + 1) := hide (by rw [List.length_append, (unhide HM).2]; rfl)
                have k0 := (hB8.cell (p := ⟨bf, of + i * 5, none⟩) (unhide HBL).1).trans c0
                have k1 := (hB8.cell (p := ⟨bf, of + i * 5 + 1, none⟩) (unhide HBL).1).trans c1
                have k2 := (hB8.cell (p := ⟨bf, of + i * 5 + 2, none⟩) (unhide HBL).1).trans c2
                have k3 := (hB8.cell (p := ⟨bf, of + i * 5 + 3, none⟩) (unhide HBL).1).trans c3
                have k4 := (hB8.cell (p := ⟨bf, of + i * 5 + 4, none⟩) (unhide HBL).1).trans c4
                have k5 := (hB8.cell (p := ⟨wr.heap.size, 1, none⟩) (Array.getElem?_eq_some_iff.1 (unhide HX7)).1).trans z1'
                have k6 := (hB8.cell (p := ⟨w2.heap.size, 0, none⟩) (unhide HS7).lt).trans z2'
                have k7 := (hB8.cell (p := ⟨bn, on + j, none⟩) (unhide HBL).2).trans z3'
                clear hw8 hB8 hS8 hFz hzs hA8 hnw hr9 hT9 hK9 hat9 hS9 htz hzn hzst hznd c0 c1 c2 c3 c4 z0' z1' z2' z3' HS7 HX7 HF7 HKZ HTZ
                go_wp2_with (at_builtin; refine wpList_append_run rfl _ _ _ rfl rfl rfl (unhide HR9) ?_)
                go_wp2
                go_roundw
                case rel => exact ⟨k + 1, _, _, _, Wn, ps ++ [z], by omega, by go_num, by rw [unhide HLN]; omega, HS9⟩
                case measure => simp [intOf]; omega)
            · have hk1 : (xk == 1) = false := by simp; omega
              have hk2 : (xk == 2) = false := by simp; omega
              clear hkd hE hWn
              go_wp2
              go_roundw
              case rel => exact ⟨k + 1, _, _, _, Wn, ps, by omega, by go_num, by rw [(unhide HM).2]; omega, HS6⟩
              case measure => simp [intOf]; omega
          · obtain ⟨hb0, hb2⟩ := nat_ne hE0
            have HS5 := hide hS5
            clear hszx hW5 hS5 hB5 hS4 hW4 hV4 hat4 hl1 hl2 hl3 hB4 HSx HD q0 q1 q2 q0' q1' q2' hE0 HXB
            go_wp2
            go_roundw
            case rel => exact ⟨k + 1, _, _, _, Wk, ps, by omega, by go_num, by rw [(unhide HM).2]; omega, HS5⟩
            case measure => simp [intOf]; omega
        · obtain rfl : q = k := by omega
          obtain ⟨wB, rfl⟩ : ∃ x, x = wr := ⟨_, rfl⟩
          obtain ⟨ap, cp, hvp, hFp⟩ := hS.row.lin (by omega)
          rw [hnp] at hvp
          cases hvp
          have HSB := hide (And.intro hS hFp)
          have HPL := hide hnp
          clear hS hFp hm1 hm2 hm3 HS hlt q0 q1 q2 hnp
          go_wp2
          go_loopw [113] (fun j wq => ∃ i : Nat, i ≤ np ∧ j = .int .i64 (i : Int) ∧ Hid (Below wB.heap.size wB wq)) (fun j _ => np - (intOf j).toNat)
          case atStart => exact ⟨0, Nat.zero_le _, rfl, Below.refl _ _⟩
          case round =>
            obtain ⟨i, hi, rfl, HQ⟩ := hrel
            have hSr := (unhide HSB).1.below (unhide HQ)
            have y0 := heap_row (i := 0) hSr.box
            have y1 := heap_row (i := 1) hSr.box
            have y2 := heap_row (i := 2) hSr.box
            by_cases hlt2 : i < np
            · obtain ⟨z, hz, hzm⟩ := get_of (xs := ps) (k := i) (by rw [unhide HPL]; exact hlt2)
              obtain ⟨bf, of, haf, hbf, c0, c1, c2, c3, c4⟩ := (unhide HSB).2.get (unhide HQ) hz
              obtain ⟨j, l, hj, hl, hhas⟩ := hSr.kept z hzm
              have hjn : j < m1 := by rw [← (unhide HM).1]; exact (List.getElem?_eq_some_iff.1 hl).1
              obtain ⟨p1, p2, p3, p4, p5, p6, hpe, hpat⟩ := hSr.win
              simp only [Value.agg.injEq, Array.mk.injEq, List.cons.injEq, Value.slice.injEq, and_true] at hpe
              obtain ⟨⟨rfl, -, rfl⟩, ⟨rfl, -, rfl⟩, rfl, -, rfl⟩ := hpe
              obtain ⟨bn, on, vL, han, hbn, hcn, hLn⟩ := hpat.ns.get hl
              have hzs : z.sl = .slice z.a z.f.bytes.length z.c := rfl
              rw [hzs] at c1
              rw [hj] at c3
              have hA5 := bel_al (Below.refl wr.heap.size wr) (.cells #[.string (B z.f.name), .slice z.a z.f.bytes.length z.c, .int .i64 z.f.stamp, .int .i64 (j : Int), .bool z.f.gone] 39)
              have hx5 := heap_alloc_new wr (.cells #[.string (B z.f.name), .slice z.a z.f.bytes.length z.c, .int .i64 z.f.stamp, .int .i64 (j : Int), .bool z.f.gone] 39)
              have hfz := (hSr.row.all z hzm).below hA5 (Nat.le_refl _)
              have hl5 := hLn.below hA5
              have hrs := (node_rise hSr.ok hl).2
              obtain ⟨aL, cL, hvL⟩ := hLn.shape
              obtain ⟨nL, hnL⟩ : ∃ nL, l.length = nL := ⟨_, rfl⟩
              rw [hnL] at hvL
              subst hvL han haf
              obtain ⟨w5, hw5⟩ : ∃ w5, wr.alloc (.cells #[.string (B z.f.name), .slice z.a z.f.bytes.length z.c, .int .i64 z.f.stamp, .int .i64 (j : Int), .bool z.f.gone] 39) = w5 := ⟨_, rfl⟩
              have HW5 := hide hw5
              rw [hw5] at hA5 hx5 hfz hl5
              have HHA := hide (fun (W : World) (hW : Below w5.heap.size w5 W) => has_yes (hl5.below hW) (hfz.below hW (Nat.le_refl _)) hhas hrs)
              rw [val_is, hj] at HHA
              have hwl : wr.heap.size < w5.heap.size := (Array.getElem?_eq_some_iff.1 hx5).1
              have hw2l : w2.heap.size < w5.heap.size := Nat.lt_of_lt_of_le hSr.lt hA5.size
              have hbn5 : bn < w5.heap.size := Nat.lt_of_lt_of_le hbn hA5.size
              have y05 := (hA5.cell (p := ⟨w2.heap.size, 0, none⟩) hSr.lt).trans y0
              have cn5 := (hA5.cell (p := ⟨bn, on + j, none⟩) hbn).trans hcn
              have e0 := heap_row (i := 0) hx5
              have e1 := heap_row (i := 1) hx5
              have e2 := heap_row (i := 2) hx5
              have e3 := heap_row (i := 3) hx5
              have e4 := heap_row (i := 4) hx5
              have HB5 := hide (bt (unhide HQ) hA5)
              have HB5d : Hid (Below w5.heap.size w5 w5.drew) := hide (bel_dr (Below.refl _ _))
              generalize B z.f.name = tz at *
              generalize z.f.bytes.length = nz' at *
              generalize z.f.stamp = sz' at *
              generalize z.f.gone = gz' at *
              have k0 : ∀ W : World, Below w5.heap.size w5 W → W.cell? ⟨wr.heap.size, 0, none⟩ = some (.string tz) := fun W hW => (hW.cell (p := ⟨wr.heap.size, 0, none⟩) hwl).trans e0
              have k1 : ∀ W : World, Below w5.heap.size w5 W → W.cell? ⟨wr.heap.size, 1, none⟩ = some (.slice z.a nz' z.c) := fun W hW => (hW.cell (p := ⟨wr.heap.size, 1, none⟩) hwl).trans e1
              have k2 : ∀ W : World, Below w5.heap.size w5 W → W.cell? ⟨wr.heap.size, 2, none⟩ = some (.int .i64 sz') := fun W hW => (hW.cell (p := ⟨wr.heap.size, 2, none⟩) hwl).trans e2
              have k3 : ∀ W : World, Below w5.heap.size w5 W → W.cell? ⟨wr.heap.size, 3, none⟩ = some (.int .i64 (j : Int)) := fun W hW => (hW.cell (p := ⟨wr.heap.size, 3, none⟩) hwl).trans e3
              have k4 : ∀ W : World, Below w5.heap.size w5 W → W.cell? ⟨wr.heap.size, 4, none⟩ = some (.bool gz') := fun W hW => (hW.cell (p := ⟨wr.heap.size, 4, none⟩) hwl).trans e4
              have k5 : ∀ W : World, Below w5.heap.size w5 W → W.cell? ⟨w2.heap.size, 0, none⟩ = some (.slice (some ⟨bn, on, none⟩) m1 t1) := fun W hW => (hW.cell (p := ⟨w2.heap.size, 0, none⟩) hw2l).trans y05
              have k6 : ∀ W : World, Below w5.heap.size w5 W → W.cell? ⟨bn, on + j, none⟩ = some (.slice aL nL cL) := fun W hW => (hW.cell (p := ⟨bn, on + j, none⟩) hbn5).trans cn5
              have KK := hide (And.intro k0 (And.intro k1 (And.intro k2 (And.intro k3 (And.intro k4 (And.intro k5 k6))))))
              clear k0 k1 k2 k3 k4 k5 k6
              have hjI : (j : Int) < (m1 : Int) := by omega
              have hd1 : decide ((j : Int) < 0) = false := decide_eq_false (by omega)
              have hd2 : decide ((m1 : Int) ≤ (j : Int)) = false := decide_eq_false (by omega)
              clear e0 e1 e2 e3 e4 y0 y1 y2 y05 cn5 hcn hSr hz hzm hj hl hhas hpat hLn hzs hA5 hx5 hfz hl5 hrs hnL hw5
              go_upto_region 25 with fail
              rw [show wr.alloc (.cells #[.string tz, .slice z.a nz' z.c, .int .i64 sz', .int .i64 (j : Int), .bool gz'] 39) = w5 from unhide HW5]
              clear c0 c1 c2 c3 c4 HW5
              obtain ⟨k0, k1, k2, k3, k4, k5, k6⟩ := unhide KK
              have hd2n : decide (m1 ≤ j) = false := decide_eq_false (by omega)
              have hd2m : ¬ m1 ≤ j := by omega
              have hd2k : ¬ (m1 : Int) ≤ (j : Int) := by omega
              have hd1k : ¬ (j : Int) < 0 := by omega
              go_region_held3 (fun W => Below w5.heap.size w5 W) (first | exact bel_dr (Below.refl _ _) | exact hb6) ((go_at_call 15; refine (unhide HHA _ (unhide HB5d)).mono ?_; rintro e w6 ⟨rfl, hb5⟩; have hb6 : Below w5.heap.size w5 w6 := (bel_dr (Below.refl _ _)).trans hb5; clear hb5))
              clear k0 k1 k2 k3 k4 k5 k6 hd2n hd2m hd2k hd1k
              clear KK
              have HB6 := hide (bt (unhide HB5) hb6)
              clear hb6
              go_wp2
              go_roundw
              case rel => exact ⟨i + 1, by omega, by go_num, unhide HB6⟩
              case measure => simp [intOf]; omega
            · obtain rfl : np = i := by omega
              have HSE := hide (settle_w hSr.win)
              obtain ⟨E2, hE2⟩ : ∃ E2, stlE Wk = E2 := ⟨_, rfl⟩
              obtain ⟨V, hV⟩ : ∃ V, stlW Wk = V := ⟨_, rfl⟩
              rw [hE2, hV] at HSE
              have hsr := stl_right hSr.ok
              rw [hE2, hV] at hsr
              have HSR := hide hsr
              have HEV := hide (And.intro hE2 hV)
              have HSr := hide hSr
              clear hSr hE2 hV hsr hlt2
              go_wp2_with fail
              refine (unhide HSE).mono ?_
              rintro e w6 ⟨u, rfl, hW6, -, hB6⟩
              clear y0 y1 y2
              obtain ⟨r1, k1, s1', r2, k2, s2', r3, k3, s3', rfl, hk1, hk2, -⟩ := hW6.vals
              have hA6 := bel_al (Below.refl w6.heap.size w6) (wbox (.slice r1 k1 s1') (.slice r2 k2 s2') (.slice r3 k3 s3'))
              have HN6 := hide (WB.new hW6)
              have HB6 := hide (bt (unhide HQ) (bt hB6 hA6))
              rcases unhide HSR with h11 | ⟨h00, LL, hVL, -, -, -⟩
              · subst h11
                have HBF := hide (bt (unhide HB2) (bt (unhide HSr).bel (bt hB6 hA6)))
                clear hW6 hB6 hA6 HSR hk1 hk2 HSE
                go_wp2
                go_ret
                exact ⟨rfl, unhide HBF⟩
              · subst h00
                obtain ⟨hE2, hV⟩ := unhide HEV
                have hclk : k1 = Wk.clock.length := by rw [← hk1, hVL]; simp
                have hok := (unhide HSr).ok
                have hk14 : k1 ≤ 4 := by have := hok.hi; have := hok.cl; omega
                have HND : Hid (∀ k, k < k1 → V.nodes[k]? = some LL) := hide (fun k hk => by
                  rw [hVL]
                  simp only [List.getElem?_map]
                  rw [List.getElem?_eq_getElem (by omega)]
                  rfl)
                have HHS : Hid (∀ x ∈ ps, Has LL x.f) := hide (fun x hx => by
                  have := ((unhide HSr).kept x hx).settled hE2 (l := LL)
                  refine this ?_
                  rw [hV, hVL]
                  have hcl : 0 < Wk.clock.length := by have := hok.lo; have := hok.cl; omega
                  exact List.mem_map.2 ⟨Wk.clock[0], List.getElem_mem hcl, rfl⟩)
                have HRL : Hid (NRise LL) := hide (by
                  have e3 := (stl_zero hE2).2
                  rw [hV, hVL] at e3
                  have hcl : 0 < Wk.clock.length := by have := hok.lo; have := hok.cl; omega
                  have hsl : LL = setL [] Wk.nodes := by
                    have := congrArg Wd.nodes e3
                    simp only at this
                    have h0 := congrArg (fun q => q[0]?) this
                    simp [List.getElem?_map, List.getElem?_eq_getElem hcl] at h0
                    exact h0
                  rw [hsl]
                  have hn : ∀ l ∈ Wk.nodes, errM l = 0 := fun l hl => by
                    obtain ⟨k, hk⟩ := List.getElem?_of_mem hl
                    exact (node_rise hok hk).1
                  rcases set_err Wk.nodes [] errM_nil hn with ⟨_, q2⟩ | q
                  · exact (errM_zero.1 q2).2.2
                  · rw [(stl_zero hE2).1] at q; cases q)
                obtain ⟨w7, hw7⟩ : ∃ w7, w6.alloc (wbox (.slice r1 k1 s1') (.slice r2 k2 s2') (.slice r3 k3 s3')) = w7 := ⟨_, rfl⟩
                have HW7 := hide hw7
                rw [hw7] at HN6 HB6
                obtain ⟨y0, y1, y2⟩ := (unhide HN6).cells
                rw [← hw7] at y0 y1 y2
                have HB7 : Hid (Below w2.heap.size w2 w7) := hide (bt (unhide HSr).bel (by rw [← hw7]; exact bt hB6 hA6))
                clear hW6 hB6 hA6 HSR hk1 hk2 HSE hVL hclk hok hw7 hE2 hV HSr
                go_wp2
                go_loopw [153] (fun j wq => ∃ k : Nat, k ≤ k1 ∧ j = .int .i64 (k : Int) ∧ Hid (Below w7.heap.size w7 wq)) (fun j _ => k1 - (intOf j).toNat)
                case atStart => exact ⟨0, Nat.zero_le _, rfl, by rw [unhide HW7]; exact Below.refl _ _⟩
                case round =>
                  clear y0 y1 y2
                  obtain ⟨k, hk, rfl, HB⟩ := hrel
                  by_cases hlt3 : k < k1
                  · obtain ⟨wA, rfl⟩ : ∃ x, x = wr := ⟨_, rfl⟩
                    have hbx := (unhide HN6).below (unhide HB)
                    obtain ⟨z1, z2, z3, z4, z5, z6, hpe, hpat⟩ := hbx.win
                    simp only [Value.agg.injEq, Array.mk.injEq, List.cons.injEq, Value.slice.injEq, and_true] at hpe
                    obtain ⟨⟨rfl, -, rfl⟩, ⟨rfl, -, rfl⟩, rfl, -, rfl⟩ := hpe
                    obtain ⟨bn, on, vL, han, hbn, hcn, hLn⟩ := hpat.ns.get (unhide HND k hlt3)
                    obtain ⟨aL, cL, hvL⟩ := hLn.shape
                    obtain ⟨nL, hnL⟩ : ∃ nL, LL.length = nL := ⟨_, rfl⟩
                    rw [hnL] at hvL
                    subst hvL han
                    have HLn := hide hLn
                    clear hbx hpat hLn hnL
                    go_wp2
                    go_loopw [159] (fun j wq => ∃ i : Nat, i ≤ np ∧ j = .int .i64 (i : Int) ∧ Hid (Below wA.heap.size wA wq)) (fun j _ => np - (intOf j).toNat)
                    case atStart => exact ⟨0, Nat.zero_le _, rfl, Below.refl _ _⟩
                    case round =>
                      obtain ⟨i, hi, rfl, HQ2⟩ := hrel
                      by_cases hlt4 : i < np
                      · obtain ⟨z, hz, hzm⟩ := get_of (xs := ps) (k := i) (by rw [unhide HPL]; exact hlt4)
                        have hBq := bt (unhide HB6) (bt (unhide HB) (unhide HQ2))
                        obtain ⟨bf, of, haf, hbf, c0, c1, c2, c3, c4⟩ := (unhide HSB).2.get hBq hz
                        have hzs : z.sl = .slice z.a z.f.bytes.length z.c := rfl
                        rw [hzs] at c1
                        have hA5 := bel_al (Below.refl wr.heap.size wr) (.cells #[.string (B z.f.name), .slice z.a z.f.bytes.length z.c, .int .i64 z.f.stamp, .int .i64 z.f.node, .bool z.f.gone] 39)
                        have hx5 := heap_alloc_new wr (.cells #[.string (B z.f.name), .slice z.a z.f.bytes.length z.c, .int .i64 z.f.stamp, .int .i64 z.f.node, .bool z.f.gone] 39)
                        have HHA := hide (has_yes (((unhide HLn).below (unhide HQ2)).below hA5) ((((unhide HSB).2.all z hzm).below hBq (Nat.le_refl _)).below hA5 (Nat.le_refl _)) (unhide HHS z hzm) (unhide HRL))
                        rw [val_is] at HHA
                        have e0 := heap_row (i := 0) hx5
                        have e1 := heap_row (i := 1) hx5
                        have e2 := heap_row (i := 2) hx5
                        have e3 := heap_row (i := 3) hx5
                        have e4 := heap_row (i := 4) hx5
                        have HBA := hide (bt (unhide HQ2) hA5)
                        subst haf
                        generalize B z.f.name = tz at *
                        generalize z.f.bytes.length = nz' at *
                        generalize z.f.stamp = sz' at *
                        generalize z.f.gone = gz' at *
                        generalize z.f.node = dz' at *
                        clear hz hzm hBq hzs hA5 hx5
                        go_wp2_with fail
                        refine (unhide HHA).mono ?_
                        rintro e w9 ⟨rfl, hb9⟩
                        have HB9 := hide (bt (unhide HBA) hb9)
                        clear hb9
                        go_wp2
                        go_roundw
                        case rel => exact ⟨i + 1, by omega, by go_num, unhide HB9⟩
                        case measure => simp [intOf]; omega
                      · obtain rfl : np = i := by omega
                        have HBN := hide (bt (unhide HB) (unhide HQ2))
                        clear hlt4
                        go_wp2
                        go_roundw
                        case rel => exact ⟨k + 1, by omega, by go_num, unhide HBN⟩
                        case measure => simp [intOf]; omega
                  · obtain rfl : k1 = k := by omega
                    have HBF := hide (bt (unhide HB2) (bt (unhide HB7) (unhide HB)))
                    clear hlt3
                    go_wp2
                    go_ret
                    exact ⟨rfl, unhide HBF⟩
  · obtain ⟨hn1, hn2⟩ := nat_ne hE0
    have HT2 := hide (told_any w4)
    have HB4 := hide (bt (unhide HB3) hB4)
    clear hE0 hB4 HT HST
    go_wp2_with fail
    refine (unhide HT2).mono ?_
    rintro e w5 ⟨rfl, hB5⟩
    have HB5 := hide (bt (unhide HB4) hB5)
    clear hB5
    go_wp2
    go_ret
    exact ⟨rfl, unhide HB5⟩
end Go.Proofs.YtmgmganbamjnmaaDoor
