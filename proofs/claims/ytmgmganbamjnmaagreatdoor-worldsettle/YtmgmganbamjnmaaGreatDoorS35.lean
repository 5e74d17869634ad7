/-
  Package world: Run, walked.
-/
import Derived.Test.YtmgmganbamjnmaaGreatDoorS34
namespace Go.Proofs.YtmgmganbamjnmaaGreatDoor
open Go.RowKit
set_option linter.unusedVariables false
set_option linter.unusedSimpArgs false
set_option maxRecDepth 100000

def runE (n : Int) (xs : List Hp) : Nat := if newE n ≠ 0 then newE n else if 40 < xs.length then 2 else 0
def runR (n : Int) (xs : List Hp) : Wd := if runE n xs = 0 then runW (newW n) xs else noW
def runT (n : Int) (xs : List Hp) : List Nat := if runE n xs = 0 then runS (newW n) xs else []
set_option maxHeartbeats 4000000 in
theorem run_at (n : Int) (a : Option Addr) (c m : Nat) (xs : List Hp) (w : World) (h : HsIn w a c xs) (hm : xs.length = m) :
    Calls Tryz.prog 13 #[.int .i64 n, .slice a m c] w (RunA w (runE n xs) (runR n xs) (runT n xs)) := by
  obtain ⟨w1, hw1⟩ : ∃ w1, w.alloc (wbox (.slice none 0 0) (.slice none 0 0) (.slice none 0 0)) = w1 := ⟨_, rfl⟩
  have hx1 : w1.heap[w.heap.size]? = some (.cells #[(.slice none 0 0), (.slice none 0 0), (.slice none 0 0)] 26 (0, 0)) := by rw [← hw1]; exact heap_alloc_new w _
  have hb1 : Below w.heap.size w w1 := by rw [← hw1]; exact bel_al (Below.refl _ _) _
  have hz1 : w1.heap.size = w.heap.size + 1 := by rw [← hw1]; simp
  have HN := hide (new_w n w1)
  obtain ⟨E1, hE1⟩ : ∃ E1, newE n = E1 := ⟨_, rfl⟩
  obtain ⟨W0, hW0⟩ : ∃ W0, newW n = W0 := ⟨_, rfl⟩
  obtain ⟨E, hE⟩ : ∃ E, runE n xs = E := ⟨_, rfl⟩
  obtain ⟨R, hR⟩ : ∃ R, runR n xs = R := ⟨_, rfl⟩
  obtain ⟨T, hT⟩ : ∃ T, runT n xs = T := ⟨_, rfl⟩
  rw [hE, hR, hT]
  unfold runR at hR
  unfold runT at hT
  rw [hE, hW0] at hR hT
  unfold runE at hE
  rw [hE1, hm] at hE
  rw [hE1, hW0] at HN
  have HX := hide (And.intro hx1 (And.intro hb1 (And.intro hz1 (And.intro h hm))))
  have HE := hide (And.intro hE (And.intro hR hT))
  have HW1 := hide hw1
  rw [← hw1] at HN
  have hlim := h.lim
  rw [hm] at hlim
  clear h hm hx1 hb1 hz1 hw1 hE hR hT hE1 hW0
  go_enter Tryz.func13, Tryz.ntmps13
  go_wp2_with fail
  refine (unhide HN).mono ?_
  rintro e w2 ⟨v, rfl, hW2, hV2, hB2⟩
  rw [show w.alloc (wbox (.slice none 0 0) (.slice none 0 0) (.slice none 0 0)) = w1 from unhide HW1] at hB2 hV2
  obtain ⟨hx1, hb1, hz1, h, hm⟩ := unhide HX
  obtain ⟨hE, hR, hT⟩ := unhide HE
  obtain ⟨a1, c1, a2, c2, a3, c3, hv, hat⟩ := hW2
  subst hv
  obtain ⟨l1, hl1⟩ : ∃ l1, W0.nodes.length = l1 := ⟨_, rfl⟩
  obtain ⟨l2, hl2⟩ : ∃ l2, W0.clock.length = l2 := ⟨_, rfl⟩
  obtain ⟨l3, hl3⟩ : ∃ l3, W0.net.length = l3 := ⟨_, rfl⟩
  have hW2 : WIn w2 (.agg #[.slice a1 l1 c1, .slice a2 l2 c2, .slice a3 l3 c3]) W0 := ⟨a1, c1, a2, c2, a3, c3, by rw [hl1, hl2, hl3], hat⟩
  rw [hl1, hl2, hl3] at hV2 ⊢
  have hbw2 : Below w.heap.size w w2 := hb1.trans (hB2.mono (by omega))
  have hB3 := bel_al (Below.refl w2.heap.size w2) (wbox (.slice a1 l1 c1) (.slice a2 l2 c2) (.slice a3 l3 c3))
  have hbw3 := hbw2.trans (hB3.mono hbw2.size)
  have hx3 := (hB3.block w.heap.size (by have := hB2.size; omega)).trans ((hB2.block _ (by omega)).trans hx1)
  by_cases hE0 : E1 = 0
  · subst hE0
    rw [if_neg (by simp)] at hE
    by_cases h40 : 40 < m
    · rw [if_pos h40] at hE
      subst hE
      rw [if_neg (by decide)] at hR hT
      subst hR hT
      have h40I : (40 : Int) < (m : Int) := by omega
      obtain ⟨p1, p2⟩ := put_no hx3 hbw3 (Nat.le_refl _)
      have y0 := heap_row (i := 0) hx3
      have y1 := heap_row (i := 1) hx3
      have y2 := heap_row (i := 2) hx3
      have f0 := frozen_of_row _ _ 0 _ _ hx3
      have f1 := frozen_of_row _ _ 1 _ _ hx3
      have f2 := frozen_of_row _ _ 2 _ _ hx3
      have HP := hide p1
      have HB := hide p2
      clear h hm hx1 hb1 hz1 hat hl1 hl2 hl3 hW2 hV2 hB2 hbw2 hB3 hbw3 hx3 p1 p2 HX HE HW1 HN h40
      go_wp2
      refine bodyPost_ret (v := .tuple #[.agg #[(.slice none 0 0), (.slice none 0 0), (.slice none 0 0)], (.slice none 0 0), .int .i64 2]) ?_ rfl ⟨_, none, 0, rfl, WIn.no _, VFrom.no _ _, CsIn.zero _, unhide HB⟩
      exact results_wtt rfl _ _ w.heap.size _ _ _ rfl (wd_load (unhide HP)) rfl rfl
    · rw [if_neg h40] at hE
      subst hE
      rw [if_pos rfl] at hR hT
      have h40I : ¬ (40 : Int) < (m : Int) := by omega
      have hST : RSt w2 (w2.alloc (wbox (.slice a1 l1 c1) (.slice a2 l2 c2) (.slice a3 l3 c3))) (.slice a1 l1 c1) (.slice a2 l2 c2) (.slice a3 l3 c3) W0 (.slice none 0 0) [] := by
        refine ⟨hB3, heap_alloc_new _ _, hW2.below hB3, TRow.nil _ _ _ _, fun b hb => ?_⟩
        have hlt := hV2 b hb
        exact ⟨by simp [Value.ownBlock], by omega, by rw [World.size_alloc]; omega⟩
      have HST := hide hST
      have HSR := hide (And.intro hR hT)
      have HBW := hide hbw2
      have HM := hide hm
      have HH := hide (h.below hbw2)
      have HX2 := hide ((hB2.block w.heap.size (by omega)).trans hx1)
      have HZ2 : Hid (w.heap.size < w2.heap.size ∧ w1.heap.size = w.heap.size + 1) := hide ⟨by have := hB2.size; omega, hz1⟩
      have HV2 := hide hV2
      clear h hm hx1 hb1 hz1 hat hl1 hl2 hl3 hW2 hV2 hB2 hbw2 hB3 hbw3 hx3 HX HE HW1 HN hST hR hT
      go_wp2
      go_loopw [9, 29] (fun v9 j wr => ∃ (k : Nat) (v1 v2 v3 : Value) (Wk : Wd) (es : List Nat), k ≤ m ∧ j = .int .i64 (k : Int) ∧ es.length = k ∧ Hid (RSt w2 wr v1 v2 v3 Wk v9 es) ∧ Hid (runW Wk (xs.drop k) = R ∧ es ++ runS Wk (xs.drop k) = T) ∧ Hid (VFrom (w.heap.size + 1) wr.heap.size (.agg #[v1, v2, v3]))) (fun _ j _ => m - (intOf j).toNat)
      case atStart => exact ⟨0, _, _, _, W0, [], Nat.zero_le _, rfl, rfl, HST, HSR, hide (fun b hb => by have := unhide HV2 b hb; have := (unhide HZ2).2; exact ⟨by omega, by rw [World.size_alloc]; omega⟩)⟩
      case round =>
        clear HST HSR HV2
        obtain ⟨k, v1, v2, v3, Wk, es, hk, rfl, hes, HS, HR, HV⟩ := hrel
        have hS := unhide HS
        obtain ⟨s1, t1, s2, t2, s3, t3, e1, e2, e3⟩ := hS.win.sl
        obtain ⟨m1, hm1⟩ : ∃ m1, Wk.nodes.length = m1 := ⟨_, rfl⟩
        obtain ⟨m2, hm2⟩ : ∃ m2, Wk.clock.length = m2 := ⟨_, rfl⟩
        obtain ⟨m3, hm3⟩ : ∃ m3, Wk.net.length = m3 := ⟨_, rfl⟩
        rw [hm1] at e1
        rw [hm2] at e2
        rw [hm3] at e3
        subst e1 e2 e3
        obtain ⟨d1, d2, hds⟩ := hS.row.sl
        rw [hes] at hds
        subst hds
        have q0 := heap_row (i := 0) hS.box
        have q1 := heap_row (i := 1) hS.box
        have q2 := heap_row (i := 2) hS.box
        by_cases hlt : k < m
        · obtain ⟨x, hx⟩ := get_some (l := xs) (k := k) (by rw [unhide HM]; exact hlt)
          obtain ⟨b, o, ab, cb, ha, hbl, g0, g1, g2, g3, g4, hpx⟩ := (unhide HH).get hS.bel hx
          obtain ⟨nb, hnb⟩ : ∃ nb, x.bytes.length = nb := ⟨_, rfl⟩
          rw [hnb] at g4
          have hBx := bel_al (Below.refl wr.heap.size wr) (hbox x.kind x.node x.dst (B x.name) (.slice ab nb cb))
          have HD := hide (do_w (hS.win.below hBx) (hpx.below hBx))
          have hsp := run_step (W := Wk) hx
          obtain ⟨E, hE⟩ : ∃ E, doE Wk x = E := ⟨_, rfl⟩
          obtain ⟨Wn, hWn⟩ : ∃ Wn, doW Wk x = Wn := ⟨_, rfl⟩
          rw [hE, hWn] at hsp HD
          have hvx : hpV x ab cb = .agg #[.int .i64 x.kind, .int .i64 x.node, .int .i64 x.dst, .string (B x.name), .slice ab nb cb] := by unfold hpV; rw [hnb]
          rw [hvx] at HD
          have HSP := hide hsp
          have hSx := hS.below hBx
          have HSx := hide hSx
          have q0' := heap_row (i := 0) hSx.box
          have q1' := heap_row (i := 1) hSx.box
          have q2' := heap_row (i := 2) hSx.box
          generalize B x.name = tn at *
          generalize x.kind = xk at *
          generalize x.node = xn at *
          generalize x.dst = xd at *
          clear hx hbl hpx hnb hBx hsp hE hWn hvx hS hSx hm1 hm2 hm3 HS
          subst ha
          go_wp2_with fail
          refine (unhide HD).mono ?_
          rintro e w4 ⟨u, rfl, hW4, hV4, hB4⟩
          obtain ⟨a1', c1', a2', c2', a3', c3', hu, hat4⟩ := hW4
          subst hu
          obtain ⟨l1', hl1⟩ : ∃ l1, Wn.nodes.length = l1 := ⟨_, rfl⟩
          obtain ⟨l2', hl2⟩ : ∃ l2, Wn.clock.length = l2 := ⟨_, rfl⟩
          obtain ⟨l3', hl3⟩ : ∃ l3, Wn.net.length = l3 := ⟨_, rfl⟩
          have hW4 : WIn w4 (.agg #[.slice a1' l1' c1', .slice a2' l2' c2', .slice a3' l3' c3']) Wn := ⟨a1', c1', a2', c2', a3', c3', by rw [hl1, hl2, hl3], hat4⟩
          rw [hl1, hl2, hl3] at hV4 ⊢
          have hS4 := (unhide HSx).below hB4
          have hB5 := bel_al (Below.refl w4.heap.size w4) (wbox (.slice a1' l1' c1') (.slice a2' l2' c2') (.slice a3' l3' c3'))
          have hS5 := hS4.below hB5
          have hW5 := hW4.below hB5
          obtain ⟨hRk, hTk⟩ := unhide HR
          obtain ⟨hr1, hr2⟩ := unhide HSP
          rw [hr1] at hRk
          rw [hr2] at hTk
          have hszx := (unhide HSx).lt
          by_cases hE0 : E = 0
          · subst hE0
            rw [if_pos rfl] at hRk hTk
            have hoff : ∀ b, vBlocks (.agg #[.slice a1' l1' c1', .slice a2' l2' c2', .slice a3' l3' c3']) b → some b ≠ (Value.slice d1 k d2).ownBlock ∧ b ≠ w2.heap.size ∧ b < (w4.alloc (wbox (.slice a1' l1' c1') (.slice a2' l2' c2') (.slice a3' l3' c3'))).heap.size := by
              intro b hb
              have hv := hV4 b hb
              refine ⟨fun e => ?_, ?_, by rw [World.size_alloc]; omega⟩
              · have := ((unhide HSx).row.lt e.symm).2
                omega
              · omega
            have hS6 := hS5.put hW5 hoff
            have r0 := heap_row (i := 0) hS5.box
            have r1 := heap_row (i := 1) hS5.box
            have r2 := heap_row (i := 2) hS5.box
            have f0 := frozen_of_row _ _ 0 _ _ hS5.box
            have f1 := frozen_of_row _ _ 1 _ _ hS5.box
            have f2 := frozen_of_row _ _ 2 _ _ hS5.box
            obtain ⟨w6, hw6⟩ : ∃ w6, ((((w4.alloc (wbox (.slice a1' l1' c1') (.slice a2' l2' c2') (.slice a3' l3' c3'))).setCell ⟨w2.heap.size, 0, none⟩ (.slice a1' l1' c1')).setCell ⟨w2.heap.size, 1, none⟩ (.slice a2' l2' c2')).setCell ⟨w2.heap.size, 2, none⟩ (.slice a3' l3' c3')) = w6 := ⟨_, rfl⟩
            rw [hw6] at hS6
            obtain ⟨E, hEe⟩ : ∃ E : Nat, E = 0 := ⟨0, rfl⟩
            obtain ⟨v9', w8, hr, hT8, hg8, hat8⟩ := app_e (w6.alloc (.cells #[.int .i64 (E : Int)] 31)) 39 (e := E) (hS6.below (bel_al (Below.refl w6.heap.size w6) (.cells #[.int .i64 (E : Int)] 31))).row (heap_row (heap_alloc_new w6 _)) (by omega) (by have := hS6.lt; rw [World.size_alloc]; omega)
            have hS8 := (hS6.below (bel_al (Below.refl w6.heap.size w6) (.cells #[.int .i64 (E : Int)] 31))).say hT8 hg8 hat8
            obtain ⟨a9, c9, hv9⟩ := hT8.sl
            rw [List.length_append, List.length_singleton, hes] at hv9
            subst hv9
            have HS8 := hide hS8
            rw [hEe] at hr HS8
            have HR8 := hide (And.intro hRk (show (es ++ [0]) ++ runS Wn (xs.drop (k + 1)) = T by rw [List.append_assoc]; exact hTk))
            have HV8 : Hid (VFrom (w.heap.size + 1) w8.heap.size (.agg #[.slice a1' l1' c1', .slice a2' l2' c2', .slice a3' l3' c3'])) := hide (fun b hb => ⟨by have := hV4 b hb; have := (unhide HZ2).1; omega, (hS8.off b hb).2.2⟩)
            have HW6 := hide hw6
            have HRR := hide hr
            clear hr hEe hw6 hS8 hT8 hg8 hat8 hS6 hoff hRk hTk hr1 hr2 hszx hW5 hS5 hB5 hS4 hW4 hV4 hat4 hl1 hl2 hl3 hB4 HR HSP HSx HD q0 q1 q2 q0' q1' q2'
            go_upto_region 13 with fail
            rw [show ((((w4.alloc (wbox (.slice a1' l1' c1') (.slice a2' l2' c2') (.slice a3' l3' c3'))).setCell ⟨w2.heap.size, 0, none⟩ (.slice a1' l1' c1')).setCell ⟨w2.heap.size, 1, none⟩ (.slice a2' l2' c2')).setCell ⟨w2.heap.size, 2, none⟩ (.slice a3' l3' c3')) = w6 from unhide HW6]
            clear r0 r1 r2 f0 f1 f2 HW6
            go_wp2_with (at_builtin; refine wpList_append_run rfl _ _ _ rfl rfl rfl (unhide HRR) ?_)
            go_wp2
            go_roundw
            case rel => exact ⟨k + 1, _, _, _, Wn, es ++ [0], by omega, by go_num, by simp [hes], HS8, HR8, HV8⟩
            case measure => simp [intOf]; omega
          · rw [if_neg hE0] at hRk hTk
            obtain ⟨hb0, hb2⟩ := nat_ne hE0
            obtain ⟨w5, hw5⟩ : ∃ w5, w4.alloc (wbox (.slice a1' l1' c1') (.slice a2' l2' c2') (.slice a3' l3' c3')) = w5 := ⟨_, rfl⟩
            rw [hw5] at hS5
            obtain ⟨v9', w8, hr, hT8, hg8, hat8⟩ := app_e (w5.alloc (.cells #[.int .i64 (E : Int)] 31)) 39 (e := E) (hS5.below (bel_al (Below.refl w5.heap.size w5) (.cells #[.int .i64 (E : Int)] 31))).row (heap_row (heap_alloc_new w5 _)) (by omega) (by have := hS5.lt; rw [World.size_alloc]; omega)
            have hS8 := (hS5.below (bel_al (Below.refl w5.heap.size w5) (.cells #[.int .i64 (E : Int)] 31))).say hT8 hg8 hat8
            obtain ⟨a9, c9, hv9⟩ := hT8.sl
            rw [List.length_append, List.length_singleton, hes] at hv9
            subst hv9
            have HS8 := hide hS8
            have HR8 := hide (And.intro hRk (show (es ++ [E]) ++ runS Wk (xs.drop (k + 1)) = T by rw [List.append_assoc]; exact hTk))
            have HV8 : Hid (VFrom (w.heap.size + 1) w8.heap.size (.agg #[.slice s1 m1 t1, .slice s2 m2 t2, .slice s3 m3 t3])) := hide (fun b hb => ⟨(unhide HV b hb).1, (hS8.off b hb).2.2⟩)
            have HW5 := hide hw5
            have HRR := hide hr
            clear hr hw5 hS8 hT8 hg8 hat8 hRk hTk hr1 hr2 hszx hW5 hS5 hB5 hS4 hW4 hV4 hat4 hl1 hl2 hl3 hB4 HR HSP HSx HD q0 q1 q2 q0' q1' q2' hE0
            go_upto_region 13 with fail
            rw [show w4.alloc (wbox (.slice a1' l1' c1') (.slice a2' l2' c2') (.slice a3' l3' c3')) = w5 from unhide HW5]
            clear HW5
            go_wp2_with (at_builtin; refine wpList_append_run rfl _ _ _ rfl rfl rfl (unhide HRR) ?_)
            go_wp2
            go_roundw
            case rel => exact ⟨k + 1, _, _, _, Wk, es ++ [E], by omega, by go_num, by simp [hes], HS8, HR8, HV8⟩
            case measure => simp [intOf]; omega
        · obtain rfl : m = k := by omega
          obtain ⟨hRk, hTk⟩ := unhide HR
          rw [List.drop_of_length_le (by rw [unhide HM]; exact Nat.le_refl _)] at hRk hTk
          have hR2 : Wk = R := hRk
          have hT2 : es = T := by simpa [runS] using hTk
          subst hR2 hT2
          have hzz := (unhide HZ2).1
          have hxr := (hS.bel.block w.heap.size hzz).trans (unhide HX2)
          obtain ⟨p1, p2⟩ := put3 (.slice s1 m1 t1) (.slice s2 m2 t2) (.slice s3 m3 t3) hxr
          have hsz := hS.lt
          have hWF := hS.win.offV p2 (fun g e => by cases e; exact nf3 hxr) (fun b hb e => by have := (unhide HV b hb).1; have := Option.some.inj e; omega)
          have hVF : VFrom w.heap.size _ (.agg #[.slice s1 m1 t1, .slice s2 m2 t2, .slice s3 m3 t3]) := (unhide HV).mono (B' := w.heap.size) (by omega) p2.size
          obtain ⟨a8, c8, hv8, hC8⟩ := (hS.row.kept p2 (by
            cases hv : (Value.slice d1 m d2).ownBlock with
            | none => exact .inl rfl
            | some g => refine .inr (fun e => ?_); cases e; have := (hS.row.lt hv).1; omega)).es (by omega)
          rw [hes] at hv8
          cases hv8
          have hBF := ((unhide HBW).trans (hS.bel.mono (unhide HBW).size)).grown p2 (by omega) (fun q e => by cases e; exact Nat.le_refl _)
          have y0 := heap_row (i := 0) hxr
          have y1 := heap_row (i := 1) hxr
          have y2 := heap_row (i := 2) hxr
          have f0 := frozen_of_row _ _ 0 _ _ hxr
          have f1 := frozen_of_row _ _ 1 _ _ hxr
          have f2 := frozen_of_row _ _ 2 _ _ hxr
          have HP := hide p1
          have HF := hide (And.intro hWF (And.intro hVF (And.intro hC8 hBF)))
          have HES := hide hes
          clear hS hxr p1 p2 hsz hWF hVF hC8 hBF hzz hRk hTk hlt HS HR hm1 hm2 hm3 hes
          go_wp2
          obtain ⟨hWF, hVF, hC8, hBF⟩ := unhide HF
          refine bodyPost_ret (v := .tuple #[.agg #[.slice s1 m1 t1, .slice s2 m2 t2, .slice s3 m3 t3], .slice d1 m d2, .int .i64 0]) ?_ rfl ⟨_, d1, d2, by rw [unhide HES]; rfl, hWF, hVF, hC8, hBF⟩
          exact results_wtt rfl _ _ w.heap.size _ _ _ rfl (wd_load (unhide HP)) rfl rfl
  · rw [if_pos hE0] at hE
    subst hE
    rw [if_neg hE0] at hR hT
    subst hR hT
    obtain ⟨hb0, hb2⟩ := nat_ne hE0
    obtain ⟨p1, p2⟩ := put_no hx3 hbw3 (Nat.le_refl _)
    have y0 := heap_row (i := 0) hx3
    have y1 := heap_row (i := 1) hx3
    have y2 := heap_row (i := 2) hx3
    have f0 := frozen_of_row _ _ 0 _ _ hx3
    have f1 := frozen_of_row _ _ 1 _ _ hx3
    have f2 := frozen_of_row _ _ 2 _ _ hx3
    have HP := hide p1
    have HB := hide p2
    clear h hm hx1 hb1 hz1 hat hl1 hl2 hl3 hW2 hV2 hB2 hbw2 hB3 hbw3 hx3 p1 p2 HX HE HW1 HN hE0
    go_wp2
    refine bodyPost_ret (v := .tuple #[.agg #[(.slice none 0 0), (.slice none 0 0), (.slice none 0 0)], (.slice none 0 0), .int .i64 (E1 : Int)]) ?_ rfl ⟨_, none, 0, rfl, WIn.no _, VFrom.no _ _, CsIn.zero _, unhide HB⟩
    exact results_wtt rfl _ _ w.heap.size _ _ _ rfl (wd_load (unhide HP)) rfl rfl
end Go.Proofs.YtmgmganbamjnmaaGreatDoor
