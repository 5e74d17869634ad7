/-
  Package world: Do, walked.
-/
import Derived.Test.YtmgmganbamjnmaaGreatDoorS32
namespace Go.Proofs.YtmgmganbamjnmaaGreatDoor
open Go.RowKit
set_option linter.unusedVariables false
set_option linter.unusedSimpArgs false
set_option maxRecDepth 100000

/-- a world and an error that are answered -/
def DoA (w : World) (E : Nat) (W : Wd) (e : Ending) (w' : World) : Prop := ∃ v, e = .returned (.tuple #[v, .int .i64 (E : Int)]) ∧ WIn w' v W ∧ VFrom w.heap.size w'.heap.size v ∧ Below w.heap.size w w'
/-- three cells of a box of noughts are stored to be what they are -/
theorem put_no {W : World} {g : Nat} (h : W.heap[g]? = some (.cells #[(.slice none 0 0), (.slice none 0 0), (.slice none 0 0)] 26 (0, 0))) {w : World} (hB : Below w.heap.size w W) (hg : w.heap.size ≤ g) :
    (((W.setCell ⟨g, 0, none⟩ (.slice none 0 0)).setCell ⟨g, 1, none⟩ (.slice none 0 0)).setCell ⟨g, 2, none⟩ (.slice none 0 0)).heap[g]? = some (.cells #[(.slice none 0 0), (.slice none 0 0), (.slice none 0 0)] 26 (0, 0)) ∧ Below w.heap.size w (((W.setCell ⟨g, 0, none⟩ (.slice none 0 0)).setCell ⟨g, 1, none⟩ (.slice none 0 0)).setCell ⟨g, 2, none⟩ (.slice none 0 0)) := by
  obtain ⟨p1, p2⟩ := put3 (.slice none 0 0) (.slice none 0 0) (.slice none 0 0) h
  exact ⟨p1, hB.grown p2 hB.size (fun q e => by cases e; exact hg)⟩
set_option maxHeartbeats 4000000 in
theorem do_at (a1 a2 a3 ab : Option Addr) (n1 c1 n2 c2 n3 c3 nb cb : Nat) (W : Wd) (w : World) (h : WAt w W a1 c1 a2 c2 a3 c3) (h1 : W.nodes.length = n1) (h2 : W.clock.length = n2) (h3 : W.net.length = n3) (x : Hp) (hx : HpAt w x ab cb) (hnb : x.bytes.length = nb) :
    Calls Tryz.prog 7 #[.agg #[.slice a1 n1 c1, .slice a2 n2 c2, .slice a3 n3 c3], .agg #[.int .i64 x.kind, .int .i64 x.node, .int .i64 x.dst, .string (B x.name), .slice ab nb cb]] w (DoA w (doE W x) (doW W x)) := by
  have hin : WIn w (.agg #[.slice a1 n1 c1, .slice a2 n2 c2, .slice a3 n3 c3]) W := ⟨a1, c1, a2, c2, a3, c3, by rw [h1, h2, h3], h⟩
  have hv : hpV x ab cb = .agg #[.int .i64 x.kind, .int .i64 x.node, .int .i64 x.dst, .string (B x.name), .slice ab nb cb] := by unfold hpV; rw [hnb]
  obtain ⟨w1, hw1, hz1, hb1, hx0, hx1, hx2⟩ := three_boxes w (.slice a1 n1 c1) (.slice a2 n2 c2) (.slice a3 n3 c3) x.kind x.node x.dst (B x.name) (.slice ab nb cb)
  obtain ⟨E1, hE1⟩ : ∃ E1, errWd W = E1 := ⟨_, rfl⟩
  have HC := hide (check_w (hin.below hb1))
  rw [hE1] at HC
  have hdo : doE W x = if E1 ≠ 0 then E1 else cgE W x := by unfold doE; rw [hE1]
  have hdw : doW W x = if doE W x = 0 then (cgC W x).act W else noW := rfl
  rw [hdw]
  obtain ⟨E, hE⟩ : ∃ E, doE W x = E := ⟨_, rfl⟩
  rw [hE] at hdo ⊢
  obtain ⟨R, hR⟩ : ∃ R, (if E = 0 then (cgC W x).act W else noW) = R := ⟨_, rfl⟩
  rw [hR]
  have hcc : ∀ V, Below w1.heap.size w1 V → V.cell? ⟨w.heap.size, 0, none⟩ = some (.slice a1 n1 c1) ∧ V.cell? ⟨w.heap.size, 1, none⟩ = some (.slice a2 n2 c2) ∧ V.cell? ⟨w.heap.size, 2, none⟩ = some (.slice a3 n3 c3) ∧ V.cell? ⟨w.heap.size + 1, 0, none⟩ = some (.int .i64 x.kind) ∧ V.cell? ⟨w.heap.size + 1, 1, none⟩ = some (.int .i64 x.node) ∧ V.cell? ⟨w.heap.size + 1, 2, none⟩ = some (.int .i64 x.dst) ∧ V.cell? ⟨w.heap.size + 1, 3, none⟩ = some (.string (B x.name)) ∧ V.cell? ⟨w.heap.size + 1, 4, none⟩ = some (.slice ab nb cb) := fun V hV => ⟨cell_bel (heap_row (i := 0) hx0) hV (Nat.le_refl _), cell_bel (heap_row (i := 1) hx0) hV (Nat.le_refl _), cell_bel (heap_row (i := 2) hx0) hV (Nat.le_refl _), cell_bel (heap_row (i := 0) hx1) hV (Nat.le_refl _), cell_bel (heap_row (i := 1) hx1) hV (Nat.le_refl _), cell_bel (heap_row (i := 2) hx1) hV (Nat.le_refl _), cell_bel (heap_row (i := 3) hx1) hV (Nat.le_refl _), cell_bel (heap_row (i := 4) hx1) hV (Nat.le_refl _)⟩
  have HCC := hide hcc
  have HX := hide (And.intro hz1 (And.intro hb1 (And.intro hx0 (And.intro hx1 (And.intro hx2 (And.intro hin (And.intro h hx)))))))
  have HDO := hide (And.intro hdo hR)
  have HV := hide hv
  have HL := hide (And.intro h1 (And.intro h2 h3))
  have HE1 := hide hE1
  obtain ⟨z0, z1, z2, -⟩ := hcc w1 (Below.refl _ _)
  have HW1 := hide hw1
  rw [← hw1] at HC z0 z1 z2
  obtain ⟨bn, hbn⟩ : ∃ bn, B x.name = bn := ⟨_, rfl⟩
  obtain ⟨k1, hk1⟩ : ∃ k1, x.kind = k1 := ⟨_, rfl⟩
  obtain ⟨k2, hk2⟩ : ∃ k2, x.node = k2 := ⟨_, rfl⟩
  obtain ⟨k3, hk3⟩ : ∃ k3, x.dst = k3 := ⟨_, rfl⟩
  rw [hbn, hk1, hk2, hk3] at HCC HV HX HW1 HC z0 z1 z2
  rw [hbn, hk1, hk2, hk3]
  clear h h1 h2 h3 hx hnb hin hv hw1 hz1 hb1 hx0 hx1 hx2 hE1 hdo hdw hE hR hcc hbn hk1 hk2 hk3
  go_enter Tryz.func7, Tryz.ntmps7
  go_wp2_with fail
  refine (unhide HC).mono ?_
  rintro e w3 ⟨rfl, hB3⟩
  rw [show ((w.alloc (wbox (.slice a1 n1 c1) (.slice a2 n2 c2) (.slice a3 n3 c3))).alloc (hbox k1 k2 k3 bn (.slice ab nb cb))).alloc (wbox (.slice none 0 0) (.slice none 0 0) (.slice none 0 0)) = w1 from unhide HW1] at hB3
  obtain ⟨hz1, hb1, hx0, hx1, hx2, hin, h, hx⟩ := unhide HX
  obtain ⟨hdo, hR⟩ := unhide HDO
  clear z0 z1 z2
  by_cases hE0 : E1 = 0
  · subst hE0
    rw [if_neg (by simp)] at hdo
    have hok := errWd_zero.1 (unhide HE1)
    have hbw3 : Below w.heap.size w w3 := hb1.trans (hB3.mono (by omega))
    have HCB := hide (changeBy_any (hin.below hbw3) hok (hx.below hbw3))
    rw [unhide HV, ← hdo] at HCB
    obtain ⟨q0, q1, q2, q3, q4, q5, q6, q7⟩ := unhide HCC w3 hB3
    have HB3 := hide hB3
    clear hz1 hb1 hx0 hx1 hx2 hin h hx hB3 hbw3 HC HW1
    go_wp2_with fail
    refine (unhide HCB).mono ?_
    rintro e w4 ⟨hB4, s, rfl, hs⟩
    replace hB4 : Below w1.heap.size w1 w4 := (unhide HB3).trans (hB4.mono (unhide HB3).size)
    obtain ⟨hz1, hb1, hx0, hx1, hx2, hin, h, hx⟩ := unhide HX
    clear q0 q1 q2 q3 q4 q5 q6 q7
    by_cases hEz : E = 0
    · subst hEz
      rw [if_pos rfl] at hR
      replace hs := hs rfl
      have hfit := cg_fits hok hdo.symm
      obtain ⟨l1, l2, l3⟩ := unhide HL
      have hcl := hok.cl
      have hhi := hok.hi
      have hnt := hok.nt
      have hbw4 : Below w.heap.size w w4 := hb1.trans (hB4.mono (by omega))
      have HCP := hide (copyW_wat a1 a2 a3 c1 c2 c3 W w4 (h.below hbw4) n1 n3 n2 l1 l2 l3 (by omega) (by omega) (by omega))
      obtain ⟨q0, q1, q2, -⟩ := unhide HCC w4 hB4
      obtain ⟨c, hc⟩ : ∃ c, cgC W x = c := ⟨_, rfl⟩
      rw [hc] at hs hfit hR
      have HS := hide (And.intro hz1 (And.intro hb1 (And.intro hx0 (And.intro hx1 (And.intro hx2 (And.intro hB4 (And.intro hfit (And.intro hR (And.intro hcl (And.intro hhi hnt))))))))))
      have HLL := hide (And.intro l1 (And.intro l2 l3))
      have HS0 := hide hs
      clear hc hz1 hb1 hx0 hx1 hx2 hin h hx hB4 hfit hok hcl hhi hnt hbw4 HB3 HCB HX HDO HV HL HE1 hdo hR l1 l2 l3 HCC hs
      cases c with
      | keep k l =>
        obtain ⟨bf, bn, v, hK⟩ := unhide HS0
        have HK := hide hK
        have his := hK.is
        clear hK
        subst his
        go_wp2_with fail
        refine (unhide HCP).mono ?_
        rintro e w5 ⟨vn, vc, vm, ns, ms, rfl, hOW, hns, hms, hB5⟩
        have HO := hide (And.intro hOW (And.intro hns (And.intro hms hB5)))
        clear hOW hns hms hB5
        go_wp2_with fail
        obtain ⟨hOW, hns, hms, hB5⟩ := unhide HO
        obtain ⟨hz1, hb1, hx0, hx1, hx2, hB4, hfit, hR, hcl, hhi, hnt⟩ := unhide HS
        have hWW : owd ns W.clock ms = W := by simp only [owd, hns, hms]
        have e1 : ns.length = W.nodes.length := by rw [← hns]; simp [lss]
        have e3 : ms.length = W.net.length := by rw [← hms]; simp [mss]
        have hsz5 := hB5.size
        have hsz4 := hB4.size
        refine (act_keep hOW hWW (by omega) ((unhide HK).below hB5) (cell_lt (unhide HK).f) (cell_lt (unhide HK).n) hfit (by omega) (by omega)).mono ?_
        rw [hR]
        rintro e w6 ⟨vn', vc', vm', ns', cs', ms', rfl, hW6, hWe, ⟨l1, l2, l3⟩, hB6⟩
        obtain ⟨a1', c1', e1⟩ := hW6.n.sl
        obtain ⟨a2', c2', e2⟩ := hW6.c.sl
        obtain ⟨a3', c3', e3⟩ := hW6.m.sl
        obtain ⟨n1', hn1⟩ : ∃ n1', ns'.length = n1' := ⟨_, rfl⟩
        obtain ⟨n2', hn2⟩ : ∃ n2', cs'.length = n2' := ⟨_, rfl⟩
        obtain ⟨n3', hn3⟩ : ∃ n3', ms'.length = n3' := ⟨_, rfl⟩
        rw [hn1] at e1
        rw [hn2] at e2
        rw [hn3] at e3
        subst e1 e2 e3
        have hx6 := (hB6.block (w.heap.size + 2) (by have := hB5.size; omega)).trans ((hB5.block _ (by omega)).trans ((hB4.block _ (by omega)).trans hx2))
        obtain ⟨p1, p2⟩ := put3 (.slice a1' n1' c1') (.slice a2' n2' c2') (.slice a3' n3' c3') hx6
        have hBF : Below w.heap.size w w6 := ((hb1.trans (hB4.mono (by omega))).trans (hB5.mono (by have := hB4.size; omega))).trans (hB6.mono (by have := hB4.size; omega))
        have hWF := (hW6.off p2 (by have := hB4.size; omega) (nf3 hx6)).win (by omega) (by omega) (by omega)
        rw [hWe] at hWF
        have y0 := heap_row (i := 0) hx6
        have y1 := heap_row (i := 1) hx6
        have y2 := heap_row (i := 2) hx6
        have f0 := frozen_of_row _ _ 0 _ _ hx6
        have f1 := frozen_of_row _ _ 1 _ _ hx6
        have f2 := frozen_of_row _ _ 2 _ _ hx6
        have HP := hide p1
        have HBF := hide (hBF.grown p2 hBF.size (fun q e => by cases e; omega))
        have HWF := hide hWF
        have HVF := hide (hW6.from.mono (B' := w.heap.size) (by have := hB4.size; omega) p2.size)
        clear hW6 hWe l1 l2 l3 hn1 hn2 hn3 hB6 hx6 p1 p2 hBF hWF hB5 hB4 hb1 hx0 hx1 hx2 hz1 hOW hns hms hWW e1 e3 hsz5 hsz4 hfit hcl hhi hnt
        go_wp2
        refine bodyPost_ret (v := .tuple #[.agg #[.slice a1' n1' c1', .slice a2' n2' c2', .slice a3' n3' c3'], .int .i64 0]) ?_ rfl ⟨_, rfl, unhide HWF, unhide HVF, unhide HBF⟩
        exact results_wt rfl _ _ (w.heap.size + 2) _ _ rfl (wd_load (unhide HP)) rfl
      | pass mm =>
        obtain ⟨bm, v, his, hc0, hc1, hlm⟩ := unhide HS0
        have HK := hide (And.intro hc0 (And.intro hc1 hlm))
        clear hc0 hc1 hlm
        subst his
        go_wp2_with fail
        refine (unhide HCP).mono ?_
        rintro e w5 ⟨vn, vc, vm, ns, ms, rfl, hOW, hns, hms, hB5⟩
        have HO := hide (And.intro hOW (And.intro hns (And.intro hms hB5)))
        clear hOW hns hms hB5
        go_wp2_with fail
        obtain ⟨hOW, hns, hms, hB5⟩ := unhide HO
        obtain ⟨hz1, hb1, hx0, hx1, hx2, hB4, hfit, hR, hcl, hhi, hnt⟩ := unhide HS
        have hWW : owd ns W.clock ms = W := by simp only [owd, hns, hms]
        have e1 : ns.length = W.nodes.length := by rw [← hns]; simp [lss]
        have e3 : ms.length = W.net.length := by rw [← hms]; simp [mss]
        have hsz5 := hB5.size
        have hsz4 := hB4.size
        refine (act_pass hOW hWW (by omega) (cell_bel (unhide HK).1 hB5 (Nat.le_refl _)) (cell_bel (unhide HK).2.1 hB5 (Nat.le_refl _)) (cell_lt (unhide HK).1) ((unhide HK).2.2.below hB5) (by omega) (by omega) (by omega)).mono ?_
        rw [hR]
        rintro e w6 ⟨vn', vc', vm', ns', cs', ms', rfl, hW6, hWe, ⟨l1, l2, l3⟩, hB6⟩
        obtain ⟨a1', c1', e1⟩ := hW6.n.sl
        obtain ⟨a2', c2', e2⟩ := hW6.c.sl
        obtain ⟨a3', c3', e3⟩ := hW6.m.sl
        obtain ⟨n1', hn1⟩ : ∃ n1', ns'.length = n1' := ⟨_, rfl⟩
        obtain ⟨n2', hn2⟩ : ∃ n2', cs'.length = n2' := ⟨_, rfl⟩
        obtain ⟨n3', hn3⟩ : ∃ n3', ms'.length = n3' := ⟨_, rfl⟩
        rw [hn1] at e1
        rw [hn2] at e2
        rw [hn3] at e3
        subst e1 e2 e3
        have hx6 := (hB6.block (w.heap.size + 2) (by have := hB5.size; omega)).trans ((hB5.block _ (by omega)).trans ((hB4.block _ (by omega)).trans hx2))
        obtain ⟨p1, p2⟩ := put3 (.slice a1' n1' c1') (.slice a2' n2' c2') (.slice a3' n3' c3') hx6
        have hBF : Below w.heap.size w w6 := ((hb1.trans (hB4.mono (by omega))).trans (hB5.mono (by have := hB4.size; omega))).trans (hB6.mono (by have := hB4.size; omega))
        have hWF := (hW6.off p2 (by have := hB4.size; omega) (nf3 hx6)).win (by omega) (by omega) (by omega)
        rw [hWe] at hWF
        have y0 := heap_row (i := 0) hx6
        have y1 := heap_row (i := 1) hx6
        have y2 := heap_row (i := 2) hx6
        have f0 := frozen_of_row _ _ 0 _ _ hx6
        have f1 := frozen_of_row _ _ 1 _ _ hx6
        have f2 := frozen_of_row _ _ 2 _ _ hx6
        have HP := hide p1
        have HBF := hide (hBF.grown p2 hBF.size (fun q e => by cases e; omega))
        have HWF := hide hWF
        have HVF := hide (hW6.from.mono (B' := w.heap.size) (by have := hB4.size; omega) p2.size)
        clear hW6 hWe l1 l2 l3 hn1 hn2 hn3 hB6 hx6 p1 p2 hBF hWF hB5 hB4 hb1 hx0 hx1 hx2 hz1 hOW hns hms hWW e1 e3 hsz5 hsz4 hfit hcl hhi hnt
        go_wp2
        refine bodyPost_ret (v := .tuple #[.agg #[.slice a1' n1' c1', .slice a2' n2' c2', .slice a3' n3' c3'], .int .i64 0]) ?_ rfl ⟨_, rfl, unhide HWF, unhide HVF, unhide HBF⟩
        exact results_wt rfl _ _ (w.heap.size + 2) _ _ rfl (wd_load (unhide HP)) rfl
      | drop p =>
        obtain ⟨bp, hK⟩ := unhide HS0
        have HK := hide hK
        have his := hK.is
        clear hK
        subst his
        go_wp2_with fail
        refine (unhide HCP).mono ?_
        rintro e w5 ⟨vn, vc, vm, ns, ms, rfl, hOW, hns, hms, hB5⟩
        have HO := hide (And.intro hOW (And.intro hns (And.intro hms hB5)))
        clear hOW hns hms hB5
        go_wp2_with fail
        obtain ⟨hOW, hns, hms, hB5⟩ := unhide HO
        obtain ⟨hz1, hb1, hx0, hx1, hx2, hB4, hfit, hR, hcl, hhi, hnt⟩ := unhide HS
        have hWW : owd ns W.clock ms = W := by simp only [owd, hns, hms]
        have e1 : ns.length = W.nodes.length := by rw [← hns]; simp [lss]
        have e3 : ms.length = W.net.length := by rw [← hms]; simp [mss]
        have hsz5 := hB5.size
        have hsz4 := hB4.size
        refine (act_drop hOW hWW (by omega) ((unhide HK).below hB5) (cell_lt (unhide HK).p) hfit (by omega) (by omega) (by omega)).mono ?_
        rw [hR]
        rintro e w6 ⟨vn', vc', vm', ns', cs', ms', rfl, hW6, hWe, ⟨l1, l2, l3⟩, hB6⟩
        obtain ⟨a1', c1', e1⟩ := hW6.n.sl
        obtain ⟨a2', c2', e2⟩ := hW6.c.sl
        obtain ⟨a3', c3', e3⟩ := hW6.m.sl
        obtain ⟨n1', hn1⟩ : ∃ n1', ns'.length = n1' := ⟨_, rfl⟩
        obtain ⟨n2', hn2⟩ : ∃ n2', cs'.length = n2' := ⟨_, rfl⟩
        obtain ⟨n3', hn3⟩ : ∃ n3', ms'.length = n3' := ⟨_, rfl⟩
        rw [hn1] at e1
        rw [hn2] at e2
        rw [hn3] at e3
        subst e1 e2 e3
        have hx6 := (hB6.block (w.heap.size + 2) (by have := hB5.size; omega)).trans ((hB5.block _ (by omega)).trans ((hB4.block _ (by omega)).trans hx2))
        obtain ⟨p1, p2⟩ := put3 (.slice a1' n1' c1') (.slice a2' n2' c2') (.slice a3' n3' c3') hx6
        have hBF : Below w.heap.size w w6 := ((hb1.trans (hB4.mono (by omega))).trans (hB5.mono (by have := hB4.size; omega))).trans (hB6.mono (by have := hB4.size; omega))
        have hWF := (hW6.off p2 (by have := hB4.size; omega) (nf3 hx6)).win (by omega) (by omega) (by omega)
        rw [hWe] at hWF
        have y0 := heap_row (i := 0) hx6
        have y1 := heap_row (i := 1) hx6
        have y2 := heap_row (i := 2) hx6
        have f0 := frozen_of_row _ _ 0 _ _ hx6
        have f1 := frozen_of_row _ _ 1 _ _ hx6
        have f2 := frozen_of_row _ _ 2 _ _ hx6
        have HP := hide p1
        have HBF := hide (hBF.grown p2 hBF.size (fun q e => by cases e; omega))
        have HWF := hide hWF
        have HVF := hide (hW6.from.mono (B' := w.heap.size) (by have := hB4.size; omega) p2.size)
        clear hW6 hWe l1 l2 l3 hn1 hn2 hn3 hB6 hx6 p1 p2 hBF hWF hB5 hB4 hb1 hx0 hx1 hx2 hz1 hOW hns hms hWW e1 e3 hsz5 hsz4 hfit hcl hhi hnt
        go_wp2
        refine bodyPost_ret (v := .tuple #[.agg #[.slice a1' n1' c1', .slice a2' n2' c2', .slice a3' n3' c3'], .int .i64 0]) ?_ rfl ⟨_, rfl, unhide HWF, unhide HVF, unhide HBF⟩
        exact results_wt rfl _ _ (w.heap.size + 2) _ _ rfl (wd_load (unhide HP)) rfl
      | both k l p =>
        obtain ⟨bF, bL, sF, sL, bf, bn, v, bp, his, hF, hL, hK, hD⟩ := unhide HS0
        have HK := hide (And.intro hF (And.intro hL (And.intro hK hD)))
        clear hF hL hK hD
        subst his
        go_wp2_with fail
        refine (unhide HCP).mono ?_
        rintro e w5 ⟨vn, vc, vm, ns, ms, rfl, hOW, hns, hms, hB5⟩
        have HO := hide (And.intro hOW (And.intro hns (And.intro hms hB5)))
        clear hOW hns hms hB5
        go_wp2_with fail
        obtain ⟨hOW, hns, hms, hB5⟩ := unhide HO
        obtain ⟨hz1, hb1, hx0, hx1, hx2, hB4, hfit, hR, hcl, hhi, hnt⟩ := unhide HS
        have hWW : owd ns W.clock ms = W := by simp only [owd, hns, hms]
        have e1 : ns.length = W.nodes.length := by rw [← hns]; simp [lss]
        have e3 : ms.length = W.net.length := by rw [← hms]; simp [mss]
        have hsz5 := hB5.size
        have hsz4 := hB4.size
        obtain ⟨hF, hL, hK, hD⟩ := unhide HK
        refine (act_both hOW hWW (by omega) (cell_bel hF hB5 (Nat.le_refl _)) (cell_bel hL hB5 (Nat.le_refl _)) (cell_lt hF) (cell_lt hL) (cell_lt hK.f) (cell_lt hK.n) (cell_lt hD.p) (hK.below hB5) (hD.below hB5) hfit (by omega) (by omega)).mono ?_
        rw [hR]
        rintro e w6 ⟨vn', vc', vm', ns', cs', ms', rfl, hW6, hWe, ⟨l1, l2, l3⟩, hB6⟩
        obtain ⟨a1', c1', e1⟩ := hW6.n.sl
        obtain ⟨a2', c2', e2⟩ := hW6.c.sl
        obtain ⟨a3', c3', e3⟩ := hW6.m.sl
        obtain ⟨n1', hn1⟩ : ∃ n1', ns'.length = n1' := ⟨_, rfl⟩
        obtain ⟨n2', hn2⟩ : ∃ n2', cs'.length = n2' := ⟨_, rfl⟩
        obtain ⟨n3', hn3⟩ : ∃ n3', ms'.length = n3' := ⟨_, rfl⟩
        rw [hn1] at e1
        rw [hn2] at e2
        rw [hn3] at e3
        subst e1 e2 e3
        have hx6 := (hB6.block (w.heap.size + 2) (by have := hB5.size; omega)).trans ((hB5.block _ (by omega)).trans ((hB4.block _ (by omega)).trans hx2))
        obtain ⟨p1, p2⟩ := put3 (.slice a1' n1' c1') (.slice a2' n2' c2') (.slice a3' n3' c3') hx6
        have hBF : Below w.heap.size w w6 := ((hb1.trans (hB4.mono (by omega))).trans (hB5.mono (by have := hB4.size; omega))).trans (hB6.mono (by have := hB4.size; omega))
        have hWF := (hW6.off p2 (by have := hB4.size; omega) (nf3 hx6)).win (by omega) (by omega) (by omega)
        rw [hWe] at hWF
        have y0 := heap_row (i := 0) hx6
        have y1 := heap_row (i := 1) hx6
        have y2 := heap_row (i := 2) hx6
        have f0 := frozen_of_row _ _ 0 _ _ hx6
        have f1 := frozen_of_row _ _ 1 _ _ hx6
        have f2 := frozen_of_row _ _ 2 _ _ hx6
        have HP := hide p1
        have HBF := hide (hBF.grown p2 hBF.size (fun q e => by cases e; omega))
        have HWF := hide hWF
        have HVF := hide (hW6.from.mono (B' := w.heap.size) (by have := hB4.size; omega) p2.size)
        clear hW6 hWe l1 l2 l3 hn1 hn2 hn3 hB6 hx6 p1 p2 hBF hWF hB5 hB4 hb1 hx0 hx1 hx2 hz1 hOW hns hms hWW e1 e3 hsz5 hsz4 hfit hcl hhi hnt
        go_wp2
        refine bodyPost_ret (v := .tuple #[.agg #[.slice a1' n1' c1', .slice a2' n2' c2', .slice a3' n3' c3'], .int .i64 0]) ?_ rfl ⟨_, rfl, unhide HWF, unhide HVF, unhide HBF⟩
        exact results_wt rfl _ _ (w.heap.size + 2) _ _ rfl (wd_load (unhide HP)) rfl
    · rw [if_neg hEz] at hR
      subst hR
      obtain ⟨hb0, hb2⟩ := nat_ne hEz
      have hx5 := (hB4.block (w.heap.size + 2) (by omega)).trans hx2
      have hBw := hb1.trans (hB4.mono (by omega))
      obtain ⟨p1, p2⟩ := put_no hx5 hBw (by omega)
      have y0 := heap_row (i := 0) hx5
      have y1 := heap_row (i := 1) hx5
      have y2 := heap_row (i := 2) hx5
      have f0 := frozen_of_row _ _ 0 _ _ hx5
      have f1 := frozen_of_row _ _ 1 _ _ hx5
      have f2 := frozen_of_row _ _ 2 _ _ hx5
      have HP := hide p1
      have HBF := hide p2
      clear hz1 hb1 hx0 hx1 hx2 hin h hx hB4 hs hx5 hBw p1 p2 hdo hok hEz HCC HCB HX HDO HV HL HE1 HB3
      go_wp2
      refine bodyPost_ret (v := .tuple #[.agg #[(.slice none 0 0), (.slice none 0 0), (.slice none 0 0)], .int .i64 (E : Int)]) ?_ rfl ⟨_, rfl, WIn.no _, VFrom.no _ _, unhide HBF⟩
      exact results_wt rfl _ _ (w.heap.size + 2) _ _ rfl (wd_load (unhide HP)) rfl
  · rw [if_pos hE0] at hdo
    subst hdo
    rw [if_neg hE0] at hR
    subst hR
    obtain ⟨hb0, hb2⟩ := nat_ne hE0
    have hx5 := (hB3.block (w.heap.size + 2) (by omega)).trans hx2
    have hBw := hb1.trans (hB3.mono (by omega))
    obtain ⟨p1, p2⟩ := put_no hx5 hBw (by omega)
    have y0 := heap_row (i := 0) hx5
    have y1 := heap_row (i := 1) hx5
    have y2 := heap_row (i := 2) hx5
    have f0 := frozen_of_row _ _ 0 _ _ hx5
    have f1 := frozen_of_row _ _ 1 _ _ hx5
    have f2 := frozen_of_row _ _ 2 _ _ hx5
    have HP := hide p1
    have HBF := hide p2
    clear hz1 hb1 hx0 hx1 hx2 hin h hx hB3 hx5 hBw p1 p2 HCC HC HX HDO HV HL HW1 hE0
    go_wp2
    refine bodyPost_ret (v := .tuple #[.agg #[(.slice none 0 0), (.slice none 0 0), (.slice none 0 0)], .int .i64 (E : Int)]) ?_ rfl ⟨_, rfl, WIn.no _, VFrom.no _ _, unhide HBF⟩
    exact results_wt rfl _ _ (w.heap.size + 2) _ _ rfl (wd_load (unhide HP)) rfl
theorem do_w {w : World} {v : Value} {W : Wd} {x : Hp} {a : Option Addr} {c : Nat} (h : WIn w v W) (hx : HpAt w x a c) : Calls Tryz.prog 7 #[v, hpV x a c] w (DoA w (doE W x) (doW W x)) := by
  obtain ⟨a1, c1, a2, c2, a3, c3, rfl, h1⟩ := h
  exact do_at a1 a2 a3 a _ c1 _ c2 _ c3 _ c W w h1 rfl rfl rfl x hx rfl
end Go.Proofs.YtmgmganbamjnmaaGreatDoor
