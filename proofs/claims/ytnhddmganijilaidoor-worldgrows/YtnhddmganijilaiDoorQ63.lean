/-
  The law WorldGrows.
-/
import Derived.Test.YtnhddmganijilaiDoorQ44
import Derived.Test.YtnhddmganijilaiDoorQ60
import Derived.Test.YtnhddmganijilaiDoorQ62
import Derived.Test.YtnhddmganijilaiDoorQ9
namespace Go.Proofs.YtnhddmganijilaiDoor
open Go.RowKit
set_option linter.unusedVariables false
set_option linter.unusedSimpArgs false
set_option maxRecDepth 100000

theorem fv_eta (x : Fv) : (⟨x.f, x.a, x.c⟩ : Fv) = x := rfl
set_option maxHeartbeats 2000000 in
theorem grows1_any {w : World} {bf : Nat} {x : Fv} (hx : FvIn w x) (h0 : w.heap[bf]? = some (.cells #[.string (B x.f.name), x.sl, .int .i64 x.f.stamp, .int .i64 x.f.node, .bool x.f.gone] 42 (0, 0))) : FnF w 17 (.pointer (some ⟨bf, 0, none⟩)) (fun g => g.name == x.f.name && decide (nwr x.f g ≤ 0)) := by
  refine ⟨enters_of Tryd.func17 (by kernel_rfl) rfl, fun y W hW hy => ?_⟩
  have he : ((B y.f.name).toList == (B x.f.name).toList) = (y.f.name == x.f.name) := by rw [toList_B, toList_B]
  have hB1 := bel_al (Below.refl W.heap.size W) (.cells #[.string (B y.f.name), .slice y.a y.f.bytes.length y.c, .int .i64 y.f.stamp, .int .i64 y.f.node, .bool y.f.gone] 42)
  have HN := hide (newer_any x y _ ((hx.below hW (Nat.le_refl _)).below hB1 (Nat.le_refl _)) (hy.below hB1 (Nat.le_refl _)))
  have hbl := (Array.getElem?_eq_some_iff.1 h0).1
  have hh := (hB1.block bf (Nat.lt_of_lt_of_le hbl hW.size)).trans ((hW.block bf hbl).trans h0)
  have q0 := heap_row (i := 0) hh
  have q1 := heap_row (i := 1) hh
  have q2 := heap_row (i := 2) hh
  have q3 := heap_row (i := 3) hh
  have q4 := heap_row (i := 4) hh
  have hxs : x.sl = .slice x.a x.f.bytes.length x.c := rfl
  rw [hxs] at q1
  rw [val_is, val_is] at HN
  rw [val_is]
  have HB := hide hB1
  obtain ⟨r, hr⟩ : ∃ r, (y.f.name == x.f.name) = r := ⟨_, rfl⟩
  obtain ⟨m, hm⟩ : ∃ m, nwr x.f y.f = m := ⟨_, rfl⟩
  simp only [hr, hm]
  rw [hm] at HN
  rw [hr] at he
  clear hx h0 hW hy hB1 hbl hh hxs hr hm
  generalize B y.f.name = t at *
  generalize B x.f.name = t2 at *
  generalize y.f.bytes.length = n at *
  generalize x.f.bytes.length = n2 at *
  generalize y.f.gone = g at *
  generalize y.f.stamp = s1 at *
  generalize y.f.node = s2 at *
  generalize x.f.gone = g' at *
  generalize x.f.stamp = s1' at *
  generalize x.f.node = s2' at *
  cases r
  · go_enter Tryd.func17, Tryd.ntmps17
    go_wp2_with fail
    go_ret
    exact ⟨rfl, unhide HB⟩
  · go_enter Tryd.func17, Tryd.ntmps17
    go_wp2_with fail
    refine (unhide HN).mono ?_
    rintro e w1 ⟨rfl, hb1⟩
    have HB1 := hide (bt (unhide HB) hb1)
    clear hb1
    go_wp2
    go_ret
    exact ⟨rfl, unhide HB1⟩
theorem newer_any2 {l l' : List Fl} (h : Newer1 l l') {f : Fl} (hf : f ∈ l) : l'.any (fun g => g.name == f.name && decide (nwr f g ≤ 0)) = true := by
  obtain ⟨g, h1, h2, h3⟩ := h f hf
  rw [List.any_eq_true]
  exact ⟨g, h1, by simp [h2, h3]⟩
theorem end_bool {C : Nat} {kd : Int} {W V : Wd} {n : Nat} (h : Gw W V kd) (hC : chg W V n = C) : C = 0 ∨ (C = 1 ∧ (kd = 1 ∨ kd = 2 ∨ kd = 4)) := by
  have h1 := chg_one h n
  rw [hC] at h1
  by_cases h0 : C = 0
  · exact .inl h0
  · refine .inr ⟨by omega, ?_⟩
    rcases h.knd with e | e
    · rw [chg_zero e] at hC; omega
    · exact e
theorem WB.at {V : World} {P : Nat} {p1 p2 p3 : Option Addr} {m1 m2 m3 q1 q2 q3 : Nat} {W : Wd} (h : WB V P (.slice p1 m1 q1) (.slice p2 m2 q2) (.slice p3 m3 q3) W) : WAt V W p1 q1 p2 q2 p3 q3 := by
  obtain ⟨a1, c1, a2, c2, a3, c3, he, hat⟩ := h.win
  simp only [Value.agg.injEq, Array.mk.injEq, List.cons.injEq, Value.slice.injEq, and_true] at he
  obtain ⟨⟨rfl, -, rfl⟩, ⟨rfl, -, rfl⟩, rfl, -, rfl⟩ := he
  exact hat
theorem chg_same {W V : Wd} {k C : Nat} {l l' : List Fl} (h1 : W.nodes[k]? = some l) (h2 : V.nodes[k]? = some l') (e : l = l') (hC : chg W V k = C) : C = chg W V (k + 1) := by
  unfold chg
  rw [h1, h2, e, if_pos rfl, hC]
  rfl
theorem chg_more {W V : Wd} {k C : Nat} {l l' : List Fl} (h1 : W.nodes[k]? = some l) (h2 : V.nodes[k]? = some l') (e : ¬ l = l') (hC : chg W V k = C) : C + 1 = chg W V (k + 1) := by
  unfold chg
  rw [h1, h2, if_neg (by simpa using e), hC]
set_option maxHeartbeats 8000000 in
theorem worldGrows_any {w : World} {v : Value} {W : Wd} {x : Hp} {ab : Option Addr} {cb : Nat} (h : WIn w v W) (hx : HpAt w x ab cb) : Calls Tryd.prog 4 #[v, hpV x ab cb] w fun e w' => e = .returned (.bool true) ∧ Below w.heap.size w w' := by
  obtain ⟨p1, m1, q1, p2, m2, q2, p3, m3, q3, rfl, hm1, hm2, hm3⟩ := h.vals
  obtain ⟨w1, hw1, hz1, hb1, hx0, hx1⟩ := wh_boxes w (.slice p1 m1 q1) (.slice p2 m2 q2) (.slice p3 m3 q3) x.kind x.node x.dst (B x.name) (.slice ab x.bytes.length cb)
  have hB0 : WB w1 w.heap.size (.slice p1 m1 q1) (.slice p2 m2 q2) (.slice p3 m3 q3) W := ⟨hx0, h.below hb1⟩
  have HD := hide (do_w hB0.win (hx.below hb1))
  obtain ⟨E, hE⟩ : ∃ E, doE W x = E := ⟨_, rfl⟩
  obtain ⟨V, hV⟩ : ∃ V, doW W x = V := ⟨_, rfl⟩
  rw [hE, hV] at HD
  unfold hpV at HD ⊢
  have HEV := hide (And.intro hE hV)
  have HB0 := hide hB0
  have HX1 := hide hx1
  have HBw := hide (And.intro hb1 hz1)
  have HM := hide (And.intro hm1 (And.intro hm2 hm3))
  obtain ⟨x0, x1, x2⟩ := hB0.cells
  have g0 := heap_row (i := 0) hx1
  have g1 := heap_row (i := 1) hx1
  have g2 := heap_row (i := 2) hx1
  have g3 := heap_row (i := 3) hx1
  have g4 := heap_row (i := 4) hx1
  have HW1 := hide hw1
  rw [← hw1] at HD x0 x1 x2 g0 g1 g2 g3 g4
  obtain ⟨kd, hkd⟩ : ∃ kd, x.kind = kd := ⟨_, rfl⟩
  have HKD := hide hkd
  rw [hkd] at HD HX1 HW1 x0 x1 x2 g0 g1 g2 g3 g4
  rw [hkd]
  generalize B x.name = tn at *
  generalize x.node = xn at *
  generalize x.dst = xd at *
  generalize x.bytes.length = nb at *
  clear h hx hw1 hz1 hb1 hx0 hx1 hB0 hE hV hm1 hm2 hm3 hkd
  go_enter Tryd.func4, Tryd.ntmps4
  go_wp2_with fail
  refine (unhide HD).mono ?_
  rintro e w2 ⟨u, rfl, hW2, -, hB2⟩
  rw [show (w.alloc (wbox (.slice p1 m1 q1) (.slice p2 m2 q2) (.slice p3 m3 q3))).alloc (hbox kd xn xd tn (.slice ab nb cb)) = w1 from unhide HW1] at hB2
  obtain ⟨r1, k1, s1, r2, k2, s2, r3, k3, s3, rfl, hk1, hk2, -⟩ := hW2.vals
  have hA2 := bel_al (Below.refl w2.heap.size w2) (wbox (.slice r1 k1 s1) (.slice r2 k2 s2) (.slice r3 k3 s3))
  have hN := WB.new hW2
  have hBA := bt hB2 hA2
  have hb3 := (unhide HB0).below hBA
  have hx3 := (hBA.block (w.heap.size + 1) (Array.getElem?_eq_some_iff.1 (unhide HX1)).1).trans (unhide HX1)
  have HT := hide (told_any (w2.alloc (wbox (.slice r1 k1 s1) (.slice r2 k2 s2) (.slice r3 k3 s3))))
  have Hb3 := hide hb3
  have HN := hide hN
  have HX3 := hide hx3
  have HB3 := hide (bt (unhide HBw).1 hBA)
  have HK := hide (And.intro hk1 hk2)
  clear x0 x1 x2 g0 g1 g2 g3 g4 hW2 hB2 hA2 hN hBA hb3 hx3 HD HB0 HX1 HW1 hk1 hk2
  go_wp2_with fail
  refine (unhide HT).mono ?_
  rintro e w4 ⟨rfl, hB4⟩
  have HB4 := hide (bt (unhide HB3) hB4)
  by_cases hE0 : E = 0
  · subst hE0
    obtain ⟨hE, hV⟩ := unhide HEV
    have hgw : Gw W V x.kind := by rw [← hV]; exact do_gw hE
    have hVok : errWd V = 0 := by rw [← hV]; exact errWd_zero.2 (do_ok hE)
    have hWok := (doE_zero hE).1
    obtain ⟨hm1, hm2, hm3⟩ := unhide HM
    obtain ⟨hk1, hk2⟩ := unhide HK
    have e1 : k1 = m1 := by rw [← hk1, hgw.len, hm1]
    have e2 : k2 = m2 := by rw [← hk2, hgw.cl, hm2]
    have e3 : m2 = m1 := by rw [← hm2, hWok.cl, hm1]
    subst e1
    subst e2
    subst e3
    have hbx := (unhide Hb3).below hB4
    have hvx := (unhide HN).below hB4
    have hxx := (hB4.block (w.heap.size + 1) (Array.getElem?_eq_some_iff.1 (unhide HX3)).1).trans (unhide HX3)
    have HC := hide (check_w hvx.win)
    rw [hVok] at HC
    have hmm : ((k2 : Int) != (k2 : Int)) = false := by simp
    obtain ⟨x0, x1, x2⟩ := hbx.cells
    obtain ⟨y0, y1, y2⟩ := hvx.cells
    have Hb := hide hbx
    have Hv := hide hvx
    have Hxx := hide hxx
    have HG := hide hgw
    have hlim := hWok.hi
    rw [hm1] at hlim
    have HMM := hide (And.intro hm1 (And.intro hm2 (And.intro hk1 hk2)))
    clear hE hV hgw hVok hWok hm1 hm2 hm3 hk1 hk2 hbx hvx hxx hB4 HEV Hb3 HN HX3 HM HK HT
    go_wp2_with fail
    refine (unhide HC).mono ?_
    rintro e w5 ⟨rfl, hB5⟩
    clear x0 x1 x2 y0 y1 y2
    have hbx := (unhide Hb).below hB5
    have hvx := (unhide Hv).below hB5
    have hxx := (hB5.block (w.heap.size + 1) (Array.getElem?_eq_some_iff.1 (unhide Hxx)).1).trans (unhide Hxx)
    have HB5 := hide (bt (unhide HB4) hB5)
    obtain ⟨x0, x1, x2⟩ := hbx.cells
    have Hb5 := hide hbx
    have Hv5 := hide hvx
    have Hx5 := hide hxx
    clear hB5 hbx hvx hxx Hb Hv Hxx HC HB4 HB3 hmm
    go_wp2
    go_loopw [7, 49] (fun v7 j wr => ∃ k : Nat, k ≤ k2 ∧ v7 = .int .i64 ((chg W V k : Nat) : Int) ∧ j = .int .i64 (k : Int) ∧ Hid (Below w5.heap.size w5 wr)) (fun _ j _ => k2 - (intOf j).toNat)
    case atStart => exact ⟨0, Nat.zero_le _, rfl, rfl, Below.refl _ _⟩
    case round =>
      clear x0 x1 x2
      obtain ⟨k, hk, rfl, rfl, HB⟩ := hrel
      have hbx := (unhide Hb5).below (unhide HB)
      have hvx := (unhide Hv5).below (unhide HB)
      obtain ⟨x0, x1, x2⟩ := hbx.cells
      obtain ⟨y0, y1, y2⟩ := hvx.cells
      by_cases hlt : k < k2
      · have hbw := hbx.at
        have hvw := hvx.at
        obtain ⟨hm1, hm2, hk1, hk2'⟩ := unhide HMM
        obtain ⟨l, hl⟩ := get_some (l := W.nodes) (k := k) (by rw [hm1]; exact hlt)
        obtain ⟨l', hl'⟩ := get_some (l := V.nodes) (k := k) (by rw [hk1]; exact hlt)
        obtain ⟨c, hc⟩ := get_some (l := W.clock) (k := k) (by rw [hm2]; exact hlt)
        obtain ⟨c', hc'⟩ := get_some (l := V.clock) (k := k) (by rw [hk2']; exact hlt)
        obtain ⟨b1, o1, x', ha1, hb1, hx1, hL⟩ := hbw.ns.get hl
        obtain ⟨b2, o2, ha2, hb2, hx2⟩ := hbw.cs.get hc
        obtain ⟨b3, o3, y', ha3, hb3, hx3, hL'⟩ := hvw.ns.get hl'
        obtain ⟨b4, o4, ha4, hb4, hx4⟩ := hvw.cs.get hc'
        have hcc : ¬ c' < c := by have := (unhide HG).ck k c c' hc hc'; omega
        have HNW := hide ((unhide HG).new k l l' hl hl')
        have HLL := hide (And.intro hL hL')
        obtain ⟨C, hC⟩ : ∃ C, chg W V k = C := ⟨_, rfl⟩
        have hC1 := chg_one (unhide HG) k
        rw [hC] at hC1 ⊢
        have HCS := hide (fun e : l = l' => chg_same hl hl' e hC)
        have HCM := hide (fun e : ¬ l = l' => chg_more hl hl' e hC)
        obtain ⟨ax, cx, ys, hxs, hFs, hfl⟩ := hL
        obtain ⟨ay, cy, hys⟩ := hL'.shape
        have hyl := fls_len hfl
        have hlm := hFs.lim
        have HFL := hide hfl
        obtain ⟨n, hn⟩ : ∃ n, l.length = n := ⟨_, rfl⟩
        obtain ⟨n', hn'⟩ : ∃ n, l'.length = n := ⟨_, rfl⟩
        rw [hn] at hxs hyl
        rw [hyl] at hlm
        rw [hn'] at hys
        subst hxs hys
        have HFS := hide (And.intro hFs hyl)
        clear hfl hyl hFs hn hn' hC hbw hvw hm1 hm2 hk1 hk2' hl hl' hc hc' hL'
        subst ha1 ha2 ha3 ha4
        have cc : ∀ W', W' = wr.drew → W'.cell? ⟨w2.heap.size, 1, none⟩ = some (.slice (some ⟨b4, o4, none⟩) k2 s2) ∧ W'.cell? ⟨w.heap.size, 1, none⟩ = some (.slice (some ⟨b2, o2, none⟩) k2 q2) ∧ W'.cell? ⟨b4, o4 + k, none⟩ = some (.int .i64 c') ∧ W'.cell? ⟨b2, o2 + k, none⟩ = some (.int .i64 c) := by
          rintro W' rfl
          exact ⟨y1, x1, hx4, hx2⟩
        have HCC := hide cc
        have Hbx := hide hbx
        have Hvx := hide hvx
        have HX3 := hide hx3
        clear cc hbx hvx
        go_upto_region 10 with fail
        refine wp_region_held_drew (S := fun W => W = wr.drew) (by kernel_rfl) rfl (fun hHeld => ?_)
        refine wpAnyH_take (i := 0) (v := .pointer (some ⟨w2.heap.size, 1, none⟩)) rfl (by kernel_rfl) (by kernel_rfl) (by kernel_rfl) (fun _ _ _ h => h) (Or.inl ⟨by rfl, fun W hS => by go_simp⟩) hHeld ?_
        simp only [Act.put, List.setIfInBounds_toArray, List.set_cons_zero, List.set_cons_succ]
        refine wpAnyH_take (i := 1) (v := .slice (some ⟨b4, o4, none⟩) k2 s2) rfl (by kernel_rfl) (by kernel_rfl) (by kernel_rfl) (fun _ _ _ h => h) (Or.inl ⟨by rfl, fun W hS => by obtain ⟨z1, z2, z3, z4⟩ := unhide HCC W hS; go_simp⟩) hHeld ?_
        simp only [Act.put, List.setIfInBounds_toArray, List.set_cons_zero, List.set_cons_succ]
        refine wpAnyH_take (i := 2) (v := .int .i64 (k : Int)) rfl (by kernel_rfl) (by kernel_rfl) (by kernel_rfl) (fun _ _ _ h => h) (Or.inl ⟨by rfl, fun W hS => by go_simp⟩) hHeld ?_
        simp only [Act.put, List.setIfInBounds_toArray, List.set_cons_zero, List.set_cons_succ]
        refine wpAnyH_take (i := 3) (v := .pointer (some ⟨b4, o4 + k, none⟩)) rfl (by kernel_rfl) (by kernel_rfl) (by kernel_rfl) (fun _ _ _ h => h) (Or.inl ⟨by rfl, fun W hS => by go_simp⟩) hHeld ?_
        simp only [Act.put, List.setIfInBounds_toArray, List.set_cons_zero, List.set_cons_succ]
        refine wpAnyH_take (i := 4) (v := .int .i64 c') rfl (by kernel_rfl) (by kernel_rfl) (by kernel_rfl) (fun _ _ _ h => h) (Or.inl ⟨by rfl, fun W hS => by obtain ⟨z1, z2, z3, z4⟩ := unhide HCC W hS; go_simp⟩) hHeld ?_
        simp only [Act.put, List.setIfInBounds_toArray, List.set_cons_zero, List.set_cons_succ]
        refine wpAnyH_take (i := 5) (v := .pointer (some ⟨w.heap.size, 1, none⟩)) rfl (by kernel_rfl) (by kernel_rfl) (by kernel_rfl) (fun _ _ _ h => h) (Or.inl ⟨by rfl, fun W hS => by go_simp⟩) hHeld ?_
        simp only [Act.put, List.setIfInBounds_toArray, List.set_cons_zero, List.set_cons_succ]
        refine wpAnyH_take (i := 6) (v := .slice (some ⟨b2, o2, none⟩) k2 q2) rfl (by kernel_rfl) (by kernel_rfl) (by kernel_rfl) (fun _ _ _ h => h) (Or.inl ⟨by rfl, fun W hS => by obtain ⟨z1, z2, z3, z4⟩ := unhide HCC W hS; go_simp⟩) hHeld ?_
        simp only [Act.put, List.setIfInBounds_toArray, List.set_cons_zero, List.set_cons_succ]
        refine wpAnyH_take (i := 7) (v := .int .i64 (k : Int)) rfl (by kernel_rfl) (by kernel_rfl) (by kernel_rfl) (fun _ _ _ h => h) (Or.inl ⟨by rfl, fun W hS => by go_simp⟩) hHeld ?_
        simp only [Act.put, List.setIfInBounds_toArray, List.set_cons_zero, List.set_cons_succ]
        refine wpAnyH_take (i := 8) (v := .pointer (some ⟨b2, o2 + k, none⟩)) rfl (by kernel_rfl) (by kernel_rfl) (by kernel_rfl) (fun _ _ _ h => h) (Or.inl ⟨by rfl, fun W hS => by go_simp⟩) hHeld ?_
        simp only [Act.put, List.setIfInBounds_toArray, List.set_cons_zero, List.set_cons_succ]
        refine wpAnyH_take (i := 9) (v := .int .i64 c) rfl (by kernel_rfl) (by kernel_rfl) (by kernel_rfl) (fun _ _ _ h => h) (Or.inl ⟨by rfl, fun W hS => by obtain ⟨z1, z2, z3, z4⟩ := unhide HCC W hS; go_simp⟩) hHeld ?_
        simp only [Act.put, List.setIfInBounds_toArray, List.set_cons_zero, List.set_cons_succ]
        refine wpAnyH_ready (rs := [10]) (by kernel_rfl) (by simp) (AllReadyH.cons rfl (fun K hK => ?_) AllReadyH.nil)
        go_simp
        refine hK.out _ _ hHeld (fun hHeld => ?_)
        clear hK K
        refine wpAnyH_done (by kernel_rfl) ?_ _
        clear hHeld HCC x0 x1 x2 y0 y1 y2 hx1 hx2 hx3 hx4
        obtain ⟨wd, hwd⟩ : ∃ wd, wd = wr.drew := ⟨_, rfl⟩
        have hBd : Below wr.heap.size wr wd := by rw [hwd]; exact below_drewN (Below.refl _ _) 1
        rw [← hwd]
        have HBd := hide hBd
        clear hBd hwd
        go_wp2
        go_loopw [67] (fun j wq => ∃ i : Nat, i ≤ n ∧ j = .int .i64 (i : Int) ∧ Hid (Below wd.heap.size wd wq)) (fun j _ => n - (intOf j).toNat)
        case atStart => exact ⟨0, Nat.zero_le _, rfl, Below.refl _ _⟩
        case round =>
          obtain ⟨i, hi, rfl, HQ⟩ := hrel
          have hBq := bt (unhide HBd) (unhide HQ)
          have hvq := (unhide Hvx).below hBq
          obtain ⟨y0, y1, y2⟩ := hvq.cells
          have hx3q := ((hBq.cell (p := ⟨b3, o3 + k, none⟩) hb3).trans (unhide HX3))
          by_cases hlt2 : i < n
          · obtain ⟨y, hy, hym⟩ := get_of (xs := ys) (k := i) (by rw [(unhide HFS).2]; exact hlt2)
            obtain ⟨b, o, hA, hb, e0, e1, e2, e3, e4⟩ := (unhide HFS).1.get hBq hy
            have hys : y.sl = .slice y.a y.f.bytes.length y.c := rfl
            have hBa := bel_al (Below.refl wr.heap.size wr) (.cells #[.string (B y.f.name), y.sl, .int .i64 y.f.stamp, .int .i64 y.f.node, .bool y.f.gone] 42)
            have hfl : y.f ∈ l := by rw [← unhide HFL]; exact List.mem_map_of_mem hym
            have hFn := grows1_any (w := wr.alloc (.cells #[.string (B y.f.name), y.sl, .int .i64 y.f.stamp, .int .i64 y.f.node, .bool y.f.gone] 42)) (bf := wr.heap.size) (((unhide HFS).1.all y hym).below (bt hBq hBa) (Nat.le_refl _)) (heap_alloc_new _ _)
            have hCF := containsF_l (((unhide HLL).2.below hBq).below hBa) hFn
            rw [newer_any2 (unhide HNW) hfl] at hCF
            rw [hys] at e1 hCF
            have HCF := hide hCF
            rw [hys] at hBa
            have HBA := hide (bt (unhide HQ) hBa)
            have ya := (hBa.cell (p := ⟨w2.heap.size, 0, none⟩) hvq.lt).trans y0
            have yb := (hBa.cell (p := ⟨b3, o3 + k, none⟩) (Nat.lt_of_lt_of_le hb3 hBq.size)).trans hx3q
            clear hys hBa hfl hFn hCF hy hym hBq hvq
            subst hA
            generalize B y.f.name = t at *
            generalize y.f.bytes.length = nb2 at *
            generalize y.f.stamp = t2 at *
            generalize y.f.node = t3 at *
            generalize y.f.gone = t4 at *
            go_wp2_with fail
            refine (unhide HCF).mono ?_
            rintro e w7 ⟨rfl, hb7⟩
            have HB7 := hide (bt (unhide HBA) hb7)
            clear hb7
            go_wp2
            go_roundw
            case rel => exact ⟨i + 1, by omega, by go_num, unhide HB7⟩
            case measure => simp [intOf]; omega
          · obtain rfl : n = i := by omega
            have HSM := hide (same_l ((unhide HLL).1.below hBq) ((unhide HLL).2.below hBq))
            have HBQ := hide (bt (unhide HB) hBq)
            clear hlt2 hBq hvq
            by_cases hee : l = l'
            · rw [decide_eq_true hee] at HSM
              have hch := unhide HCS hee
              clear hee
              go_wp2_with fail
              refine (unhide HSM).mono ?_
              rintro e w7 ⟨rfl, hb7⟩
              have HB7 := hide (bt (unhide HBQ) hb7)
              clear hb7
              go_wp2
              go_roundw
              case rel => exact ⟨k + 1, by omega, rfl, by go_num, unhide HB7⟩
              case measure => simp [intOf]; omega
            · rw [decide_eq_false hee] at HSM
              have hch := unhide HCM hee
              clear hee
              go_wp2_with fail
              refine (unhide HSM).mono ?_
              rintro e w7 ⟨rfl, hb7⟩
              have HB7 := hide (bt (unhide HBQ) hb7)
              clear hb7
              go_wp2
              go_roundw
              case rel => exact ⟨k + 1, by omega, by rw [← hch]; go_num, by go_num, unhide HB7⟩
              case measure => simp [intOf]; omega
      · obtain rfl : k2 = k := by omega
        have hxr := ((unhide HB).block (w.heap.size + 1) (Array.getElem?_eq_some_iff.1 (unhide Hx5)).1).trans (unhide Hx5)
        have g0 := heap_row (i := 0) hxr
        obtain ⟨C, hC⟩ : ∃ C, chg W V k2 = C := ⟨_, rfl⟩
        have hend := end_bool (unhide HG) hC
        rw [unhide HKD] at hend
        rw [hC]
        have HBF := hide (bt (unhide HB5) (unhide HB))
        clear hbx hvx x0 x1 x2 y0 y1 y2 hxr hC hlt
        rcases hend with rfl | ⟨rfl, hkk⟩
        · go_wp2
          go_ret
          exact ⟨rfl, unhide HBF⟩
        · rcases hkk with rfl | rfl | rfl
          · go_wp2
            go_ret
            exact ⟨rfl, unhide HBF⟩
          · go_wp2
            go_ret
            exact ⟨rfl, unhide HBF⟩
          · go_wp2
            go_ret
            exact ⟨rfl, unhide HBF⟩
  · obtain ⟨hn1, hn2⟩ := nat_ne hE0
    have HT2 := hide (told_any w4)
    clear hE0 hB4 HEV Hb3 HN HX3 HM HK HT
    go_wp2_with fail
    refine (unhide HT2).mono ?_
    rintro e w5 ⟨rfl, hB5⟩
    have HB5 := hide (bt (unhide HB4) hB5)
    clear hB5
    go_wp2
    go_ret
    exact ⟨rfl, unhide HB5⟩
end Go.Proofs.YtnhddmganijilaiDoor
