/-
  The document's StepOf: a file is taken.
-/
import Derived.Test.YtmgmganbamjnmaaGreatDoorQ42
namespace Go.Proofs.YtmgmganbamjnmaaGreatDoor
open Go.RowKit
set_option linter.unusedVariables false
set_option linter.unusedSimpArgs false
set_option maxRecDepth 100000



set_option maxHeartbeats 4000000 in
theorem step_take {w : World} {v : Value} {W : Wd} (k : Nat) (xd : Int) (nm bs : List UInt8) {ab : Option Addr} {cb : Nat} (h : WIn w v W) (hx : HpAt w ⟨2, (k : Int), xd, nm, bs⟩ ab cb) (hok : WdOk W) (l : List Fl) (c : Int) (hl : W.nodes[k]? = some l) (hc : W.clock[k]? = some c) (E : Nat) (V : Wd)
    (hE : (errN nm ≠ 0 ∧ E = errN nm ∧ V = noW) ∨ (errN nm = 0 ∧ c = 1000000 ∧ E = 11 ∧ V = noW) ∨ (errN nm = 0 ∧ c ≠ 1000000 ∧ ((hasF l nm = false ∧ E = 5 ∧ V = noW) ∨ (hasF l nm = true ∧ 12 < (tog l [⟨nm, [], c + 1, (k : Int), true⟩]).length ∧ E = 11 ∧ V = noW) ∨ (hasF l nm = true ∧ (tog l [⟨nm, [], c + 1, (k : Int), true⟩]).length ≤ 12 ∧ E = 0 ∧ V = ⟨W.nodes.set k (tog l [⟨nm, [], c + 1, (k : Int), true⟩]), W.clock.set k (c + 1), W.net⟩)))) : Calls Tryz.prog 12 #[v, hpV ⟨2, (k : Int), xd, nm, bs⟩ ab cb] w (DoA w E V) := by
  have herr : errM l = 0 ∧ 0 ≤ c ∧ c ≤ 1000000 := ⟨(hok.nd k l c hl hc).m, (hok.nd k l c hl hc).lo, (hok.nd k l c hl hc).hi⟩
  have HKD := hide (And.intro hl (And.intro hc (And.intro hE herr)))
  clear hl hc hE herr
  obtain ⟨a1, c1, a2, c2, a3, c3, rfl, hat⟩ := h
  obtain ⟨n1, hn1⟩ : ∃ n1, W.nodes.length = n1 := ⟨_, rfl⟩
  obtain ⟨n2, hn2⟩ : ∃ n2, W.clock.length = n2 := ⟨_, rfl⟩
  obtain ⟨n3, hn3⟩ : ∃ n3, W.net.length = n3 := ⟨_, rfl⟩
  rw [hn1, hn2, hn3]
  obtain ⟨nb, hnb⟩ : ∃ nb, bs.length = nb := ⟨_, rfl⟩
  obtain ⟨tn, htn⟩ : ∃ tn, B nm = tn := ⟨_, rfl⟩
  obtain ⟨w1, hw1, hz1, hb1, hx0, hx1, hx2⟩ := three_boxes w (.slice a1 n1 c1) (.slice a2 n2 c2) (.slice a3 n3 c3) 2 (k:Int) xd tn (.slice ab nb cb)
  have HO := hide (ownW_wat a1 a2 a3 c1 c2 c3 W w1 (hat.below hb1) n1 n3 n2 hn1 hn2 hn3)
  have hpv : hpV ⟨2, (k:Int), xd, nm, bs⟩ ab cb = .agg #[.int .i64 2, .int .i64 (k:Int), .int .i64 xd, .string tn, .slice ab nb cb] := by unfold hpV; simp only [hnb, htn]
  rw [hpv]
  have hx1' : w1.heap[w.heap.size + 1]? = some (.cells #[.int .i64 (Hp.mk 2 (k:Int) xd nm bs).kind, .int .i64 (Hp.mk 2 (k:Int) xd nm bs).node, .int .i64 (Hp.mk 2 (k:Int) xd nm bs).dst, .string (B (Hp.mk 2 (k:Int) xd nm bs).name), .slice ab (Hp.mk 2 (k:Int) xd nm bs).bytes.length cb] 29 (0, 0)) := by simp only [hnb, htn]; exact hx1
  have q0 := heap_row (i := 0) hx0
  have q1 := heap_row (i := 1) hx0
  have q2 := heap_row (i := 2) hx0
  rw [← hw1] at q0 q1 q2 HO
  have HX := hide (And.intro hz1 (And.intro hb1 (And.intro hx0 (And.intro hx1' (And.intro hx2 (hx.below hb1))))))
  have HOK := hide hok
  have hlo := hok.lo
  have hhi := hok.hi
  have hcl := hok.cl
  have hnt := hok.nt
  rw [hn1] at hlo hhi hcl
  rw [hn2] at hcl
  rw [hn3] at hnt
  subst hcl
  have HN := hide (And.intro hn1 (And.intro hn2 (And.intro hn3 (And.intro hnb htn))))
  have HW1 := hide hw1
  have HFA := hide (fun (E : Int) (w : World) => fail1_any E w)
  clear hat hn1 hn2 hn3 hnb htn hw1 hz1 hb1 hx0 hx1 hx1' hx2 hpv hx hok
  go_enter Tryz.func12, Tryz.ntmps12
  go_wp2_with fail
  refine (unhide HO).mono ?_
  rintro e w4 ⟨vn, vc, vm, ns, ms, rfl, hOW, hns, hms, hB4⟩
  rw [show ((w.alloc (wbox (.slice a1 n2 c1) (.slice a2 n2 c2) (.slice a3 n3 c3))).alloc (hbox 2 (k:Int) xd tn (.slice ab nb cb))).alloc (wbox (.slice none 0 0) (.slice none 0 0) (.slice none 0 0)) = w1 from unhide HW1] at hB4 hOW
  obtain ⟨hz1, hb1, hx0, hx1, hx2, hp⟩ := unhide HX
  obtain ⟨hn1, hn2, hn3, hnb, htn⟩ := unhide HN
  obtain ⟨an, cn, hvn⟩ := hOW.n.sl
  obtain ⟨ac, cc, hvc⟩ := hOW.c.sl
  obtain ⟨am, cm, hvm⟩ := hOW.m.sl
  have hnsl : ns.length = n2 := by rw [← hn1, ← hns]; simp [lss]
  have hmsl : ms.length = n3 := by rw [← hn3, ← hms]; simp [mss]
  rw [hnsl] at hvn
  rw [hn2] at hvc
  rw [hmsl] at hvm
  subst hvn hvc hvm
  obtain ⟨h0, hS⟩ := SSt.start hz1 hb1 hx0 hx1 hx2 ⟨_, _, _, _, _, _, _, _, _, rfl, rfl, rfl⟩ hB4 hOW (hp.below hB4)
  have y0 := heap_row (i := 0) h0
  have y1 := heap_row (i := 1) h0
  have y2 := heap_row (i := 2) h0
  have f0 := frozen_of_row _ _ 0 _ _ h0
  have f1 := frozen_of_row _ _ 1 _ _ h0
  have f2 := frozen_of_row _ _ 2 _ _ h0
  obtain ⟨w5, hw5⟩ : ∃ w5, ((w4.setCell ⟨w.heap.size, 0, none⟩ (.slice an n2 cn)).setCell ⟨w.heap.size, 1, none⟩ (.slice ac n2 cc)).setCell ⟨w.heap.size, 2, none⟩ (.slice am n3 cm) = w5 := ⟨_, rfl⟩
  rw [hw5] at hS
  have HS := hide hS
  have HW5 := hide hw5
  have HL := hide (And.intro hns (And.intro hms (And.intro hnsl hmsl)))
  clear q0 q1 q2 hOW hns hms hB4 hz1 hb1 hx0 hx1 hx2 hp hn1 hn2 hn3 hnb htn hnsl hmsl h0 hS hw5 HO HX HW1
  go_upto_region 4 with fail
  rw [show ((w4.setCell ⟨w.heap.size, 0, none⟩ (.slice an n2 cn)).setCell ⟨w.heap.size, 1, none⟩ (.slice ac n2 cc)).setCell ⟨w.heap.size, 2, none⟩ (.slice am n3 cm) = w5 from unhide HW5]
  clear y0 y1 y2 f0 f1 f2 HW5
  have g0 := heap_row (i := 0) (unhide HS).b3
  have g1 := heap_row (i := 1) (unhide HS).b3
  have g2 := heap_row (i := 2) (unhide HS).b3
  have g3 := heap_row (i := 3) (unhide HS).b3
  have g4 := heap_row (i := 4) (unhide HS).b3
  simp only [(unhide HN).2.2.2.1, (unhide HN).2.2.2.2] at g3 g4
  have q0 := heap_row (i := 0) (unhide HS).b2
  have q1 := heap_row (i := 1) (unhide HS).b2
  have q2 := heap_row (i := 2) (unhide HS).b2
  obtain ⟨hl, hc, hE, herr⟩ := unhide HKD
  have hc0 := herr.2.1
  have hcm := herr.2.2
  have hkn : k < n2 := by have := (List.getElem?_eq_some_iff.1 hl).1; rw [(unhide HN).1] at this; exact this
  obtain ⟨gn, cpn, e⟩ := (unhide HS).ow.n.sm (by rw [(unhide HL).2.2.1]; omega)
  injection e with e1 e2 e3
  subst e1 e3
  obtain ⟨gc, cpc, e⟩ := (unhide HS).ow.c.sm (by rw [(unhide HN).2.1]; omega)
  injection e with e1 e2' e3
  subst e1 e3
  have hki0 : (0 : Int) ≤ (k : Int) := by omega
  have hki1 : (k : Int) < (n2 : Int) := by omega
  obtain ⟨z, hz, hzm, hzl⟩ := row_of (k := k) (unhide HL).1 (by rw [(unhide HN).1]; exact hkn)
  obtain rfl : z.l = l := Option.some.inj (hzl.symm.trans hl)
  have HZC : Hid ((lvs ns)[k]? = some z.val) := hide (by unfold lvs; rw [List.getElem?_map, hz]; rfl)
  have HZM := hide hzm
  obtain ⟨lz, az, cz⟩ := z
  obtain ⟨nz, hnz⟩ : ∃ nz, lz.length = nz := ⟨_, rfl⟩
  have HNZ := hide hnz
  have HP := hide (node2_any (k : Int) n2 w5 q0)
  rw [isP_nat hkn] at HP
  have HPT := hide (parted_any nm w5 (by have := (unhide HS).hp.txt; unfold maxLen; exact Nat.le_trans this (by decide)))
  rw [(unhide HN).2.2.2.2] at HPT
  obtain ⟨F, hF⟩ : ∃ F, errN nm = F := ⟨_, rfl⟩
  rw [hF] at HPT hE
  have HE := hide hE
  have HER := hide herr
  have HKC := hide hc
  have HFF := hide hF
  clear HKD e2 e2' hl hc hE herr hz hzm hzl hnz hF
  go_wp2_with fail
  refine (unhide HP).mono ?_
  rintro e w7 ⟨rfl, hw7⟩
  obtain rfl : w5 = w7 := hw7.symm
  go_wp2_with fail
  refine (unhide HPT).mono ?_
  rintro e wp ⟨vp, rfl, hsr, hBp, hvp⟩
  have HSP := hide ((unhide HS).below hBp)
  clear hsr hvp hBp g0 g1 g2 g3 g4 q0 q1 q2 HPT HP
  have g0 := heap_row (i := 0) (unhide HSP).b3
  have g1 := heap_row (i := 1) (unhide HSP).b3
  have g2 := heap_row (i := 2) (unhide HSP).b3
  have g3 := heap_row (i := 3) (unhide HSP).b3
  have g4 := heap_row (i := 4) (unhide HSP).b3
  simp only [(unhide HN).2.2.2.1, (unhide HN).2.2.2.2] at g3 g4
  have q0 := heap_row (i := 0) (unhide HSP).b2
  have q1 := heap_row (i := 1) (unhide HSP).b2
  have q2 := heap_row (i := 2) (unhide HSP).b2
  have hrc := (unhide HSP).ow.c
  rw [(unhide HN).2.1] at hrc
  have cc1 := (hrc.at1 hkn (by unfold iv; rw [List.getElem?_map, unhide HKC]; rfl)).1
  have hE := unhide HE
  clear hrc
  rcases hE with ⟨hF0, rfl, rfl⟩ | ⟨rfl, rfl, rfl, rfl⟩ | ⟨rfl, hc1, hE⟩
  · obtain ⟨hFb, hFc⟩ := nat_ne hF0
    clear hF0
    go_wp2_with fail
    refine (unhide HFA _ _).mono ?_
    rintro e w9 ⟨rfl, hB9⟩
    have hS9 := (unhide HSP).below hB9
    obtain ⟨p1, p2⟩ := hS9.fail
    have y0 := heap_row (i := 0) hS9.b4
    have y1 := heap_row (i := 1) hS9.b4
    have y2 := heap_row (i := 2) hS9.b4
    have f0 := frozen_of_row _ _ 0 _ _ hS9.b4
    have f1 := frozen_of_row _ _ 1 _ _ hS9.b4
    have f2 := frozen_of_row _ _ 2 _ _ hS9.b4
    have HP := hide p1
    have HBF := hide p2
    clear hS9 hB9 p1 p2
    go_wp2
    refine bodyPost_ret (v := .tuple #[.agg #[(.slice none 0 0), (.slice none 0 0), (.slice none 0 0)], .int .i64 (E:Int)]) ?_ rfl ⟨_, rfl, WIn.no _, VFrom.no _ _, unhide HBF⟩
    exact results_wt rfl _ _ (w.heap.size + 2) _ _ rfl (wd_load (unhide HP)) rfl
  · go_wp2_with fail
    refine (unhide HFA _ _).mono ?_
    rintro e w9 ⟨rfl, hB9⟩
    have hS9 := (unhide HSP).below hB9
    obtain ⟨p1, p2⟩ := hS9.fail
    have y0 := heap_row (i := 0) hS9.b4
    have y1 := heap_row (i := 1) hS9.b4
    have y2 := heap_row (i := 2) hS9.b4
    have f0 := frozen_of_row _ _ 0 _ _ hS9.b4
    have f1 := frozen_of_row _ _ 1 _ _ hS9.b4
    have f2 := frozen_of_row _ _ 2 _ _ hS9.b4
    have HP := hide p1
    have HBF := hide p2
    clear hS9 hB9 p1 p2
    go_wp2
    refine bodyPost_ret (v := .tuple #[.agg #[(.slice none 0 0), (.slice none 0 0), (.slice none 0 0)], .int .i64 11]) ?_ rfl ⟨_, rfl, WIn.no _, VFrom.no _ _, unhide HBF⟩
    exact results_wt rfl _ _ (w.heap.size + 2) _ _ rfl (wd_load (unhide HP)) rfl
  · have hcB : (c == 1000000) = false := by simpa using hc1
    obtain ⟨c1, hcs⟩ : ∃ c1, c + 1 = c1 := ⟨_, rfl⟩
    have HC1 := hide hcs
    have HCR : Hid (0 ≤ c1 ∧ c1 ≤ 1000000) := hide ⟨by omega, by omega⟩
    simp only [hcs] at hE
    have HE3 := hide hE
    clear hE hcs hc1
    have hS0 := unhide HSP
    have HB3 : Hid (wp.heap[w.heap.size + 1]? = some (.cells #[.int .i64 2, .int .i64 (k : Int), .int .i64 xd, .string tn, .slice ab nb cb] 29 (0, 0))) := hide (by have := hS0.b3; simp only [(unhide HN).2.2.2.1, (unhide HN).2.2.2.2] at this; exact this)
    have hcc : ∀ W', Below wp.heap.size wp W' → W'.cell? ⟨w.heap.size + 1, 3, none⟩ = some (.string tn) ∧ W'.cell? ⟨w.heap.size, 1, none⟩ = some (.slice (some ⟨gc, 0, none⟩) n2 cc) ∧ W'.cell? ⟨w.heap.size + 1, 1, none⟩ = some (.int .i64 (k : Int)) ∧ W'.cell? ⟨gc, k, none⟩ = some (.int .i64 c) ∧ W'.cell? ⟨w.heap.size + 1, 0, none⟩ = some (.int .i64 2) := fun W' hW => ⟨cell_bel (heap_row (i := 3) (unhide HB3)) hW (Nat.le_refl _), cell_bel (heap_row (i := 1) hS0.b2) hW (Nat.le_refl _), cell_bel (heap_row (i := 1) (unhide HB3)) hW (Nat.le_refl _), cell_bel cc1 hW (Nat.le_refl _), cell_bel (heap_row (i := 0) (unhide HB3)) hW (Nat.le_refl _)⟩
    have HCC := hide hcc
    have hwr : IntKind.i64.wrap (c + 1) = c1 := by rw [← unhide HC1, IntKind.wrap_i64]; omega
    have hz0 := heap_alloc_new wp.drew (.cells #[.string ⟨#[]⟩, .slice none 0 0, .int .i64 0, .int .i64 0, .bool false] 49)
    have hbz : Below wp.heap.size wp (wp.drew.alloc (.cells #[.string ⟨#[]⟩, .slice none 0 0, .int .i64 0, .int .i64 0, .bool false] 49)) := bel_al (below_drewN (Below.refl _ _) 1) _
    obtain ⟨w10, hw10⟩ := isRow (wp.drew.alloc (.cells #[.string ⟨#[]⟩, .slice none 0 0, .int .i64 0, .int .i64 0, .bool false] 49)) wp.heap.size #[.string tn, .slice none 0 0, .int .i64 c1, .int .i64 (k : Int), .bool true]
    have hb10 : Below wp.heap.size wp w10 := by
      have e := hw10
      unfold IsRow at e
      rw [← e]
      exact hbz.grown (grown_row _ _ _) hbz.size (fun g e => by cases e; exact Nat.le_refl _)
    have hp10 : w10.heap[wp.heap.size]? = some (.cells #[.string tn, .slice none 0 0, .int .i64 c1, .int .i64 (k : Int), .bool true] 49 (0, 0)) := by
      have e := hw10
      unfold IsRow at e
      rw [← e]
      exact setRow_heap _ _ _ _ _ _ hz0
    have HY := hide hz0
    have HBZ := hide hbz
    have HB10 := hide hb10
    have HW10 := hide hw10
    have HP10 := hide hp10
    clear hz0 hbz hb10 hp10 hw10
    clear hS0 hcc
    go_upto_region 19 with fail
    clear g0 g1 g2 g3 g4 q0 q1 q2 cc1
    refine wp_region_held_drew (S := fun W => Below wp.heap.size wp W) (by kernel_rfl) (below_drewN (Below.refl _ _) 1) (fun hHeld => ?_)
    refine wpAnyH_take (i := 0) (v := .pointer (some ⟨w.heap.size + 1, 3, none⟩)) rfl (by kernel_rfl) (by kernel_rfl) (by kernel_rfl) (fun _ _ _ h => h) (Or.inl ⟨by rfl, fun W hS => by go_simp⟩) hHeld ?_
    simp only [Act.put, List.setIfInBounds_toArray, List.set_cons_zero, List.set_cons_succ]
    refine wpAnyH_take (i := 1) (v := .string tn) rfl (by kernel_rfl) (by kernel_rfl) (by kernel_rfl) (fun _ _ _ h => h) (Or.inl ⟨by rfl, fun W hS => by have z := (unhide HCC W hS).1; go_simp⟩) hHeld ?_
    simp only [Act.put, List.setIfInBounds_toArray, List.set_cons_zero, List.set_cons_succ]
    refine wpAnyH_take (i := 2) (v := .pointer (some ⟨w.heap.size, 1, none⟩)) rfl (by kernel_rfl) (by kernel_rfl) (by kernel_rfl) (fun _ _ _ h => h) (Or.inl ⟨by rfl, fun W hS => by go_simp⟩) hHeld ?_
    simp only [Act.put, List.setIfInBounds_toArray, List.set_cons_zero, List.set_cons_succ]
    refine wpAnyH_take (i := 3) (v := .slice (some ⟨gc, 0, none⟩) n2 cc) rfl (by kernel_rfl) (by kernel_rfl) (by kernel_rfl) (fun _ _ _ h => h) (Or.inl ⟨by rfl, fun W hS => by have z := (unhide HCC W hS).2.1; go_simp⟩) hHeld ?_
    simp only [Act.put, List.setIfInBounds_toArray, List.set_cons_zero, List.set_cons_succ]
    refine wpAnyH_take (i := 4) (v := .pointer (some ⟨w.heap.size + 1, 1, none⟩)) rfl (by kernel_rfl) (by kernel_rfl) (by kernel_rfl) (fun _ _ _ h => h) (Or.inl ⟨by rfl, fun W hS => by go_simp⟩) hHeld ?_
    simp only [Act.put, List.setIfInBounds_toArray, List.set_cons_zero, List.set_cons_succ]
    refine wpAnyH_take (i := 5) (v := .int .i64 (k : Int)) rfl (by kernel_rfl) (by kernel_rfl) (by kernel_rfl) (fun _ _ _ h => h) (Or.inl ⟨by rfl, fun W hS => by have z := (unhide HCC W hS).2.2.1; go_simp⟩) hHeld ?_
    simp only [Act.put, List.setIfInBounds_toArray, List.set_cons_zero, List.set_cons_succ]
    refine wpAnyH_take (i := 6) (v := .pointer (some ⟨gc, k, none⟩)) rfl (by kernel_rfl) (by kernel_rfl) (by kernel_rfl) (fun _ _ _ h => h) (Or.inl ⟨by rfl, fun W hS => by go_simp⟩) hHeld ?_
    simp only [Act.put, List.setIfInBounds_toArray, List.set_cons_zero, List.set_cons_succ]
    refine wpAnyH_take (i := 7) (v := .int .i64 c) rfl (by kernel_rfl) (by kernel_rfl) (by kernel_rfl) (fun _ _ _ h => h) (Or.inl ⟨by rfl, fun W hS => by have z := (unhide HCC W hS).2.2.2.1; go_simp⟩) hHeld ?_
    simp only [Act.put, List.setIfInBounds_toArray, List.set_cons_zero, List.set_cons_succ]
    refine wpAnyH_take (i := 8) (v := .int .i64 c1) rfl (by kernel_rfl) (by kernel_rfl) (by kernel_rfl) (fun _ _ _ h => h) (Or.inl ⟨by rfl, fun W hS => by go_simp⟩) hHeld ?_
    simp only [Act.put, List.setIfInBounds_toArray, List.set_cons_zero, List.set_cons_succ]
    clear hwr
    refine wpAnyH_take (i := 9) (v := .pointer (some ⟨w.heap.size + 1, 1, none⟩)) rfl (by kernel_rfl) (by kernel_rfl) (by kernel_rfl) (fun _ _ _ h => h) (Or.inl ⟨by rfl, fun W hS => by go_simp⟩) hHeld ?_
    simp only [Act.put, List.setIfInBounds_toArray, List.set_cons_zero, List.set_cons_succ]
    refine wpAnyH_take (i := 10) (v := .int .i64 (k : Int)) rfl (by kernel_rfl) (by kernel_rfl) (by kernel_rfl) (fun _ _ _ h => h) (Or.inl ⟨by rfl, fun W hS => by have z := (unhide HCC W hS).2.2.1; go_simp⟩) hHeld ?_
    simp only [Act.put, List.setIfInBounds_toArray, List.set_cons_zero, List.set_cons_succ]
    refine wpAnyH_take (i := 11) (v := .pointer (some ⟨w.heap.size + 1, 0, none⟩)) rfl (by kernel_rfl) (by kernel_rfl) (by kernel_rfl) (fun _ _ _ h => h) (Or.inl ⟨by rfl, fun W hS => by go_simp⟩) hHeld ?_
    simp only [Act.put, List.setIfInBounds_toArray, List.set_cons_zero, List.set_cons_succ]
    refine wpAnyH_take (i := 12) (v := .int .i64 2) rfl (by kernel_rfl) (by kernel_rfl) (by kernel_rfl) (fun _ _ _ h => h) (Or.inl ⟨by rfl, fun W hS => by have z := (unhide HCC W hS).2.2.2.2; go_simp⟩) hHeld ?_
    simp only [Act.put, List.setIfInBounds_toArray, List.set_cons_zero, List.set_cons_succ]
    refine wpAnyH_take (i := 13) (v := .bool true) rfl (by kernel_rfl) (by kernel_rfl) (by kernel_rfl) (fun _ _ _ h => h) (Or.inl ⟨by rfl, fun W hS => by go_simp⟩) hHeld ?_
    simp only [Act.put, List.setIfInBounds_toArray, List.set_cons_zero, List.set_cons_succ]
    refine wpAnyH_take (i := 14) (v := .agg #[.string tn, .slice none 0 0, .int .i64 c1, .int .i64 (k : Int), .bool true]) rfl (by kernel_rfl) (by kernel_rfl) (by kernel_rfl) (fun _ _ _ h => h) (Or.inl ⟨by rfl, fun W hS => by go_simp⟩) hHeld ?_
    simp only [Act.put, List.setIfInBounds_toArray, List.set_cons_zero, List.set_cons_succ]
    refine wpAnyH_ready (rs := [15]) (by kernel_rfl) (by simp) (AllReadyH.cons rfl (fun K hK => ?_) AllReadyH.nil)
    go_simp
    refine hK.out _ _ (unhide HBZ) (fun hHeld => ?_)
    clear hK K
    refine wpAnyH_ready (rs := [16]) (by kernel_rfl) (by simp) (AllReadyH.cons rfl (fun K hK => ?_) AllReadyH.nil)
    rw [if_pos (by rfl)]
    refine wp_store_row 49 (.tmp 11) (.tmp 126) rfl wp.heap.size #[.string tn, .slice none 0 0, .int .i64 c1, .int .i64 (k : Int), .bool true] rfl rfl 49 _ (unhide HY) (by kernel_rfl) rfl (by simp [Value.oneCell']) ?_
    refine (show K _ ((wp.drew.alloc (.cells #[.string ⟨#[]⟩, .slice none 0 0, .int .i64 0, .int .i64 0, .bool false] 49)).setRow wp.heap.size #[.string tn, .slice none 0 0, .int .i64 c1, .int .i64 (k : Int), .bool true]) from ?_)
    rw [show (wp.drew.alloc (.cells #[.string ⟨#[]⟩, .slice none 0 0, .int .i64 0, .int .i64 0, .bool false] 49)).setRow wp.heap.size #[.string tn, .slice none 0 0, .int .i64 c1, .int .i64 (k : Int), .bool true] = w10 from unhide HW10]
    refine hK.out _ _ (unhide HB10) (fun _ => ?_)
    clear hK K hHeld HW10 HY
    simp only [Act.put, List.setIfInBounds_toArray, List.set_cons_zero, List.set_cons_succ]
    refine wpAnyH_done (by kernel_rfl) ?_ _
    have HS10 := hide ((unhide HSP).below (unhide HB10))
    have HLT : Hid (LIn w10 (.slice az nz cz) lz) := hide (by have := (unhide HS10).ow.la _ (unhide HZM); simpa [Lv.val, unhide HNZ] using this)
    have HIX := hide (index_l (unhide HLT) (step3_any (nm := nm) (xk := 2) (xn := (k : Int)) (xd := xd) (unhide HS10).b3))
    have hrn10 := (unhide HS10).ow.n
    rw [(unhide HL).2.2.1] at hrn10
    have k1 := (hrn10.at1 hkn (unhide HZC)).1
    simp only [Lv.val, unhide HNZ] at k1
    have g0 := heap_row (i := 0) (unhide HS10).b3
    have g1 := heap_row (i := 1) (unhide HS10).b3
    have q0 := heap_row (i := 0) (unhide HS10).b2
    clear hrn10
    go_wp2_with fail
    refine (unhide HIX).mono ?_
    rintro e w11 ⟨r, rfl, hFd, hB11⟩
    have hb11 : Below wp.heap.size wp w11 := (unhide HB10).trans (hB11.mono (unhide HB10).size)
    have hp11 := (hB11.block _ (Array.getElem?_eq_some_iff.1 (unhide HP10)).1).trans (unhide HP10)
    have HS11 := hide ((unhide HSP).below hb11)
    have hE := unhide HE3
    have HLT11 := hide ((unhide HLT).below hB11)
    have hfd : (r < 0 ∧ hasF lz nm = false) ∨ ∃ (i : Nat) (f : Fl), r = (i : Int) ∧ lz[i]? = some f ∧ hasF lz nm = !f.gone := found_gone (errM_zero.1 (unhide HER).1).2.2 hFd
    clear k1 g0 g1 q0 HIX HLT hFd hB11 HE3
    have hrn11' := (unhide HS11).ow.n
    rw [(unhide HL).2.2.1] at hrn11'
    have k1 := (hrn11'.at1 hkn (unhide HZC)).1
    simp only [Lv.val, unhide HNZ] at k1
    have g1 := heap_row (i := 1) (unhide HS11).b3
    have q0 := heap_row (i := 0) (unhide HS11).b2
    clear hrn11'
    rcases hfd with ⟨hr0, hhf⟩ | ⟨i, f, rfl, hfi, hhf⟩
    · have hEV : E = 5 ∧ V = noW := by rcases hE with ⟨_, h⟩ | ⟨h, _⟩ | ⟨h, _⟩; exact h; (rw [hhf] at h; cases h); (rw [hhf] at h; cases h)
      have h1 := hEV.1
      have h2 := hEV.2
      subst h1 h2
      clear hE hEV hhf
      go_wp2_with fail
      refine (unhide HFA _ _).mono ?_
      rintro e w9 ⟨rfl, hB9⟩
      have hS9 := (unhide HS11).below hB9
      obtain ⟨p1, p2⟩ := hS9.fail
      have y0 := heap_row (i := 0) hS9.b4
      have y1 := heap_row (i := 1) hS9.b4
      have y2 := heap_row (i := 2) hS9.b4
      have f0 := frozen_of_row _ _ 0 _ _ hS9.b4
      have f1 := frozen_of_row _ _ 1 _ _ hS9.b4
      have f2 := frozen_of_row _ _ 2 _ _ hS9.b4
      have HP := hide p1
      have HBF := hide p2
      clear hS9 hB9 p1 p2
      go_wp2
      refine bodyPost_ret (v := .tuple #[.agg #[(.slice none 0 0), (.slice none 0 0), (.slice none 0 0)], .int .i64 5]) ?_ rfl ⟨_, rfl, WIn.no _, VFrom.no _ _, unhide HBF⟩
      exact results_wt rfl _ _ (w.heap.size + 2) _ _ rfl (wd_load (unhide HP)) rfl
    · have hi0 : ¬ (i : Int) < 0 := by omega
      obtain ⟨ad', c'', ys, hv, hFs, hfl⟩ := unhide HLT11
      simp only [Value.slice.injEq] at hv
      obtain ⟨rfl, hnz', rfl⟩ := hv
      have hil : i < nz := by have := (List.getElem?_eq_some_iff.1 hfi).1; rw [unhide HNZ] at this; exact this
      obtain ⟨yf, hyf, hyfm⟩ := get_of (xs := ys) (k := i) (by have := fls_len hfl; rw [this, unhide HNZ]; exact hil)
      have hyff : yf.f = f := by
        rw [← hfl] at hfi
        unfold fls at hfi
        rw [List.getElem?_map, hyf] at hfi
        exact Option.some.inj hfi
      obtain ⟨bf, of, hA', hbf, e0, e1, e2, e3, e4⟩ := hFs.get (Below.refl _ _) hyf
      rw [hyff] at e4
      have hii0 : (0 : Int) ≤ (i : Int) := by omega
      have hii1 : (i : Int) < (nz : Int) := by omega
      have HAZ := hide hA'
      rw [hA'] at k1
      clear hFs hfl hyf hyfm hyff hfi e0 e1 e2 e3 hil HLT11 hnz' hA'
      generalize f.gone = gg at *
      cases gg
      · have HE4 : Hid ((12 < (tog lz [(⟨nm, [], c1, (k : Int), true⟩ : Fl)]).length ∧ E = 11 ∧ V = noW) ∨ ((tog lz [(⟨nm, [], c1, (k : Int), true⟩ : Fl)]).length ≤ 12 ∧ E = 0 ∧ V = ⟨W.nodes.set k (tog lz [(⟨nm, [], c1, (k : Int), true⟩ : Fl)]), W.clock.set k c1, W.net⟩)) := hide (by rcases hE with ⟨h, _⟩ | ⟨_, h⟩ | ⟨_, h⟩; (rw [hhf] at h; cases h); exact .inl h; exact .inr h)
        have hFV : FvIn w11.drew ⟨⟨nm, [], c1, (k : Int), true⟩, none, 0⟩ := ⟨.inl ⟨rfl, rfl, rfl⟩, by simp, (unhide HS11).hp.txt⟩
        have hBL : ([] : List UInt8).length ≤ 3000 := by simp
        have hGB : true = true → ([] : List UInt8) = [] := fun _ => rfl
        have hrn11 := (unhide HS11).ow.n
        rw [(unhide HL).2.2.1] at hrn11
        have hcn11 := (hrn11.at1 hkn (unhide HZC)).1
        simp only [Lv.val, unhide HNZ] at hcn11
        have HLZ : Hid (LIn w11 (.slice az nz cz) lz) := hide (by have := (unhide HS11).ow.la _ (unhide HZM); simpa [Lv.val, unhide HNZ] using this)
        have HF11 := hide hp11
        have hcc : ∀ W', Below w11.heap.size w11 W' → W'.cell? ⟨w.heap.size, 0, none⟩ = some (.slice (some ⟨gn, 0, none⟩) n2 cn) ∧ W'.cell? ⟨w.heap.size + 1, 1, none⟩ = some (.int .i64 (k : Int)) ∧ W'.cell? ⟨gn, k, none⟩ = some (.slice az nz cz) ∧ W'.heap[wp.heap.size]? = some (.cells #[.string tn, .slice none 0 0, .int .i64 c1, .int .i64 (k : Int), .bool true] 49 (0, 0)) := fun W' hW => ⟨cell_bel (heap_row (i := 0) (unhide HS11).b2) hW (Nat.le_refl _), cell_bel (heap_row (i := 1) (unhide HS11).b3) hW (Nat.le_refl _), cell_bel hcn11 hW (Nat.le_refl _), (hW.block _ (Array.getElem?_eq_some_iff.1 (unhide HF11)).1).trans (unhide HF11)⟩
        have HC2 := hide hcc
        obtain ⟨w12, hw12⟩ : ∃ w12, w11.drew.alloc (.cells #[.string tn, .slice none 0 0, .int .i64 c1, .int .i64 (k : Int), .bool true] 49) = w12 := ⟨_, rfl⟩
        have hb12 : Below w11.heap.size w11 w12 := by rw [← hw12]; exact bel_al (below_drewN (Below.refl _ _) 1) _
        have hz12 : w12.heap.size = w11.heap.size + 1 := by rw [← hw12, World.size_alloc]; rfl
        have hl12 : LIn w12 (.slice (some ⟨w11.heap.size, 0, none⟩) 1 1) [⟨nm, [], c1, (k : Int), true⟩] := by
          rw [← hw12]
          have := one_lin (w := w11.drew) (x := ⟨⟨nm, [], c1, (k : Int), true⟩, none, 0⟩) hFV
          simp only [Fv.cells, Fv.sl, (unhide HN).2.2.2.1, (unhide HN).2.2.2.2] at this
          exact this
        obtain ⟨w13, hw13⟩ : ∃ w13, w12.alloc (.cells #[.slice az nz cz, .slice (some ⟨w11.heap.size, 0, none⟩) 1 1] 46) = w13 := ⟨_, rfl⟩
        have hb13 : Below w12.heap.size w12 w13 := by rw [← hw13]; exact bel_al (Below.refl _ _) _
        have hx13 : w13.heap[w11.heap.size + 1]? = some (.cells #[.slice az nz cz, .slice (some ⟨w11.heap.size, 0, none⟩) 1 1] 46 (0, 0)) := by rw [← hw13, ← hz12]; exact heap_alloc_new w12 _
        have hbb : Below w11.heap.size w11 w13 := hb12.trans (hb13.mono hb12.size)
        have HC := hide (together_l (w11.heap.size + 1) (((unhide HLZ).below hb12).below hb13) (hl12.below hb13) (unhide HER).1 (one_err (k := k) (c := c1) (g := true) (unhide HFF) hBL (unhide HCR).1 (unhide HCR).2 (by omega) hGB) (heap_row (i := 0) hx13) (heap_row (i := 1) hx13) (Array.getElem?_eq_some_iff.1 hx13).1)
        have HW12 := hide hw12
        have HW13 := hide hw13
        have HBB := hide hbb
        have HB12 := hide hb12
        clear hrn11 hcn11 hcc hp11 hw12 hb12 hl12 hw13 hb13 hx13 hbb
        clear hE hb11 hFV hBL hGB hhf
        go_upto_region 27 with fail
        clear g1 q0 k1 e4
        refine wp_region_held_drew (S := fun W => Below w11.heap.size w11 W) (by kernel_rfl) (below_drewN (Below.refl _ _) 1) (fun hHeld => ?_)
        refine wpAnyH_take (i := 0) (v := .pointer (some ⟨w.heap.size, 0, none⟩)) rfl (by kernel_rfl) (by kernel_rfl) (by kernel_rfl) (fun _ _ _ h => h) (Or.inl ⟨by rfl, fun W hS => by go_simp⟩) hHeld ?_
        simp only [Act.put, List.setIfInBounds_toArray, List.set_cons_zero, List.set_cons_succ]
        refine wpAnyH_take (i := 1) (v := .slice (some ⟨gn, 0, none⟩) n2 cn) rfl (by kernel_rfl) (by kernel_rfl) (by kernel_rfl) (fun _ _ _ h => h) (Or.inl ⟨by rfl, fun W hS => by have z := (unhide HC2 W hS).1; go_simp⟩) hHeld ?_
        simp only [Act.put, List.setIfInBounds_toArray, List.set_cons_zero, List.set_cons_succ]
        refine wpAnyH_take (i := 2) (v := .pointer (some ⟨w.heap.size + 1, 1, none⟩)) rfl (by kernel_rfl) (by kernel_rfl) (by kernel_rfl) (fun _ _ _ h => h) (Or.inl ⟨by rfl, fun W hS => by go_simp⟩) hHeld ?_
        simp only [Act.put, List.setIfInBounds_toArray, List.set_cons_zero, List.set_cons_succ]
        refine wpAnyH_take (i := 3) (v := .int .i64 (k : Int)) rfl (by kernel_rfl) (by kernel_rfl) (by kernel_rfl) (fun _ _ _ h => h) (Or.inl ⟨by rfl, fun W hS => by have z := (unhide HC2 W hS).2.1; go_simp⟩) hHeld ?_
        simp only [Act.put, List.setIfInBounds_toArray, List.set_cons_zero, List.set_cons_succ]
        refine wpAnyH_take (i := 4) (v := .pointer (some ⟨gn, k, none⟩)) rfl (by kernel_rfl) (by kernel_rfl) (by kernel_rfl) (fun _ _ _ h => h) (Or.inl ⟨by rfl, fun W hS => by go_simp⟩) hHeld ?_
        simp only [Act.put, List.setIfInBounds_toArray, List.set_cons_zero, List.set_cons_succ]
        refine wpAnyH_take (i := 5) (v := .slice az nz cz) rfl (by kernel_rfl) (by kernel_rfl) (by kernel_rfl) (fun _ _ _ h => h) (Or.inl ⟨by rfl, fun W hS => by have z := (unhide HC2 W hS).2.2.1; go_simp⟩) hHeld ?_
        simp only [Act.put, List.setIfInBounds_toArray, List.set_cons_zero, List.set_cons_succ]
        refine wpAnyH_take (i := 6) (v := .agg #[.string tn, .slice none 0 0, .int .i64 c1, .int .i64 (k : Int), .bool true]) rfl (by kernel_rfl) (by kernel_rfl) (by kernel_rfl) (fun _ _ _ h => h) (Or.inl ⟨by rfl, fun W hS => by have z0 := heap_row (i := 0) (unhide HC2 W hS).2.2.2; have z1 := heap_row (i := 1) (unhide HC2 W hS).2.2.2; have z2 := heap_row (i := 2) (unhide HC2 W hS).2.2.2; have z3 := heap_row (i := 3) (unhide HC2 W hS).2.2.2; have z4 := heap_row (i := 4) (unhide HC2 W hS).2.2.2; go_simp⟩) hHeld ?_
        simp only [Act.put, List.setIfInBounds_toArray, List.set_cons_zero, List.set_cons_succ]
        refine wpAnyH_ready (rs := [7]) (by kernel_rfl) (by simp) (AllReadyH.cons rfl (fun K hK => ?_) AllReadyH.nil)
        go_simp
        refine (show K _ (w11.drew.alloc (.cells #[.string tn, .slice none 0 0, .int .i64 c1, .int .i64 (k : Int), .bool true] 49)) from ?_)
        rw [show w11.drew.alloc (.cells #[.string tn, .slice none 0 0, .int .i64 c1, .int .i64 (k : Int), .bool true] 49) = w12 from unhide HW12]
        refine hK.out _ _ (unhide HB12) (fun hHeld => ?_)
        clear hK K
        refine wpAnyH_ready (rs := [8]) (by kernel_rfl) (by simp) (AllReadyH.cons rfl (fun K hK => ?_) AllReadyH.nil)
        go_simp
        refine (show K _ (w12.alloc (.cells #[.slice az nz cz, .slice (some ⟨w11.heap.size, 0, none⟩) 1 1] 46)) from ?_)
        rw [show w12.alloc (.cells #[.slice az nz cz, .slice (some ⟨w11.heap.size, 0, none⟩) 1 1] 46) = w13 from unhide HW13]
        refine hK.out _ _ (unhide HBB) (fun hHeld => ?_)
        clear hK K hz12
        refine wpAnyH_ready (rs := [9]) (by kernel_rfl) (by simp) (AllReadyH.cons rfl (fun K hK => ?_) AllReadyH.nil)
        go_simp
        refine (unhide HC).mono ?_
        rintro e w14 ⟨x14, rfl, hL14, hB14⟩
        dsimp only
        have hB0 : Below w11.heap.size w11 w14 := (unhide HBB).trans (hB14.mono (unhide HBB).size)
        obtain ⟨ax, cx, hx14⟩ := hL14.shape
        obtain ⟨nx, hnx⟩ : ∃ nx, (tog lz [(⟨nm, [], c1, (k : Int), true⟩ : Fl)]).length = nx := ⟨_, rfl⟩
        rw [hnx] at hx14
        subst hx14
        refine hK.out _ _ hB0 (fun hHeld => ?_)
        clear hK K
        refine wpAnyH_ready (rs := [10]) (by kernel_rfl) (by simp) (AllReadyH.cons rfl (fun K hK => ?_) AllReadyH.nil)
        go_simp
        refine hK.out _ _ hHeld (fun _ => ?_)
        clear hK K hHeld
        refine wpAnyH_done (by kernel_rfl) ?_ _
        have HS14 := hide ((unhide HS11).below hB0)
        have HL14 := hide hL14
        have HNX := hide hnx
        have hE := unhide HE4
        rw [hnx] at hE
        clear hL14 hB14 hB0 HC HBB HLZ HC2 HE4 hnx HW12 HW13 HB12
        by_cases h12 : 12 < nx
        · have hEV : E = 11 ∧ V = noW := by rcases hE with ⟨_, h⟩ | ⟨h, _⟩; exact h; omega
          have h1 := hEV.1
          have h2 := hEV.2
          subst h1 h2
          have h12I : (12 : Int) < (nx : Int) := by omega
          clear hE hEV
          go_wp2_with fail
          refine (unhide HFA _ _).mono ?_
          rintro e w9 ⟨rfl, hB9⟩
          have hS9 := (unhide HS14).below hB9
          obtain ⟨p1, p2⟩ := hS9.fail
          have y0 := heap_row (i := 0) hS9.b4
          have y1 := heap_row (i := 1) hS9.b4
          have y2 := heap_row (i := 2) hS9.b4
          have f0 := frozen_of_row _ _ 0 _ _ hS9.b4
          have f1 := frozen_of_row _ _ 1 _ _ hS9.b4
          have f2 := frozen_of_row _ _ 2 _ _ hS9.b4
          have HP := hide p1
          have HBF := hide p2
          clear hS9 hB9 p1 p2
          go_wp2
          refine bodyPost_ret (v := .tuple #[.agg #[(.slice none 0 0), (.slice none 0 0), (.slice none 0 0)], .int .i64 11]) ?_ rfl ⟨_, rfl, WIn.no _, VFrom.no _ _, unhide HBF⟩
          exact results_wt rfl _ _ (w.heap.size + 2) _ _ rfl (wd_load (unhide HP)) rfl
        · have hEV : E = 0 ∧ V = ⟨W.nodes.set k (tog lz [(⟨nm, [], c1, (k : Int), true⟩ : Fl)]), W.clock.set k c1, W.net⟩ := by rcases hE with ⟨h, _⟩ | ⟨_, h⟩; omega; exact h
          have h1 := hEV.1
          subst h1
          have HVV := hide hEV.2
          have h12I : ¬ (12 : Int) < (nx : Int) := by omega
          have hrn8 := (unhide HS14).ow.n
          rw [(unhide HL).2.2.1] at hrn8
          have k1 := (hrn8.at1 hkn (unhide HZC)).1
          have k2 := (hrn8.at1 hkn (unhide HZC)).2
          simp only [Lv.val, unhide HNZ] at k1
          have q0 := heap_row (i := 0) (unhide HS14).b2
          have g1 := heap_row (i := 1) (unhide HS14).b3
          have hLy : LIn w14 (Lv.mk (tog lz [(⟨nm, [], c1, (k : Int), true⟩ : Fl)]) ax cx).val (tog lz [(⟨nm, [], c1, (k : Int), true⟩ : Fl)]) := by simp only [Lv.val, unhide HNX]; exact unhide HL14
          have hS15 := (unhide HS14).setN (k := k) (y := ⟨tog lz [(⟨nm, [], c1, (k : Int), true⟩ : Fl)], ax, cx⟩) (unhide HL).2.2.1 hLy
          simp only [Lv.val, unhide HNX] at hS15
          obtain ⟨w15, hw15⟩ : ∃ w15, w14.setCell ⟨gn, k, none⟩ (.slice ax nx cx) = w15 := ⟨_, rfl⟩
          rw [hw15] at hS15
          have HW15 := hide hw15
          have HS15 := hide hS15
          clear hrn8 hLy hS15 hw15 hE hEV HS14 HL14
          go_upto_region 31 with fail
          rw [show w14.setCell ⟨gn, k, none⟩ (.slice ax nx cx) = w15 from unhide HW15]
          clear k1 k2 q0 g1 HW15
          have hrc := (unhide HS15).ow.c
          rw [(unhide HN).2.1] at hrc
          have k1 := (hrc.at1 hkn (by unfold iv; rw [List.getElem?_map, unhide HKC]; rfl)).1
          have k2 := (hrc.at1 hkn (by unfold iv; rw [List.getElem?_map, unhide HKC]; rfl : (iv W.clock)[k]? = some (.int .i64 c))).2
          have q1 := heap_row (i := 1) (unhide HS15).b2
          have g1 := heap_row (i := 1) (unhide HS15).b3
          have hwr : IntKind.i64.wrap (c + 1) = c1 := by rw [← unhide HC1, IntKind.wrap_i64]; omega
          have hS16 := (unhide HS15).setC (k := k) (y := c1) (unhide HN).2.1
          obtain ⟨w16, hw16⟩ : ∃ w16, w15.setCell ⟨gc, k, none⟩ (.int .i64 c1) = w16 := ⟨_, rfl⟩
          rw [hw16] at hS16
          have HS16 := hide hS16
          have HW16 := hide hw16
          clear hrc hS16 hw16 HS15
          go_upto_region 54 with fail
          rw [show w15.setCell ⟨gc, k, none⟩ (.int .i64 c1) = w16 from unhide HW16]
          clear k1 k2 q1 g1 hwr HW16
          have HLEN : Hid ((ns.set k (⟨tog lz [(⟨nm, [], c1, (k : Int), true⟩ : Fl)], ax, cx⟩ : Lv)).length ≤ 1000 ∧ (W.clock.set k c1).length ≤ 1000 ∧ ms.length ≤ 1000) := hide ⟨by rw [List.length_set, (unhide HL).2.2.1]; omega, by rw [List.length_set, (unhide HN).2.1]; omega, by rw [(unhide HL).2.2.2]; omega⟩
          have HV : Hid (owd (ns.set k (⟨tog lz [(⟨nm, [], c1, (k : Int), true⟩ : Fl)], ax, cx⟩ : Lv)) (W.clock.set k c1) ms = V) := hide (by rw [unhide HVV]; unfold owd; rw [lss_set, (unhide HL).1, (unhide HL).2.1])
          have hSA := unhide HS16
          obtain ⟨p1, p2, p3, p4⟩ := hSA.answer (unhide HLEN).1 (unhide HLEN).2.1 (unhide HLEN).2.2 (unhide HV)
          have q0 := heap_row (i := 0) hSA.b2
          have q1 := heap_row (i := 1) hSA.b2
          have q2 := heap_row (i := 2) hSA.b2
          have y0 := heap_row (i := 0) hSA.b4
          have y1 := heap_row (i := 1) hSA.b4
          have y2 := heap_row (i := 2) hSA.b4
          have f0 := frozen_of_row _ _ 0 _ _ hSA.b4
          have f1 := frozen_of_row _ _ 1 _ _ hSA.b4
          have f2 := frozen_of_row _ _ 2 _ _ hSA.b4
          have HP := hide p1
          have HAN := hide (And.intro p2 (And.intro p3 p4))
          clear hSA p1 p2 p3 p4
          go_wp2
          refine bodyPost_ret (v := .tuple #[.agg #[_, _, _], .int .i64 0]) ?_ rfl ⟨_, rfl, (unhide HAN).1, (unhide HAN).2.1, (unhide HAN).2.2⟩
          exact results_wt rfl _ _ (w.heap.size + 2) _ _ rfl (wd_load (unhide HP)) rfl
      · have hEV : E = 5 ∧ V = noW := by rcases hE with ⟨_, h⟩ | ⟨h, _⟩ | ⟨h, _⟩; exact h; (rw [hhf] at h; cases h); (rw [hhf] at h; cases h)
        have h1 := hEV.1
        have h2 := hEV.2
        subst h1 h2
        clear hE hEV hhf
        go_wp2_with fail
        refine (unhide HFA _ _).mono ?_
        rintro e w9 ⟨rfl, hB9⟩
        have hS9 := (unhide HS11).below hB9
        obtain ⟨p1, p2⟩ := hS9.fail
        have y0 := heap_row (i := 0) hS9.b4
        have y1 := heap_row (i := 1) hS9.b4
        have y2 := heap_row (i := 2) hS9.b4
        have f0 := frozen_of_row _ _ 0 _ _ hS9.b4
        have f1 := frozen_of_row _ _ 1 _ _ hS9.b4
        have f2 := frozen_of_row _ _ 2 _ _ hS9.b4
        have HP := hide p1
        have HBF := hide p2
        clear hS9 hB9 p1 p2
        go_wp2
        refine bodyPost_ret (v := .tuple #[.agg #[(.slice none 0 0), (.slice none 0 0), (.slice none 0 0)], .int .i64 5]) ?_ rfl ⟨_, rfl, WIn.no _, VFrom.no _ _, unhide HBF⟩
        exact results_wt rfl _ _ (w.heap.size + 2) _ _ rfl (wd_load (unhide HP)) rfl
end Go.Proofs.YtmgmganbamjnmaaGreatDoor
