/-
  The document's StepOf: a message comes.
-/
import Derived.Test.YtmgmganbamjnmaaGreatDoorQ40
namespace Go.Proofs.YtmgmganbamjnmaaGreatDoor
open Go.RowKit
set_option linter.unusedVariables false
set_option linter.unusedSimpArgs false
set_option maxRecDepth 100000



theorem SSt.setN {w W : World} {gn n cap k : Nat} {vc vm : Value} {ns : List Lv} {cs : List Int} {ms : List Mv} {x : Hp} {ab : Option Addr} {cb : Nat} {y : Lv} (h : SSt w W (.slice (some ⟨gn, 0, none⟩) n cap) vc vm ns cs ms x ab cb) (hn : ns.length = n) (hy : LIn W y.val y.l) :
    SSt w (W.setCell ⟨gn, k, none⟩ y.val) (.slice (some ⟨gn, 0, none⟩) n cap) vc vm (ns.set k y) cs ms x ab cb := by
  have hg := h.ow.n.lt (g := gn) rfl
  have hs := grown_setCell W gn k y.val
  exact ⟨h.bel.grown hs h.bel.size (fun g e => by cases e; omega), (Below.heap_setCell W _ _ _ (by show w.heap.size ≠ gn; omega)).trans h.b2, (Below.heap_setCell W _ _ _ (by show w.heap.size + 1 ≠ gn; omega)).trans h.b3, (Below.heap_setCell W _ _ _ (by show w.heap.size + 2 ≠ gn; omega)).trans h.b4, h.ow.setN hn hy, ⟨h.hp.bs.offN hs (fun g e => by cases e; exact h.ow.n.nf gn rfl), h.hp.big, h.hp.txt⟩⟩
theorem SSt.setC {w W : World} {gc n cap k : Nat} {vn vm : Value} {ns : List Lv} {cs : List Int} {ms : List Mv} {x : Hp} {ab : Option Addr} {cb : Nat} {y : Int} (h : SSt w W vn (.slice (some ⟨gc, 0, none⟩) n cap) vm ns cs ms x ab cb) (hn : cs.length = n) :
    SSt w (W.setCell ⟨gc, k, none⟩ (.int .i64 y)) vn (.slice (some ⟨gc, 0, none⟩) n cap) vm ns (cs.set k y) ms x ab cb := by
  have hg := h.ow.c.lt (g := gc) rfl
  have hs := grown_setCell W gc k (.int .i64 y)
  exact ⟨h.bel.grown hs h.bel.size (fun g e => by cases e; omega), (Below.heap_setCell W _ _ _ (by show w.heap.size ≠ gc; omega)).trans h.b2, (Below.heap_setCell W _ _ _ (by show w.heap.size + 1 ≠ gc; omega)).trans h.b3, (Below.heap_setCell W _ _ _ (by show w.heap.size + 2 ≠ gc; omega)).trans h.b4, h.ow.setC hn, ⟨h.hp.bs.offN hs (fun g e => by cases e; exact h.ow.c.nf gc rfl), h.hp.big, h.hp.txt⟩⟩
theorem fls_drop (xs : List Fv) (k : Nat) : fls (xs.drop k) = (fls xs).drop k := by simp [fls, List.map_drop]
set_option maxHeartbeats 16000000 in
theorem step_arr {w : World} {v : Value} {W : Wd} (p d : Nat) (xn : Int) (nm bs : List UInt8) {ab : Option Addr} {cb : Nat} (h : WIn w v W) (hx : HpAt w ⟨4, xn, (p : Int), nm, bs⟩ ab cb) (hok : WdOk W) (hp : p < W.net.length) (fl l : List Fl) (c : Int) (hm : W.net[p]? = some ⟨(d : Int), fl⟩) (hl : W.nodes[d]? = some l) (hc : W.clock[d]? = some c) (E : Nat) (V : Wd)
    (hE : (12 < (tog l fl).length ∧ E = 11 ∧ V = noW) ∨ ((tog l fl).length ≤ 12 ∧ E = 0 ∧ V = ⟨W.nodes.set d (tog l fl), W.clock.set d (rsd c fl), W.net.eraseIdx p⟩)) : Calls Tryz.prog 12 #[v, hpV ⟨4, xn, (p : Int), nm, bs⟩ ab cb] w (DoA w E V) := by
  have herr : errM l = 0 ∧ errM fl = 0 := ⟨(hok.nd d l c hl hc).m, (hok.ms _ (List.mem_of_getElem? hm)).fl⟩
  have HKD := hide (And.intro hp (And.intro hm (And.intro hl (And.intro hc (And.intro hE herr)))))
  clear hp hm hl hc hE herr
  obtain ⟨a1, c1, a2, c2, a3, c3, rfl, hat⟩ := h
  obtain ⟨n1, hn1⟩ : ∃ n1, W.nodes.length = n1 := ⟨_, rfl⟩
  obtain ⟨n2, hn2⟩ : ∃ n2, W.clock.length = n2 := ⟨_, rfl⟩
  obtain ⟨n3, hn3⟩ : ∃ n3, W.net.length = n3 := ⟨_, rfl⟩
  rw [hn1, hn2, hn3]
  obtain ⟨nb, hnb⟩ : ∃ nb, bs.length = nb := ⟨_, rfl⟩
  obtain ⟨tn, htn⟩ : ∃ tn, B nm = tn := ⟨_, rfl⟩
  obtain ⟨w1, hw1, hz1, hb1, hx0, hx1, hx2⟩ := three_boxes w (.slice a1 n1 c1) (.slice a2 n2 c2) (.slice a3 n3 c3) 4 xn (p:Int) tn (.slice ab nb cb)
  have HO := hide (ownW_wat a1 a2 a3 c1 c2 c3 W w1 (hat.below hb1) n1 n3 n2 hn1 hn2 hn3)
  have hpv : hpV ⟨4, xn, (p:Int), nm, bs⟩ ab cb = .agg #[.int .i64 4, .int .i64 xn, .int .i64 (p:Int), .string tn, .slice ab nb cb] := by unfold hpV; simp only [hnb, htn]
  rw [hpv]
  have hx1' : w1.heap[w.heap.size + 1]? = some (.cells #[.int .i64 (Hp.mk 4 xn (p:Int) nm bs).kind, .int .i64 (Hp.mk 4 xn (p:Int) nm bs).node, .int .i64 (Hp.mk 4 xn (p:Int) nm bs).dst, .string (B (Hp.mk 4 xn (p:Int) nm bs).name), .slice ab (Hp.mk 4 xn (p:Int) nm bs).bytes.length cb] 29 (0, 0)) := by simp only [hnb, htn]; exact hx1
  have q0 := heap_row (i := 0) hx0
  have q1 := heap_row (i := 1) hx0
  have q2 := heap_row (i := 2) hx0
  rw [← hw1] at q0 q1 q2 HO
  have HX := hide (And.intro hz1 (And.intro hb1 (And.intro hx0 (And.intro hx1' (And.intro hx2 (hx.below hb1))))))
  have HOK := hide hok
  have hlo := hok.lo
  have hhi := hok.hi
  have hcl := hok.cl
  have hnt := hok.nt
  rw [hn1] at hlo hhi hcl
  rw [hn2] at hcl
  rw [hn3] at hnt
  subst hcl
  have HN := hide (And.intro hn1 (And.intro hn2 (And.intro hn3 (And.intro hnb htn))))
  have HW1 := hide hw1
  have HFA := hide (fun (E : Int) (w : World) => fail1_any E w)
  clear hat hn1 hn2 hn3 hnb htn hw1 hz1 hb1 hx0 hx1 hx1' hx2 hpv hx hok
  go_enter Tryz.func12, Tryz.ntmps12
  go_wp2_with fail
  refine (unhide HO).mono ?_
  rintro e w4 ⟨vn, vc, vm, ns, ms, rfl, hOW, hns, hms, hB4⟩
  rw [show ((w.alloc (wbox (.slice a1 n2 c1) (.slice a2 n2 c2) (.slice a3 n3 c3))).alloc (hbox 4 xn (p:Int) tn (.slice ab nb cb))).alloc (wbox (.slice none 0 0) (.slice none 0 0) (.slice none 0 0)) = w1 from unhide HW1] at hB4 hOW
  obtain ⟨hz1, hb1, hx0, hx1, hx2, hp⟩ := unhide HX
  obtain ⟨hn1, hn2, hn3, hnb, htn⟩ := unhide HN
  obtain ⟨an, cn, hvn⟩ := hOW.n.sl
  obtain ⟨ac, cc, hvc⟩ := hOW.c.sl
  obtain ⟨am, cm, hvm⟩ := hOW.m.sl
  have hnsl : ns.length = n2 := by rw [← hn1, ← hns]; simp [lss]
  have hmsl : ms.length = n3 := by rw [← hn3, ← hms]; simp [mss]
  rw [hnsl] at hvn
  rw [hn2] at hvc
  rw [hmsl] at hvm
  subst hvn hvc hvm
  obtain ⟨h0, hS⟩ := SSt.start hz1 hb1 hx0 hx1 hx2 ⟨_, _, _, _, _, _, _, _, _, rfl, rfl, rfl⟩ hB4 hOW (hp.below hB4)
  have y0 := heap_row (i := 0) h0
  have y1 := heap_row (i := 1) h0
  have y2 := heap_row (i := 2) h0
  have f0 := frozen_of_row _ _ 0 _ _ h0
  have f1 := frozen_of_row _ _ 1 _ _ h0
  have f2 := frozen_of_row _ _ 2 _ _ h0
  obtain ⟨w5, hw5⟩ : ∃ w5, ((w4.setCell ⟨w.heap.size, 0, none⟩ (.slice an n2 cn)).setCell ⟨w.heap.size, 1, none⟩ (.slice ac n2 cc)).setCell ⟨w.heap.size, 2, none⟩ (.slice am n3 cm) = w5 := ⟨_, rfl⟩
  rw [hw5] at hS
  have HS := hide hS
  have HW5 := hide hw5
  have HL := hide (And.intro hns (And.intro hms (And.intro hnsl hmsl)))
  clear q0 q1 q2 hOW hns hms hB4 hz1 hb1 hx0 hx1 hx2 hp hn1 hn2 hn3 hnb htn hnsl hmsl h0 hS hw5 HO HX HW1
  go_upto_region 4 with fail
  rw [show ((w4.setCell ⟨w.heap.size, 0, none⟩ (.slice an n2 cn)).setCell ⟨w.heap.size, 1, none⟩ (.slice ac n2 cc)).setCell ⟨w.heap.size, 2, none⟩ (.slice am n3 cm) = w5 from unhide HW5]
  clear y0 y1 y2 f0 f1 f2 HW5
  have g0 := heap_row (i := 0) (unhide HS).b3
  have g1 := heap_row (i := 1) (unhide HS).b3
  have g2 := heap_row (i := 2) (unhide HS).b3
  have g3 := heap_row (i := 3) (unhide HS).b3
  have g4 := heap_row (i := 4) (unhide HS).b3
  simp only [(unhide HN).2.2.2.1, (unhide HN).2.2.2.2] at g3 g4
  have q0 := heap_row (i := 0) (unhide HS).b2
  have q1 := heap_row (i := 1) (unhide HS).b2
  have q2 := heap_row (i := 2) (unhide HS).b2
  obtain ⟨hpl, hm, hl, hc, hE, herr⟩ := unhide HKD
  have hdn : d < n2 := by have := (List.getElem?_eq_some_iff.1 hl).1; rw [(unhide HN).1] at this; exact this
  rw [(unhide HN).2.2.1] at hpl
  obtain ⟨gm, cpm, e⟩ := (unhide HS).ow.m.sm (by rw [(unhide HL).2.2.2]; omega)
  injection e with e1 e2 e3
  subst e1 e3
  obtain ⟨gn, cpn, e⟩ := (unhide HS).ow.n.sm (by rw [(unhide HL).2.2.1]; omega)
  injection e with e1 e2' e3
  subst e1 e3
  obtain ⟨gc, cpc, e⟩ := (unhide HS).ow.c.sm (by rw [(unhide HN).2.1]; omega)
  injection e with e1 e2'' e3
  subst e1 e3
  have hcap : n3 ≤ cm := by
    rcases (unhide HS).ow.m.own.2 with ⟨h1, _⟩ | ⟨g', cap', cur, h1, _, _, h4, _⟩
    · cases h1
    · injection h1 with _ h0 h1; omega
  have hp0 : ¬ (p : Int) < 0 := by omega
  have hp1 : ¬ (n3 : Int) ≤ (p : Int) := by omega
  have hp2 : (0 : Int) ≤ (p : Int) := by omega
  have hp3 : (p : Int) < (n3 : Int) := by omega
  have hd2 : (0 : Int) ≤ (d : Int) := by omega
  have hd3 : (d : Int) < (n2 : Int) := by omega
  obtain ⟨y, hy, hym, hyl⟩ := mrow_of (unhide HL).2.1 hm
  have hrow := (unhide HS).ow.m
  rw [(unhide HL).2.2.2] at hrow
  obtain ⟨c0, c1⟩ := hrow.at2 hpl hy
  obtain ⟨⟨dd, ly⟩, ay, cy⟩ := y
  injection hyl with hy1 hy2
  subst hy1 hy2
  have HYM := hide hym
  obtain ⟨ny, hny⟩ : ∃ ny, ly.length = ny := ⟨_, rfl⟩
  have HNY := hide hny
  simp only [Mv.sl, hny] at c0 c1
  obtain ⟨z, hz, hzm, hzl⟩ := row_of (k := d) (unhide HL).1 (by rw [(unhide HN).1]; exact hdn)
  obtain rfl : z.l = l := Option.some.inj (hzl.symm.trans hl)
  have hrn := (unhide HS).ow.n
  rw [(unhide HL).2.2.1] at hrn
  have HZC : Hid ((lvs ns)[d]? = some z.val) := hide (by unfold lvs; rw [List.getElem?_map, hz]; rfl)
  have hcn := (hrn.at1 hdn (unhide HZC)).1
  have HZL := hide ((unhide HS).ow.la z hzm)
  have HZM := hide hzm
  obtain ⟨lz, az, cz⟩ := z
  obtain ⟨nz, hnz⟩ : ∃ nz, lz.length = nz := ⟨_, rfl⟩
  have HNZ := hide hnz
  simp only [Lv.val, hnz] at hcn HZL
  -- the world with the message's copy
  obtain ⟨w6, hw6⟩ : ∃ w6, w5.alloc (.cells #[.int .i64 (d : Int), .slice ay ny cy] 54) = w6 := ⟨_, rfl⟩
  have hA : Below w5.heap.size w5 w6 := by rw [← hw6]; exact bel_al (Below.refl _ _) _
  have hG : w6.heap[w5.heap.size]? = some (.cells #[.int .i64 (d : Int), .slice ay ny cy] 54 (0, 0)) := by rw [← hw6]; exact heap_alloc_new w5 _
  have hS6 := (unhide HS).below hA
  have hl5 := (unhide HS).lt
  have HLY : Hid (LIn w6 (.slice ay ny cy) ly) := hide (by have := hS6.ow.ma _ hym; simpa [Mv.sl, hny] using this)
  have HLZ : Hid (LIn w6 (.slice az nz cz) lz) := hide ((unhide HZL).below hA)
  have hcc : ∀ W', Below w6.heap.size w6 W' → W'.cell? ⟨w.heap.size, 0, none⟩ = some (.slice (some ⟨gn, 0, none⟩) n2 cn) ∧ W'.cell? ⟨w5.heap.size, 0, none⟩ = some (.int .i64 (d : Int)) ∧ W'.cell? ⟨w5.heap.size, 1, none⟩ = some (.slice ay ny cy) ∧ W'.cell? ⟨gn, d, none⟩ = some (.slice az nz cz) := fun W' hW => by
    have hrn6 := hS6.ow.n
    rw [(unhide HL).2.2.1] at hrn6
    have hc6 := (hrn6.at1 hdn (unhide HZC)).1
    simp only [Lv.val, hnz] at hc6
    exact ⟨cell_bel (heap_row (i := 0) hS6.b2) hW (Nat.le_refl _), cell_bel (heap_row (i := 0) hG) hW (Nat.le_refl _), cell_bel (heap_row (i := 1) hG) hW (Nat.le_refl _), cell_bel hc6 hW (Nat.le_refl _)⟩
  have HCC := hide hcc
  have HW6 := hide hw6
  have HS6 := hide hS6
  have HG6 := hide hG
  have HA6 := hide hA
  have HE := hide hE
  have HER := hide herr
  have HKC := hide hc
  clear HKD e2 e2' e2'' hm hl hc hE herr hy hym hz hzm hzl hrow hrn hcn hny hnz hw6 hA hG hS6 hcc
  go_upto_region 38 with fail
  rw [show w5.alloc (.cells #[.int .i64 (d : Int), .slice ay ny cy] 54) = w6 from unhide HW6]
  clear g0 g1 g2 g3 g4 q0 q1 q2 c0 c1
  refine wp_region_held_drew (S := fun W => Below w6.heap.size w6 W) (by kernel_rfl) (below_drewN (Below.refl _ _) 1) (fun hHeld => ?_)
  refine wpAnyH_take (i := 0) (v := .pointer (some ⟨w.heap.size, 0, none⟩)) rfl (by kernel_rfl) (by kernel_rfl) (by kernel_rfl) (fun _ _ _ h => h) (Or.inl ⟨by rfl, fun W hS => by go_simp⟩) hHeld ?_
  simp only [Act.put, List.setIfInBounds_toArray, List.set_cons_zero, List.set_cons_succ]
  refine wpAnyH_take (i := 1) (v := .slice (some ⟨gn, 0, none⟩) n2 cn) rfl (by kernel_rfl) (by kernel_rfl) (by kernel_rfl) (fun _ _ _ h => h) (Or.inl ⟨by rfl, fun W hS => by obtain ⟨z1, z2, z3, z4⟩ := unhide HCC W hS; go_simp⟩) hHeld ?_
  simp only [Act.put, List.setIfInBounds_toArray, List.set_cons_zero, List.set_cons_succ]
  refine wpAnyH_take (i := 2) (v := .pointer (some ⟨w5.heap.size, 0, none⟩)) rfl (by kernel_rfl) (by kernel_rfl) (by kernel_rfl) (fun _ _ _ h => h) (Or.inl ⟨by rfl, fun W hS => by go_simp⟩) hHeld ?_
  simp only [Act.put, List.setIfInBounds_toArray, List.set_cons_zero, List.set_cons_succ]
  refine wpAnyH_take (i := 3) (v := .int .i64 (d : Int)) rfl (by kernel_rfl) (by kernel_rfl) (by kernel_rfl) (fun _ _ _ h => h) (Or.inl ⟨by rfl, fun W hS => by obtain ⟨z1, z2, z3, z4⟩ := unhide HCC W hS; go_simp⟩) hHeld ?_
  simp only [Act.put, List.setIfInBounds_toArray, List.set_cons_zero, List.set_cons_succ]
  refine wpAnyH_take (i := 4) (v := .pointer (some ⟨gn, d, none⟩)) rfl (by kernel_rfl) (by kernel_rfl) (by kernel_rfl) (fun _ _ _ h => h) (Or.inl ⟨by rfl, fun W hS => by go_simp⟩) hHeld ?_
  simp only [Act.put, List.setIfInBounds_toArray, List.set_cons_zero, List.set_cons_succ]
  refine wpAnyH_take (i := 5) (v := .slice az nz cz) rfl (by kernel_rfl) (by kernel_rfl) (by kernel_rfl) (fun _ _ _ h => h) (Or.inl ⟨by rfl, fun W hS => by obtain ⟨z1, z2, z3, z4⟩ := unhide HCC W hS; go_simp⟩) hHeld ?_
  simp only [Act.put, List.setIfInBounds_toArray, List.set_cons_zero, List.set_cons_succ]
  refine wpAnyH_take (i := 6) (v := .pointer (some ⟨w5.heap.size, 1, none⟩)) rfl (by kernel_rfl) (by kernel_rfl) (by kernel_rfl) (fun _ _ _ h => h) (Or.inl ⟨by rfl, fun W hS => by go_simp⟩) hHeld ?_
  simp only [Act.put, List.setIfInBounds_toArray, List.set_cons_zero, List.set_cons_succ]
  refine wpAnyH_take (i := 7) (v := .slice ay ny cy) rfl (by kernel_rfl) (by kernel_rfl) (by kernel_rfl) (fun _ _ _ h => h) (Or.inl ⟨by rfl, fun W hS => by obtain ⟨z1, z2, z3, z4⟩ := unhide HCC W hS; go_simp⟩) hHeld ?_
  simp only [Act.put, List.setIfInBounds_toArray, List.set_cons_zero, List.set_cons_succ]
  have hb7 : Below w6.heap.size w6 (w6.drew.alloc (.cells #[.slice az nz cz, .slice ay ny cy] 46)) := bel_al (below_drewN (Below.refl _ _) 1) _
  have HC := hide (together_l w6.heap.size ((unhide HLZ).below hb7) ((unhide HLY).below hb7) (unhide HER).1 (unhide HER).2 (heap_row (i := 0) (heap_alloc_new w6.drew _)) (heap_row (i := 1) (heap_alloc_new w6.drew _)) (by rw [World.size_alloc]; exact Nat.lt_succ_self _))
  have HB7 := hide hb7
  clear hb7
  refine wpAnyH_ready (rs := [8]) (by kernel_rfl) (by simp) (AllReadyH.cons rfl (fun K hK => ?_) AllReadyH.nil)
  go_simp
  refine hK.out _ _ (unhide HB7) (fun hHeld => ?_)
  clear hK K
  refine wpAnyH_ready (rs := [9]) (by kernel_rfl) (by simp) (AllReadyH.cons rfl (fun K hK => ?_) AllReadyH.nil)
  go_simp
  refine (unhide HC).mono ?_
  rintro e w8 ⟨x8, rfl, hL8, hB8⟩
  dsimp only
  have hB68 : Below w6.heap.size w6 w8 := (unhide HB7).trans (hB8.mono (unhide HB7).size)
  obtain ⟨ax, cx, hx8⟩ := hL8.shape
  obtain ⟨nx, hnx⟩ : ∃ nx, (tog lz ly).length = nx := ⟨_, rfl⟩
  rw [hnx] at hx8
  subst hx8
  refine hK.out _ _ hB68 (fun hHeld => ?_)
  clear hK K
  refine wpAnyH_ready (rs := [10]) (by kernel_rfl) (by simp) (AllReadyH.cons rfl (fun K hK => ?_) AllReadyH.nil)
  go_simp
  refine hK.out _ _ hHeld (fun _ => ?_)
  clear hK K hHeld
  refine wpAnyH_done (by kernel_rfl) ?_ _
  have HS8 := hide ((unhide HS6).below hB68)
  have hG8 := (hB68.block w5.heap.size (Array.getElem?_eq_some_iff.1 (unhide HG6)).1).trans (unhide HG6)
  have HG8 := hide hG8
  have HL8 := hide hL8
  have HNX := hide hnx
  have h58 : w5.heap.size < w8.heap.size := (Array.getElem?_eq_some_iff.1 hG8).1
  have hE := unhide HE
  rw [hnx] at hE
  clear hL8 hB8 hB68 HC HB7 HLZ HLY HG6 HS6 HCC HE hnx
  rcases hE with ⟨h12, rfl, rfl⟩ | ⟨h12, rfl, hVV⟩
  · have h12I : (12 : Int) < (nx : Int) := by omega
    clear hG8
    go_wp2_with fail
    refine (unhide HFA _ _).mono ?_
    rintro e w9 ⟨rfl, hB9⟩
    have hS9 := (unhide HS8).below hB9
    obtain ⟨p1, p2⟩ := hS9.fail
    have y0 := heap_row (i := 0) hS9.b4
    have y1 := heap_row (i := 1) hS9.b4
    have y2 := heap_row (i := 2) hS9.b4
    have f0 := frozen_of_row _ _ 0 _ _ hS9.b4
    have f1 := frozen_of_row _ _ 1 _ _ hS9.b4
    have f2 := frozen_of_row _ _ 2 _ _ hS9.b4
    have HP := hide p1
    have HBF := hide p2
    clear hS9 hB9 p1 p2
    go_wp2
    refine bodyPost_ret (v := .tuple #[.agg #[(.slice none 0 0), (.slice none 0 0), (.slice none 0 0)], .int .i64 11]) ?_ rfl ⟨_, rfl, WIn.no _, VFrom.no _ _, unhide HBF⟩
    exact results_wt rfl _ _ (w.heap.size + 2) _ _ rfl (wd_load (unhide HP)) rfl
  · have h12I : ¬ (12 : Int) < (nx : Int) := by omega
    have HVV := hide hVV
    clear hVV
    have hrn8 := (unhide HS8).ow.n
    rw [(unhide HL).2.2.1] at hrn8
    obtain ⟨k1, k2⟩ := hrn8.at1 hdn (unhide HZC)
    simp only [Lv.val, unhide HNZ] at k1
    have q0 := heap_row (i := 0) (unhide HS8).b2
    have m0 := heap_row (i := 0) hG8
    have hLy : LIn w8 (Lv.mk (tog lz ly) ax cx).val (tog lz ly) := by simp only [Lv.val, unhide HNX]; exact unhide HL8
    have hS9 := (unhide HS8).setN (k := d) (y := ⟨tog lz ly, ax, cx⟩) (unhide HL).2.2.1 hLy
    simp only [Lv.val, unhide HNX] at hS9
    obtain ⟨w9, hw9⟩ : ∃ w9, w8.setCell ⟨gn, d, none⟩ (.slice ax nx cx) = w9 := ⟨_, rfl⟩
    have hgn := ((unhide HS).ow.n.lt (g := gn) rfl).2
    have hgc := (unhide HS).ow.c.lt (g := gc) rfl
    have hG9 : w9.heap[w5.heap.size]? = some (.cells #[.int .i64 (d : Int), .slice ay ny cy] 54 (0, 0)) := by rw [← hw9]; exact (Below.heap_setCell w8 _ _ _ (by show w5.heap.size ≠ gn; omega)).trans hG8
    rw [hw9] at hS9
    have HW9 := hide hw9
    have HG9 := hide hG9
    have HCS : Hid (W.clock.set d c = W.clock) := hide (by obtain ⟨h1, h2⟩ := List.getElem?_eq_some_iff.1 (unhide HKC); rw [← h2]; exact List.set_getElem_self h1)
    have HS9 : Hid (SSt w w9 (.slice (some ⟨gn, 0, none⟩) n2 cn) (.slice (some ⟨gc, 0, none⟩) n2 cc) (.slice (some ⟨gm, 0, none⟩) n3 cm) (ns.set d ⟨tog lz ly, ax, cx⟩) (W.clock.set d c) ms ⟨4, xn, (p : Int), nm, bs⟩ ab cb) := hide (by rw [unhide HCS]; exact hS9)
    have m1 : w9.cell? ⟨w5.heap.size, 1, none⟩ = some (.slice ay ny cy) := heap_row (i := 1) hG9
    have HM1 := hide m1
    have HRR : Hid (rsd c (ly.drop 0) = rsd c ly) := hide rfl
    have HNB : ny ≤ 12 := by have := (errM_zero.1 (unhide HER).2).1; rw [unhide HNY] at this; exact this
    clear hrn8 hLy hS9 hw9 hG8 hG9 HS8 HL8 HG8 m1
    go_upto_region 42 with fail
    rw [show w8.setCell ⟨gn, d, none⟩ (.slice ax nx cx) = w9 from unhide HW9]
    clear k1 k2 q0 m0
    have m1 := unhide HM1
    go_wp2
    go_loopw [253] (fun j wr => ∃ (i : Nat) (c' : Int), i ≤ ny ∧ j = .int .i64 (i : Int) ∧ Hid (SSt w wr (.slice (some ⟨gn, 0, none⟩) n2 cn) (.slice (some ⟨gc, 0, none⟩) n2 cc) (.slice (some ⟨gm, 0, none⟩) n3 cm) (ns.set d ⟨tog lz ly, ax, cx⟩) (W.clock.set d c') ms ⟨4, xn, (p : Int), nm, bs⟩ ab cb) ∧ Hid (wr.heap[w5.heap.size]? = some (.cells #[.int .i64 (d : Int), .slice ay ny cy] 54 (0, 0))) ∧ Hid (rsd c' (ly.drop i) = rsd c ly)) (fun j _ => ny - (intOf j).toNat)
    case atStart => exact ⟨0, c, Nat.zero_le _, rfl, HS9, HG9, HRR⟩
    case round =>
      clear m1 HM1 HS9 HG9 HRR HW9
      obtain ⟨i, c', hi, rfl, HSR, HGR, HR⟩ := hrel
      have h5r : w5.heap.size < wr.heap.size := (Array.getElem?_eq_some_iff.1 (unhide HGR)).1
      by_cases hlt : i < ny
      · have hLm := (unhide HSR).ow.ma _ (unhide HYM)
        obtain ⟨ad', c'', ys, hv, hFs, hfl⟩ := hLm
        simp only [Mv.sl, Value.slice.injEq] at hv
        obtain ⟨rfl, _, rfl⟩ := hv
        have hyl : ys.length = ny := by have := fls_len hfl; rw [← unhide HNY]; exact this
        obtain ⟨yf, hyf, hyfm⟩ := get_of (xs := ys) (k := i) (by rw [hyl]; exact hlt)
        obtain ⟨bf, of, hA', hbf, e0, e1, e2, e3, e4⟩ := hFs.get (Below.refl _ _) hyf
        have hst := rsd_step hyf c'
        rw [fls_drop, fls_drop, hfl] at hst
        have HD2 := hide (hst.symm.trans (unhide HR))
        have hys : yf.sl = .slice yf.a yf.f.bytes.length yf.c := rfl
        rw [hys] at e1
        have hrc := (unhide HSR).ow.c
        rw [List.length_set, (unhide HN).2.1] at hrc
        have HCK : Hid (∀ W', Below wr.heap.size wr W' → W'.cell? ⟨gc, d, none⟩ = some (.int .i64 c') ∧ W'.frozen? ⟨gc, d, none⟩ = false) := hide (fun W' hW => (hrc.below hW).at1 hdn (by unfold iv; rw [List.getElem?_map, List.getElem?_set_self (by rw [(unhide HN).2.1]; exact hdn)]; rfl))
        clear hFs hfl hyl hyf hyfm hst hys hrc
        subst hA'
        generalize B yf.f.name = t at *
        generalize yf.f.bytes.length = nf at *
        generalize yf.f.stamp = s2 at *
        generalize yf.f.node = d2 at *
        generalize yf.f.gone = g2 at *
        obtain ⟨w10, hw10⟩ : ∃ w10, wr.alloc (.cells #[.string t, .slice yf.a nf yf.c, .int .i64 s2, .int .i64 d2, .bool g2] 49) = w10 := ⟨_, rfl⟩
        have hb10 : Below wr.heap.size wr w10 := by rw [← hw10]; exact bel_al (Below.refl _ _) _
        have hF10 : w10.heap[wr.heap.size]? = some (.cells #[.string t, .slice yf.a nf yf.c, .int .i64 s2, .int .i64 d2, .bool g2] 49 (0, 0)) := by rw [← hw10]; exact heap_alloc_new wr _
        have hS10 := (unhide HSR).below hb10
        have HST10 : Hid (w10.drew.heap[w.heap.size]? = some (.cells #[.slice (some ⟨gn, 0, none⟩) n2 cn, .slice (some ⟨gc, 0, none⟩) n2 cc, .slice (some ⟨gm, 0, none⟩) n3 cm] 26 (0, 0)) ∧ w10.drew.heap[w5.heap.size]? = some (.cells #[.int .i64 (d : Int), .slice (some ⟨bf, of, none⟩) ny cy] 54 (0, 0)) ∧ w10.drew.heap[wr.heap.size]? = some (.cells #[.string t, .slice yf.a nf yf.c, .int .i64 s2, .int .i64 d2, .bool g2] 49 (0, 0))) := hide ⟨hS10.b2, (hb10.block _ h5r).trans (unhide HGR), hF10⟩
        have HS10 : Hid (SSt w w10.drew (.slice (some ⟨gn, 0, none⟩) n2 cn) (.slice (some ⟨gc, 0, none⟩) n2 cc) (.slice (some ⟨gm, 0, none⟩) n3 cm) (ns.set d ⟨tog lz ly, ax, cx⟩) (W.clock.set d c') ms ⟨4, xn, (p : Int), nm, bs⟩ ab cb) := hide (hS10.below (below_drewN (Below.refl _ _) 1))
        have HK10 : Hid (w10.drew.cell? ⟨gc, d, none⟩ = some (.int .i64 c') ∧ w10.drew.frozen? ⟨gc, d, none⟩ = false) := hide (unhide HCK _ (below_drewN hb10 1))
        have HW10 := hide hw10
        clear hw10 hb10 hF10 hS10 HCK
        go_upto_region 45 with fail
        rw [show wr.alloc (.cells #[.string t, .slice yf.a nf yf.c, .int .i64 s2, .int .i64 d2, .bool g2] 49) = w10 from unhide HW10]
        clear e0 e1 e2 e3 e4
        obtain ⟨k1, k2⟩ := unhide HK10
        have hmx := max_run
        refine wp_region_held_drew (S := fun W' => W'.heap[w.heap.size]? = some (.cells #[.slice (some ⟨gn, 0, none⟩) n2 cn, .slice (some ⟨gc, 0, none⟩) n2 cc, .slice (some ⟨gm, 0, none⟩) n3 cm] 26 (0, 0)) ∧ W'.heap[w5.heap.size]? = some (.cells #[.int .i64 (d : Int), .slice (some ⟨bf, of, none⟩) ny cy] 54 (0, 0)) ∧ W'.heap[wr.heap.size]? = some (.cells #[.string t, .slice yf.a nf yf.c, .int .i64 s2, .int .i64 d2, .bool g2] 49 (0, 0))) (by kernel_rfl) (unhide HST10) (fun hHeld => ?_)
        refine wpAnyH_take (i := 0) (v := .pointer (some ⟨w.heap.size, 1, none⟩)) rfl (by kernel_rfl) (by kernel_rfl) (by kernel_rfl) (fun _ _ _ h => h) (Or.inl ⟨by rfl, fun W hS => by go_simp⟩) hHeld ?_
        simp only [Act.put, List.setIfInBounds_toArray, List.set_cons_zero, List.set_cons_succ]
        refine wpAnyH_take (i := 1) (v := .slice (some ⟨gc, 0, none⟩) n2 cc) rfl (by kernel_rfl) (by kernel_rfl) (by kernel_rfl) (fun _ _ _ h => h) (Or.inl ⟨by rfl, fun W hS => by have z := heap_row (i := 1) hS.1; go_simp⟩) hHeld ?_
        simp only [Act.put, List.setIfInBounds_toArray, List.set_cons_zero, List.set_cons_succ]
        refine wpAnyH_take (i := 2) (v := .pointer (some ⟨w5.heap.size, 0, none⟩)) rfl (by kernel_rfl) (by kernel_rfl) (by kernel_rfl) (fun _ _ _ h => h) (Or.inl ⟨by rfl, fun W hS => by go_simp⟩) hHeld ?_
        simp only [Act.put, List.setIfInBounds_toArray, List.set_cons_zero, List.set_cons_succ]
        refine wpAnyH_take (i := 3) (v := .int .i64 (d : Int)) rfl (by kernel_rfl) (by kernel_rfl) (by kernel_rfl) (fun _ _ _ h => h) (Or.inl ⟨by rfl, fun W hS => by have z := heap_row (i := 0) hS.2.1; go_simp⟩) hHeld ?_
        simp only [Act.put, List.setIfInBounds_toArray, List.set_cons_zero, List.set_cons_succ]
        refine wpAnyH_take (i := 4) (v := .pointer (some ⟨w.heap.size, 1, none⟩)) rfl (by kernel_rfl) (by kernel_rfl) (by kernel_rfl) (fun _ _ _ h => h) (Or.inl ⟨by rfl, fun W hS => by go_simp⟩) hHeld ?_
        simp only [Act.put, List.setIfInBounds_toArray, List.set_cons_zero, List.set_cons_succ]
        refine wpAnyH_take (i := 5) (v := .slice (some ⟨gc, 0, none⟩) n2 cc) rfl (by kernel_rfl) (by kernel_rfl) (by kernel_rfl) (fun _ _ _ h => h) (Or.inl ⟨by rfl, fun W hS => by have z := heap_row (i := 1) hS.1; go_simp⟩) hHeld ?_
        simp only [Act.put, List.setIfInBounds_toArray, List.set_cons_zero, List.set_cons_succ]
        refine wpAnyH_take (i := 6) (v := .pointer (some ⟨w5.heap.size, 0, none⟩)) rfl (by kernel_rfl) (by kernel_rfl) (by kernel_rfl) (fun _ _ _ h => h) (Or.inl ⟨by rfl, fun W hS => by go_simp⟩) hHeld ?_
        simp only [Act.put, List.setIfInBounds_toArray, List.set_cons_zero, List.set_cons_succ]
        refine wpAnyH_take (i := 7) (v := .int .i64 (d : Int)) rfl (by kernel_rfl) (by kernel_rfl) (by kernel_rfl) (fun _ _ _ h => h) (Or.inl ⟨by rfl, fun W hS => by have z := heap_row (i := 0) hS.2.1; go_simp⟩) hHeld ?_
        simp only [Act.put, List.setIfInBounds_toArray, List.set_cons_zero, List.set_cons_succ]
        refine wpAnyH_take (i := 8) (v := .pointer (some ⟨gc, d, none⟩)) rfl (by kernel_rfl) (by kernel_rfl) (by kernel_rfl) (fun _ _ _ h => h) (Or.inl ⟨by rfl, fun W hS => by go_simp⟩) hHeld ?_
        simp only [Act.put, List.setIfInBounds_toArray, List.set_cons_zero, List.set_cons_succ]
        refine wpAnyH_take (i := 10) (v := .pointer (some ⟨wr.heap.size, 2, none⟩)) rfl (by kernel_rfl) (by kernel_rfl) (by kernel_rfl) (fun _ _ _ h => h) (Or.inl ⟨by rfl, fun W hS => by go_simp⟩) hHeld ?_
        simp only [Act.put, List.setIfInBounds_toArray, List.set_cons_zero, List.set_cons_succ]
        refine wpAnyH_take (i := 11) (v := .int .i64 s2) rfl (by kernel_rfl) (by kernel_rfl) (by kernel_rfl) (fun _ _ _ h => h) (Or.inl ⟨by rfl, fun W hS => by have z := heap_row (i := 2) hS.2.2; go_simp⟩) hHeld ?_
        simp only [Act.put, List.setIfInBounds_toArray, List.set_cons_zero, List.set_cons_succ]
        refine wpAnyH_ready (rs := [9]) (by kernel_rfl) (by simp) (AllReadyH.cons rfl (fun K hK => ?_) AllReadyH.nil)
        go_simp
        refine hK.out _ _ hHeld (fun hHeld => ?_)
        clear hK K
        refine wpAnyH_ready (rs := [12]) (by kernel_rfl) (by simp) (AllReadyH.cons rfl (fun K hK => ?_) AllReadyH.nil)
        go_simp
        refine hK.out _ _ hHeld (fun hHeld => ?_)
        clear hK K
        have hS11 := (unhide HS10).setC (k := d) (y := max c' s2) (by rw [List.length_set, (unhide HN).2.1])
        rw [List.set_set] at hS11
        have HS11 := hide hS11
        have HH : Hid ((w10.drew.setCell ⟨gc, d, none⟩ (.int .i64 (max c' s2))).heap[w.heap.size]? = some (.cells #[.slice (some ⟨gn, 0, none⟩) n2 cn, .slice (some ⟨gc, 0, none⟩) n2 cc, .slice (some ⟨gm, 0, none⟩) n3 cm] 26 (0, 0)) ∧ (w10.drew.setCell ⟨gc, d, none⟩ (.int .i64 (max c' s2))).heap[w5.heap.size]? = some (.cells #[.int .i64 (d : Int), .slice (some ⟨bf, of, none⟩) ny cy] 54 (0, 0)) ∧ (w10.drew.setCell ⟨gc, d, none⟩ (.int .i64 (max c' s2))).heap[wr.heap.size]? = some (.cells #[.string t, .slice yf.a nf yf.c, .int .i64 s2, .int .i64 d2, .bool g2] 49 (0, 0))) := hide ⟨hS11.b2, (Below.heap_setCell _ _ _ _ (by show w5.heap.size ≠ gc; omega)).trans (unhide HST10).2.1, (Below.heap_setCell _ _ _ _ (by show wr.heap.size ≠ gc; omega)).trans (unhide HST10).2.2⟩
        clear hS11 HS10 HST10 HK10 hmx
        refine wpAnyH_take (i := 13) (v := .pointer (some ⟨gc, d, none⟩)) rfl (by kernel_rfl) (by kernel_rfl) (by kernel_rfl) (fun _ _ _ h => h) (Or.inl ⟨by rfl, fun W hS => by go_simp⟩) hHeld ?_
        simp only [Act.put, List.setIfInBounds_toArray, List.set_cons_zero, List.set_cons_succ]
        refine wpAnyH_ready (rs := [14]) (by kernel_rfl) (by simp) (AllReadyH.cons rfl (fun K hK => ?_) AllReadyH.nil)
        go_simp
        refine hK.out _ _ (unhide HH) (fun _ => ?_)
        clear hK K hHeld k1 k2
        refine wpAnyH_done (by kernel_rfl) ?_ _
        go_wp2
        go_roundw
        case rel => exact ⟨i + 1, max c' s2, by omega, by go_num, HS11, hide (unhide HH).2.1, HD2⟩
        case measure => simp [intOf]; omega
      · obtain rfl : ny = i := by omega
        have hr := unhide HR
        rw [List.drop_of_length_le (by rw [unhide HNY]; exact Nat.le_refl _)] at hr
        have hr2 : c' = rsd c ly := hr
        subst hr2
        have HCUT := hide (fun W => sl_cut gm n3 cm p (by omega) hcap W)
        obtain ⟨ad, had⟩ : ∃ ad : Addr, (if cm = p + 1 then (⟨gm, 0, none⟩ : Addr) else ⟨gm, (p + 1) * 2, none⟩) = ad := ⟨_, rfl⟩
        have HAD := hide had
        have hwr : IntKind.i64.wrap ((p : Int) + 1) = (p : Int) + 1 := by rw [IntKind.wrap_i64]; omega
        have HPAST : Hid (∀ W : World, (Instr.slice 24 (.slice (some ⟨gm, 0, none⟩) n3 cm) (some (.int .i64 ((p : Int) + 1))) none none).run Tryz.prog W = .ok (.slice (some ad) (n3 - (p + 1)) (cm - (p + 1))) W) := hide (fun W => by rw [← had]; exact sl_past gm n3 cm (p + 1) (by omega) hcap W)
        have HML : Hid ((mss ms).length = n3) := hide (by unfold mss; rw [List.length_map]; exact (unhide HL).2.2.2)
        have HVW : Hid ((⟨lss (ns.set d ⟨tog lz ly, ax, cx⟩), W.clock.set d (rsd c ly), (mss ms).eraseIdx p⟩ : Wd) = V) := hide (by rw [lss_set, (unhide HL).1, (unhide HL).2.1]; exact (unhide HVV).symm)
        have HLE : Hid ((ns.set d (⟨tog lz ly, ax, cx⟩ : Lv)).length ≤ 1000 ∧ (W.clock.set d (rsd c ly)).length ≤ 1000) := hide ⟨by rw [List.length_set, (unhide HL).2.2.1]; omega, by rw [List.length_set, (unhide HN).2.1]; omega⟩
        have HSD : Hid (SSt w wr.drew (.slice (some ⟨gn, 0, none⟩) n2 cn) (.slice (some ⟨gc, 0, none⟩) n2 cc) (.slice (some ⟨gm, 0, none⟩) n3 cm) (ns.set d ⟨tog lz ly, ax, cx⟩) (W.clock.set d (rsd c ly)) ms ⟨4, xn, (p : Int), nm, bs⟩ ab cb) := hide ((unhide HSR).below (below_drewN (Below.refl _ _) 1))
        have q2 : wr.cell? ⟨w.heap.size, 2, none⟩ = some (.slice (some ⟨gm, 0, none⟩) n3 cm) := heap_row (i := 2) (unhide HSR).b2
        clear hr had
        go_upto_region 47 with fail
        replace q2 : wr.drew.cell? ⟨w.heap.size, 2, none⟩ = some (.slice (some ⟨gm, 0, none⟩) n3 cm) := q2
        refine wp_region_held_drew (S := fun W => W.heap[w.heap.size + 1]? = some (.cells #[.int .i64 4, .int .i64 xn, .int .i64 (p : Int), .string (B nm), .slice ab bs.length cb] 29 (0, 0))) (by kernel_rfl) (unhide HSD).b3 (fun hHeld => ?_)
        refine wpAnyH_take (i := 0) (v := .pointer (some ⟨w.heap.size, 2, none⟩)) rfl (by kernel_rfl) (by kernel_rfl) (by kernel_rfl) (fun _ _ _ h => h) (Or.inl ⟨by rfl, fun W hS => by go_simp⟩) hHeld ?_
        simp only [Act.put, List.setIfInBounds_toArray, List.set_cons_zero, List.set_cons_succ]
        refine wpAnyH_take (i := 2) (v := .pointer (some ⟨w.heap.size + 1, 2, none⟩)) rfl (by kernel_rfl) (by kernel_rfl) (by kernel_rfl) (fun _ _ _ h => h) (Or.inl ⟨by rfl, fun W hS => by go_simp⟩) hHeld ?_
        simp only [Act.put, List.setIfInBounds_toArray, List.set_cons_zero, List.set_cons_succ]
        refine wpAnyH_take (i := 3) (v := .int .i64 (p : Int)) rfl (by kernel_rfl) (by kernel_rfl) (by kernel_rfl) (fun _ _ _ h => h) (Or.inl ⟨by rfl, fun W hS => by have z := heap_row (i := 2) hS; go_simp⟩) hHeld ?_
        simp only [Act.put, List.setIfInBounds_toArray, List.set_cons_zero, List.set_cons_succ]
        refine wpAnyH_take (i := 4) (v := .pointer (some ⟨w.heap.size + 1, 2, none⟩)) rfl (by kernel_rfl) (by kernel_rfl) (by kernel_rfl) (fun _ _ _ h => h) (Or.inl ⟨by rfl, fun W hS => by go_simp⟩) hHeld ?_
        simp only [Act.put, List.setIfInBounds_toArray, List.set_cons_zero, List.set_cons_succ]
        refine wpAnyH_take (i := 5) (v := .int .i64 (p : Int)) rfl (by kernel_rfl) (by kernel_rfl) (by kernel_rfl) (fun _ _ _ h => h) (Or.inl ⟨by rfl, fun W hS => by have z := heap_row (i := 2) hS; go_simp⟩) hHeld ?_
        simp only [Act.put, List.setIfInBounds_toArray, List.set_cons_zero, List.set_cons_succ]
        refine wpAnyH_take (i := 7) (v := .pointer (some ⟨w.heap.size, 2, none⟩)) rfl (by kernel_rfl) (by kernel_rfl) (by kernel_rfl) (fun _ _ _ h => h) (Or.inl ⟨by rfl, fun W hS => by go_simp⟩) hHeld ?_
        simp only [Act.put, List.setIfInBounds_toArray, List.set_cons_zero, List.set_cons_succ]
        refine wpAnyH_take (i := 9) (v := .pointer (some ⟨w.heap.size + 1, 2, none⟩)) rfl (by kernel_rfl) (by kernel_rfl) (by kernel_rfl) (fun _ _ _ h => h) (Or.inl ⟨by rfl, fun W hS => by go_simp⟩) hHeld ?_
        simp only [Act.put, List.setIfInBounds_toArray, List.set_cons_zero, List.set_cons_succ]
        refine wpAnyH_take (i := 10) (v := .int .i64 (p : Int)) rfl (by kernel_rfl) (by kernel_rfl) (by kernel_rfl) (fun _ _ _ h => h) (Or.inl ⟨by rfl, fun W hS => by have z := heap_row (i := 2) hS; go_simp⟩) hHeld ?_
        simp only [Act.put, List.setIfInBounds_toArray, List.set_cons_zero, List.set_cons_succ]
        refine wpAnyH_take (i := 11) (v := .int .i64 ((p : Int) + 1)) rfl (by kernel_rfl) (by kernel_rfl) (by kernel_rfl) (fun _ _ _ h => h) (Or.inl ⟨by rfl, fun W hS => by go_simp⟩) hHeld ?_
        simp only [Act.put, List.setIfInBounds_toArray, List.set_cons_zero, List.set_cons_succ]
        refine wpAnyH_ready (rs := [1, 8]) (by kernel_rfl) (by simp) (AllReadyH.cons rfl (fun K hK => ?_) (AllReadyH.cons rfl (fun K hK => ?_) AllReadyH.nil))
        · go_simp
          refine hK.out _ _ hHeld (fun hHeld => ?_)
          clear hK K
          refine wpAnyH_take (i := 6) (v := .slice (some ⟨gm, 0, none⟩) p p) rfl (by kernel_rfl) (by kernel_rfl) (by kernel_rfl) (fun _ _ _ h => h) (Or.inl ⟨by rfl, fun W hS => by have z := unhide HCUT W; go_simp⟩) hHeld ?_
          simp only [Act.put, List.setIfInBounds_toArray, List.set_cons_zero, List.set_cons_succ]
          refine wpAnyH_ready (rs := [8]) (by kernel_rfl) (by simp) (AllReadyH.cons rfl (fun K hK => ?_) AllReadyH.nil)
          go_simp
          refine hK.out _ _ hHeld (fun hHeld => ?_)
          clear hK K
          refine wpAnyH_take (i := 12) (v := .slice (some ad) (n3 - (p + 1)) (cm - (p + 1))) rfl (by kernel_rfl) (by kernel_rfl) (by kernel_rfl) (fun _ _ _ h => h) (Or.inl ⟨by rfl, fun W hS => by have z := unhide HPAST W; go_simp⟩) hHeld ?_
          simp only [Act.put, List.setIfInBounds_toArray, List.set_cons_zero, List.set_cons_succ]
          have hrow := (unhide HSD).ow.m
          rw [(unhide HL).2.2.2] at hrow
          obtain ⟨aa, ca, w6, hr, hM6, hB6, hf6⟩ := app_cut wr.drew 24 (k := p) hrow (unhide HSD).ow.ma (unhide HL).2.2.2 hpl (by omega) (by have := (unhide HSD).lt; omega)
          rw [unhide HAD] at hr
          have hSA := (unhide HSD).cut (unhide HLE).1 (unhide HLE).2 hB6 hM6 (n := n3 - 1) (by rw [List.length_eraseIdx, unhide HML, if_pos hpl]) hf6
          rw [unhide HVW] at hSA
          have hSw := (unhide HSD).below hB6
          have z2 := heap_row (i := 2) hSw.b2
          have zf := frozen_of_row _ _ 2 _ _ hSw.b2
          have hSv : w6.heap[w.heap.size + 1]? = some (.cells #[.int .i64 4, .int .i64 xn, .int .i64 (p : Int), .string (B nm), .slice ab bs.length cb] 29 (0, 0)) := hSw.b3
          have HR7 : Hid ((w6.setCell ⟨w.heap.size, 2, none⟩ (.slice aa (n3 - 1) ca)).heap[w.heap.size + 1]? = some (.cells #[.int .i64 4, .int .i64 xn, .int .i64 (p : Int), .string (B nm), .slice ab bs.length cb] 29 (0, 0))) := hide ((Below.heap_setCell w6 _ _ _ (by show w.heap.size + 1 ≠ w.heap.size; omega)).trans hSv)
          have HSA := hide hSA
          clear hrow hM6 hB6 hf6 hSA hSw
          refine wpAnyH_ready (rs := [13]) (by kernel_rfl) (by simp) (AllReadyH.cons rfl (fun K hK => ?_) AllReadyH.nil)
          rw [if_pos (by rfl)]
          refine wp_append_run (.tmp 278) (.tmp 284) 24 rfl rfl rfl hr ?_
          refine hK.out _ _ hSv (fun hHeld => ?_)
          clear hK K hr hSv
          simp only [Act.put, List.setIfInBounds_toArray, List.set_cons_zero, List.set_cons_succ]
          refine wpAnyH_take (i := 14) (v := .pointer (some ⟨w.heap.size, 2, none⟩)) rfl (by kernel_rfl) (by kernel_rfl) (by kernel_rfl) (fun _ _ _ h => h) (Or.inl ⟨by rfl, fun W hS => by go_simp⟩) hHeld ?_
          simp only [Act.put, List.setIfInBounds_toArray, List.set_cons_zero, List.set_cons_succ]
          refine wpAnyH_ready (rs := [15]) (by kernel_rfl) (by simp) (AllReadyH.cons rfl (fun K hK => ?_) AllReadyH.nil)
          go_simp
          refine hK.out _ _ (unhide HR7) (fun _ => ?_)
          clear hK K hHeld
          refine wpAnyH_done (by kernel_rfl) ?_ _
          obtain ⟨w8, hw8⟩ : ∃ w8, w6.setCell ⟨w.heap.size, 2, none⟩ (.slice aa (n3 - 1) ca) = w8 := ⟨_, rfl⟩
          rw [hw8] at HSA ⊢
          clear z2 zf hw8 HR7
          have hSA := unhide HSA
          obtain ⟨p1, p2, p3, p4⟩ := hSA.answer
          have q0 := heap_row (i := 0) hSA.b2
          have q1 := heap_row (i := 1) hSA.b2
          have q2 := heap_row (i := 2) hSA.b2
          have y0 := heap_row (i := 0) hSA.b4
          have y1 := heap_row (i := 1) hSA.b4
          have y2 := heap_row (i := 2) hSA.b4
          have f0 := frozen_of_row _ _ 0 _ _ hSA.b4
          have f1 := frozen_of_row _ _ 1 _ _ hSA.b4
          have f2 := frozen_of_row _ _ 2 _ _ hSA.b4
          have HP := hide p1
          have HAN := hide (And.intro p2 (And.intro p3 p4))
          clear hSA p1 p2 p3 p4
          go_wp2
          refine bodyPost_ret (v := .tuple #[.agg #[_, _, _], .int .i64 0]) ?_ rfl ⟨_, rfl, (unhide HAN).1, (unhide HAN).2.1, (unhide HAN).2.2⟩
          exact results_wt rfl _ _ (w.heap.size + 2) _ _ rfl (wd_load (unhide HP)) rfl
        · go_simp
          refine hK.out _ _ hHeld (fun hHeld => ?_)
          clear hK K
          refine wpAnyH_take (i := 12) (v := .slice (some ad) (n3 - (p + 1)) (cm - (p + 1))) rfl (by kernel_rfl) (by kernel_rfl) (by kernel_rfl) (fun _ _ _ h => h) (Or.inl ⟨by rfl, fun W hS => by have z := unhide HPAST W; go_simp⟩) hHeld ?_
          simp only [Act.put, List.setIfInBounds_toArray, List.set_cons_zero, List.set_cons_succ]
          refine wpAnyH_ready (rs := [1]) (by kernel_rfl) (by simp) (AllReadyH.cons rfl (fun K hK => ?_) AllReadyH.nil)
          go_simp
          refine hK.out _ _ hHeld (fun hHeld => ?_)
          clear hK K
          refine wpAnyH_take (i := 6) (v := .slice (some ⟨gm, 0, none⟩) p p) rfl (by kernel_rfl) (by kernel_rfl) (by kernel_rfl) (fun _ _ _ h => h) (Or.inl ⟨by rfl, fun W hS => by have z := unhide HCUT W; go_simp⟩) hHeld ?_
          simp only [Act.put, List.setIfInBounds_toArray, List.set_cons_zero, List.set_cons_succ]
          have hrow := (unhide HSD).ow.m
          rw [(unhide HL).2.2.2] at hrow
          obtain ⟨aa, ca, w6, hr, hM6, hB6, hf6⟩ := app_cut wr.drew 24 (k := p) hrow (unhide HSD).ow.ma (unhide HL).2.2.2 hpl (by omega) (by have := (unhide HSD).lt; omega)
          rw [unhide HAD] at hr
          have hSA := (unhide HSD).cut (unhide HLE).1 (unhide HLE).2 hB6 hM6 (n := n3 - 1) (by rw [List.length_eraseIdx, unhide HML, if_pos hpl]) hf6
          rw [unhide HVW] at hSA
          have hSw := (unhide HSD).below hB6
          have z2 := heap_row (i := 2) hSw.b2
          have zf := frozen_of_row _ _ 2 _ _ hSw.b2
          have hSv : w6.heap[w.heap.size + 1]? = some (.cells #[.int .i64 4, .int .i64 xn, .int .i64 (p : Int), .string (B nm), .slice ab bs.length cb] 29 (0, 0)) := hSw.b3
          have HR7 : Hid ((w6.setCell ⟨w.heap.size, 2, none⟩ (.slice aa (n3 - 1) ca)).heap[w.heap.size + 1]? = some (.cells #[.int .i64 4, .int .i64 xn, .int .i64 (p : Int), .string (B nm), .slice ab bs.length cb] 29 (0, 0))) := hide ((Below.heap_setCell w6 _ _ _ (by show w.heap.size + 1 ≠ w.heap.size; omega)).trans hSv)
          have HSA := hide hSA
          clear hrow hM6 hB6 hf6 hSA hSw
          refine wpAnyH_ready (rs := [13]) (by kernel_rfl) (by simp) (AllReadyH.cons rfl (fun K hK => ?_) AllReadyH.nil)
          rw [if_pos (by rfl)]
          refine wp_append_run (.tmp 278) (.tmp 284) 24 rfl rfl rfl hr ?_
          refine hK.out _ _ hSv (fun hHeld => ?_)
          clear hK K hr hSv
          simp only [Act.put, List.setIfInBounds_toArray, List.set_cons_zero, List.set_cons_succ]
          refine wpAnyH_take (i := 14) (v := .pointer (some ⟨w.heap.size, 2, none⟩)) rfl (by kernel_rfl) (by kernel_rfl) (by kernel_rfl) (fun _ _ _ h => h) (Or.inl ⟨by rfl, fun W hS => by go_simp⟩) hHeld ?_
          simp only [Act.put, List.setIfInBounds_toArray, List.set_cons_zero, List.set_cons_succ]
          refine wpAnyH_ready (rs := [15]) (by kernel_rfl) (by simp) (AllReadyH.cons rfl (fun K hK => ?_) AllReadyH.nil)
          go_simp
          refine hK.out _ _ (unhide HR7) (fun _ => ?_)
          clear hK K hHeld
          refine wpAnyH_done (by kernel_rfl) ?_ _
          obtain ⟨w8, hw8⟩ : ∃ w8, w6.setCell ⟨w.heap.size, 2, none⟩ (.slice aa (n3 - 1) ca) = w8 := ⟨_, rfl⟩
          rw [hw8] at HSA ⊢
          clear z2 zf hw8 HR7
          have hSA := unhide HSA
          obtain ⟨p1, p2, p3, p4⟩ := hSA.answer
          have q0 := heap_row (i := 0) hSA.b2
          have q1 := heap_row (i := 1) hSA.b2
          have q2 := heap_row (i := 2) hSA.b2
          have y0 := heap_row (i := 0) hSA.b4
          have y1 := heap_row (i := 1) hSA.b4
          have y2 := heap_row (i := 2) hSA.b4
          have f0 := frozen_of_row _ _ 0 _ _ hSA.b4
          have f1 := frozen_of_row _ _ 1 _ _ hSA.b4
          have f2 := frozen_of_row _ _ 2 _ _ hSA.b4
          have HP := hide p1
          have HAN := hide (And.intro p2 (And.intro p3 p4))
          clear hSA p1 p2 p3 p4
          go_wp2
          refine bodyPost_ret (v := .tuple #[.agg #[_, _, _], .int .i64 0]) ?_ rfl ⟨_, rfl, (unhide HAN).1, (unhide HAN).2.1, (unhide HAN).2.2⟩
          exact results_wt rfl _ _ (w.heap.size + 2) _ _ rfl (wd_load (unhide HP)) rfl
end Go.Proofs.YtmgmganbamjnmaaGreatDoor
