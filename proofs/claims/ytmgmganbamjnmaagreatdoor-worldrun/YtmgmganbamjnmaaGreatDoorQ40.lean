/-
  The document's StepOf: a message is lost, or comes twice.
-/
import Derived.Test.YtmgmganbamjnmaaGreatDoorQ38
import Derived.Test.YtmgmganbamjnmaaGreatDoorQ39
namespace Go.Proofs.YtmgmganbamjnmaaGreatDoor
open Go.RowKit
set_option linter.unusedVariables false
set_option linter.unusedSimpArgs false
set_option maxRecDepth 100000


/-- the answer's world, in its box -/
structure SAns (w W : World) (v1 v2 v3 : Value) (V : Wd) : Prop where
  bel : Below w.heap.size w W
  b2 : W.heap[w.heap.size]? = some (.cells #[v1, v2, v3] 26 (0, 0))
  b4 : W.heap[w.heap.size + 2]? = some (.cells #[(.slice none 0 0), (.slice none 0 0), (.slice none 0 0)] 26 (0, 0))
  win : WIn W (.agg #[v1, v2, v3]) V
  vf : VFrom (w.heap.size + 3) W.heap.size (.agg #[v1, v2, v3])
theorem SAns.answer {w W : World} {v1 v2 v3 : Value} {V : Wd} (h : SAns w W v1 v2 v3 V) :
    (((W.setCell ⟨w.heap.size + 2, 0, none⟩ v1).setCell ⟨w.heap.size + 2, 1, none⟩ v2).setCell ⟨w.heap.size + 2, 2, none⟩ v3).heap[w.heap.size + 2]? = some (.cells #[v1, v2, v3] 26 (0, 0)) ∧ WIn (((W.setCell ⟨w.heap.size + 2, 0, none⟩ v1).setCell ⟨w.heap.size + 2, 1, none⟩ v2).setCell ⟨w.heap.size + 2, 2, none⟩ v3) (.agg #[v1, v2, v3]) V ∧ VFrom w.heap.size (((W.setCell ⟨w.heap.size + 2, 0, none⟩ v1).setCell ⟨w.heap.size + 2, 1, none⟩ v2).setCell ⟨w.heap.size + 2, 2, none⟩ v3).heap.size (.agg #[v1, v2, v3]) ∧ Below w.heap.size w (((W.setCell ⟨w.heap.size + 2, 0, none⟩ v1).setCell ⟨w.heap.size + 2, 1, none⟩ v2).setCell ⟨w.heap.size + 2, 2, none⟩ v3) := by
  obtain ⟨p1, p2⟩ := put3 v1 v2 v3 h.b4
  exact ⟨p1, h.win.offV p2 (fun g e => by cases e; exact nf3 h.b4) (fun b hb e => by have := (h.vf b hb).1; cases e; omega), h.vf.mono (by omega) p2.size, h.bel.grown p2 h.bel.size (fun q e => by cases e; omega)⟩
/-- other messages in the box -/
theorem SSt.cut {w W W' : World} {vn vc vm : Value} {ns : List Lv} {cs : List Int} {ms : List Mv} {x : Hp} {ab a : Option Addr} {cb c n : Nat} {M : List Ms} (h : SSt w W vn vc vm ns cs ms x ab cb) (h1 : ns.length ≤ 1000) (h2 : cs.length ≤ 1000) (hB : Below W.heap.size W W') (hM : MsIn W' a c M) (hn : M.length = n) (hf : ∀ b o, a = some ⟨b, o, none⟩ → w.heap.size + 3 ≤ b ∧ b < W'.heap.size) :
    SAns w (W'.setCell ⟨w.heap.size, 2, none⟩ (.slice a n c)) vn vc (.slice a n c) ⟨lss ns, cs, M⟩ := by
  have hS := h.below hB
  have hs := grown_setCell W' w.heap.size 2 (.slice a n c)
  obtain ⟨a1, c1, rfl, k1⟩ := hS.ow.n.ns hS.ow.la (by omega)
  obtain ⟨a2, c2, rfl, k2⟩ := hS.ow.c.cs (by omega)
  have hv : VFrom (w.heap.size + 3) W'.heap.size (.agg #[.slice a1 (lss ns).length c1, .slice a2 cs.length c2, .slice a n c]) := by
    rintro b ⟨a1', n1', c1', a2', n2', c2', a3', n3', c3', o, e, hb⟩
    have e := Value.agg.inj e
    simp only [Array.mk.injEq, List.cons.injEq, Value.slice.injEq, and_true] at e
    obtain ⟨⟨rfl, _⟩, ⟨rfl, _⟩, ⟨rfl, _⟩⟩ := e
    rcases hb with hb | hb | hb
    · exact hS.ow.n.lt (by rw [hb]; rfl)
    · exact hS.ow.c.lt (by rw [hb]; rfl)
    · exact hf b o hb
  have hw : WIn W' (.agg #[.slice a1 (lss ns).length c1, .slice a2 cs.length c2, .slice a n c]) ⟨lss ns, cs, M⟩ := ⟨a1, c1, a2, c2, a, c, by rw [hn], k1, k2, hM⟩
  exact ⟨hS.bel.grown hs hS.bel.size (fun g e => by cases e; exact Nat.le_refl _), heap_setCell_same W' _ 2 _ _ _ hS.b2, (Below.heap_setCell W' _ _ _ (by show w.heap.size + 2 ≠ w.heap.size; omega)).trans hS.b4, hw.offV hs (fun g e => by cases e; exact hS.nf2 hS.b2) (fun b hb e => by have := (hv b hb).1; cases e; omega), hv.mono (Nat.le_refl _) hs.size⟩

set_option maxHeartbeats 4000000 in
theorem step_net_who {w : World} {v : Value} {W : Wd} (xk xn xd : Int) (nm bs : List UInt8) {ab : Option Addr} {cb : Nat} (h : WIn w v W) (hx : HpAt w ⟨xk, xn, xd, nm, bs⟩ ab cb) (hok : WdOk W) (hk4 : 4 ≤ xk) (hk6 : xk ≤ 6) (hk : isP xd W.net.length = false) : Calls Tryz.prog 12 #[v, hpV ⟨xk, xn, xd, nm, bs⟩ ab cb] w (DoA w 5 noW) := by
  have HKD := hide hk
  have hk1 : ¬ xk < 1 := by omega
  have hk2 : ¬ 6 < xk := by omega
  clear hk hk6
  obtain ⟨a1, c1, a2, c2, a3, c3, rfl, hat⟩ := h
  obtain ⟨n1, hn1⟩ : ∃ n1, W.nodes.length = n1 := ⟨_, rfl⟩
  obtain ⟨n2, hn2⟩ : ∃ n2, W.clock.length = n2 := ⟨_, rfl⟩
  obtain ⟨n3, hn3⟩ : ∃ n3, W.net.length = n3 := ⟨_, rfl⟩
  rw [hn1, hn2, hn3]
  obtain ⟨nb, hnb⟩ : ∃ nb, bs.length = nb := ⟨_, rfl⟩
  obtain ⟨tn, htn⟩ : ∃ tn, B nm = tn := ⟨_, rfl⟩
  obtain ⟨w1, hw1, hz1, hb1, hx0, hx1, hx2⟩ := three_boxes w (.slice a1 n1 c1) (.slice a2 n2 c2) (.slice a3 n3 c3) xk xn xd tn (.slice ab nb cb)
  have HO := hide (ownW_wat a1 a2 a3 c1 c2 c3 W w1 (hat.below hb1) n1 n3 n2 hn1 hn2 hn3)
  have hpv : hpV ⟨xk, xn, xd, nm, bs⟩ ab cb = .agg #[.int .i64 xk, .int .i64 xn, .int .i64 xd, .string tn, .slice ab nb cb] := by unfold hpV; simp only [hnb, htn]
  rw [hpv]
  have hx1' : w1.heap[w.heap.size + 1]? = some (.cells #[.int .i64 (Hp.mk xk xn xd nm bs).kind, .int .i64 (Hp.mk xk xn xd nm bs).node, .int .i64 (Hp.mk xk xn xd nm bs).dst, .string (B (Hp.mk xk xn xd nm bs).name), .slice ab (Hp.mk xk xn xd nm bs).bytes.length cb] 29 (0, 0)) := by simp only [hnb, htn]; exact hx1
  have q0 := heap_row (i := 0) hx0
  have q1 := heap_row (i := 1) hx0
  have q2 := heap_row (i := 2) hx0
  rw [← hw1] at q0 q1 q2 HO
  have HX := hide (And.intro hz1 (And.intro hb1 (And.intro hx0 (And.intro hx1' (And.intro hx2 (hx.below hb1))))))
  have HOK := hide hok
  have hlo := hok.lo
  have hhi := hok.hi
  have hcl := hok.cl
  have hnt := hok.nt
  rw [hn1] at hlo hhi hcl
  rw [hn2] at hcl
  rw [hn3] at hnt
  subst hcl
  have HN := hide (And.intro hn1 (And.intro hn2 (And.intro hn3 (And.intro hnb htn))))
  have HW1 := hide hw1
  have HFA := hide (fun (E : Int) (w : World) => fail1_any E w)
  clear hat hn1 hn2 hn3 hnb htn hw1 hz1 hb1 hx0 hx1 hx1' hx2 hpv hx hok
  go_enter Tryz.func12, Tryz.ntmps12
  go_wp2_with fail
  refine (unhide HO).mono ?_
  rintro e w4 ⟨vn, vc, vm, ns, ms, rfl, hOW, hns, hms, hB4⟩
  rw [show ((w.alloc (wbox (.slice a1 n2 c1) (.slice a2 n2 c2) (.slice a3 n3 c3))).alloc (hbox xk xn xd tn (.slice ab nb cb))).alloc (wbox (.slice none 0 0) (.slice none 0 0) (.slice none 0 0)) = w1 from unhide HW1] at hB4 hOW
  obtain ⟨hz1, hb1, hx0, hx1, hx2, hp⟩ := unhide HX
  obtain ⟨hn1, hn2, hn3, hnb, htn⟩ := unhide HN
  obtain ⟨an, cn, hvn⟩ := hOW.n.sl
  obtain ⟨ac, cc, hvc⟩ := hOW.c.sl
  obtain ⟨am, cm, hvm⟩ := hOW.m.sl
  have hnsl : ns.length = n2 := by rw [← hn1, ← hns]; simp [lss]
  have hmsl : ms.length = n3 := by rw [← hn3, ← hms]; simp [mss]
  rw [hnsl] at hvn
  rw [hn2] at hvc
  rw [hmsl] at hvm
  subst hvn hvc hvm
  obtain ⟨h0, hS⟩ := SSt.start hz1 hb1 hx0 hx1 hx2 ⟨_, _, _, _, _, _, _, _, _, rfl, rfl, rfl⟩ hB4 hOW (hp.below hB4)
  have y0 := heap_row (i := 0) h0
  have y1 := heap_row (i := 1) h0
  have y2 := heap_row (i := 2) h0
  have f0 := frozen_of_row _ _ 0 _ _ h0
  have f1 := frozen_of_row _ _ 1 _ _ h0
  have f2 := frozen_of_row _ _ 2 _ _ h0
  obtain ⟨w5, hw5⟩ : ∃ w5, ((w4.setCell ⟨w.heap.size, 0, none⟩ (.slice an n2 cn)).setCell ⟨w.heap.size, 1, none⟩ (.slice ac n2 cc)).setCell ⟨w.heap.size, 2, none⟩ (.slice am n3 cm) = w5 := ⟨_, rfl⟩
  rw [hw5] at hS
  have HS := hide hS
  have HW5 := hide hw5
  have HL := hide (And.intro hns (And.intro hms (And.intro hnsl hmsl)))
  clear q0 q1 q2 hOW hns hms hB4 hz1 hb1 hx0 hx1 hx2 hp hn1 hn2 hn3 hnb htn hnsl hmsl h0 hS hw5 HO HX HW1
  go_upto_region 4 with fail
  rw [show ((w4.setCell ⟨w.heap.size, 0, none⟩ (.slice an n2 cn)).setCell ⟨w.heap.size, 1, none⟩ (.slice ac n2 cc)).setCell ⟨w.heap.size, 2, none⟩ (.slice am n3 cm) = w5 from unhide HW5]
  clear y0 y1 y2 f0 f1 f2 HW5
  have g0 := heap_row (i := 0) (unhide HS).b3
  have g1 := heap_row (i := 1) (unhide HS).b3
  have g2 := heap_row (i := 2) (unhide HS).b3
  have g3 := heap_row (i := 3) (unhide HS).b3
  have g4 := heap_row (i := 4) (unhide HS).b3
  simp only [(unhide HN).2.2.2.1, (unhide HN).2.2.2.2] at g3 g4
  have q0 := heap_row (i := 0) (unhide HS).b2
  have q1 := heap_row (i := 1) (unhide HS).b2
  have q2 := heap_row (i := 2) (unhide HS).b2
  have hkd := unhide HKD
  rw [(unhide HN).2.2.1] at hkd
  have hq := isP_false.1 hkd
  clear hkd HKD
  by_cases hd0 : xd < 0
  · clear hq
    go_wp2_with fail
    refine (unhide HFA _ _).mono ?_
    rintro e w9 ⟨rfl, hB9⟩
    have hS9 := (unhide HS).below hB9
    obtain ⟨p1, p2⟩ := hS9.fail
    have y0 := heap_row (i := 0) hS9.b4
    have y1 := heap_row (i := 1) hS9.b4
    have y2 := heap_row (i := 2) hS9.b4
    have f0 := frozen_of_row _ _ 0 _ _ hS9.b4
    have f1 := frozen_of_row _ _ 1 _ _ hS9.b4
    have f2 := frozen_of_row _ _ 2 _ _ hS9.b4
    have HP := hide p1
    have HBF := hide p2
    clear hS9 hB9 p1 p2
    go_wp2
    refine bodyPost_ret (v := .tuple #[.agg #[(.slice none 0 0), (.slice none 0 0), (.slice none 0 0)], .int .i64 5]) ?_ rfl ⟨_, rfl, WIn.no _, VFrom.no _ _, unhide HBF⟩
    exact results_wt rfl _ _ (w.heap.size + 2) _ _ rfl (wd_load (unhide HP)) rfl
  · have hd1 : (n3 : Int) ≤ xd := by omega
    clear hq
    go_wp2_with fail
    refine (unhide HFA _ _).mono ?_
    rintro e w9 ⟨rfl, hB9⟩
    have hS9 := (unhide HS).below hB9
    obtain ⟨p1, p2⟩ := hS9.fail
    have y0 := heap_row (i := 0) hS9.b4
    have y1 := heap_row (i := 1) hS9.b4
    have y2 := heap_row (i := 2) hS9.b4
    have f0 := frozen_of_row _ _ 0 _ _ hS9.b4
    have f1 := frozen_of_row _ _ 1 _ _ hS9.b4
    have f2 := frozen_of_row _ _ 2 _ _ hS9.b4
    have HP := hide p1
    have HBF := hide p2
    clear hS9 hB9 p1 p2
    go_wp2
    refine bodyPost_ret (v := .tuple #[.agg #[(.slice none 0 0), (.slice none 0 0), (.slice none 0 0)], .int .i64 5]) ?_ rfl ⟨_, rfl, WIn.no _, VFrom.no _ _, unhide HBF⟩
    exact results_wt rfl _ _ (w.heap.size + 2) _ _ rfl (wd_load (unhide HP)) rfl
set_option maxHeartbeats 8000000 in
theorem step_lose {w : World} {v : Value} {W : Wd} (p : Nat) (xn : Int) (nm bs : List UInt8) {ab : Option Addr} {cb : Nat} (h : WIn w v W) (hx : HpAt w ⟨5, xn, (p : Int), nm, bs⟩ ab cb) (hok : WdOk W) (hp : p < W.net.length) : Calls Tryz.prog 12 #[v, hpV ⟨5, xn, (p : Int), nm, bs⟩ ab cb] w (DoA w 0 (dropW p W)) := by
  have HKD := hide hp
  obtain ⟨V, hV⟩ : ∃ V, dropW p W = V := ⟨_, rfl⟩
  rw [hV]
  have HVV := hide hV
  clear hp hV
  obtain ⟨a1, c1, a2, c2, a3, c3, rfl, hat⟩ := h
  obtain ⟨n1, hn1⟩ : ∃ n1, W.nodes.length = n1 := ⟨_, rfl⟩
  obtain ⟨n2, hn2⟩ : ∃ n2, W.clock.length = n2 := ⟨_, rfl⟩
  obtain ⟨n3, hn3⟩ : ∃ n3, W.net.length = n3 := ⟨_, rfl⟩
  rw [hn1, hn2, hn3]
  obtain ⟨nb, hnb⟩ : ∃ nb, bs.length = nb := ⟨_, rfl⟩
  obtain ⟨tn, htn⟩ : ∃ tn, B nm = tn := ⟨_, rfl⟩
  obtain ⟨w1, hw1, hz1, hb1, hx0, hx1, hx2⟩ := three_boxes w (.slice a1 n1 c1) (.slice a2 n2 c2) (.slice a3 n3 c3) 5 xn (p:Int) tn (.slice ab nb cb)
  have HO := hide (ownW_wat a1 a2 a3 c1 c2 c3 W w1 (hat.below hb1) n1 n3 n2 hn1 hn2 hn3)
  have hpv : hpV ⟨5, xn, (p:Int), nm, bs⟩ ab cb = .agg #[.int .i64 5, .int .i64 xn, .int .i64 (p:Int), .string tn, .slice ab nb cb] := by unfold hpV; simp only [hnb, htn]
  rw [hpv]
  have hx1' : w1.heap[w.heap.size + 1]? = some (.cells #[.int .i64 (Hp.mk 5 xn (p:Int) nm bs).kind, .int .i64 (Hp.mk 5 xn (p:Int) nm bs).node, .int .i64 (Hp.mk 5 xn (p:Int) nm bs).dst, .string (B (Hp.mk 5 xn (p:Int) nm bs).name), .slice ab (Hp.mk 5 xn (p:Int) nm bs).bytes.length cb] 29 (0, 0)) := by simp only [hnb, htn]; exact hx1
  have q0 := heap_row (i := 0) hx0
  have q1 := heap_row (i := 1) hx0
  have q2 := heap_row (i := 2) hx0
  rw [← hw1] at q0 q1 q2 HO
  have HX := hide (And.intro hz1 (And.intro hb1 (And.intro hx0 (And.intro hx1' (And.intro hx2 (hx.below hb1))))))
  have HOK := hide hok
  have hlo := hok.lo
  have hhi := hok.hi
  have hcl := hok.cl
  have hnt := hok.nt
  rw [hn1] at hlo hhi hcl
  rw [hn2] at hcl
  rw [hn3] at hnt
  subst hcl
  have HN := hide (And.intro hn1 (And.intro hn2 (And.intro hn3 (And.intro hnb htn))))
  have HW1 := hide hw1
  have HFA := hide (fun (E : Int) (w : World) => fail1_any E w)
  clear hat hn1 hn2 hn3 hnb htn hw1 hz1 hb1 hx0 hx1 hx1' hx2 hpv hx hok
  go_enter Tryz.func12, Tryz.ntmps12
  go_wp2_with fail
  refine (unhide HO).mono ?_
  rintro e w4 ⟨vn, vc, vm, ns, ms, rfl, hOW, hns, hms, hB4⟩
  rw [show ((w.alloc (wbox (.slice a1 n2 c1) (.slice a2 n2 c2) (.slice a3 n3 c3))).alloc (hbox 5 xn (p:Int) tn (.slice ab nb cb))).alloc (wbox (.slice none 0 0) (.slice none 0 0) (.slice none 0 0)) = w1 from unhide HW1] at hB4 hOW
  obtain ⟨hz1, hb1, hx0, hx1, hx2, hp⟩ := unhide HX
  obtain ⟨hn1, hn2, hn3, hnb, htn⟩ := unhide HN
  obtain ⟨an, cn, hvn⟩ := hOW.n.sl
  obtain ⟨ac, cc, hvc⟩ := hOW.c.sl
  obtain ⟨am, cm, hvm⟩ := hOW.m.sl
  have hnsl : ns.length = n2 := by rw [← hn1, ← hns]; simp [lss]
  have hmsl : ms.length = n3 := by rw [← hn3, ← hms]; simp [mss]
  rw [hnsl] at hvn
  rw [hn2] at hvc
  rw [hmsl] at hvm
  subst hvn hvc hvm
  obtain ⟨h0, hS⟩ := SSt.start hz1 hb1 hx0 hx1 hx2 ⟨_, _, _, _, _, _, _, _, _, rfl, rfl, rfl⟩ hB4 hOW (hp.below hB4)
  have y0 := heap_row (i := 0) h0
  have y1 := heap_row (i := 1) h0
  have y2 := heap_row (i := 2) h0
  have f0 := frozen_of_row _ _ 0 _ _ h0
  have f1 := frozen_of_row _ _ 1 _ _ h0
  have f2 := frozen_of_row _ _ 2 _ _ h0
  obtain ⟨w5, hw5⟩ : ∃ w5, ((w4.setCell ⟨w.heap.size, 0, none⟩ (.slice an n2 cn)).setCell ⟨w.heap.size, 1, none⟩ (.slice ac n2 cc)).setCell ⟨w.heap.size, 2, none⟩ (.slice am n3 cm) = w5 := ⟨_, rfl⟩
  rw [hw5] at hS
  have HS := hide hS
  have HW5 := hide hw5
  have HL := hide (And.intro hns (And.intro hms (And.intro hnsl hmsl)))
  clear q0 q1 q2 hOW hns hms hB4 hz1 hb1 hx0 hx1 hx2 hp hn1 hn2 hn3 hnb htn hnsl hmsl h0 hS hw5 HO HX HW1
  go_upto_region 4 with fail
  rw [show ((w4.setCell ⟨w.heap.size, 0, none⟩ (.slice an n2 cn)).setCell ⟨w.heap.size, 1, none⟩ (.slice ac n2 cc)).setCell ⟨w.heap.size, 2, none⟩ (.slice am n3 cm) = w5 from unhide HW5]
  clear y0 y1 y2 f0 f1 f2 HW5
  have g0 := heap_row (i := 0) (unhide HS).b3
  have g1 := heap_row (i := 1) (unhide HS).b3
  have g2 := heap_row (i := 2) (unhide HS).b3
  have g3 := heap_row (i := 3) (unhide HS).b3
  have g4 := heap_row (i := 4) (unhide HS).b3
  simp only [(unhide HN).2.2.2.1, (unhide HN).2.2.2.2] at g3 g4
  have q0 := heap_row (i := 0) (unhide HS).b2
  have q1 := heap_row (i := 1) (unhide HS).b2
  have q2 := heap_row (i := 2) (unhide HS).b2
  have hpl := unhide HKD
  rw [(unhide HN).2.2.1] at hpl
  obtain ⟨gm, cpm, e⟩ := (unhide HS).ow.m.sm (by rw [(unhide HL).2.2.2]; omega)
  injection e with e1 e2 e3
  subst e1 e3
  have hcap : n3 ≤ cm := by
    rcases (unhide HS).ow.m.own.2 with ⟨h1, _⟩ | ⟨g', cap', cur, h1, _, _, h4, _⟩
    · cases h1
    · injection h1 with _ h0 h1; omega
  have hp0 : ¬ (p : Int) < 0 := by omega
  have hp1 : ¬ (n3 : Int) ≤ (p : Int) := by omega
  have HCUT := hide (fun W => sl_cut gm n3 cm p (by omega) hcap W)
  obtain ⟨ad, had⟩ : ∃ ad : Addr, (if cm = p + 1 then (⟨gm, 0, none⟩ : Addr) else ⟨gm, (p + 1) * 2, none⟩) = ad := ⟨_, rfl⟩
  have HAD := hide had
  have hwr : IntKind.i64.wrap ((p : Int) + 1) = (p : Int) + 1 := by rw [IntKind.wrap_i64]; omega
  have HPAST : Hid (∀ W : World, (Instr.slice 24 (.slice (some ⟨gm, 0, none⟩) n3 cm) (some (.int .i64 ((p : Int) + 1))) none none).run Tryz.prog W = .ok (.slice (some ad) (n3 - (p + 1)) (cm - (p + 1))) W) := hide (fun W => by rw [← had]; exact sl_past gm n3 cm (p + 1) (by omega) hcap W)
  have HML : Hid ((mss ms).length = n3) := hide (by unfold mss; rw [List.length_map]; exact (unhide HL).2.2.2)
  have HVW : Hid ((⟨lss ns, W.clock, (mss ms).eraseIdx p⟩ : Wd) = V) := hide (by rw [(unhide HL).1, (unhide HL).2.1]; exact unhide HVV)
  have HSD : Hid (SSt w w5.drew (.slice an n2 cn) (.slice ac n2 cc) (.slice (some ⟨gm, 0, none⟩) n3 cm) ns W.clock ms ⟨5, xn, (p : Int), nm, bs⟩ ab cb) := hide ((unhide HS).below (below_drewN (Below.refl _ _) 1))
  clear HKD e2 had
  go_upto_region 49 with fail
  have HLE : Hid (ns.length ≤ 1000 ∧ W.clock.length ≤ 1000) := hide ⟨by rw [(unhide HL).2.2.1]; omega, by rw [(unhide HN).2.1]; omega⟩
  clear g0 g1 g2 g3 g4 q0 q1
  replace q2 : w5.drew.cell? ⟨w.heap.size, 2, none⟩ = some (.slice (some ⟨gm, 0, none⟩) n3 cm) := q2
  refine wp_region_held_drew (S := fun W => W.heap[w.heap.size + 1]? = some (.cells #[.int .i64 5, .int .i64 xn, .int .i64 (p : Int), .string (B nm), .slice ab bs.length cb] 29 (0, 0))) (by kernel_rfl) (unhide HSD).b3 (fun hHeld => ?_)
  refine wpAnyH_take (i := 0) (v := .pointer (some ⟨w.heap.size, 2, none⟩)) rfl (by kernel_rfl) (by kernel_rfl) (by kernel_rfl) (fun _ _ _ h => h) (Or.inl ⟨by rfl, fun W hS => by go_simp⟩) hHeld ?_
  simp only [Act.put, List.setIfInBounds_toArray, List.set_cons_zero, List.set_cons_succ]
  refine wpAnyH_take (i := 2) (v := .pointer (some ⟨w.heap.size + 1, 2, none⟩)) rfl (by kernel_rfl) (by kernel_rfl) (by kernel_rfl) (fun _ _ _ h => h) (Or.inl ⟨by rfl, fun W hS => by go_simp⟩) hHeld ?_
  simp only [Act.put, List.setIfInBounds_toArray, List.set_cons_zero, List.set_cons_succ]
  refine wpAnyH_take (i := 3) (v := .int .i64 (p : Int)) rfl (by kernel_rfl) (by kernel_rfl) (by kernel_rfl) (fun _ _ _ h => h) (Or.inl ⟨by rfl, fun W hS => by have z := heap_row (i := 2) hS; go_simp⟩) hHeld ?_
  simp only [Act.put, List.setIfInBounds_toArray, List.set_cons_zero, List.set_cons_succ]
  refine wpAnyH_take (i := 4) (v := .pointer (some ⟨w.heap.size + 1, 2, none⟩)) rfl (by kernel_rfl) (by kernel_rfl) (by kernel_rfl) (fun _ _ _ h => h) (Or.inl ⟨by rfl, fun W hS => by go_simp⟩) hHeld ?_
  simp only [Act.put, List.setIfInBounds_toArray, List.set_cons_zero, List.set_cons_succ]
  refine wpAnyH_take (i := 5) (v := .int .i64 (p : Int)) rfl (by kernel_rfl) (by kernel_rfl) (by kernel_rfl) (fun _ _ _ h => h) (Or.inl ⟨by rfl, fun W hS => by have z := heap_row (i := 2) hS; go_simp⟩) hHeld ?_
  simp only [Act.put, List.setIfInBounds_toArray, List.set_cons_zero, List.set_cons_succ]
  refine wpAnyH_take (i := 7) (v := .pointer (some ⟨w.heap.size, 2, none⟩)) rfl (by kernel_rfl) (by kernel_rfl) (by kernel_rfl) (fun _ _ _ h => h) (Or.inl ⟨by rfl, fun W hS => by go_simp⟩) hHeld ?_
  simp only [Act.put, List.setIfInBounds_toArray, List.set_cons_zero, List.set_cons_succ]
  refine wpAnyH_take (i := 9) (v := .pointer (some ⟨w.heap.size + 1, 2, none⟩)) rfl (by kernel_rfl) (by kernel_rfl) (by kernel_rfl) (fun _ _ _ h => h) (Or.inl ⟨by rfl, fun W hS => by go_simp⟩) hHeld ?_
  simp only [Act.put, List.setIfInBounds_toArray, List.set_cons_zero, List.set_cons_succ]
  refine wpAnyH_take (i := 10) (v := .int .i64 (p : Int)) rfl (by kernel_rfl) (by kernel_rfl) (by kernel_rfl) (fun _ _ _ h => h) (Or.inl ⟨by rfl, fun W hS => by have z := heap_row (i := 2) hS; go_simp⟩) hHeld ?_
  simp only [Act.put, List.setIfInBounds_toArray, List.set_cons_zero, List.set_cons_succ]
  refine wpAnyH_take (i := 11) (v := .int .i64 ((p : Int) + 1)) rfl (by kernel_rfl) (by kernel_rfl) (by kernel_rfl) (fun _ _ _ h => h) (Or.inl ⟨by rfl, fun W hS => by go_simp⟩) hHeld ?_
  simp only [Act.put, List.setIfInBounds_toArray, List.set_cons_zero, List.set_cons_succ]
  refine wpAnyH_ready (rs := [1, 8]) (by kernel_rfl) (by simp) (AllReadyH.cons rfl (fun K hK => ?_) (AllReadyH.cons rfl (fun K hK => ?_) AllReadyH.nil))
  · go_simp
    refine hK.out _ _ hHeld (fun hHeld => ?_)
    clear hK K
    refine wpAnyH_take (i := 6) (v := .slice (some ⟨gm, 0, none⟩) p p) rfl (by kernel_rfl) (by kernel_rfl) (by kernel_rfl) (fun _ _ _ h => h) (Or.inl ⟨by rfl, fun W hS => by have z := unhide HCUT W; go_simp⟩) hHeld ?_
    simp only [Act.put, List.setIfInBounds_toArray, List.set_cons_zero, List.set_cons_succ]
    refine wpAnyH_ready (rs := [8]) (by kernel_rfl) (by simp) (AllReadyH.cons rfl (fun K hK => ?_) AllReadyH.nil)
    go_simp
    refine hK.out _ _ hHeld (fun hHeld => ?_)
    clear hK K
    refine wpAnyH_take (i := 12) (v := .slice (some ad) (n3 - (p + 1)) (cm - (p + 1))) rfl (by kernel_rfl) (by kernel_rfl) (by kernel_rfl) (fun _ _ _ h => h) (Or.inl ⟨by rfl, fun W hS => by have z := unhide HPAST W; go_simp⟩) hHeld ?_
    simp only [Act.put, List.setIfInBounds_toArray, List.set_cons_zero, List.set_cons_succ]
    have hrow := (unhide HSD).ow.m
    rw [(unhide HL).2.2.2] at hrow
    obtain ⟨aa, ca, w6, hr, hM6, hB6, hf6⟩ := app_cut w5.drew 24 (k := p) hrow (unhide HSD).ow.ma (unhide HL).2.2.2 hpl (by omega) (by have := (unhide HSD).lt; omega)
    rw [unhide HAD] at hr
    have hSA := (unhide HSD).cut (unhide HLE).1 (unhide HLE).2 hB6 hM6 (n := n3 - 1) (by rw [List.length_eraseIdx, unhide HML, if_pos hpl]) hf6
    rw [unhide HVW] at hSA
    have hSw := (unhide HSD).below hB6
    have z2 := heap_row (i := 2) hSw.b2
    have zf := frozen_of_row _ _ 2 _ _ hSw.b2
    have hSv : w6.heap[w.heap.size + 1]? = some (.cells #[.int .i64 5, .int .i64 xn, .int .i64 (p : Int), .string (B nm), .slice ab bs.length cb] 29 (0, 0)) := hSw.b3
    have HR7 : Hid ((w6.setCell ⟨w.heap.size, 2, none⟩ (.slice aa (n3 - 1) ca)).heap[w.heap.size + 1]? = some (.cells #[.int .i64 5, .int .i64 xn, .int .i64 (p : Int), .string (B nm), .slice ab bs.length cb] 29 (0, 0))) := hide ((Below.heap_setCell w6 _ _ _ (by show w.heap.size + 1 ≠ w.heap.size; omega)).trans hSv)
    have HSA := hide hSA
    clear hrow hM6 hB6 hf6 hSA hSw
    refine wpAnyH_ready (rs := [13]) (by kernel_rfl) (by simp) (AllReadyH.cons rfl (fun K hK => ?_) AllReadyH.nil)
    rw [if_pos (by rfl)]
    refine wp_append_run (.tmp 295) (.tmp 301) 24 rfl rfl rfl hr ?_
    refine hK.out _ _ hSv (fun hHeld => ?_)
    clear hK K hr hSv
    simp only [Act.put, List.setIfInBounds_toArray, List.set_cons_zero, List.set_cons_succ]
    refine wpAnyH_take (i := 14) (v := .pointer (some ⟨w.heap.size, 2, none⟩)) rfl (by kernel_rfl) (by kernel_rfl) (by kernel_rfl) (fun _ _ _ h => h) (Or.inl ⟨by rfl, fun W hS => by go_simp⟩) hHeld ?_
    simp only [Act.put, List.setIfInBounds_toArray, List.set_cons_zero, List.set_cons_succ]
    refine wpAnyH_ready (rs := [15]) (by kernel_rfl) (by simp) (AllReadyH.cons rfl (fun K hK => ?_) AllReadyH.nil)
    go_simp
    refine hK.out _ _ (unhide HR7) (fun _ => ?_)
    clear hK K hHeld
    refine wpAnyH_done (by kernel_rfl) ?_ _
    obtain ⟨w8, hw8⟩ : ∃ w8, w6.setCell ⟨w.heap.size, 2, none⟩ (.slice aa (n3 - 1) ca) = w8 := ⟨_, rfl⟩
    rw [hw8] at HSA ⊢
    clear z2 zf hw8 HR7
    have hSA := unhide HSA
    obtain ⟨p1, p2, p3, p4⟩ := hSA.answer
    have q0 := heap_row (i := 0) hSA.b2
    have q1 := heap_row (i := 1) hSA.b2
    have q2 := heap_row (i := 2) hSA.b2
    have y0 := heap_row (i := 0) hSA.b4
    have y1 := heap_row (i := 1) hSA.b4
    have y2 := heap_row (i := 2) hSA.b4
    have f0 := frozen_of_row _ _ 0 _ _ hSA.b4
    have f1 := frozen_of_row _ _ 1 _ _ hSA.b4
    have f2 := frozen_of_row _ _ 2 _ _ hSA.b4
    have HP := hide p1
    have HAN := hide (And.intro p2 (And.intro p3 p4))
    clear hSA p1 p2 p3 p4
    go_wp2
    refine bodyPost_ret (v := .tuple #[.agg #[_, _, _], .int .i64 0]) ?_ rfl ⟨_, rfl, (unhide HAN).1, (unhide HAN).2.1, (unhide HAN).2.2⟩
    exact results_wt rfl _ _ (w.heap.size + 2) _ _ rfl (wd_load (unhide HP)) rfl
  · go_simp
    refine hK.out _ _ hHeld (fun hHeld => ?_)
    clear hK K
    refine wpAnyH_take (i := 12) (v := .slice (some ad) (n3 - (p + 1)) (cm - (p + 1))) rfl (by kernel_rfl) (by kernel_rfl) (by kernel_rfl) (fun _ _ _ h => h) (Or.inl ⟨by rfl, fun W hS => by have z := unhide HPAST W; go_simp⟩) hHeld ?_
    simp only [Act.put, List.setIfInBounds_toArray, List.set_cons_zero, List.set_cons_succ]
    refine wpAnyH_ready (rs := [1]) (by kernel_rfl) (by simp) (AllReadyH.cons rfl (fun K hK => ?_) AllReadyH.nil)
    go_simp
    refine hK.out _ _ hHeld (fun hHeld => ?_)
    clear hK K
    refine wpAnyH_take (i := 6) (v := .slice (some ⟨gm, 0, none⟩) p p) rfl (by kernel_rfl) (by kernel_rfl) (by kernel_rfl) (fun _ _ _ h => h) (Or.inl ⟨by rfl, fun W hS => by have z := unhide HCUT W; go_simp⟩) hHeld ?_
    simp only [Act.put, List.setIfInBounds_toArray, List.set_cons_zero, List.set_cons_succ]
    have hrow := (unhide HSD).ow.m
    rw [(unhide HL).2.2.2] at hrow
    obtain ⟨aa, ca, w6, hr, hM6, hB6, hf6⟩ := app_cut w5.drew 24 (k := p) hrow (unhide HSD).ow.ma (unhide HL).2.2.2 hpl (by omega) (by have := (unhide HSD).lt; omega)
    rw [unhide HAD] at hr
    have hSA := (unhide HSD).cut (unhide HLE).1 (unhide HLE).2 hB6 hM6 (n := n3 - 1) (by rw [List.length_eraseIdx, unhide HML, if_pos hpl]) hf6
    rw [unhide HVW] at hSA
    have hSw := (unhide HSD).below hB6
    have z2 := heap_row (i := 2) hSw.b2
    have zf := frozen_of_row _ _ 2 _ _ hSw.b2
    have hSv : w6.heap[w.heap.size + 1]? = some (.cells #[.int .i64 5, .int .i64 xn, .int .i64 (p : Int), .string (B nm), .slice ab bs.length cb] 29 (0, 0)) := hSw.b3
    have HR7 : Hid ((w6.setCell ⟨w.heap.size, 2, none⟩ (.slice aa (n3 - 1) ca)).heap[w.heap.size + 1]? = some (.cells #[.int .i64 5, .int .i64 xn, .int .i64 (p : Int), .string (B nm), .slice ab bs.length cb] 29 (0, 0))) := hide ((Below.heap_setCell w6 _ _ _ (by show w.heap.size + 1 ≠ w.heap.size; omega)).trans hSv)
    have HSA := hide hSA
    clear hrow hM6 hB6 hf6 hSA hSw
    refine wpAnyH_ready (rs := [13]) (by kernel_rfl) (by simp) (AllReadyH.cons rfl (fun K hK => ?_) AllReadyH.nil)
    rw [if_pos (by rfl)]
    refine wp_append_run (.tmp 295) (.tmp 301) 24 rfl rfl rfl hr ?_
    refine hK.out _ _ hSv (fun hHeld => ?_)
    clear hK K hr hSv
    simp only [Act.put, List.setIfInBounds_toArray, List.set_cons_zero, List.set_cons_succ]
    refine wpAnyH_take (i := 14) (v := .pointer (some ⟨w.heap.size, 2, none⟩)) rfl (by kernel_rfl) (by kernel_rfl) (by kernel_rfl) (fun _ _ _ h => h) (Or.inl ⟨by rfl, fun W hS => by go_simp⟩) hHeld ?_
    simp only [Act.put, List.setIfInBounds_toArray, List.set_cons_zero, List.set_cons_succ]
    refine wpAnyH_ready (rs := [15]) (by kernel_rfl) (by simp) (AllReadyH.cons rfl (fun K hK => ?_) AllReadyH.nil)
    go_simp
    refine hK.out _ _ (unhide HR7) (fun _ => ?_)
    clear hK K hHeld
    refine wpAnyH_done (by kernel_rfl) ?_ _
    obtain ⟨w8, hw8⟩ : ∃ w8, w6.setCell ⟨w.heap.size, 2, none⟩ (.slice aa (n3 - 1) ca) = w8 := ⟨_, rfl⟩
    rw [hw8] at HSA ⊢
    clear z2 zf hw8 HR7
    have hSA := unhide HSA
    obtain ⟨p1, p2, p3, p4⟩ := hSA.answer
    have q0 := heap_row (i := 0) hSA.b2
    have q1 := heap_row (i := 1) hSA.b2
    have q2 := heap_row (i := 2) hSA.b2
    have y0 := heap_row (i := 0) hSA.b4
    have y1 := heap_row (i := 1) hSA.b4
    have y2 := heap_row (i := 2) hSA.b4
    have f0 := frozen_of_row _ _ 0 _ _ hSA.b4
    have f1 := frozen_of_row _ _ 1 _ _ hSA.b4
    have f2 := frozen_of_row _ _ 2 _ _ hSA.b4
    have HP := hide p1
    have HAN := hide (And.intro p2 (And.intro p3 p4))
    clear hSA p1 p2 p3 p4
    go_wp2
    refine bodyPost_ret (v := .tuple #[.agg #[_, _, _], .int .i64 0]) ?_ rfl ⟨_, rfl, (unhide HAN).1, (unhide HAN).2.1, (unhide HAN).2.2⟩
    exact results_wt rfl _ _ (w.heap.size + 2) _ _ rfl (wd_load (unhide HP)) rfl
set_option maxHeartbeats 4000000 in
theorem step_dbl_full {w : World} {v : Value} {W : Wd} (p : Nat) (xn : Int) (nm bs : List UInt8) {ab : Option Addr} {cb : Nat} (h : WIn w v W) (hx : HpAt w ⟨6, xn, (p : Int), nm, bs⟩ ab cb) (hok : WdOk W) (hp : p < W.net.length) (hf : W.net.length = 20) : Calls Tryz.prog 12 #[v, hpV ⟨6, xn, (p : Int), nm, bs⟩ ab cb] w (DoA w 11 noW) := by
  have HKD := hide (And.intro hp hf)
  clear hp hf
  obtain ⟨a1, c1, a2, c2, a3, c3, rfl, hat⟩ := h
  obtain ⟨n1, hn1⟩ : ∃ n1, W.nodes.length = n1 := ⟨_, rfl⟩
  obtain ⟨n2, hn2⟩ : ∃ n2, W.clock.length = n2 := ⟨_, rfl⟩
  obtain ⟨n3, hn3⟩ : ∃ n3, W.net.length = n3 := ⟨_, rfl⟩
  rw [hn1, hn2, hn3]
  obtain ⟨nb, hnb⟩ : ∃ nb, bs.length = nb := ⟨_, rfl⟩
  obtain ⟨tn, htn⟩ : ∃ tn, B nm = tn := ⟨_, rfl⟩
  obtain ⟨w1, hw1, hz1, hb1, hx0, hx1, hx2⟩ := three_boxes w (.slice a1 n1 c1) (.slice a2 n2 c2) (.slice a3 n3 c3) 6 xn (p:Int) tn (.slice ab nb cb)
  have HO := hide (ownW_wat a1 a2 a3 c1 c2 c3 W w1 (hat.below hb1) n1 n3 n2 hn1 hn2 hn3)
  have hpv : hpV ⟨6, xn, (p:Int), nm, bs⟩ ab cb = .agg #[.int .i64 6, .int .i64 xn, .int .i64 (p:Int), .string tn, .slice ab nb cb] := by unfold hpV; simp only [hnb, htn]
  rw [hpv]
  have hx1' : w1.heap[w.heap.size + 1]? = some (.cells #[.int .i64 (Hp.mk 6 xn (p:Int) nm bs).kind, .int .i64 (Hp.mk 6 xn (p:Int) nm bs).node, .int .i64 (Hp.mk 6 xn (p:Int) nm bs).dst, .string (B (Hp.mk 6 xn (p:Int) nm bs).name), .slice ab (Hp.mk 6 xn (p:Int) nm bs).bytes.length cb] 29 (0, 0)) := by simp only [hnb, htn]; exact hx1
  have q0 := heap_row (i := 0) hx0
  have q1 := heap_row (i := 1) hx0
  have q2 := heap_row (i := 2) hx0
  rw [← hw1] at q0 q1 q2 HO
  have HX := hide (And.intro hz1 (And.intro hb1 (And.intro hx0 (And.intro hx1' (And.intro hx2 (hx.below hb1))))))
  have HOK := hide hok
  have hlo := hok.lo
  have hhi := hok.hi
  have hcl := hok.cl
  have hnt := hok.nt
  rw [hn1] at hlo hhi hcl
  rw [hn2] at hcl
  rw [hn3] at hnt
  subst hcl
  have HN := hide (And.intro hn1 (And.intro hn2 (And.intro hn3 (And.intro hnb htn))))
  have HW1 := hide hw1
  have HFA := hide (fun (E : Int) (w : World) => fail1_any E w)
  clear hat hn1 hn2 hn3 hnb htn hw1 hz1 hb1 hx0 hx1 hx1' hx2 hpv hx hok
  go_enter Tryz.func12, Tryz.ntmps12
  go_wp2_with fail
  refine (unhide HO).mono ?_
  rintro e w4 ⟨vn, vc, vm, ns, ms, rfl, hOW, hns, hms, hB4⟩
  rw [show ((w.alloc (wbox (.slice a1 n2 c1) (.slice a2 n2 c2) (.slice a3 n3 c3))).alloc (hbox 6 xn (p:Int) tn (.slice ab nb cb))).alloc (wbox (.slice none 0 0) (.slice none 0 0) (.slice none 0 0)) = w1 from unhide HW1] at hB4 hOW
  obtain ⟨hz1, hb1, hx0, hx1, hx2, hp⟩ := unhide HX
  obtain ⟨hn1, hn2, hn3, hnb, htn⟩ := unhide HN
  obtain ⟨an, cn, hvn⟩ := hOW.n.sl
  obtain ⟨ac, cc, hvc⟩ := hOW.c.sl
  obtain ⟨am, cm, hvm⟩ := hOW.m.sl
  have hnsl : ns.length = n2 := by rw [← hn1, ← hns]; simp [lss]
  have hmsl : ms.length = n3 := by rw [← hn3, ← hms]; simp [mss]
  rw [hnsl] at hvn
  rw [hn2] at hvc
  rw [hmsl] at hvm
  subst hvn hvc hvm
  obtain ⟨h0, hS⟩ := SSt.start hz1 hb1 hx0 hx1 hx2 ⟨_, _, _, _, _, _, _, _, _, rfl, rfl, rfl⟩ hB4 hOW (hp.below hB4)
  have y0 := heap_row (i := 0) h0
  have y1 := heap_row (i := 1) h0
  have y2 := heap_row (i := 2) h0
  have f0 := frozen_of_row _ _ 0 _ _ h0
  have f1 := frozen_of_row _ _ 1 _ _ h0
  have f2 := frozen_of_row _ _ 2 _ _ h0
  obtain ⟨w5, hw5⟩ : ∃ w5, ((w4.setCell ⟨w.heap.size, 0, none⟩ (.slice an n2 cn)).setCell ⟨w.heap.size, 1, none⟩ (.slice ac n2 cc)).setCell ⟨w.heap.size, 2, none⟩ (.slice am n3 cm) = w5 := ⟨_, rfl⟩
  rw [hw5] at hS
  have HS := hide hS
  have HW5 := hide hw5
  have HL := hide (And.intro hns (And.intro hms (And.intro hnsl hmsl)))
  clear q0 q1 q2 hOW hns hms hB4 hz1 hb1 hx0 hx1 hx2 hp hn1 hn2 hn3 hnb htn hnsl hmsl h0 hS hw5 HO HX HW1
  go_upto_region 4 with fail
  rw [show ((w4.setCell ⟨w.heap.size, 0, none⟩ (.slice an n2 cn)).setCell ⟨w.heap.size, 1, none⟩ (.slice ac n2 cc)).setCell ⟨w.heap.size, 2, none⟩ (.slice am n3 cm) = w5 from unhide HW5]
  clear y0 y1 y2 f0 f1 f2 HW5
  have g0 := heap_row (i := 0) (unhide HS).b3
  have g1 := heap_row (i := 1) (unhide HS).b3
  have g2 := heap_row (i := 2) (unhide HS).b3
  have g3 := heap_row (i := 3) (unhide HS).b3
  have g4 := heap_row (i := 4) (unhide HS).b3
  simp only [(unhide HN).2.2.2.1, (unhide HN).2.2.2.2] at g3 g4
  have q0 := heap_row (i := 0) (unhide HS).b2
  have q1 := heap_row (i := 1) (unhide HS).b2
  have q2 := heap_row (i := 2) (unhide HS).b2
  obtain ⟨hpl, hf⟩ := unhide HKD
  rw [(unhide HN).2.2.1] at hf hpl
  clear HKD
  subst hf
  have hp0 : ¬ (p : Int) < 0 := by omega
  have hp1 : ¬ (20 : Int) ≤ (p : Int) := by omega
  go_wp2_with fail
  refine (unhide HFA _ _).mono ?_
  rintro e w9 ⟨rfl, hB9⟩
  have hS9 := (unhide HS).below hB9
  obtain ⟨p1, p2⟩ := hS9.fail
  have y0 := heap_row (i := 0) hS9.b4
  have y1 := heap_row (i := 1) hS9.b4
  have y2 := heap_row (i := 2) hS9.b4
  have f0 := frozen_of_row _ _ 0 _ _ hS9.b4
  have f1 := frozen_of_row _ _ 1 _ _ hS9.b4
  have f2 := frozen_of_row _ _ 2 _ _ hS9.b4
  have HP := hide p1
  have HBF := hide p2
  clear hS9 hB9 p1 p2
  go_wp2
  refine bodyPost_ret (v := .tuple #[.agg #[(.slice none 0 0), (.slice none 0 0), (.slice none 0 0)], .int .i64 11]) ?_ rfl ⟨_, rfl, WIn.no _, VFrom.no _ _, unhide HBF⟩
  exact results_wt rfl _ _ (w.heap.size + 2) _ _ rfl (wd_load (unhide HP)) rfl
theorem mrow_of {ms : List Mv} {L : List Ms} {k : Nat} {m : Ms} (h : mss ms = L) (hk : L[k]? = some m) : ∃ y, ms[k]? = some y ∧ y ∈ ms ∧ y.m = m := by
  subst h
  unfold mss at hk
  rw [List.getElem?_map] at hk
  obtain ⟨x, hx, rfl⟩ := Option.map_eq_some_iff.1 hk
  exact ⟨x, hx, List.mem_of_getElem? hx, rfl⟩
theorem TRow.at2 {w : World} {B n g cap k : Nat} {ms : List Mv} {y : Mv} (h : TRow w B 54 2 (.slice (some ⟨g, 0, none⟩) n cap) n (mcells ms)) (hk : k < n) (hy : ms[k]? = some y) : w.cell? ⟨g, k * 2, none⟩ = some (.int .i64 y.m.dst) ∧ w.cell? ⟨g, k * 2 + 1, none⟩ = some y.sl := by
  refine ⟨?_, ?_⟩
  · have := h.own.cellAt (k * 2) (by omega)
    rw [this, ← Nat.add_zero (k * 2), mcells_at ms k y 0 hy (by decide)]
    rfl
  · rw [h.own.cellAt (k * 2 + 1) (by omega), mcells_at ms k y 1 hy (by decide)]
    rfl
set_option maxHeartbeats 8000000 in
theorem step_dbl {w : World} {v : Value} {W : Wd} (p : Nat) (xn : Int) (nm bs : List UInt8) {ab : Option Addr} {cb : Nat} (h : WIn w v W) (hx : HpAt w ⟨6, xn, (p : Int), nm, bs⟩ ab cb) (hok : WdOk W) (hp : p < W.net.length) (hf : W.net.length ≠ 20) (m : Ms) (hm : W.net[p]? = some m) : Calls Tryz.prog 12 #[v, hpV ⟨6, xn, (p : Int), nm, bs⟩ ab cb] w (DoA w 0 (passW m W)) := by
  have HKD := hide (And.intro hp (And.intro hf hm))
  obtain ⟨V, hV⟩ : ∃ V, passW m W = V := ⟨_, rfl⟩
  rw [hV]
  have HVV := hide hV
  clear hp hV hf hm
  obtain ⟨a1, c1, a2, c2, a3, c3, rfl, hat⟩ := h
  obtain ⟨n1, hn1⟩ : ∃ n1, W.nodes.length = n1 := ⟨_, rfl⟩
  obtain ⟨n2, hn2⟩ : ∃ n2, W.clock.length = n2 := ⟨_, rfl⟩
  obtain ⟨n3, hn3⟩ : ∃ n3, W.net.length = n3 := ⟨_, rfl⟩
  rw [hn1, hn2, hn3]
  obtain ⟨nb, hnb⟩ : ∃ nb, bs.length = nb := ⟨_, rfl⟩
  obtain ⟨tn, htn⟩ : ∃ tn, B nm = tn := ⟨_, rfl⟩
  obtain ⟨w1, hw1, hz1, hb1, hx0, hx1, hx2⟩ := three_boxes w (.slice a1 n1 c1) (.slice a2 n2 c2) (.slice a3 n3 c3) 6 xn (p:Int) tn (.slice ab nb cb)
  have HO := hide (ownW_wat a1 a2 a3 c1 c2 c3 W w1 (hat.below hb1) n1 n3 n2 hn1 hn2 hn3)
  have hpv : hpV ⟨6, xn, (p:Int), nm, bs⟩ ab cb = .agg #[.int .i64 6, .int .i64 xn, .int .i64 (p:Int), .string tn, .slice ab nb cb] := by unfold hpV; simp only [hnb, htn]
  rw [hpv]
  have hx1' : w1.heap[w.heap.size + 1]? = some (.cells #[.int .i64 (Hp.mk 6 xn (p:Int) nm bs).kind, .int .i64 (Hp.mk 6 xn (p:Int) nm bs).node, .int .i64 (Hp.mk 6 xn (p:Int) nm bs).dst, .string (B (Hp.mk 6 xn (p:Int) nm bs).name), .slice ab (Hp.mk 6 xn (p:Int) nm bs).bytes.length cb] 29 (0, 0)) := by simp only [hnb, htn]; exact hx1
  have q0 := heap_row (i := 0) hx0
  have q1 := heap_row (i := 1) hx0
  have q2 := heap_row (i := 2) hx0
  rw [← hw1] at q0 q1 q2 HO
  have HX := hide (And.intro hz1 (And.intro hb1 (And.intro hx0 (And.intro hx1' (And.intro hx2 (hx.below hb1))))))
  have HOK := hide hok
  have hlo := hok.lo
  have hhi := hok.hi
  have hcl := hok.cl
  have hnt := hok.nt
  rw [hn1] at hlo hhi hcl
  rw [hn2] at hcl
  rw [hn3] at hnt
  subst hcl
  have HN := hide (And.intro hn1 (And.intro hn2 (And.intro hn3 (And.intro hnb htn))))
  have HW1 := hide hw1
  have HFA := hide (fun (E : Int) (w : World) => fail1_any E w)
  clear hat hn1 hn2 hn3 hnb htn hw1 hz1 hb1 hx0 hx1 hx1' hx2 hpv hx hok
  go_enter Tryz.func12, Tryz.ntmps12
  go_wp2_with fail
  refine (unhide HO).mono ?_
  rintro e w4 ⟨vn, vc, vm, ns, ms, rfl, hOW, hns, hms, hB4⟩
  rw [show ((w.alloc (wbox (.slice a1 n2 c1) (.slice a2 n2 c2) (.slice a3 n3 c3))).alloc (hbox 6 xn (p:Int) tn (.slice ab nb cb))).alloc (wbox (.slice none 0 0) (.slice none 0 0) (.slice none 0 0)) = w1 from unhide HW1] at hB4 hOW
  obtain ⟨hz1, hb1, hx0, hx1, hx2, hp⟩ := unhide HX
  obtain ⟨hn1, hn2, hn3, hnb, htn⟩ := unhide HN
  obtain ⟨an, cn, hvn⟩ := hOW.n.sl
  obtain ⟨ac, cc, hvc⟩ := hOW.c.sl
  obtain ⟨am, cm, hvm⟩ := hOW.m.sl
  have hnsl : ns.length = n2 := by rw [← hn1, ← hns]; simp [lss]
  have hmsl : ms.length = n3 := by rw [← hn3, ← hms]; simp [mss]
  rw [hnsl] at hvn
  rw [hn2] at hvc
  rw [hmsl] at hvm
  subst hvn hvc hvm
  obtain ⟨h0, hS⟩ := SSt.start hz1 hb1 hx0 hx1 hx2 ⟨_, _, _, _, _, _, _, _, _, rfl, rfl, rfl⟩ hB4 hOW (hp.below hB4)
  have y0 := heap_row (i := 0) h0
  have y1 := heap_row (i := 1) h0
  have y2 := heap_row (i := 2) h0
  have f0 := frozen_of_row _ _ 0 _ _ h0
  have f1 := frozen_of_row _ _ 1 _ _ h0
  have f2 := frozen_of_row _ _ 2 _ _ h0
  obtain ⟨w5, hw5⟩ : ∃ w5, ((w4.setCell ⟨w.heap.size, 0, none⟩ (.slice an n2 cn)).setCell ⟨w.heap.size, 1, none⟩ (.slice ac n2 cc)).setCell ⟨w.heap.size, 2, none⟩ (.slice am n3 cm) = w5 := ⟨_, rfl⟩
  rw [hw5] at hS
  have HS := hide hS
  have HW5 := hide hw5
  have HL := hide (And.intro hns (And.intro hms (And.intro hnsl hmsl)))
  clear q0 q1 q2 hOW hns hms hB4 hz1 hb1 hx0 hx1 hx2 hp hn1 hn2 hn3 hnb htn hnsl hmsl h0 hS hw5 HO HX HW1
  go_upto_region 4 with fail
  rw [show ((w4.setCell ⟨w.heap.size, 0, none⟩ (.slice an n2 cn)).setCell ⟨w.heap.size, 1, none⟩ (.slice ac n2 cc)).setCell ⟨w.heap.size, 2, none⟩ (.slice am n3 cm) = w5 from unhide HW5]
  clear y0 y1 y2 f0 f1 f2 HW5
  have g0 := heap_row (i := 0) (unhide HS).b3
  have g1 := heap_row (i := 1) (unhide HS).b3
  have g2 := heap_row (i := 2) (unhide HS).b3
  have g3 := heap_row (i := 3) (unhide HS).b3
  have g4 := heap_row (i := 4) (unhide HS).b3
  simp only [(unhide HN).2.2.2.1, (unhide HN).2.2.2.2] at g3 g4
  have q0 := heap_row (i := 0) (unhide HS).b2
  have q1 := heap_row (i := 1) (unhide HS).b2
  have q2 := heap_row (i := 2) (unhide HS).b2
  obtain ⟨hpl, hf, hm⟩ := unhide HKD
  rw [(unhide HN).2.2.1] at hpl hf
  have hfI : ¬ (n3 : Int) = 20 := by omega
  have hfB : ((n3 : Int) == 20) = false := by simpa using hfI
  obtain ⟨gm, cpm, e⟩ := (unhide HS).ow.m.sm (by rw [(unhide HL).2.2.2]; omega)
  injection e with e1 e2 e3
  subst e1 e3
  have hp0 : ¬ (p : Int) < 0 := by omega
  have hp1 : ¬ (n3 : Int) ≤ (p : Int) := by omega
  have hp2 : (0 : Int) ≤ (p : Int) := by omega
  have hp3 : (p : Int) < (n3 : Int) := by omega
  obtain ⟨y, hy, hym, hyl⟩ := mrow_of (unhide HL).2.1 hm
  have hrow := (unhide HS).ow.m
  rw [(unhide HL).2.2.2] at hrow
  obtain ⟨c0, c1⟩ := hrow.at2 hpl hy
  obtain ⟨⟨d, ly⟩, ay, cy⟩ := y
  have HYM := hide hym
  obtain ⟨ny, hny⟩ : ∃ ny, ly.length = ny := ⟨_, rfl⟩
  have HNY := hide hny
  simp only [Mv.sl, hny] at c0 c1
  have HVW : Hid (∀ (a : Option Addr) (c : Nat), owd ns W.clock (ms ++ [⟨⟨d, ly⟩, a, c⟩]) = V) := hide (fun a c => by
    rw [← unhide HVV, ← hyl]
    have i1 := (unhide HL).1
    have i2 := (unhide HL).2.1
    simp only [owd, passW, mss, List.map_append, List.map_cons, List.map_nil] at *
    rw [i1, i2])
  have HSD : Hid (SSt w w5.drew (.slice an n2 cn) (.slice ac n2 cc) (.slice (some ⟨gm, 0, none⟩) n3 cm) ns W.clock ms ⟨6, xn, (p : Int), nm, bs⟩ ab cb) := hide ((unhide HS).below (below_drewN (Below.refl _ _) 1))
  clear HKD e2 hf hm hy hym hyl hrow hny
  go_upto_region 53 with fail
  replace q2 : w5.drew.cell? ⟨w.heap.size, 2, none⟩ = some (.slice (some ⟨gm, 0, none⟩) n3 cm) := q2
  replace c0 : w5.drew.cell? ⟨gm, p * 2, none⟩ = some (.int .i64 d) := c0
  replace c1 : w5.drew.cell? ⟨gm, p * 2 + 1, none⟩ = some (.slice ay ny cy) := c1
  clear g0 g1 g2 g3 g4 q0 q1
  refine wp_region_held_drew (S := fun W => W.heap[w.heap.size + 1]? = some (.cells #[.int .i64 6, .int .i64 xn, .int .i64 (p : Int), .string (B nm), .slice ab bs.length cb] 29 (0, 0))) (by kernel_rfl) (unhide HSD).b3 (fun hHeld => ?_)
  refine wpAnyH_take (i := 0) (v := .pointer (some ⟨w.heap.size, 2, none⟩)) rfl (by kernel_rfl) (by kernel_rfl) (by kernel_rfl) (fun _ _ _ h => h) (Or.inl ⟨by rfl, fun W hS => by go_simp⟩) hHeld ?_
  simp only [Act.put, List.setIfInBounds_toArray, List.set_cons_zero, List.set_cons_succ]
  refine wpAnyH_take (i := 2) (v := .pointer (some ⟨w.heap.size, 2, none⟩)) rfl (by kernel_rfl) (by kernel_rfl) (by kernel_rfl) (fun _ _ _ h => h) (Or.inl ⟨by rfl, fun W hS => by go_simp⟩) hHeld ?_
  simp only [Act.put, List.setIfInBounds_toArray, List.set_cons_zero, List.set_cons_succ]
  refine wpAnyH_take (i := 4) (v := .pointer (some ⟨w.heap.size + 1, 2, none⟩)) rfl (by kernel_rfl) (by kernel_rfl) (by kernel_rfl) (fun _ _ _ h => h) (Or.inl ⟨by rfl, fun W hS => by go_simp⟩) hHeld ?_
  simp only [Act.put, List.setIfInBounds_toArray, List.set_cons_zero, List.set_cons_succ]
  refine wpAnyH_take (i := 5) (v := .int .i64 (p : Int)) rfl (by kernel_rfl) (by kernel_rfl) (by kernel_rfl) (fun _ _ _ h => h) (Or.inl ⟨by rfl, fun W hS => by have z := heap_row (i := 2) hS; go_simp⟩) hHeld ?_
  simp only [Act.put, List.setIfInBounds_toArray, List.set_cons_zero, List.set_cons_succ]
  refine wpAnyH_ready (rs := [1, 3]) (by kernel_rfl) (by simp) (AllReadyH.cons rfl (fun K hK => ?_) (AllReadyH.cons rfl (fun K hK => ?_) AllReadyH.nil))
  · go_simp
    refine hK.out _ _ hHeld (fun hHeld => ?_)
    clear hK K
    refine wpAnyH_ready (rs := [3]) (by kernel_rfl) (by simp) (AllReadyH.cons rfl (fun K hK => ?_) AllReadyH.nil)
    go_simp
    refine hK.out _ _ hHeld (fun hHeld => ?_)
    clear hK K
    refine wpAnyH_take (i := 6) (v := .pointer (some ⟨gm, p * 2, none⟩)) rfl (by kernel_rfl) (by kernel_rfl) (by kernel_rfl) (fun _ _ _ h => h) (Or.inl ⟨by rfl, fun W hS => by go_simp⟩) hHeld ?_
    simp only [Act.put, List.setIfInBounds_toArray, List.set_cons_zero, List.set_cons_succ]
    refine wpAnyH_ready (rs := [7]) (by kernel_rfl) (by simp) (AllReadyH.cons rfl (fun K hK => ?_) AllReadyH.nil)
    go_simp
    refine hK.out _ _ hHeld (fun hHeld => ?_)
    clear hK K
    refine wpAnyH_ready (rs := [8]) (by kernel_rfl) (by simp) (AllReadyH.cons rfl (fun K hK => ?_) AllReadyH.nil)
    go_simp
    refine hK.out _ _ ((Below.heap_alloc _ _ _ (Array.getElem?_eq_some_iff.1 hHeld).1).trans hHeld) (fun hHeld => ?_)
    clear hK K
    have hA := bel_al (Below.refl w5.drew.heap.size w5.drew) (.cells #[.int .i64 d, .slice ay ny cy] 54)
    have hSb := (unhide HSD).below hA
    have k0 : (w5.drew.alloc (.cells #[.int .i64 d, .slice ay ny cy] 54)).cell? ⟨w5.drew.heap.size, 0, none⟩ = some (.int .i64 (Mv.mk ⟨d, ly⟩ ay cy).m.dst) := heap_row (heap_alloc_new w5.drew _)
    have k1 : (w5.drew.alloc (.cells #[.int .i64 d, .slice ay ny cy] 54)).cell? ⟨w5.drew.heap.size, 1, none⟩ = some (Mv.mk ⟨d, ly⟩ ay cy).sl := by rw [heap_row (heap_alloc_new w5.drew _)]; simp [Mv.sl, unhide HNY]
    obtain ⟨v6, w6, hr, hT, hgr, hat⟩ := app_m (w5.drew.alloc (.cells #[.int .i64 d, .slice ay ny cy] 54)) 24 (y := ⟨⟨d, ly⟩, ay, cy⟩) hSb.ow.m k0 k1 (by have := (unhide HL).2.2.2; omega) (by have := hSb.lt; omega)
    obtain ⟨e2, e3, hS6⟩ := hSb.msgs (ms' := ms ++ [⟨⟨d, ly⟩, ay, cy⟩]) (fun z hz hn => by
      rcases List.mem_append.1 hz with hz | hz
      · exact absurd hz hn
      · rw [List.mem_singleton.1 hz] at hn
        exact absurd (unhide HYM) hn) hT hgr
    obtain ⟨a6, c6, hv6⟩ := hT.sl
    rw [List.length_append, List.length_singleton, (unhide HL).2.2.2] at hv6
    subst hv6
    have z2 := heap_row (i := 2) e2
    have zf := frozen_of_row _ _ 2 _ _ e2
    have HR7 := hide hS6.b3
    have HS6 := hide hS6
    have hSv : w6.heap[w.heap.size + 1]? = some (.cells #[.int .i64 6, .int .i64 xn, .int .i64 (p : Int), .string (B nm), .slice ab bs.length cb] 29 (0, 0)) := e3
    clear hA hSb k0 k1 hT hgr hat e2 e3 hS6
    refine wpAnyH_ready (rs := [9]) (by kernel_rfl) (by simp) (AllReadyH.cons rfl (fun K hK => ?_) AllReadyH.nil)
    rw [if_pos (by rfl)]
    refine wp_append_run (.tmp 312) (.tmp 319) 24 rfl rfl rfl hr ?_
    refine hK.out _ _ hSv (fun hHeld => ?_)
    clear hK K hr hSv
    simp only [Act.put, List.setIfInBounds_toArray, List.set_cons_zero, List.set_cons_succ]
    refine wpAnyH_take (i := 10) (v := .pointer (some ⟨w.heap.size, 2, none⟩)) rfl (by kernel_rfl) (by kernel_rfl) (by kernel_rfl) (fun _ _ _ h => h) (Or.inl ⟨by rfl, fun W hS => by go_simp⟩) hHeld ?_
    simp only [Act.put, List.setIfInBounds_toArray, List.set_cons_zero, List.set_cons_succ]
    refine wpAnyH_ready (rs := [11]) (by kernel_rfl) (by simp) (AllReadyH.cons rfl (fun K hK => ?_) AllReadyH.nil)
    go_simp
    refine hK.out _ _ (unhide HR7) (fun _ => ?_)
    clear hK K hHeld
    refine wpAnyH_done (by kernel_rfl) ?_ _
    obtain ⟨w8, hw8⟩ : ∃ w8, w6.setCell ⟨w.heap.size, 2, none⟩ (.slice a6 (n3 + 1) c6) = w8 := ⟨_, rfl⟩
    rw [hw8] at HS6 ⊢
    have HLEN : Hid (ns.length ≤ 1000 ∧ W.clock.length ≤ 1000 ∧ (ms ++ [(⟨⟨d, ly⟩, ay, cy⟩ : Mv)]).length ≤ 1000) := hide ⟨by rw [(unhide HL).2.2.1]; omega, by rw [(unhide HN).2.1]; omega, by rw [List.length_append, (unhide HL).2.2.2]; simp; omega⟩
    have HV := hide (unhide HVW ay cy)
    clear z2 zf hw8 HR7
    have hSA := unhide HS6
    obtain ⟨p1, p2, p3, p4⟩ := hSA.answer (unhide HLEN).1 (unhide HLEN).2.1 (unhide HLEN).2.2 (unhide HV)
    have q0 := heap_row (i := 0) hSA.b2
    have q1 := heap_row (i := 1) hSA.b2
    have q2 := heap_row (i := 2) hSA.b2
    have y0 := heap_row (i := 0) hSA.b4
    have y1 := heap_row (i := 1) hSA.b4
    have y2 := heap_row (i := 2) hSA.b4
    have f0 := frozen_of_row _ _ 0 _ _ hSA.b4
    have f1 := frozen_of_row _ _ 1 _ _ hSA.b4
    have f2 := frozen_of_row _ _ 2 _ _ hSA.b4
    have HP := hide p1
    have HAN := hide (And.intro p2 (And.intro p3 p4))
    clear hSA p1 p2 p3 p4
    go_wp2
    refine bodyPost_ret (v := .tuple #[.agg #[_, _, _], .int .i64 0]) ?_ rfl ⟨_, rfl, (unhide HAN).1, (unhide HAN).2.1, (unhide HAN).2.2⟩
    exact results_wt rfl _ _ (w.heap.size + 2) _ _ rfl (wd_load (unhide HP)) rfl
  · go_simp
    refine hK.out _ _ hHeld (fun hHeld => ?_)
    clear hK K
    refine wpAnyH_take (i := 6) (v := .pointer (some ⟨gm, p * 2, none⟩)) rfl (by kernel_rfl) (by kernel_rfl) (by kernel_rfl) (fun _ _ _ h => h) (Or.inl ⟨by rfl, fun W hS => by go_simp⟩) hHeld ?_
    simp only [Act.put, List.setIfInBounds_toArray, List.set_cons_zero, List.set_cons_succ]
    refine wpAnyH_ready (rs := [1, 7]) (by kernel_rfl) (by simp) (AllReadyH.cons rfl (fun K hK => ?_) (AllReadyH.cons rfl (fun K hK => ?_) AllReadyH.nil))
    · go_simp
      refine hK.out _ _ hHeld (fun hHeld => ?_)
      clear hK K
      refine wpAnyH_ready (rs := [7]) (by kernel_rfl) (by simp) (AllReadyH.cons rfl (fun K hK => ?_) AllReadyH.nil)
      go_simp
      refine hK.out _ _ hHeld (fun hHeld => ?_)
      clear hK K
      refine wpAnyH_ready (rs := [8]) (by kernel_rfl) (by simp) (AllReadyH.cons rfl (fun K hK => ?_) AllReadyH.nil)
      go_simp
      refine hK.out _ _ ((Below.heap_alloc _ _ _ (Array.getElem?_eq_some_iff.1 hHeld).1).trans hHeld) (fun hHeld => ?_)
      clear hK K
      have hA := bel_al (Below.refl w5.drew.heap.size w5.drew) (.cells #[.int .i64 d, .slice ay ny cy] 54)
      have hSb := (unhide HSD).below hA
      have k0 : (w5.drew.alloc (.cells #[.int .i64 d, .slice ay ny cy] 54)).cell? ⟨w5.drew.heap.size, 0, none⟩ = some (.int .i64 (Mv.mk ⟨d, ly⟩ ay cy).m.dst) := heap_row (heap_alloc_new w5.drew _)
      have k1 : (w5.drew.alloc (.cells #[.int .i64 d, .slice ay ny cy] 54)).cell? ⟨w5.drew.heap.size, 1, none⟩ = some (Mv.mk ⟨d, ly⟩ ay cy).sl := by rw [heap_row (heap_alloc_new w5.drew _)]; simp [Mv.sl, unhide HNY]
      obtain ⟨v6, w6, hr, hT, hgr, hat⟩ := app_m (w5.drew.alloc (.cells #[.int .i64 d, .slice ay ny cy] 54)) 24 (y := ⟨⟨d, ly⟩, ay, cy⟩) hSb.ow.m k0 k1 (by have := (unhide HL).2.2.2; omega) (by have := hSb.lt; omega)
      obtain ⟨e2, e3, hS6⟩ := hSb.msgs (ms' := ms ++ [⟨⟨d, ly⟩, ay, cy⟩]) (fun z hz hn => by
        rcases List.mem_append.1 hz with hz | hz
        · exact absurd hz hn
        · rw [List.mem_singleton.1 hz] at hn
          exact absurd (unhide HYM) hn) hT hgr
      obtain ⟨a6, c6, hv6⟩ := hT.sl
      rw [List.length_append, List.length_singleton, (unhide HL).2.2.2] at hv6
      subst hv6
      have z2 := heap_row (i := 2) e2
      have zf := frozen_of_row _ _ 2 _ _ e2
      have HR7 := hide hS6.b3
      have HS6 := hide hS6
      have hSv : w6.heap[w.heap.size + 1]? = some (.cells #[.int .i64 6, .int .i64 xn, .int .i64 (p : Int), .string (B nm), .slice ab bs.length cb] 29 (0, 0)) := e3
      clear hA hSb k0 k1 hT hgr hat e2 e3 hS6
      refine wpAnyH_ready (rs := [9]) (by kernel_rfl) (by simp) (AllReadyH.cons rfl (fun K hK => ?_) AllReadyH.nil)
      rw [if_pos (by rfl)]
      refine wp_append_run (.tmp 312) (.tmp 319) 24 rfl rfl rfl hr ?_
      refine hK.out _ _ hSv (fun hHeld => ?_)
      clear hK K hr hSv
      simp only [Act.put, List.setIfInBounds_toArray, List.set_cons_zero, List.set_cons_succ]
      refine wpAnyH_take (i := 10) (v := .pointer (some ⟨w.heap.size, 2, none⟩)) rfl (by kernel_rfl) (by kernel_rfl) (by kernel_rfl) (fun _ _ _ h => h) (Or.inl ⟨by rfl, fun W hS => by go_simp⟩) hHeld ?_
      simp only [Act.put, List.setIfInBounds_toArray, List.set_cons_zero, List.set_cons_succ]
      refine wpAnyH_ready (rs := [11]) (by kernel_rfl) (by simp) (AllReadyH.cons rfl (fun K hK => ?_) AllReadyH.nil)
      go_simp
      refine hK.out _ _ (unhide HR7) (fun _ => ?_)
      clear hK K hHeld
      refine wpAnyH_done (by kernel_rfl) ?_ _
      obtain ⟨w8, hw8⟩ : ∃ w8, w6.setCell ⟨w.heap.size, 2, none⟩ (.slice a6 (n3 + 1) c6) = w8 := ⟨_, rfl⟩
      rw [hw8] at HS6 ⊢
      have HLEN : Hid (ns.length ≤ 1000 ∧ W.clock.length ≤ 1000 ∧ (ms ++ [(⟨⟨d, ly⟩, ay, cy⟩ : Mv)]).length ≤ 1000) := hide ⟨by rw [(unhide HL).2.2.1]; omega, by rw [(unhide HN).2.1]; omega, by rw [List.length_append, (unhide HL).2.2.2]; simp; omega⟩
      have HV := hide (unhide HVW ay cy)
      clear z2 zf hw8 HR7
      have hSA := unhide HS6
      obtain ⟨p1, p2, p3, p4⟩ := hSA.answer (unhide HLEN).1 (unhide HLEN).2.1 (unhide HLEN).2.2 (unhide HV)
      have q0 := heap_row (i := 0) hSA.b2
      have q1 := heap_row (i := 1) hSA.b2
      have q2 := heap_row (i := 2) hSA.b2
      have y0 := heap_row (i := 0) hSA.b4
      have y1 := heap_row (i := 1) hSA.b4
      have y2 := heap_row (i := 2) hSA.b4
      have f0 := frozen_of_row _ _ 0 _ _ hSA.b4
      have f1 := frozen_of_row _ _ 1 _ _ hSA.b4
      have f2 := frozen_of_row _ _ 2 _ _ hSA.b4
      have HP := hide p1
      have HAN := hide (And.intro p2 (And.intro p3 p4))
      clear hSA p1 p2 p3 p4
      go_wp2
      refine bodyPost_ret (v := .tuple #[.agg #[_, _, _], .int .i64 0]) ?_ rfl ⟨_, rfl, (unhide HAN).1, (unhide HAN).2.1, (unhide HAN).2.2⟩
      exact results_wt rfl _ _ (w.heap.size + 2) _ _ rfl (wd_load (unhide HP)) rfl
    · go_simp
      refine hK.out _ _ hHeld (fun hHeld => ?_)
      clear hK K
      refine wpAnyH_ready (rs := [1, 8]) (by kernel_rfl) (by simp) (AllReadyH.cons rfl (fun K hK => ?_) (AllReadyH.cons rfl (fun K hK => ?_) AllReadyH.nil))
      · go_simp
        refine hK.out _ _ hHeld (fun hHeld => ?_)
        clear hK K
        refine wpAnyH_ready (rs := [8]) (by kernel_rfl) (by simp) (AllReadyH.cons rfl (fun K hK => ?_) AllReadyH.nil)
        go_simp
        refine hK.out _ _ ((Below.heap_alloc _ _ _ (Array.getElem?_eq_some_iff.1 hHeld).1).trans hHeld) (fun hHeld => ?_)
        clear hK K
        have hA := bel_al (Below.refl w5.drew.heap.size w5.drew) (.cells #[.int .i64 d, .slice ay ny cy] 54)
        have hSb := (unhide HSD).below hA
        have k0 : (w5.drew.alloc (.cells #[.int .i64 d, .slice ay ny cy] 54)).cell? ⟨w5.drew.heap.size, 0, none⟩ = some (.int .i64 (Mv.mk ⟨d, ly⟩ ay cy).m.dst) := heap_row (heap_alloc_new w5.drew _)
        have k1 : (w5.drew.alloc (.cells #[.int .i64 d, .slice ay ny cy] 54)).cell? ⟨w5.drew.heap.size, 1, none⟩ = some (Mv.mk ⟨d, ly⟩ ay cy).sl := by rw [heap_row (heap_alloc_new w5.drew _)]; simp [Mv.sl, unhide HNY]
        obtain ⟨v6, w6, hr, hT, hgr, hat⟩ := app_m (w5.drew.alloc (.cells #[.int .i64 d, .slice ay ny cy] 54)) 24 (y := ⟨⟨d, ly⟩, ay, cy⟩) hSb.ow.m k0 k1 (by have := (unhide HL).2.2.2; omega) (by have := hSb.lt; omega)
        obtain ⟨e2, e3, hS6⟩ := hSb.msgs (ms' := ms ++ [⟨⟨d, ly⟩, ay, cy⟩]) (fun z hz hn => by
          rcases List.mem_append.1 hz with hz | hz
          · exact absurd hz hn
          · rw [List.mem_singleton.1 hz] at hn
            exact absurd (unhide HYM) hn) hT hgr
        obtain ⟨a6, c6, hv6⟩ := hT.sl
        rw [List.length_append, List.length_singleton, (unhide HL).2.2.2] at hv6
        subst hv6
        have z2 := heap_row (i := 2) e2
        have zf := frozen_of_row _ _ 2 _ _ e2
        have HR7 := hide hS6.b3
        have HS6 := hide hS6
        have hSv : w6.heap[w.heap.size + 1]? = some (.cells #[.int .i64 6, .int .i64 xn, .int .i64 (p : Int), .string (B nm), .slice ab bs.length cb] 29 (0, 0)) := e3
        clear hA hSb k0 k1 hT hgr hat e2 e3 hS6
        refine wpAnyH_ready (rs := [9]) (by kernel_rfl) (by simp) (AllReadyH.cons rfl (fun K hK => ?_) AllReadyH.nil)
        rw [if_pos (by rfl)]
        refine wp_append_run (.tmp 312) (.tmp 319) 24 rfl rfl rfl hr ?_
        refine hK.out _ _ hSv (fun hHeld => ?_)
        clear hK K hr hSv
        simp only [Act.put, List.setIfInBounds_toArray, List.set_cons_zero, List.set_cons_succ]
        refine wpAnyH_take (i := 10) (v := .pointer (some ⟨w.heap.size, 2, none⟩)) rfl (by kernel_rfl) (by kernel_rfl) (by kernel_rfl) (fun _ _ _ h => h) (Or.inl ⟨by rfl, fun W hS => by go_simp⟩) hHeld ?_
        simp only [Act.put, List.setIfInBounds_toArray, List.set_cons_zero, List.set_cons_succ]
        refine wpAnyH_ready (rs := [11]) (by kernel_rfl) (by simp) (AllReadyH.cons rfl (fun K hK => ?_) AllReadyH.nil)
        go_simp
        refine hK.out _ _ (unhide HR7) (fun _ => ?_)
        clear hK K hHeld
        refine wpAnyH_done (by kernel_rfl) ?_ _
        obtain ⟨w8, hw8⟩ : ∃ w8, w6.setCell ⟨w.heap.size, 2, none⟩ (.slice a6 (n3 + 1) c6) = w8 := ⟨_, rfl⟩
        rw [hw8] at HS6 ⊢
        have HLEN : Hid (ns.length ≤ 1000 ∧ W.clock.length ≤ 1000 ∧ (ms ++ [(⟨⟨d, ly⟩, ay, cy⟩ : Mv)]).length ≤ 1000) := hide ⟨by rw [(unhide HL).2.2.1]; omega, by rw [(unhide HN).2.1]; omega, by rw [List.length_append, (unhide HL).2.2.2]; simp; omega⟩
        have HV := hide (unhide HVW ay cy)
        clear z2 zf hw8 HR7
        have hSA := unhide HS6
        obtain ⟨p1, p2, p3, p4⟩ := hSA.answer (unhide HLEN).1 (unhide HLEN).2.1 (unhide HLEN).2.2 (unhide HV)
        have q0 := heap_row (i := 0) hSA.b2
        have q1 := heap_row (i := 1) hSA.b2
        have q2 := heap_row (i := 2) hSA.b2
        have y0 := heap_row (i := 0) hSA.b4
        have y1 := heap_row (i := 1) hSA.b4
        have y2 := heap_row (i := 2) hSA.b4
        have f0 := frozen_of_row _ _ 0 _ _ hSA.b4
        have f1 := frozen_of_row _ _ 1 _ _ hSA.b4
        have f2 := frozen_of_row _ _ 2 _ _ hSA.b4
        have HP := hide p1
        have HAN := hide (And.intro p2 (And.intro p3 p4))
        clear hSA p1 p2 p3 p4
        go_wp2
        refine bodyPost_ret (v := .tuple #[.agg #[_, _, _], .int .i64 0]) ?_ rfl ⟨_, rfl, (unhide HAN).1, (unhide HAN).2.1, (unhide HAN).2.2⟩
        exact results_wt rfl _ _ (w.heap.size + 2) _ _ rfl (wd_load (unhide HP)) rfl
      · skip
        go_simp
        refine hK.out _ _ ((Below.heap_alloc _ _ _ (Array.getElem?_eq_some_iff.1 hHeld).1).trans hHeld) (fun hHeld => ?_)
        clear hK K
        have q2' : (w5.drew.alloc (.cells #[.int .i64 d, .slice ay ny cy] 54)).cell? ⟨w.heap.size, 2, none⟩ = some (.slice (some ⟨gm, 0, none⟩) n3 cm) := cell_al q2
        have q2'' : (w5.alloc (.cells #[.int .i64 d, .slice ay ny cy] 54)).cell? ⟨w.heap.size, 2, none⟩ = some (.slice (some ⟨gm, 0, none⟩) n3 cm) := cell_al (W := w5) q2
        refine wpAnyH_ready (rs := [1]) (by kernel_rfl) (by simp) (AllReadyH.cons rfl (fun K hK => ?_) AllReadyH.nil)
        go_simp
        refine hK.out _ _ hHeld (fun hHeld => ?_)
        clear hK K q2' q2''
        have hA := bel_al (Below.refl w5.drew.heap.size w5.drew) (.cells #[.int .i64 d, .slice ay ny cy] 54)
        have hSb := (unhide HSD).below hA
        have k0 : (w5.drew.alloc (.cells #[.int .i64 d, .slice ay ny cy] 54)).cell? ⟨w5.drew.heap.size, 0, none⟩ = some (.int .i64 (Mv.mk ⟨d, ly⟩ ay cy).m.dst) := heap_row (heap_alloc_new w5.drew _)
        have k1 : (w5.drew.alloc (.cells #[.int .i64 d, .slice ay ny cy] 54)).cell? ⟨w5.drew.heap.size, 1, none⟩ = some (Mv.mk ⟨d, ly⟩ ay cy).sl := by rw [heap_row (heap_alloc_new w5.drew _)]; simp [Mv.sl, unhide HNY]
        obtain ⟨v6, w6, hr, hT, hgr, hat⟩ := app_m (w5.drew.alloc (.cells #[.int .i64 d, .slice ay ny cy] 54)) 24 (y := ⟨⟨d, ly⟩, ay, cy⟩) hSb.ow.m k0 k1 (by have := (unhide HL).2.2.2; omega) (by have := hSb.lt; omega)
        obtain ⟨e2, e3, hS6⟩ := hSb.msgs (ms' := ms ++ [⟨⟨d, ly⟩, ay, cy⟩]) (fun z hz hn => by
          rcases List.mem_append.1 hz with hz | hz
          · exact absurd hz hn
          · rw [List.mem_singleton.1 hz] at hn
            exact absurd (unhide HYM) hn) hT hgr
        obtain ⟨a6, c6, hv6⟩ := hT.sl
        rw [List.length_append, List.length_singleton, (unhide HL).2.2.2] at hv6
        subst hv6
        have z2 := heap_row (i := 2) e2
        have zf := frozen_of_row _ _ 2 _ _ e2
        have HR7 := hide hS6.b3
        have HS6 := hide hS6
        have hSv : w6.heap[w.heap.size + 1]? = some (.cells #[.int .i64 6, .int .i64 xn, .int .i64 (p : Int), .string (B nm), .slice ab bs.length cb] 29 (0, 0)) := e3
        clear hA hSb k0 k1 hT hgr hat e2 e3 hS6
        refine wpAnyH_ready (rs := [9]) (by kernel_rfl) (by simp) (AllReadyH.cons rfl (fun K hK => ?_) AllReadyH.nil)
        rw [if_pos (by rfl)]
        refine wp_append_run (.tmp 312) (.tmp 319) 24 rfl rfl rfl hr ?_
        refine hK.out _ _ hSv (fun hHeld => ?_)
        clear hK K hr hSv
        simp only [Act.put, List.setIfInBounds_toArray, List.set_cons_zero, List.set_cons_succ]
        refine wpAnyH_take (i := 10) (v := .pointer (some ⟨w.heap.size, 2, none⟩)) rfl (by kernel_rfl) (by kernel_rfl) (by kernel_rfl) (fun _ _ _ h => h) (Or.inl ⟨by rfl, fun W hS => by go_simp⟩) hHeld ?_
        simp only [Act.put, List.setIfInBounds_toArray, List.set_cons_zero, List.set_cons_succ]
        refine wpAnyH_ready (rs := [11]) (by kernel_rfl) (by simp) (AllReadyH.cons rfl (fun K hK => ?_) AllReadyH.nil)
        go_simp
        refine hK.out _ _ (unhide HR7) (fun _ => ?_)
        clear hK K hHeld
        refine wpAnyH_done (by kernel_rfl) ?_ _
        obtain ⟨w8, hw8⟩ : ∃ w8, w6.setCell ⟨w.heap.size, 2, none⟩ (.slice a6 (n3 + 1) c6) = w8 := ⟨_, rfl⟩
        rw [hw8] at HS6 ⊢
        have HLEN : Hid (ns.length ≤ 1000 ∧ W.clock.length ≤ 1000 ∧ (ms ++ [(⟨⟨d, ly⟩, ay, cy⟩ : Mv)]).length ≤ 1000) := hide ⟨by rw [(unhide HL).2.2.1]; omega, by rw [(unhide HN).2.1]; omega, by rw [List.length_append, (unhide HL).2.2.2]; simp; omega⟩
        have HV := hide (unhide HVW ay cy)
        clear z2 zf hw8 HR7
        have hSA := unhide HS6
        obtain ⟨p1, p2, p3, p4⟩ := hSA.answer (unhide HLEN).1 (unhide HLEN).2.1 (unhide HLEN).2.2 (unhide HV)
        have q0 := heap_row (i := 0) hSA.b2
        have q1 := heap_row (i := 1) hSA.b2
        have q2 := heap_row (i := 2) hSA.b2
        have y0 := heap_row (i := 0) hSA.b4
        have y1 := heap_row (i := 1) hSA.b4
        have y2 := heap_row (i := 2) hSA.b4
        have f0 := frozen_of_row _ _ 0 _ _ hSA.b4
        have f1 := frozen_of_row _ _ 1 _ _ hSA.b4
        have f2 := frozen_of_row _ _ 2 _ _ hSA.b4
        have HP := hide p1
        have HAN := hide (And.intro p2 (And.intro p3 p4))
        clear hSA p1 p2 p3 p4
        go_wp2
        refine bodyPost_ret (v := .tuple #[.agg #[_, _, _], .int .i64 0]) ?_ rfl ⟨_, rfl, (unhide HAN).1, (unhide HAN).2.1, (unhide HAN).2.2⟩
        exact results_wt rfl _ _ (w.heap.size + 2) _ _ rfl (wd_load (unhide HP)) rfl
end Go.Proofs.YtmgmganbamjnmaaGreatDoor
