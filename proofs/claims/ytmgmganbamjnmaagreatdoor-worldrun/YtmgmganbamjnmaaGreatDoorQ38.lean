/-
  The document's StepOf: a node sends all it has.
-/
import Derived.Test.YtmgmganbamjnmaaGreatDoorQ37
namespace Go.Proofs.YtmgmganbamjnmaaGreatDoor
open Go.RowKit
set_option linter.unusedVariables false
set_option linter.unusedSimpArgs false
set_option maxRecDepth 100000


theorem TRow.sm {w : World} {B T k n : Nat} {v : Value} {cs : List Value} (h : TRow w B T k v n cs) (hn : 0 < n) : ∃ g cap, v = .slice (some ⟨g, 0, none⟩) n cap := by
  rcases h.own.2 with ⟨_, h2⟩ | ⟨g, cap, cur, h1, _⟩
  · omega
  · exact ⟨g, cap, h1⟩
theorem TRow.offB {w : World} {B T k n g : Nat} {v : Value} {cs : List Value} (h : TRow w B T k v n cs) (hg : g < B) : v.ownBlock = none ∨ v.ownBlock ≠ some g := by
  cases hv : v.ownBlock with
  | none => exact .inl rfl
  | some q => refine .inr (fun e => ?_); cases e; have := (h.lt hv).1; omega
/-- what holds behind an append to one of the rows -/
theorem SSt.grown {w0 W W' : World} {vn vc vm : Value} {ns : List Lv} {cs : List Int} {ms : List Mv} {x : Hp} {ab : Option Addr} {cb : Nat} {r : Option Nat} (h : SSt w0 W vn vc vm ns cs ms x ab cb) (hg : W.grownBy W' r) (hr : ∀ g, r = some g → w0.heap.size + 3 ≤ g ∧ NFb W g) :
    Below w0.heap.size w0 W' ∧ W'.heap[w0.heap.size]? = some (.cells #[vn, vc, vm] 26 (0, 0)) ∧ W'.heap[w0.heap.size + 1]? = some (.cells #[.int .i64 x.kind, .int .i64 x.node, .int .i64 x.dst, .string (B x.name), .slice ab x.bytes.length cb] 29 (0, 0)) ∧ W'.heap[w0.heap.size + 2]? = some (.cells #[(.slice none 0 0), (.slice none 0 0), (.slice none 0 0)] 26 (0, 0)) ∧ (∀ y l, LIn W y l → LIn W' y l) ∧ HpAt W' x ab cb := by
  have hl := h.lt
  have hk : ∀ i, i < 3 → W'.heap[w0.heap.size + i]? = W.heap[w0.heap.size + i]? := fun i hi => hg.block _ (by omega) (fun e => by have := (hr _ e.symm).1; omega)
  exact ⟨h.bel.grown hg h.bel.size (fun g e => by have := (hr g e).1; omega), (hk 0 (by omega)).trans h.b2, (hk 1 (by omega)).trans h.b3, (hk 2 (by omega)).trans h.b4, fun y l hy => hy.offN hg (fun g e => (hr g e).2), ⟨h.hp.bs.offN hg (fun g e => (hr g e).2), h.hp.big, h.hp.txt⟩⟩
theorem SSt.nf2 {w0 W : World} {vn vc vm : Value} {ns : List Lv} {cs : List Int} {ms : List Mv} {x : Hp} {ab : Option Addr} {cb : Nat} (h : SSt w0 W vn vc vm ns cs ms x ab cb) {W' : World} (hb : W'.heap[w0.heap.size]? = some (.cells #[vn, vc, vm] 26 (0, 0))) : NFb W' w0.heap.size := by
  obtain ⟨a1, c1, e1⟩ := h.ow.n.sl
  obtain ⟨a2, c2, e2⟩ := h.ow.c.sl
  obtain ⟨a3, c3, e3⟩ := h.ow.m.sl
  rw [e1, e2, e3] at hb
  exact nf3 hb
/-- other messages, in a row that the call owns -/
theorem SSt.msgs {w W W' : World} {vn vc vm v' : Value} {ns : List Lv} {cs : List Int} {ms ms' : List Mv} {x : Hp} {ab : Option Addr} {cb : Nat} (h : SSt w W vn vc vm ns cs ms x ab cb) (hy : ∀ y ∈ ms', y ∉ ms → LIn W y.sl y.m.files) (hT : TRow W' (w.heap.size + 3) 54 2 v' ms'.length (mcells ms')) (hg : W.grownBy W' vm.ownBlock) :
    W'.heap[w.heap.size]? = some (.cells #[vn, vc, vm] 26 (0, 0)) ∧ W'.heap[w.heap.size + 1]? = some (.cells #[.int .i64 x.kind, .int .i64 x.node, .int .i64 x.dst, .string (B x.name), .slice ab x.bytes.length cb] 29 (0, 0)) ∧ SSt w (W'.setCell ⟨w.heap.size, 2, none⟩ v') vn vc v' ns cs ms' x ab cb := by
  have hr : ∀ g, vm.ownBlock = some g → w.heap.size + 3 ≤ g ∧ NFb W g := fun g e => ⟨(h.ow.m.lt e).1, h.ow.m.nf g e⟩
  obtain ⟨b1, b2, b3, b4, b5, b6⟩ := h.grown hg hr
  have hC := h.ow.c.kept hg (h.ow.c.ne h.ow.m (by decide))
  have hN := h.ow.n.kept hg (h.ow.n.ne h.ow.m (by decide))
  have hs := grown_setCell W' w.heap.size 2 v'
  have hnf : ∀ g, some w.heap.size = some g → NFb W' g := fun g e => by cases e; exact h.nf2 b2
  refine ⟨b2, b3, b1.grown hs b1.size (fun g e => by cases e; exact Nat.le_refl _), heap_setCell_same W' _ 2 _ _ v' b2, (Below.heap_setCell W' _ v' _ (by show w.heap.size + 1 ≠ w.heap.size; omega)).trans b3, (Below.heap_setCell W' _ v' _ (by show w.heap.size + 2 ≠ w.heap.size; omega)).trans b4, ⟨hN.kept hs (hN.offB (by omega)), hC.kept hs (hC.offB (by omega)), hT.kept hs (hT.offB (by omega)), fun y hm => (b5 _ _ (h.ow.la y hm)).offN hs hnf, fun y hm => ?_⟩, ⟨b6.bs.offN hs hnf, b6.big, b6.txt⟩⟩
  by_cases hi : y ∈ ms
  · exact (b5 _ _ (h.ow.ma y hi)).offN hs hnf
  · exact (b5 _ _ (hy y hm hi)).offN hs hnf
theorem isP_cast {k : Int} {n : Nat} (h : isP k n = true) : ∃ j : Nat, k = (j : Int) ∧ j < n := by
  obtain ⟨h1, h2⟩ := isP_true.1 h
  exact ⟨k.toNat, by omega, by omega⟩
set_option maxHeartbeats 4000000 in
theorem step_send_who {w : World} {v : Value} {W : Wd} (xn xd : Int) (nm bs : List UInt8) {ab : Option Addr} {cb : Nat} (h : WIn w v W) (hx : HpAt w ⟨3, xn, xd, nm, bs⟩ ab cb) (hok : WdOk W) (hk : isP xn W.nodes.length = false ∨ isP xd W.nodes.length = false) : Calls Tryz.prog 12 #[v, hpV ⟨3, xn, xd, nm, bs⟩ ab cb] w (DoA w 5 noW) := by
  have HKD := hide hk
  clear hk
  obtain ⟨a1, c1, a2, c2, a3, c3, rfl, hat⟩ := h
  obtain ⟨n1, hn1⟩ : ∃ n1, W.nodes.length = n1 := ⟨_, rfl⟩
  obtain ⟨n2, hn2⟩ : ∃ n2, W.clock.length = n2 := ⟨_, rfl⟩
  obtain ⟨n3, hn3⟩ : ∃ n3, W.net.length = n3 := ⟨_, rfl⟩
  rw [hn1, hn2, hn3]
  obtain ⟨nb, hnb⟩ : ∃ nb, bs.length = nb := ⟨_, rfl⟩
  obtain ⟨tn, htn⟩ : ∃ tn, B nm = tn := ⟨_, rfl⟩
  obtain ⟨w1, hw1, hz1, hb1, hx0, hx1, hx2⟩ := three_boxes w (.slice a1 n1 c1) (.slice a2 n2 c2) (.slice a3 n3 c3) 3 xn xd tn (.slice ab nb cb)
  have HO := hide (ownW_wat a1 a2 a3 c1 c2 c3 W w1 (hat.below hb1) n1 n3 n2 hn1 hn2 hn3)
  have hpv : hpV ⟨3, xn, xd, nm, bs⟩ ab cb = .agg #[.int .i64 3, .int .i64 xn, .int .i64 xd, .string tn, .slice ab nb cb] := by unfold hpV; simp only [hnb, htn]
  rw [hpv]
  have hx1' : w1.heap[w.heap.size + 1]? = some (.cells #[.int .i64 (Hp.mk 3 xn xd nm bs).kind, .int .i64 (Hp.mk 3 xn xd nm bs).node, .int .i64 (Hp.mk 3 xn xd nm bs).dst, .string (B (Hp.mk 3 xn xd nm bs).name), .slice ab (Hp.mk 3 xn xd nm bs).bytes.length cb] 29 (0, 0)) := by simp only [hnb, htn]; exact hx1
  have q0 := heap_row (i := 0) hx0
  have q1 := heap_row (i := 1) hx0
  have q2 := heap_row (i := 2) hx0
  rw [← hw1] at q0 q1 q2 HO
  have HX := hide (And.intro hz1 (And.intro hb1 (And.intro hx0 (And.intro hx1' (And.intro hx2 (hx.below hb1))))))
  have HOK := hide hok
  have hlo := hok.lo
  have hhi := hok.hi
  have hcl := hok.cl
  have hnt := hok.nt
  rw [hn1] at hlo hhi hcl
  rw [hn2] at hcl
  rw [hn3] at hnt
  subst hcl
  have HN := hide (And.intro hn1 (And.intro hn2 (And.intro hn3 (And.intro hnb htn))))
  have HW1 := hide hw1
  have HFA := hide (fun (E : Int) (w : World) => fail1_any E w)
  clear hat hn1 hn2 hn3 hnb htn hw1 hz1 hb1 hx0 hx1 hx1' hx2 hpv hx hok
  go_enter Tryz.func12, Tryz.ntmps12
  go_wp2_with fail
  refine (unhide HO).mono ?_
  rintro e w4 ⟨vn, vc, vm, ns, ms, rfl, hOW, hns, hms, hB4⟩
  rw [show ((w.alloc (wbox (.slice a1 n2 c1) (.slice a2 n2 c2) (.slice a3 n3 c3))).alloc (hbox 3 xn xd tn (.slice ab nb cb))).alloc (wbox (.slice none 0 0) (.slice none 0 0) (.slice none 0 0)) = w1 from unhide HW1] at hB4 hOW
  obtain ⟨hz1, hb1, hx0, hx1, hx2, hp⟩ := unhide HX
  obtain ⟨hn1, hn2, hn3, hnb, htn⟩ := unhide HN
  obtain ⟨an, cn, hvn⟩ := hOW.n.sl
  obtain ⟨ac, cc, hvc⟩ := hOW.c.sl
  obtain ⟨am, cm, hvm⟩ := hOW.m.sl
  have hnsl : ns.length = n2 := by rw [← hn1, ← hns]; simp [lss]
  have hmsl : ms.length = n3 := by rw [← hn3, ← hms]; simp [mss]
  rw [hnsl] at hvn
  rw [hn2] at hvc
  rw [hmsl] at hvm
  subst hvn hvc hvm
  obtain ⟨h0, hS⟩ := SSt.start hz1 hb1 hx0 hx1 hx2 ⟨_, _, _, _, _, _, _, _, _, rfl, rfl, rfl⟩ hB4 hOW (hp.below hB4)
  have y0 := heap_row (i := 0) h0
  have y1 := heap_row (i := 1) h0
  have y2 := heap_row (i := 2) h0
  have f0 := frozen_of_row _ _ 0 _ _ h0
  have f1 := frozen_of_row _ _ 1 _ _ h0
  have f2 := frozen_of_row _ _ 2 _ _ h0
  obtain ⟨w5, hw5⟩ : ∃ w5, ((w4.setCell ⟨w.heap.size, 0, none⟩ (.slice an n2 cn)).setCell ⟨w.heap.size, 1, none⟩ (.slice ac n2 cc)).setCell ⟨w.heap.size, 2, none⟩ (.slice am n3 cm) = w5 := ⟨_, rfl⟩
  rw [hw5] at hS
  have HS := hide hS
  have HW5 := hide hw5
  have HL := hide (And.intro hns (And.intro hms (And.intro hnsl hmsl)))
  clear q0 q1 q2 hOW hns hms hB4 hz1 hb1 hx0 hx1 hx2 hp hn1 hn2 hn3 hnb htn hnsl hmsl h0 hS hw5 HO HX HW1
  go_upto_region 4 with fail
  rw [show ((w4.setCell ⟨w.heap.size, 0, none⟩ (.slice an n2 cn)).setCell ⟨w.heap.size, 1, none⟩ (.slice ac n2 cc)).setCell ⟨w.heap.size, 2, none⟩ (.slice am n3 cm) = w5 from unhide HW5]
  clear y0 y1 y2 f0 f1 f2 HW5
  have g0 := heap_row (i := 0) (unhide HS).b3
  have g1 := heap_row (i := 1) (unhide HS).b3
  have g2 := heap_row (i := 2) (unhide HS).b3
  have g3 := heap_row (i := 3) (unhide HS).b3
  have g4 := heap_row (i := 4) (unhide HS).b3
  simp only [(unhide HN).2.2.2.1, (unhide HN).2.2.2.2] at g3 g4
  have q0 := heap_row (i := 0) (unhide HS).b2
  have q1 := heap_row (i := 1) (unhide HS).b2
  have q2 := heap_row (i := 2) (unhide HS).b2
  have hkd := unhide HKD
  rw [(unhide HN).1] at hkd
  have HP := hide (node2_any xn n2 w5 q0)
  have HQ := hide (node2_any xd n2 w5 q0)
  cases hp : isP xn n2 with
  | false =>
    rw [hp] at HP
    clear hkd hp
    go_wp2_with fail
    refine (unhide HP).mono ?_
    rintro e w' ⟨rfl, rfl⟩
    go_wp2_with fail
    refine (unhide HFA _ _).mono ?_
    rintro e w9 ⟨rfl, hB9⟩
    have hS9 := (unhide HS).below hB9
    obtain ⟨p1, p2⟩ := hS9.fail
    have y0 := heap_row (i := 0) hS9.b4
    have y1 := heap_row (i := 1) hS9.b4
    have y2 := heap_row (i := 2) hS9.b4
    have f0 := frozen_of_row _ _ 0 _ _ hS9.b4
    have f1 := frozen_of_row _ _ 1 _ _ hS9.b4
    have f2 := frozen_of_row _ _ 2 _ _ hS9.b4
    have HP := hide p1
    have HBF := hide p2
    clear hS9 hB9 p1 p2
    go_wp2
    refine bodyPost_ret (v := .tuple #[.agg #[(.slice none 0 0), (.slice none 0 0), (.slice none 0 0)], .int .i64 5]) ?_ rfl ⟨_, rfl, WIn.no _, VFrom.no _ _, unhide HBF⟩
    exact results_wt rfl _ _ (w.heap.size + 2) _ _ rfl (wd_load (unhide HP)) rfl
  | true =>
    have hq : isP xd n2 = false := by rcases hkd with h | h; rw [hp] at h; cases h; exact h
    rw [hp] at HP
    rw [hq] at HQ
    clear hkd hp hq
    go_wp2_with fail
    refine (unhide HP).mono ?_
    rintro e w' ⟨rfl, rfl⟩
    go_wp2_with fail
    refine (unhide HQ).mono ?_
    rintro e w' ⟨rfl, rfl⟩
    go_wp2_with fail
    refine (unhide HFA _ _).mono ?_
    rintro e w9 ⟨rfl, hB9⟩
    have hS9 := (unhide HS).below hB9
    obtain ⟨p1, p2⟩ := hS9.fail
    have y0 := heap_row (i := 0) hS9.b4
    have y1 := heap_row (i := 1) hS9.b4
    have y2 := heap_row (i := 2) hS9.b4
    have f0 := frozen_of_row _ _ 0 _ _ hS9.b4
    have f1 := frozen_of_row _ _ 1 _ _ hS9.b4
    have f2 := frozen_of_row _ _ 2 _ _ hS9.b4
    have HP := hide p1
    have HBF := hide p2
    clear hS9 hB9 p1 p2
    go_wp2
    refine bodyPost_ret (v := .tuple #[.agg #[(.slice none 0 0), (.slice none 0 0), (.slice none 0 0)], .int .i64 5]) ?_ rfl ⟨_, rfl, WIn.no _, VFrom.no _ _, unhide HBF⟩
    exact results_wt rfl _ _ (w.heap.size + 2) _ _ rfl (wd_load (unhide HP)) rfl
set_option maxHeartbeats 4000000 in
theorem step_send_full {w : World} {v : Value} {W : Wd} (k : Nat) (xd : Int) (nm bs : List UInt8) {ab : Option Addr} {cb : Nat} (h : WIn w v W) (hx : HpAt w ⟨3, (k : Int), xd, nm, bs⟩ ab cb) (hok : WdOk W) (hk : k < W.nodes.length) (hd : isP xd W.nodes.length = true) (hf : W.net.length = 20) : Calls Tryz.prog 12 #[v, hpV ⟨3, (k : Int), xd, nm, bs⟩ ab cb] w (DoA w 11 noW) := by
  have HKD := hide (And.intro hk (And.intro hd hf))
  clear hk hd hf
  obtain ⟨a1, c1, a2, c2, a3, c3, rfl, hat⟩ := h
  obtain ⟨n1, hn1⟩ : ∃ n1, W.nodes.length = n1 := ⟨_, rfl⟩
  obtain ⟨n2, hn2⟩ : ∃ n2, W.clock.length = n2 := ⟨_, rfl⟩
  obtain ⟨n3, hn3⟩ : ∃ n3, W.net.length = n3 := ⟨_, rfl⟩
  rw [hn1, hn2, hn3]
  obtain ⟨nb, hnb⟩ : ∃ nb, bs.length = nb := ⟨_, rfl⟩
  obtain ⟨tn, htn⟩ : ∃ tn, B nm = tn := ⟨_, rfl⟩
  obtain ⟨w1, hw1, hz1, hb1, hx0, hx1, hx2⟩ := three_boxes w (.slice a1 n1 c1) (.slice a2 n2 c2) (.slice a3 n3 c3) 3 (k:Int) xd tn (.slice ab nb cb)
  have HO := hide (ownW_wat a1 a2 a3 c1 c2 c3 W w1 (hat.below hb1) n1 n3 n2 hn1 hn2 hn3)
  have hpv : hpV ⟨3, (k:Int), xd, nm, bs⟩ ab cb = .agg #[.int .i64 3, .int .i64 (k:Int), .int .i64 xd, .string tn, .slice ab nb cb] := by unfold hpV; simp only [hnb, htn]
  rw [hpv]
  have hx1' : w1.heap[w.heap.size + 1]? = some (.cells #[.int .i64 (Hp.mk 3 (k:Int) xd nm bs).kind, .int .i64 (Hp.mk 3 (k:Int) xd nm bs).node, .int .i64 (Hp.mk 3 (k:Int) xd nm bs).dst, .string (B (Hp.mk 3 (k:Int) xd nm bs).name), .slice ab (Hp.mk 3 (k:Int) xd nm bs).bytes.length cb] 29 (0, 0)) := by simp only [hnb, htn]; exact hx1
  have q0 := heap_row (i := 0) hx0
  have q1 := heap_row (i := 1) hx0
  have q2 := heap_row (i := 2) hx0
  rw [← hw1] at q0 q1 q2 HO
  have HX := hide (And.intro hz1 (And.intro hb1 (And.intro hx0 (And.intro hx1' (And.intro hx2 (hx.below hb1))))))
  have HOK := hide hok
  have hlo := hok.lo
  have hhi := hok.hi
  have hcl := hok.cl
  have hnt := hok.nt
  rw [hn1] at hlo hhi hcl
  rw [hn2] at hcl
  rw [hn3] at hnt
  subst hcl
  have HN := hide (And.intro hn1 (And.intro hn2 (And.intro hn3 (And.intro hnb htn))))
  have HW1 := hide hw1
  have HFA := hide (fun (E : Int) (w : World) => fail1_any E w)
  clear hat hn1 hn2 hn3 hnb htn hw1 hz1 hb1 hx0 hx1 hx1' hx2 hpv hx hok
  go_enter Tryz.func12, Tryz.ntmps12
  go_wp2_with fail
  refine (unhide HO).mono ?_
  rintro e w4 ⟨vn, vc, vm, ns, ms, rfl, hOW, hns, hms, hB4⟩
  rw [show ((w.alloc (wbox (.slice a1 n2 c1) (.slice a2 n2 c2) (.slice a3 n3 c3))).alloc (hbox 3 (k:Int) xd tn (.slice ab nb cb))).alloc (wbox (.slice none 0 0) (.slice none 0 0) (.slice none 0 0)) = w1 from unhide HW1] at hB4 hOW
  obtain ⟨hz1, hb1, hx0, hx1, hx2, hp⟩ := unhide HX
  obtain ⟨hn1, hn2, hn3, hnb, htn⟩ := unhide HN
  obtain ⟨an, cn, hvn⟩ := hOW.n.sl
  obtain ⟨ac, cc, hvc⟩ := hOW.c.sl
  obtain ⟨am, cm, hvm⟩ := hOW.m.sl
  have hnsl : ns.length = n2 := by rw [← hn1, ← hns]; simp [lss]
  have hmsl : ms.length = n3 := by rw [← hn3, ← hms]; simp [mss]
  rw [hnsl] at hvn
  rw [hn2] at hvc
  rw [hmsl] at hvm
  subst hvn hvc hvm
  obtain ⟨h0, hS⟩ := SSt.start hz1 hb1 hx0 hx1 hx2 ⟨_, _, _, _, _, _, _, _, _, rfl, rfl, rfl⟩ hB4 hOW (hp.below hB4)
  have y0 := heap_row (i := 0) h0
  have y1 := heap_row (i := 1) h0
  have y2 := heap_row (i := 2) h0
  have f0 := frozen_of_row _ _ 0 _ _ h0
  have f1 := frozen_of_row _ _ 1 _ _ h0
  have f2 := frozen_of_row _ _ 2 _ _ h0
  obtain ⟨w5, hw5⟩ : ∃ w5, ((w4.setCell ⟨w.heap.size, 0, none⟩ (.slice an n2 cn)).setCell ⟨w.heap.size, 1, none⟩ (.slice ac n2 cc)).setCell ⟨w.heap.size, 2, none⟩ (.slice am n3 cm) = w5 := ⟨_, rfl⟩
  rw [hw5] at hS
  have HS := hide hS
  have HW5 := hide hw5
  have HL := hide (And.intro hns (And.intro hms (And.intro hnsl hmsl)))
  clear q0 q1 q2 hOW hns hms hB4 hz1 hb1 hx0 hx1 hx2 hp hn1 hn2 hn3 hnb htn hnsl hmsl h0 hS hw5 HO HX HW1
  go_upto_region 4 with fail
  rw [show ((w4.setCell ⟨w.heap.size, 0, none⟩ (.slice an n2 cn)).setCell ⟨w.heap.size, 1, none⟩ (.slice ac n2 cc)).setCell ⟨w.heap.size, 2, none⟩ (.slice am n3 cm) = w5 from unhide HW5]
  clear y0 y1 y2 f0 f1 f2 HW5
  have g0 := heap_row (i := 0) (unhide HS).b3
  have g1 := heap_row (i := 1) (unhide HS).b3
  have g2 := heap_row (i := 2) (unhide HS).b3
  have g3 := heap_row (i := 3) (unhide HS).b3
  have g4 := heap_row (i := 4) (unhide HS).b3
  simp only [(unhide HN).2.2.2.1, (unhide HN).2.2.2.2] at g3 g4
  have q0 := heap_row (i := 0) (unhide HS).b2
  have q1 := heap_row (i := 1) (unhide HS).b2
  have q2 := heap_row (i := 2) (unhide HS).b2
  obtain ⟨hkn, hq, hf⟩ := unhide HKD
  rw [(unhide HN).1] at hkn hq
  rw [(unhide HN).2.2.1] at hf
  clear HKD
  subst hf
  have HP := hide (node2_any (k : Int) n2 w5 q0)
  have HQ := hide (node2_any xd n2 w5 q0)
  rw [isP_nat (by omega)] at HP
  rw [hq] at HQ
  clear hq
  go_wp2_with fail
  refine (unhide HP).mono ?_
  rintro e w7 ⟨rfl, hw7⟩
  obtain rfl : w5 = w7 := hw7.symm
  go_wp2_with fail
  refine (unhide HQ).mono ?_
  rintro e w7 ⟨rfl, hw7⟩
  obtain rfl : w5 = w7 := hw7.symm
  go_wp2_with fail
  refine (unhide HFA _ _).mono ?_
  rintro e w9 ⟨rfl, hB9⟩
  have hS9 := (unhide HS).below hB9
  obtain ⟨p1, p2⟩ := hS9.fail
  have y0 := heap_row (i := 0) hS9.b4
  have y1 := heap_row (i := 1) hS9.b4
  have y2 := heap_row (i := 2) hS9.b4
  have f0 := frozen_of_row _ _ 0 _ _ hS9.b4
  have f1 := frozen_of_row _ _ 1 _ _ hS9.b4
  have f2 := frozen_of_row _ _ 2 _ _ hS9.b4
  have HP := hide p1
  have HBF := hide p2
  clear hS9 hB9 p1 p2
  go_wp2
  refine bodyPost_ret (v := .tuple #[.agg #[(.slice none 0 0), (.slice none 0 0), (.slice none 0 0)], .int .i64 11]) ?_ rfl ⟨_, rfl, WIn.no _, VFrom.no _ _, unhide HBF⟩
  exact results_wt rfl _ _ (w.heap.size + 2) _ _ rfl (wd_load (unhide HP)) rfl
theorem row_of {ns : List Lv} {L : List (List Fl)} {k : Nat} (h : lss ns = L) (hk : k < L.length) : ∃ y, ns[k]? = some y ∧ y ∈ ns ∧ L[k]? = some y.l := by
  subst h
  have hl : k < ns.length := by simpa [lss] using hk
  exact ⟨ns[k], by simp [hl], List.getElem_mem _, by simp [lss, hl]⟩
set_option maxHeartbeats 8000000 in
theorem step_send_go {w : World} {v : Value} {W : Wd} (k : Nat) (xd : Int) (nm bs : List UInt8) {ab : Option Addr} {cb : Nat} (h : WIn w v W) (hx : HpAt w ⟨3, (k : Int), xd, nm, bs⟩ ab cb) (hok : WdOk W) (hk : k < W.nodes.length) (hd : isP xd W.nodes.length = true) (hf : W.net.length ≠ 20) (l : List Fl) (hl : W.nodes[k]? = some l) : Calls Tryz.prog 12 #[v, hpV ⟨3, (k : Int), xd, nm, bs⟩ ab cb] w (DoA w 0 (passW ⟨xd, l⟩ W)) := by
  have HKD := hide (And.intro hk (And.intro hd (And.intro hf hl)))
  obtain ⟨V, hV⟩ : ∃ V, passW ⟨xd, l⟩ W = V := ⟨_, rfl⟩
  rw [hV]
  have HVV := hide hV
  clear hk hd hf hl hV
  obtain ⟨a1, c1, a2, c2, a3, c3, rfl, hat⟩ := h
  obtain ⟨n1, hn1⟩ : ∃ n1, W.nodes.length = n1 := ⟨_, rfl⟩
  obtain ⟨n2, hn2⟩ : ∃ n2, W.clock.length = n2 := ⟨_, rfl⟩
  obtain ⟨n3, hn3⟩ : ∃ n3, W.net.length = n3 := ⟨_, rfl⟩
  rw [hn1, hn2, hn3]
  obtain ⟨nb, hnb⟩ : ∃ nb, bs.length = nb := ⟨_, rfl⟩
  obtain ⟨tn, htn⟩ : ∃ tn, B nm = tn := ⟨_, rfl⟩
  obtain ⟨w1, hw1, hz1, hb1, hx0, hx1, hx2⟩ := three_boxes w (.slice a1 n1 c1) (.slice a2 n2 c2) (.slice a3 n3 c3) 3 (k:Int) xd tn (.slice ab nb cb)
  have HO := hide (ownW_wat a1 a2 a3 c1 c2 c3 W w1 (hat.below hb1) n1 n3 n2 hn1 hn2 hn3)
  have hpv : hpV ⟨3, (k:Int), xd, nm, bs⟩ ab cb = .agg #[.int .i64 3, .int .i64 (k:Int), .int .i64 xd, .string tn, .slice ab nb cb] := by unfold hpV; simp only [hnb, htn]
  rw [hpv]
  have hx1' : w1.heap[w.heap.size + 1]? = some (.cells #[.int .i64 (Hp.mk 3 (k:Int) xd nm bs).kind, .int .i64 (Hp.mk 3 (k:Int) xd nm bs).node, .int .i64 (Hp.mk 3 (k:Int) xd nm bs).dst, .string (B (Hp.mk 3 (k:Int) xd nm bs).name), .slice ab (Hp.mk 3 (k:Int) xd nm bs).bytes.length cb] 29 (0, 0)) := by simp only [hnb, htn]; exact hx1
  have q0 := heap_row (i := 0) hx0
  have q1 := heap_row (i := 1) hx0
  have q2 := heap_row (i := 2) hx0
  rw [← hw1] at q0 q1 q2 HO
  have HX := hide (And.intro hz1 (And.intro hb1 (And.intro hx0 (And.intro hx1' (And.intro hx2 (hx.below hb1))))))
  have HOK := hide hok
  have hlo := hok.lo
  have hhi := hok.hi
  have hcl := hok.cl
  have hnt := hok.nt
  rw [hn1] at hlo hhi hcl
  rw [hn2] at hcl
  rw [hn3] at hnt
  subst hcl
  have HN := hide (And.intro hn1 (And.intro hn2 (And.intro hn3 (And.intro hnb htn))))
  have HW1 := hide hw1
  have HFA := hide (fun (E : Int) (w : World) => fail1_any E w)
  clear hat hn1 hn2 hn3 hnb htn hw1 hz1 hb1 hx0 hx1 hx1' hx2 hpv hx hok
  go_enter Tryz.func12, Tryz.ntmps12
  go_wp2_with fail
  refine (unhide HO).mono ?_
  rintro e w4 ⟨vn, vc, vm, ns, ms, rfl, hOW, hns, hms, hB4⟩
  rw [show ((w.alloc (wbox (.slice a1 n2 c1) (.slice a2 n2 c2) (.slice a3 n3 c3))).alloc (hbox 3 (k:Int) xd tn (.slice ab nb cb))).alloc (wbox (.slice none 0 0) (.slice none 0 0) (.slice none 0 0)) = w1 from unhide HW1] at hB4 hOW
  obtain ⟨hz1, hb1, hx0, hx1, hx2, hp⟩ := unhide HX
  obtain ⟨hn1, hn2, hn3, hnb, htn⟩ := unhide HN
  obtain ⟨an, cn, hvn⟩ := hOW.n.sl
  obtain ⟨ac, cc, hvc⟩ := hOW.c.sl
  obtain ⟨am, cm, hvm⟩ := hOW.m.sl
  have hnsl : ns.length = n2 := by rw [← hn1, ← hns]; simp [lss]
  have hmsl : ms.length = n3 := by rw [← hn3, ← hms]; simp [mss]
  rw [hnsl] at hvn
  rw [hn2] at hvc
  rw [hmsl] at hvm
  subst hvn hvc hvm
  obtain ⟨h0, hS⟩ := SSt.start hz1 hb1 hx0 hx1 hx2 ⟨_, _, _, _, _, _, _, _, _, rfl, rfl, rfl⟩ hB4 hOW (hp.below hB4)
  have y0 := heap_row (i := 0) h0
  have y1 := heap_row (i := 1) h0
  have y2 := heap_row (i := 2) h0
  have f0 := frozen_of_row _ _ 0 _ _ h0
  have f1 := frozen_of_row _ _ 1 _ _ h0
  have f2 := frozen_of_row _ _ 2 _ _ h0
  obtain ⟨w5, hw5⟩ : ∃ w5, ((w4.setCell ⟨w.heap.size, 0, none⟩ (.slice an n2 cn)).setCell ⟨w.heap.size, 1, none⟩ (.slice ac n2 cc)).setCell ⟨w.heap.size, 2, none⟩ (.slice am n3 cm) = w5 := ⟨_, rfl⟩
  rw [hw5] at hS
  have HS := hide hS
  have HW5 := hide hw5
  have HL := hide (And.intro hns (And.intro hms (And.intro hnsl hmsl)))
  clear q0 q1 q2 hOW hns hms hB4 hz1 hb1 hx0 hx1 hx2 hp hn1 hn2 hn3 hnb htn hnsl hmsl h0 hS hw5 HO HX HW1
  go_upto_region 4 with fail
  rw [show ((w4.setCell ⟨w.heap.size, 0, none⟩ (.slice an n2 cn)).setCell ⟨w.heap.size, 1, none⟩ (.slice ac n2 cc)).setCell ⟨w.heap.size, 2, none⟩ (.slice am n3 cm) = w5 from unhide HW5]
  clear y0 y1 y2 f0 f1 f2 HW5
  have g0 := heap_row (i := 0) (unhide HS).b3
  have g1 := heap_row (i := 1) (unhide HS).b3
  have g2 := heap_row (i := 2) (unhide HS).b3
  have g3 := heap_row (i := 3) (unhide HS).b3
  have g4 := heap_row (i := 4) (unhide HS).b3
  simp only [(unhide HN).2.2.2.1, (unhide HN).2.2.2.2] at g3 g4
  have q0 := heap_row (i := 0) (unhide HS).b2
  have q1 := heap_row (i := 1) (unhide HS).b2
  have q2 := heap_row (i := 2) (unhide HS).b2
  obtain ⟨hkn, hq, hf, hl⟩ := unhide HKD
  rw [(unhide HN).1] at hkn hq
  rw [(unhide HN).2.2.1] at hf
  have hfI : ¬ (n3 : Int) = 20 := by omega
  have hfB : ((n3 : Int) == 20) = false := by simpa using hfI
  obtain ⟨y, hy, hym, hyl⟩ := row_of (k := k) (unhide HL).1 (by rw [(unhide HN).1]; exact hkn)
  obtain rfl : y.l = l := Option.some.inj (hyl.symm.trans hl)
  obtain ⟨gn, cpn, e⟩ := (unhide HS).ow.n.sm (by rw [(unhide HL).2.2.1]; omega)
  injection e with e1 e2 e3
  subst e1 e3
  have hrow := (unhide HS).ow.n
  rw [(unhide HL).2.2.1] at hrow
  have hce := (hrow.at1 hkn (by unfold lvs; rw [List.getElem?_map, hy]; rfl : (lvs ns)[k]? = some y.val)).1
  have HLY := hide ((unhide HS).ow.la y hym)
  have HCE : Hid ((lvs ns)[k]? = some y.val) := hide (by unfold lvs; rw [List.getElem?_map, hy]; rfl)
  obtain ⟨ly, ay, cy⟩ := y
  obtain ⟨ny, hny⟩ : ∃ ny, ly.length = ny := ⟨_, rfl⟩
  have HNY := hide hny
  simp only [Lv.val, hny] at hce HLY HCE
  have hki0 : (0 : Int) ≤ (k : Int) := by omega
  have hki1 : (k : Int) < (n2 : Int) := by omega
  have HVW : Hid (∀ (a : Option Addr) (c : Nat), owd ns W.clock (ms ++ [⟨⟨xd, ly⟩, a, c⟩]) = V) := hide (fun a c => by
    rw [← unhide HVV]
    have i1 := (unhide HL).1
    have i2 := (unhide HL).2.1
    simp only [owd, passW, mss, List.map_append, List.map_cons, List.map_nil] at *
    rw [i1, i2])
  have HSD : Hid (SSt w w5.drew (.slice (some ⟨gn, 0, none⟩) n2 cn) (.slice ac n2 cc) (.slice am n3 cm) ns W.clock ms ⟨3, (k : Int), xd, nm, bs⟩ ab cb) := hide ((unhide HS).below (below_drewN (Below.refl _ _) 1))
  have HLD : Hid (LIn w5.drew (.slice ay ny cy) ly) := hide ((unhide HLY).below (below_drewN (Below.refl _ _) 1))
  have HCD : Hid (w5.drew.cell? ⟨gn, k, none⟩ = some (.slice ay ny cy)) := hide hce
  clear HKD hf hl hy hym hyl e2 hrow hce hny
  have HP := hide (node2_any (k : Int) n2 w5 q0)
  have HQ := hide (node2_any xd n2 w5 q0)
  rw [isP_nat (by omega)] at HP
  rw [hq] at HQ
  clear hq
  go_wp2_with fail
  refine (unhide HP).mono ?_
  rintro e w7 ⟨rfl, hw7⟩
  obtain rfl : w5 = w7 := hw7.symm
  go_wp2_with fail
  refine (unhide HQ).mono ?_
  rintro e w7 ⟨rfl, hw7⟩
  obtain rfl : w5 = w7 := hw7.symm
  go_upto_region 35 with fail
  clear HLY
  have HLY := HLD
  replace q0 : w5.drew.cell? ⟨w.heap.size, 0, none⟩ = some (.slice (some ⟨gn, 0, none⟩) n2 cn) := q0
  replace q2 : w5.drew.cell? ⟨w.heap.size, 2, none⟩ = some (.slice am n3 cm) := q2
  clear g0 g1 g2 g3 g4 q1
  refine wp_region_held_drew (S := fun W => W.heap[w.heap.size + 1]? = some (.cells #[.int .i64 3, .int .i64 (k : Int), .int .i64 xd, .string (B nm), .slice ab bs.length cb] 29 (0, 0)) ∧ W.cell? ⟨gn, k, none⟩ = some (.slice ay ny cy)) (by kernel_rfl) ⟨(unhide HSD).b3, unhide HCD⟩ (fun hHeld => ?_)
  refine wpAnyH_take (i := 0) (v := .pointer (some ⟨w.heap.size, 2, none⟩)) rfl (by kernel_rfl) (by kernel_rfl) (by kernel_rfl) (fun _ _ _ h => h) (Or.inl ⟨by rfl, fun W hS => by go_simp⟩) hHeld ?_
  simp only [Act.put, List.setIfInBounds_toArray, List.set_cons_zero, List.set_cons_succ]
  refine wpAnyH_take (i := 2) (v := .pointer (some ⟨w.heap.size + 1, 2, none⟩)) rfl (by kernel_rfl) (by kernel_rfl) (by kernel_rfl) (fun _ _ _ h => h) (Or.inl ⟨by rfl, fun W hS => by go_simp⟩) hHeld ?_
  simp only [Act.put, List.setIfInBounds_toArray, List.set_cons_zero, List.set_cons_succ]
  refine wpAnyH_take (i := 3) (v := .int .i64 xd) rfl (by kernel_rfl) (by kernel_rfl) (by kernel_rfl) (fun _ _ _ h => h) (Or.inl ⟨by rfl, fun W hS => by have z := heap_row (i := 2) hS.1; go_simp⟩) hHeld ?_
  simp only [Act.put, List.setIfInBounds_toArray, List.set_cons_zero, List.set_cons_succ]
  refine wpAnyH_take (i := 4) (v := .pointer (some ⟨w.heap.size, 0, none⟩)) rfl (by kernel_rfl) (by kernel_rfl) (by kernel_rfl) (fun _ _ _ h => h) (Or.inl ⟨by rfl, fun W hS => by go_simp⟩) hHeld ?_
  simp only [Act.put, List.setIfInBounds_toArray, List.set_cons_zero, List.set_cons_succ]
  refine wpAnyH_take (i := 6) (v := .pointer (some ⟨w.heap.size + 1, 1, none⟩)) rfl (by kernel_rfl) (by kernel_rfl) (by kernel_rfl) (fun _ _ _ h => h) (Or.inl ⟨by rfl, fun W hS => by go_simp⟩) hHeld ?_
  simp only [Act.put, List.setIfInBounds_toArray, List.set_cons_zero, List.set_cons_succ]
  refine wpAnyH_take (i := 7) (v := .int .i64 (k : Int)) rfl (by kernel_rfl) (by kernel_rfl) (by kernel_rfl) (fun _ _ _ h => h) (Or.inl ⟨by rfl, fun W hS => by have z := heap_row (i := 1) hS.1; go_simp⟩) hHeld ?_
  simp only [Act.put, List.setIfInBounds_toArray, List.set_cons_zero, List.set_cons_succ]
  refine wpAnyH_ready (rs := [1, 5]) (by kernel_rfl) (by simp) (AllReadyH.cons rfl (fun K hK => ?_) (AllReadyH.cons rfl (fun K hK => ?_) AllReadyH.nil))
  · go_simp
    refine hK.out _ _ hHeld (fun hHeld => ?_)
    clear hK K
    refine wpAnyH_ready (rs := [5]) (by kernel_rfl) (by simp) (AllReadyH.cons rfl (fun K hK => ?_) AllReadyH.nil)
    go_simp
    refine hK.out _ _ hHeld (fun hHeld => ?_)
    clear hK K
    refine wpAnyH_take (i := 8) (v := .pointer (some ⟨gn, k, none⟩)) rfl (by kernel_rfl) (by kernel_rfl) (by kernel_rfl) (fun _ _ _ h => h) (Or.inl ⟨by rfl, fun W hS => by go_simp⟩) hHeld ?_
    simp only [Act.put, List.setIfInBounds_toArray, List.set_cons_zero, List.set_cons_succ]
    refine wpAnyH_take (i := 9) (v := .slice ay ny cy) rfl (by kernel_rfl) (by kernel_rfl) (by kernel_rfl) (fun _ _ _ h => h) (Or.inl ⟨by rfl, fun W hS => by have z := hS.2; go_simp⟩) hHeld ?_
    simp only [Act.put, List.setIfInBounds_toArray, List.set_cons_zero, List.set_cons_succ]
    refine wpAnyH_take (i := 10) (v := .agg #[.int .i64 xd, .slice ay ny cy]) rfl (by kernel_rfl) (by kernel_rfl) (by kernel_rfl) (fun _ _ _ h => h) (Or.inl ⟨by rfl, fun W hS => by go_simp⟩) hHeld ?_
    simp only [Act.put, List.setIfInBounds_toArray, List.set_cons_zero, List.set_cons_succ]
    refine wpAnyH_ready (rs := [11]) (by kernel_rfl) (by simp) (AllReadyH.cons rfl (fun K hK => ?_) AllReadyH.nil)
    go_simp
    refine hK.out _ _ ⟨(Below.heap_alloc _ _ _ (Array.getElem?_eq_some_iff.1 hHeld.1).1).trans hHeld.1, cell_al hHeld.2⟩ (fun hHeld => ?_)
    clear hK K
    have hA := bel_al (Below.refl w5.drew.heap.size w5.drew) (.cells #[.int .i64 xd, .slice ay ny cy] 54)
    have hSb := (unhide HSD).below hA
    have c0 : (w5.drew.alloc (.cells #[.int .i64 xd, .slice ay ny cy] 54)).cell? ⟨w5.drew.heap.size, 0, none⟩ = some (.int .i64 (Mv.mk ⟨xd, ly⟩ ay cy).m.dst) := heap_row (heap_alloc_new w5.drew _)
    have c1 : (w5.drew.alloc (.cells #[.int .i64 xd, .slice ay ny cy] 54)).cell? ⟨w5.drew.heap.size, 1, none⟩ = some (Mv.mk ⟨xd, ly⟩ ay cy).sl := by rw [heap_row (heap_alloc_new w5.drew _)]; simp [Mv.sl, unhide HNY]
    obtain ⟨v6, w6, hr, hT, hgr, hat⟩ := app_m (w5.drew.alloc (.cells #[.int .i64 xd, .slice ay ny cy] 54)) 24 (y := ⟨⟨xd, ly⟩, ay, cy⟩) hSb.ow.m c0 c1 (by have := (unhide HL).2.2.2; omega) (by have := hSb.lt; omega)
    obtain ⟨e2, e3, hS6⟩ := hSb.msgs (ms' := ms ++ [⟨⟨xd, ly⟩, ay, cy⟩]) (fun z hz hn => by
      rcases List.mem_append.1 hz with hz | hz
      · exact absurd hz hn
      · rw [List.mem_singleton.1 hz]
        have := (unhide HLY).below hA
        simpa [Mv.sl, unhide HNY] using this) hT hgr
    have hk6 : w6.cell? ⟨gn, k, none⟩ = some (.slice ay ny cy) := hgr.cell hHeld.2 (fun e => by
      rcases hSb.ow.n.ne hSb.ow.m (by decide) with q | q
      · cases q
      · exact q e)
    have hk7 : (w6.setCell ⟨w.heap.size, 2, none⟩ v6).cell? ⟨gn, k, none⟩ = some (.slice ay ny cy) := by
      have hrow := hS6.ow.n
      rw [(unhide HL).2.2.1] at hrow
      exact (hrow.at1 hkn (unhide HCE)).1
    obtain ⟨a6, c6, hv6⟩ := hT.sl
    rw [List.length_append, List.length_singleton, (unhide HL).2.2.2] at hv6
    subst hv6
    have z2 := heap_row (i := 2) e2
    have zf := frozen_of_row _ _ 2 _ _ e2
    have HR7 := hide (And.intro hS6.b3 hk7)
    have HS6 := hide hS6
    have hSv : w6.heap[w.heap.size + 1]? = some (.cells #[.int .i64 3, .int .i64 (k : Int), .int .i64 xd, .string (B nm), .slice ab bs.length cb] 29 (0, 0)) ∧ w6.cell? ⟨gn, k, none⟩ = some (.slice ay ny cy) := ⟨e3, hk6⟩
    clear hA hSb c0 c1 hT hgr hat e2 e3 hS6 hk6 hk7
    refine wpAnyH_ready (rs := [12]) (by kernel_rfl) (by simp) (AllReadyH.cons rfl (fun K hK => ?_) AllReadyH.nil)
    rw [if_pos (by rfl)]
    refine wp_append_run (.tmp 206) (.tmp 216) 24 rfl rfl rfl hr ?_
    refine hK.out _ _ hSv (fun hHeld => ?_)
    clear hK K hr hSv
    simp only [Act.put, List.setIfInBounds_toArray, List.set_cons_zero, List.set_cons_succ]
    refine wpAnyH_take (i := 13) (v := .pointer (some ⟨w.heap.size, 2, none⟩)) rfl (by kernel_rfl) (by kernel_rfl) (by kernel_rfl) (fun _ _ _ h => h) (Or.inl ⟨by rfl, fun W hS => by go_simp⟩) hHeld ?_
    simp only [Act.put, List.setIfInBounds_toArray, List.set_cons_zero, List.set_cons_succ]
    refine wpAnyH_ready (rs := [14]) (by kernel_rfl) (by simp) (AllReadyH.cons rfl (fun K hK => ?_) AllReadyH.nil)
    go_simp
    refine hK.out _ _ (unhide HR7) (fun _ => ?_)
    clear hK K hHeld
    refine wpAnyH_done (by kernel_rfl) ?_ _
    obtain ⟨w8, hw8⟩ : ∃ w8, w6.setCell ⟨w.heap.size, 2, none⟩ (.slice a6 (n3 + 1) c6) = w8 := ⟨_, rfl⟩
    rw [hw8] at HS6 ⊢
    have HLEN : Hid (ns.length ≤ 1000 ∧ W.clock.length ≤ 1000 ∧ (ms ++ [(⟨⟨xd, ly⟩, ay, cy⟩ : Mv)]).length ≤ 1000) := hide ⟨by rw [(unhide HL).2.2.1]; omega, by rw [(unhide HN).2.1]; omega, by rw [List.length_append, (unhide HL).2.2.2]; simp; omega⟩
    have HV := hide (unhide HVW ay cy)
    clear z2 zf hw8 HR7
    have hSA := unhide HS6
    obtain ⟨p1, p2, p3, p4⟩ := hSA.answer (unhide HLEN).1 (unhide HLEN).2.1 (unhide HLEN).2.2 (unhide HV)
    have q0 := heap_row (i := 0) hSA.b2
    have q1 := heap_row (i := 1) hSA.b2
    have q2 := heap_row (i := 2) hSA.b2
    have y0 := heap_row (i := 0) hSA.b4
    have y1 := heap_row (i := 1) hSA.b4
    have y2 := heap_row (i := 2) hSA.b4
    have f0 := frozen_of_row _ _ 0 _ _ hSA.b4
    have f1 := frozen_of_row _ _ 1 _ _ hSA.b4
    have f2 := frozen_of_row _ _ 2 _ _ hSA.b4
    have HP := hide p1
    have HAN := hide (And.intro p2 (And.intro p3 p4))
    clear hSA p1 p2 p3 p4
    go_wp2
    refine bodyPost_ret (v := .tuple #[.agg #[_, _, _], .int .i64 0]) ?_ rfl ⟨_, rfl, (unhide HAN).1, (unhide HAN).2.1, (unhide HAN).2.2⟩
    exact results_wt rfl _ _ (w.heap.size + 2) _ _ rfl (wd_load (unhide HP)) rfl
  · go_simp
    refine hK.out _ _ hHeld (fun hHeld => ?_)
    clear hK K
    refine wpAnyH_take (i := 8) (v := .pointer (some ⟨gn, k, none⟩)) rfl (by kernel_rfl) (by kernel_rfl) (by kernel_rfl) (fun _ _ _ h => h) (Or.inl ⟨by rfl, fun W hS => by go_simp⟩) hHeld ?_
    simp only [Act.put, List.setIfInBounds_toArray, List.set_cons_zero, List.set_cons_succ]
    refine wpAnyH_take (i := 9) (v := .slice ay ny cy) rfl (by kernel_rfl) (by kernel_rfl) (by kernel_rfl) (fun _ _ _ h => h) (Or.inl ⟨by rfl, fun W hS => by have z := hS.2; go_simp⟩) hHeld ?_
    simp only [Act.put, List.setIfInBounds_toArray, List.set_cons_zero, List.set_cons_succ]
    refine wpAnyH_take (i := 10) (v := .agg #[.int .i64 xd, .slice ay ny cy]) rfl (by kernel_rfl) (by kernel_rfl) (by kernel_rfl) (fun _ _ _ h => h) (Or.inl ⟨by rfl, fun W hS => by go_simp⟩) hHeld ?_
    simp only [Act.put, List.setIfInBounds_toArray, List.set_cons_zero, List.set_cons_succ]
    refine wpAnyH_ready (rs := [1, 11]) (by kernel_rfl) (by simp) (AllReadyH.cons rfl (fun K hK => ?_) (AllReadyH.cons rfl (fun K hK => ?_) AllReadyH.nil))
    · go_simp
      refine hK.out _ _ hHeld (fun hHeld => ?_)
      clear hK K
      refine wpAnyH_ready (rs := [11]) (by kernel_rfl) (by simp) (AllReadyH.cons rfl (fun K hK => ?_) AllReadyH.nil)
      go_simp
      refine hK.out _ _ ⟨(Below.heap_alloc _ _ _ (Array.getElem?_eq_some_iff.1 hHeld.1).1).trans hHeld.1, cell_al hHeld.2⟩ (fun hHeld => ?_)
      clear hK K
      have hA := bel_al (Below.refl w5.drew.heap.size w5.drew) (.cells #[.int .i64 xd, .slice ay ny cy] 54)
      have hSb := (unhide HSD).below hA
      have c0 : (w5.drew.alloc (.cells #[.int .i64 xd, .slice ay ny cy] 54)).cell? ⟨w5.drew.heap.size, 0, none⟩ = some (.int .i64 (Mv.mk ⟨xd, ly⟩ ay cy).m.dst) := heap_row (heap_alloc_new w5.drew _)
      have c1 : (w5.drew.alloc (.cells #[.int .i64 xd, .slice ay ny cy] 54)).cell? ⟨w5.drew.heap.size, 1, none⟩ = some (Mv.mk ⟨xd, ly⟩ ay cy).sl := by rw [heap_row (heap_alloc_new w5.drew _)]; simp [Mv.sl, unhide HNY]
      obtain ⟨v6, w6, hr, hT, hgr, hat⟩ := app_m (w5.drew.alloc (.cells #[.int .i64 xd, .slice ay ny cy] 54)) 24 (y := ⟨⟨xd, ly⟩, ay, cy⟩) hSb.ow.m c0 c1 (by have := (unhide HL).2.2.2; omega) (by have := hSb.lt; omega)
      obtain ⟨e2, e3, hS6⟩ := hSb.msgs (ms' := ms ++ [⟨⟨xd, ly⟩, ay, cy⟩]) (fun z hz hn => by
        rcases List.mem_append.1 hz with hz | hz
        · exact absurd hz hn
        · rw [List.mem_singleton.1 hz]
          have := (unhide HLY).below hA
          simpa [Mv.sl, unhide HNY] using this) hT hgr
      have hk6 : w6.cell? ⟨gn, k, none⟩ = some (.slice ay ny cy) := hgr.cell hHeld.2 (fun e => by
        rcases hSb.ow.n.ne hSb.ow.m (by decide) with q | q
        · cases q
        · exact q e)
      have hk7 : (w6.setCell ⟨w.heap.size, 2, none⟩ v6).cell? ⟨gn, k, none⟩ = some (.slice ay ny cy) := by
        have hrow := hS6.ow.n
        rw [(unhide HL).2.2.1] at hrow
        exact (hrow.at1 hkn (unhide HCE)).1
      obtain ⟨a6, c6, hv6⟩ := hT.sl
      rw [List.length_append, List.length_singleton, (unhide HL).2.2.2] at hv6
      subst hv6
      have z2 := heap_row (i := 2) e2
      have zf := frozen_of_row _ _ 2 _ _ e2
      have HR7 := hide (And.intro hS6.b3 hk7)
      have HS6 := hide hS6
      have hSv : w6.heap[w.heap.size + 1]? = some (.cells #[.int .i64 3, .int .i64 (k : Int), .int .i64 xd, .string (B nm), .slice ab bs.length cb] 29 (0, 0)) ∧ w6.cell? ⟨gn, k, none⟩ = some (.slice ay ny cy) := ⟨e3, hk6⟩
      clear hA hSb c0 c1 hT hgr hat e2 e3 hS6 hk6 hk7
      refine wpAnyH_ready (rs := [12]) (by kernel_rfl) (by simp) (AllReadyH.cons rfl (fun K hK => ?_) AllReadyH.nil)
      rw [if_pos (by rfl)]
      refine wp_append_run (.tmp 206) (.tmp 216) 24 rfl rfl rfl hr ?_
      refine hK.out _ _ hSv (fun hHeld => ?_)
      clear hK K hr hSv
      simp only [Act.put, List.setIfInBounds_toArray, List.set_cons_zero, List.set_cons_succ]
      refine wpAnyH_take (i := 13) (v := .pointer (some ⟨w.heap.size, 2, none⟩)) rfl (by kernel_rfl) (by kernel_rfl) (by kernel_rfl) (fun _ _ _ h => h) (Or.inl ⟨by rfl, fun W hS => by go_simp⟩) hHeld ?_
      simp only [Act.put, List.setIfInBounds_toArray, List.set_cons_zero, List.set_cons_succ]
      refine wpAnyH_ready (rs := [14]) (by kernel_rfl) (by simp) (AllReadyH.cons rfl (fun K hK => ?_) AllReadyH.nil)
      go_simp
      refine hK.out _ _ (unhide HR7) (fun _ => ?_)
      clear hK K hHeld
      refine wpAnyH_done (by kernel_rfl) ?_ _
      obtain ⟨w8, hw8⟩ : ∃ w8, w6.setCell ⟨w.heap.size, 2, none⟩ (.slice a6 (n3 + 1) c6) = w8 := ⟨_, rfl⟩
      rw [hw8] at HS6 ⊢
      have HLEN : Hid (ns.length ≤ 1000 ∧ W.clock.length ≤ 1000 ∧ (ms ++ [(⟨⟨xd, ly⟩, ay, cy⟩ : Mv)]).length ≤ 1000) := hide ⟨by rw [(unhide HL).2.2.1]; omega, by rw [(unhide HN).2.1]; omega, by rw [List.length_append, (unhide HL).2.2.2]; simp; omega⟩
      have HV := hide (unhide HVW ay cy)
      clear z2 zf hw8 HR7
      have hSA := unhide HS6
      obtain ⟨p1, p2, p3, p4⟩ := hSA.answer (unhide HLEN).1 (unhide HLEN).2.1 (unhide HLEN).2.2 (unhide HV)
      have q0 := heap_row (i := 0) hSA.b2
      have q1 := heap_row (i := 1) hSA.b2
      have q2 := heap_row (i := 2) hSA.b2
      have y0 := heap_row (i := 0) hSA.b4
      have y1 := heap_row (i := 1) hSA.b4
      have y2 := heap_row (i := 2) hSA.b4
      have f0 := frozen_of_row _ _ 0 _ _ hSA.b4
      have f1 := frozen_of_row _ _ 1 _ _ hSA.b4
      have f2 := frozen_of_row _ _ 2 _ _ hSA.b4
      have HP := hide p1
      have HAN := hide (And.intro p2 (And.intro p3 p4))
      clear hSA p1 p2 p3 p4
      go_wp2
      refine bodyPost_ret (v := .tuple #[.agg #[_, _, _], .int .i64 0]) ?_ rfl ⟨_, rfl, (unhide HAN).1, (unhide HAN).2.1, (unhide HAN).2.2⟩
      exact results_wt rfl _ _ (w.heap.size + 2) _ _ rfl (wd_load (unhide HP)) rfl
    · skip
      go_simp
      refine hK.out _ _ ⟨(Below.heap_alloc _ _ _ (Array.getElem?_eq_some_iff.1 hHeld.1).1).trans hHeld.1, cell_al hHeld.2⟩ (fun hHeld => ?_)
      clear hK K
      have q2' : (w5.drew.alloc (.cells #[.int .i64 xd, .slice ay ny cy] 54)).cell? ⟨w.heap.size, 2, none⟩ = some (.slice am n3 cm) := cell_al q2
      have q2'' : (w5.alloc (.cells #[.int .i64 xd, .slice ay ny cy] 54)).cell? ⟨w.heap.size, 2, none⟩ = some (.slice am n3 cm) := cell_al (W := w5) q2
      refine wpAnyH_ready (rs := [1]) (by kernel_rfl) (by simp) (AllReadyH.cons rfl (fun K hK => ?_) AllReadyH.nil)
      go_simp
      refine hK.out _ _ hHeld (fun hHeld => ?_)
      clear hK K q2' q2''
      have hA := bel_al (Below.refl w5.drew.heap.size w5.drew) (.cells #[.int .i64 xd, .slice ay ny cy] 54)
      have hSb := (unhide HSD).below hA
      have c0 : (w5.drew.alloc (.cells #[.int .i64 xd, .slice ay ny cy] 54)).cell? ⟨w5.drew.heap.size, 0, none⟩ = some (.int .i64 (Mv.mk ⟨xd, ly⟩ ay cy).m.dst) := heap_row (heap_alloc_new w5.drew _)
      have c1 : (w5.drew.alloc (.cells #[.int .i64 xd, .slice ay ny cy] 54)).cell? ⟨w5.drew.heap.size, 1, none⟩ = some (Mv.mk ⟨xd, ly⟩ ay cy).sl := by rw [heap_row (heap_alloc_new w5.drew _)]; simp [Mv.sl, unhide HNY]
      obtain ⟨v6, w6, hr, hT, hgr, hat⟩ := app_m (w5.drew.alloc (.cells #[.int .i64 xd, .slice ay ny cy] 54)) 24 (y := ⟨⟨xd, ly⟩, ay, cy⟩) hSb.ow.m c0 c1 (by have := (unhide HL).2.2.2; omega) (by have := hSb.lt; omega)
      obtain ⟨e2, e3, hS6⟩ := hSb.msgs (ms' := ms ++ [⟨⟨xd, ly⟩, ay, cy⟩]) (fun z hz hn => by
        rcases List.mem_append.1 hz with hz | hz
        · exact absurd hz hn
        · rw [List.mem_singleton.1 hz]
          have := (unhide HLY).below hA
          simpa [Mv.sl, unhide HNY] using this) hT hgr
      have hk6 : w6.cell? ⟨gn, k, none⟩ = some (.slice ay ny cy) := hgr.cell hHeld.2 (fun e => by
        rcases hSb.ow.n.ne hSb.ow.m (by decide) with q | q
        · cases q
        · exact q e)
      have hk7 : (w6.setCell ⟨w.heap.size, 2, none⟩ v6).cell? ⟨gn, k, none⟩ = some (.slice ay ny cy) := by
        have hrow := hS6.ow.n
        rw [(unhide HL).2.2.1] at hrow
        exact (hrow.at1 hkn (unhide HCE)).1
      obtain ⟨a6, c6, hv6⟩ := hT.sl
      rw [List.length_append, List.length_singleton, (unhide HL).2.2.2] at hv6
      subst hv6
      have z2 := heap_row (i := 2) e2
      have zf := frozen_of_row _ _ 2 _ _ e2
      have HR7 := hide (And.intro hS6.b3 hk7)
      have HS6 := hide hS6
      have hSv : w6.heap[w.heap.size + 1]? = some (.cells #[.int .i64 3, .int .i64 (k : Int), .int .i64 xd, .string (B nm), .slice ab bs.length cb] 29 (0, 0)) ∧ w6.cell? ⟨gn, k, none⟩ = some (.slice ay ny cy) := ⟨e3, hk6⟩
      clear hA hSb c0 c1 hT hgr hat e2 e3 hS6 hk6 hk7
      refine wpAnyH_ready (rs := [12]) (by kernel_rfl) (by simp) (AllReadyH.cons rfl (fun K hK => ?_) AllReadyH.nil)
      rw [if_pos (by rfl)]
      refine wp_append_run (.tmp 206) (.tmp 216) 24 rfl rfl rfl hr ?_
      refine hK.out _ _ hSv (fun hHeld => ?_)
      clear hK K hr hSv
      simp only [Act.put, List.setIfInBounds_toArray, List.set_cons_zero, List.set_cons_succ]
      refine wpAnyH_take (i := 13) (v := .pointer (some ⟨w.heap.size, 2, none⟩)) rfl (by kernel_rfl) (by kernel_rfl) (by kernel_rfl) (fun _ _ _ h => h) (Or.inl ⟨by rfl, fun W hS => by go_simp⟩) hHeld ?_
      simp only [Act.put, List.setIfInBounds_toArray, List.set_cons_zero, List.set_cons_succ]
      refine wpAnyH_ready (rs := [14]) (by kernel_rfl) (by simp) (AllReadyH.cons rfl (fun K hK => ?_) AllReadyH.nil)
      go_simp
      refine hK.out _ _ (unhide HR7) (fun _ => ?_)
      clear hK K hHeld
      refine wpAnyH_done (by kernel_rfl) ?_ _
      obtain ⟨w8, hw8⟩ : ∃ w8, w6.setCell ⟨w.heap.size, 2, none⟩ (.slice a6 (n3 + 1) c6) = w8 := ⟨_, rfl⟩
      rw [hw8] at HS6 ⊢
      have HLEN : Hid (ns.length ≤ 1000 ∧ W.clock.length ≤ 1000 ∧ (ms ++ [(⟨⟨xd, ly⟩, ay, cy⟩ : Mv)]).length ≤ 1000) := hide ⟨by rw [(unhide HL).2.2.1]; omega, by rw [(unhide HN).2.1]; omega, by rw [List.length_append, (unhide HL).2.2.2]; simp; omega⟩
      have HV := hide (unhide HVW ay cy)
      clear z2 zf hw8 HR7
      have hSA := unhide HS6
      obtain ⟨p1, p2, p3, p4⟩ := hSA.answer (unhide HLEN).1 (unhide HLEN).2.1 (unhide HLEN).2.2 (unhide HV)
      have q0 := heap_row (i := 0) hSA.b2
      have q1 := heap_row (i := 1) hSA.b2
      have q2 := heap_row (i := 2) hSA.b2
      have y0 := heap_row (i := 0) hSA.b4
      have y1 := heap_row (i := 1) hSA.b4
      have y2 := heap_row (i := 2) hSA.b4
      have f0 := frozen_of_row _ _ 0 _ _ hSA.b4
      have f1 := frozen_of_row _ _ 1 _ _ hSA.b4
      have f2 := frozen_of_row _ _ 2 _ _ hSA.b4
      have HP := hide p1
      have HAN := hide (And.intro p2 (And.intro p3 p4))
      clear hSA p1 p2 p3 p4
      go_wp2
      refine bodyPost_ret (v := .tuple #[.agg #[_, _, _], .int .i64 0]) ?_ rfl ⟨_, rfl, (unhide HAN).1, (unhide HAN).2.1, (unhide HAN).2.2⟩
      exact results_wt rfl _ _ (w.heap.size + 2) _ _ rfl (wd_load (unhide HP)) rfl
end Go.Proofs.YtmgmganbamjnmaaGreatDoor
