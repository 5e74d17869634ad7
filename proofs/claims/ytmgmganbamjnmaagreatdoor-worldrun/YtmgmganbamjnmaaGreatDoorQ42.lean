/-
  The document's StepOf: a file is put, or taken.
-/
import Derived.Test.YtmgmganbamjnmaaGreatDoorQ41
import Derived.Test.YtmgmganbamjnmaaGreatDoorQ28
namespace Go.Proofs.YtmgmganbamjnmaaGreatDoor
open Go.RowKit
set_option linter.unusedVariables false
set_option linter.unusedSimpArgs false
set_option maxRecDepth 100000



set_option maxHeartbeats 4000000 in
theorem step_file_who {w : World} {v : Value} {W : Wd} (xk xn xd : Int) (nm bs : List UInt8) {ab : Option Addr} {cb : Nat} (h : WIn w v W) (hx : HpAt w ⟨xk, xn, xd, nm, bs⟩ ab cb) (hok : WdOk W) (hk1 : ¬ xk < 1) (hk2 : xk ≤ 2) (hk : isP xn W.nodes.length = false) : Calls Tryz.prog 12 #[v, hpV ⟨xk, xn, xd, nm, bs⟩ ab cb] w (DoA w 5 noW) := by
  have HKD := hide hk
  have hk3 : ¬ 6 < xk := by omega
  have hk4 : ¬ 4 ≤ xk := by omega
  have hk5 : xk ≤ 3 := by omega
  clear hk hk2
  obtain ⟨a1, c1, a2, c2, a3, c3, rfl, hat⟩ := h
  obtain ⟨n1, hn1⟩ : ∃ n1, W.nodes.length = n1 := ⟨_, rfl⟩
  obtain ⟨n2, hn2⟩ : ∃ n2, W.clock.length = n2 := ⟨_, rfl⟩
  obtain ⟨n3, hn3⟩ : ∃ n3, W.net.length = n3 := ⟨_, rfl⟩
  rw [hn1, hn2, hn3]
  obtain ⟨nb, hnb⟩ : ∃ nb, bs.length = nb := ⟨_, rfl⟩
  obtain ⟨tn, htn⟩ : ∃ tn, B nm = tn := ⟨_, rfl⟩
  obtain ⟨w1, hw1, hz1, hb1, hx0, hx1, hx2⟩ := three_boxes w (.slice a1 n1 c1) (.slice a2 n2 c2) (.slice a3 n3 c3) xk xn xd tn (.slice ab nb cb)
  have HO := hide (ownW_wat a1 a2 a3 c1 c2 c3 W w1 (hat.below hb1) n1 n3 n2 hn1 hn2 hn3)
  have hpv : hpV ⟨xk, xn, xd, nm, bs⟩ ab cb = .agg #[.int .i64 xk, .int .i64 xn, .int .i64 xd, .string tn, .slice ab nb cb] := by unfold hpV; simp only [hnb, htn]
  rw [hpv]
  have hx1' : w1.heap[w.heap.size + 1]? = some (.cells #[.int .i64 (Hp.mk xk xn xd nm bs).kind, .int .i64 (Hp.mk xk xn xd nm bs).node, .int .i64 (Hp.mk xk xn xd nm bs).dst, .string (B (Hp.mk xk xn xd nm bs).name), .slice ab (Hp.mk xk xn xd nm bs).bytes.length cb] 29 (0, 0)) := by simp only [hnb, htn]; exact hx1
  have q0 := heap_row (i := 0) hx0
  have q1 := heap_row (i := 1) hx0
  have q2 := heap_row (i := 2) hx0
  rw [← hw1] at q0 q1 q2 HO
  have HX := hide (And.intro hz1 (And.intro hb1 (And.intro hx0 (And.intro hx1' (And.intro hx2 (hx.below hb1))))))
  have HOK := hide hok
  have hlo := hok.lo
  have hhi := hok.hi
  have hcl := hok.cl
  have hnt := hok.nt
  rw [hn1] at hlo hhi hcl
  rw [hn2] at hcl
  rw [hn3] at hnt
  subst hcl
  have HN := hide (And.intro hn1 (And.intro hn2 (And.intro hn3 (And.intro hnb htn))))
  have HW1 := hide hw1
  have HFA := hide (fun (E : Int) (w : World) => fail1_any E w)
  clear hat hn1 hn2 hn3 hnb htn hw1 hz1 hb1 hx0 hx1 hx1' hx2 hpv hx hok
  go_enter Tryz.func12, Tryz.ntmps12
  go_wp2_with fail
  refine (unhide HO).mono ?_
  rintro e w4 ⟨vn, vc, vm, ns, ms, rfl, hOW, hns, hms, hB4⟩
  rw [show ((w.alloc (wbox (.slice a1 n2 c1) (.slice a2 n2 c2) (.slice a3 n3 c3))).alloc (hbox xk xn xd tn (.slice ab nb cb))).alloc (wbox (.slice none 0 0) (.slice none 0 0) (.slice none 0 0)) = w1 from unhide HW1] at hB4 hOW
  obtain ⟨hz1, hb1, hx0, hx1, hx2, hp⟩ := unhide HX
  obtain ⟨hn1, hn2, hn3, hnb, htn⟩ := unhide HN
  obtain ⟨an, cn, hvn⟩ := hOW.n.sl
  obtain ⟨ac, cc, hvc⟩ := hOW.c.sl
  obtain ⟨am, cm, hvm⟩ := hOW.m.sl
  have hnsl : ns.length = n2 := by rw [← hn1, ← hns]; simp [lss]
  have hmsl : ms.length = n3 := by rw [← hn3, ← hms]; simp [mss]
  rw [hnsl] at hvn
  rw [hn2] at hvc
  rw [hmsl] at hvm
  subst hvn hvc hvm
  obtain ⟨h0, hS⟩ := SSt.start hz1 hb1 hx0 hx1 hx2 ⟨_, _, _, _, _, _, _, _, _, rfl, rfl, rfl⟩ hB4 hOW (hp.below hB4)
  have y0 := heap_row (i := 0) h0
  have y1 := heap_row (i := 1) h0
  have y2 := heap_row (i := 2) h0
  have f0 := frozen_of_row _ _ 0 _ _ h0
  have f1 := frozen_of_row _ _ 1 _ _ h0
  have f2 := frozen_of_row _ _ 2 _ _ h0
  obtain ⟨w5, hw5⟩ : ∃ w5, ((w4.setCell ⟨w.heap.size, 0, none⟩ (.slice an n2 cn)).setCell ⟨w.heap.size, 1, none⟩ (.slice ac n2 cc)).setCell ⟨w.heap.size, 2, none⟩ (.slice am n3 cm) = w5 := ⟨_, rfl⟩
  rw [hw5] at hS
  have HS := hide hS
  have HW5 := hide hw5
  have HL := hide (And.intro hns (And.intro hms (And.intro hnsl hmsl)))
  clear q0 q1 q2 hOW hns hms hB4 hz1 hb1 hx0 hx1 hx2 hp hn1 hn2 hn3 hnb htn hnsl hmsl h0 hS hw5 HO HX HW1
  go_upto_region 4 with fail
  rw [show ((w4.setCell ⟨w.heap.size, 0, none⟩ (.slice an n2 cn)).setCell ⟨w.heap.size, 1, none⟩ (.slice ac n2 cc)).setCell ⟨w.heap.size, 2, none⟩ (.slice am n3 cm) = w5 from unhide HW5]
  clear y0 y1 y2 f0 f1 f2 HW5
  have g0 := heap_row (i := 0) (unhide HS).b3
  have g1 := heap_row (i := 1) (unhide HS).b3
  have g2 := heap_row (i := 2) (unhide HS).b3
  have g3 := heap_row (i := 3) (unhide HS).b3
  have g4 := heap_row (i := 4) (unhide HS).b3
  simp only [(unhide HN).2.2.2.1, (unhide HN).2.2.2.2] at g3 g4
  have q0 := heap_row (i := 0) (unhide HS).b2
  have q1 := heap_row (i := 1) (unhide HS).b2
  have q2 := heap_row (i := 2) (unhide HS).b2
  have hkd := unhide HKD
  rw [(unhide HN).1] at hkd
  have HP := hide (node2_any xn n2 w5 q0)
  rw [hkd] at HP
  clear hkd HKD
  go_wp2_with fail
  refine (unhide HP).mono ?_
  rintro e w7 ⟨rfl, hw7⟩
  obtain rfl : w5 = w7 := hw7.symm
  go_wp2_with fail
  refine (unhide HFA _ _).mono ?_
  rintro e w9 ⟨rfl, hB9⟩
  have hS9 := (unhide HS).below hB9
  obtain ⟨p1, p2⟩ := hS9.fail
  have y0 := heap_row (i := 0) hS9.b4
  have y1 := heap_row (i := 1) hS9.b4
  have y2 := heap_row (i := 2) hS9.b4
  have f0 := frozen_of_row _ _ 0 _ _ hS9.b4
  have f1 := frozen_of_row _ _ 1 _ _ hS9.b4
  have f2 := frozen_of_row _ _ 2 _ _ hS9.b4
  have HP := hide p1
  have HBF := hide p2
  clear hS9 hB9 p1 p2
  go_wp2
  refine bodyPost_ret (v := .tuple #[.agg #[(.slice none 0 0), (.slice none 0 0), (.slice none 0 0)], .int .i64 5]) ?_ rfl ⟨_, rfl, WIn.no _, VFrom.no _ _, unhide HBF⟩
  exact results_wt rfl _ _ (w.heap.size + 2) _ _ rfl (wd_load (unhide HP)) rfl
def IsRow (W : World) (X : Nat) (cs : Array Value) (Wf : World) : Prop := W.setRow X cs = Wf
theorem one_err {nm bs : List UInt8} {c : Int} {k : Nat} {g : Bool} (h : errN nm = 0) (hb : bs.length ≤ 3000) (h0 : 0 ≤ c) (h1 : c ≤ 1000000) (hk : k ≤ 3) (hg : g = true → bs = []) : errM [(⟨nm, bs, c, (k : Int), g⟩ : Fl)] = 0 := by
  refine errM_zero.2 ⟨by simp, fun f hf => ?_, ?_⟩
  · simp at hf
    subst hf
    unfold errV
    simp only
    rw [if_neg (by simp [h]), if_neg (by omega), if_neg (by omega), if_neg]
    rintro ⟨e1, e2⟩
    rw [hg e1] at e2
    simp at e2
  · intro i j x y hx hy hij
    have hj := (List.getElem?_eq_some_iff.1 hy).1
    simp at hj
    omega
theorem isRow (W : World) (X : Nat) (cs : Array Value) : ∃ Wf, IsRow W X cs Wf := ⟨_, rfl⟩
theorem found_gone {l : List Fl} {nm : List UInt8} {r : Int} (hr : NRise l) (h : Found (fun g => g.name == nm) l r) : (r < 0 ∧ hasF l nm = false) ∨ ∃ (i : Nat) (f : Fl), r = (i : Int) ∧ l[i]? = some f ∧ hasF l nm = !f.gone := by
  rcases h with ⟨rfl, hn⟩ | ⟨i, f, rfl, hf, hp, _⟩
  · refine .inl ⟨by omega, ?_⟩
    unfold hasF
    rw [List.any_eq_false]
    intro f hf
    have := hn f hf
    simp only at this
    rw [this]
    simp
  · refine .inr ⟨i, f, rfl, hf, ?_⟩
    have hfn : f.name = nm := by simpa using hp
    have hfm := List.mem_of_getElem? hf
    cases hg : f.gone
    · unfold hasF
      rw [List.any_eq_true.2 ⟨f, hfm, by simp [hfn, hg]⟩]
      rfl
    · unfold hasF
      rw [List.any_eq_false.2]
      · rfl
      · intro g hgm
        by_cases e : g.name = nm
        · have h1 := look_mem hr hfm
          have h2 := look_mem hr hgm
          rw [hfn] at h1
          rw [e, h1] at h2
          have h3 : f = g := Option.some.inj h2
          subst h3
          simp [hg]
        · simp [e]
end Go.Proofs.YtmgmganbamjnmaaGreatDoor
