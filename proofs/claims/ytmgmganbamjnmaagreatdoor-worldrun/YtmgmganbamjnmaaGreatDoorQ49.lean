/-
  The law WorldDo.
-/
import Derived.Test.YtmgmganbamjnmaaGreatDoorQ45
import Derived.Test.YtmgmganbamjnmaaGreatDoorQ48
import Derived.Test.YtmgmganbamjnmaaGreatDoorQ4
import Derived.Deep.Slices
import Derived.Test.YtmgmganbamjnmaaGreatDoorQ1
import Derived.SizedLaws
import Derived.Deep.Strs
namespace Go.Proofs.YtmgmganbamjnmaaGreatDoor
open Go.RowKit
set_option linter.unusedVariables false
set_option linter.unusedSimpArgs false
set_option maxRecDepth 100000

theorem own_w {w : World} {v : Value} {W : Wd} (h : WIn w v W) : Calls Tryz.prog 6 #[v] w fun e w' => ∃ a1 n1 c1 a2 n2 c2 a3 n3 c3, e = .returned (.agg #[.slice a1 n1 c1, .slice a2 n2 c2, .slice a3 n3 c3]) ∧ WIn w' (.agg #[.slice a1 n1 c1, .slice a2 n2 c2, .slice a3 n3 c3]) W ∧ Below w.heap.size w w' := by
  obtain ⟨a1, c1, a2, c2, a3, c3, rfl, hat⟩ := h
  refine (ownW_wat a1 a2 a3 c1 c2 c3 W w hat _ _ _ rfl rfl rfl).mono ?_
  rintro e w' ⟨vn, vc, vm, ns, ms, rfl, hO, hns, hms, hB⟩
  obtain ⟨b1, d1, e1⟩ := hO.n.sl
  obtain ⟨b2, d2, e2⟩ := hO.c.sl
  obtain ⟨b3, d3, e3⟩ := hO.m.sl
  have h1 : ns.length = W.nodes.length := by rw [← hns]; simp [lss]
  have h3 : ms.length = W.net.length := by rw [← hms]; simp [mss]
  have hw := hO.win (by rw [h1]; exact hat.ns.lim) (by have := hat.cs.lim; omega) (by rw [h3]; exact hat.ms.lim)
  have hv : owd ns W.clock ms = W := by unfold owd; rw [hns, hms]
  rw [hv] at hw
  subst e1 e2 e3
  exact ⟨_, _, _, _, _, _, _, _, _, rfl, hw, hB⟩
set_option maxHeartbeats 4000000 in
theorem worldDo_any {w : World} {v : Value} {W : Wd} {x : Hp} {ab : Option Addr} {cb : Nat} (h : WIn w v W) (hx : HpAt w x ab cb) : Calls Tryz.prog 3 #[v, hpV x ab cb] w fun e w' => e = .returned (.bool true) ∧ Below w.heap.size w w' := by
  obtain ⟨p1, m1, q1, p2, m2, q2, p3, m3, q3, rfl, hm1, hm2, hm3⟩ := h.vals
  obtain ⟨w1, hw1, hz1, hb1, hx0, hx1⟩ := wh_boxes w (.slice p1 m1 q1) (.slice p2 m2 q2) (.slice p3 m3 q3) x.kind x.node x.dst (B x.name) (.slice ab x.bytes.length cb)
  have hB0 : WB w1 w.heap.size (.slice p1 m1 q1) (.slice p2 m2 q2) (.slice p3 m3 q3) W := ⟨hx0, h.below hb1⟩
  have hx' := hx.below hb1
  obtain ⟨E, hE⟩ : ∃ E, doE W x = E := ⟨_, rfl⟩
  obtain ⟨V, hV⟩ : ∃ V, doW W x = V := ⟨_, rfl⟩
  obtain ⟨E1, hE1⟩ : ∃ E1, errWd W = E1 := ⟨_, rfl⟩
  have hdo : (E1 ≠ 0 → E = E1 ∧ V = noW) := fun h0 => by
    have : doE W x = E1 := by unfold doE; rw [hE1, if_pos h0]
    refine ⟨by rw [← hE]; exact this, ?_⟩
    rw [← hV]; unfold doW; rw [if_neg (by rw [this]; exact h0)]
  have HO := hide (own_w hB0.win)
  have HD : Hid (∀ (V' : World) (u : Value), Below w1.heap.size w1 V' → WIn V' u W → Calls Tryz.prog 7 #[u, hpV x ab cb] V' (DoA V' E V)) := hide (fun V' u hb hu => by rw [← hE, ← hV]; exact do_w hu (hx'.below hb))
  have HST : Hid (E1 = 0 → ∀ (V' : World), Below w1.heap.size w1 V' → Calls Tryz.prog 12 #[.agg #[.slice p1 m1 q1, .slice p2 m2 q2, .slice p3 m3 q3], hpV x ab cb] V' (DoA V' E V)) := hide (fun h0 V' hb => by rw [← hE, ← hV]; exact step_any (hB0.win.below hb) (hx'.below hb) (errWd_zero.1 (hE1.trans h0)))
  have HCW : Hid (∀ (V' : World), Below w1.heap.size w1 V' → Calls Tryz.prog 8 #[.agg #[.slice p1 m1 q1, .slice p2 m2 q2, .slice p3 m3 q3]] V' fun e w' => e = .returned (.int .i64 (E1 : Nat)) ∧ Below V'.heap.size V' w') := hide (fun V' hb => by rw [← hE1]; exact cw_w (hB0.win.below hb))
  have HCK : Hid (∀ (V' : World), Below w1.heap.size w1 V' → Calls Tryz.prog 10 #[.agg #[.slice p1 m1 q1, .slice p2 m2 q2, .slice p3 m3 q3]] V' fun e w' => e = .returned (.int .i64 (E1 : Nat)) ∧ Below V'.heap.size V' w') := hide (fun V' hb => by rw [← hE1]; exact check_w (hB0.win.below hb))
  unfold hpV at HD HST ⊢
  generalize B x.name = tn at *
  generalize x.bytes.length = nb at *
  generalize x.kind = xk at *
  generalize x.node = xn at *
  generalize x.dst = xd at *
  have HCE : Hid (∀ (V' : World), Below w1.heap.size w1 V' → V'.heap[w.heap.size]? = some (.cells #[.slice p1 m1 q1, .slice p2 m2 q2, .slice p3 m3 q3] 26 (0, 0)) ∧ V'.heap[w.heap.size + 1]? = some (.cells #[.int .i64 xk, .int .i64 xn, .int .i64 xd, .string tn, .slice ab nb cb] 29 (0, 0))) := hide (fun V' hb => ⟨(hb.block _ (by omega)).trans hx0, (hb.block _ (by omega)).trans hx1⟩)
  have HB1 := hide hb1
  have HW1 := hide hw1
  have HDO := hide hdo
  have HWW := hide hB0.win
  have hne : ((E1 : Int) != (E1 : Int)) = false := by simp
  have heq : ((E : Int) == (E : Int)) = true := by simp
  clear h hx hm1 hm2 hm3 hw1 hz1 hb1 hx0 hx1 hB0 hx' hE hV hE1 hdo
  go_enter Tryz.func3, Tryz.ntmps3
  go_upto_region 1 with fail
  rw [show (w.alloc (wbox (.slice p1 m1 q1) (.slice p2 m2 q2) (.slice p3 m3 q3))).alloc (hbox xk xn xd tn (.slice ab nb cb)) = w1 from unhide HW1]
  have c0 := heap_row (i := 0) (unhide HCE w1 (Below.refl _ _)).1
  have c1 := heap_row (i := 1) (unhide HCE w1 (Below.refl _ _)).1
  have c2 := heap_row (i := 2) (unhide HCE w1 (Below.refl _ _)).1
  go_wp2_with fail
  refine (unhide HO).mono ?_
  rintro e w2 ⟨r1, k1, s1, r2, k2, s2, r3, k3, s3, rfl, hW2, hB2⟩
  obtain ⟨w3, hw3⟩ : ∃ w3, w2.alloc (wbox (.slice r1 k1 s1) (.slice r2 k2 s2) (.slice r3 k3 s3)) = w3 := ⟨_, rfl⟩
  have hA3 : Below w2.heap.size w2 w3 := by rw [← hw3]; exact bel_al (Below.refl _ _) _
  have hN3 : WB w3 w2.heap.size (.slice r1 k1 s1) (.slice r2 k2 s2) (.slice r3 k3 s3) W := by rw [← hw3]; exact WB.new hW2
  have hB3 := bt hB2 hA3
  have HD3 := hide (unhide HD w3 _ hB3 hN3.win)
  have HN3 := hide hN3
  have HB3 := hide hB3
  have HW3 := hide hw3
  clear c0 c1 c2 hW2 hw3 hA3 hN3 HO HD
  go_upto_region 2 with fail
  rw [show w2.alloc (wbox (.slice r1 k1 s1) (.slice r2 k2 s2) (.slice r3 k3 s3)) = w3 from unhide HW3]
  have c0 := (unhide HN3).cells.1
  have c1 := (unhide HN3).cells.2.1
  have c2 := (unhide HN3).cells.2.2
  have g0 := heap_row (i := 0) (unhide HCE w3 hB3).2
  have g1 := heap_row (i := 1) (unhide HCE w3 hB3).2
  have g2 := heap_row (i := 2) (unhide HCE w3 hB3).2
  have g3 := heap_row (i := 3) (unhide HCE w3 hB3).2
  have g4 := heap_row (i := 4) (unhide HCE w3 hB3).2
  clear hB3 hB2 HW3
  go_wp2_with fail
  refine (unhide HD3).mono ?_
  rintro e w4 ⟨u, rfl, hW4, -, hB4⟩
  obtain ⟨i1, j1, l1, i2, j2, l2, i3, j3, l3, rfl, -, -, -⟩ := hW4.vals
  obtain ⟨w5, hw5⟩ : ∃ w5, w4.alloc (wbox (.slice i1 j1 l1) (.slice i2 j2 l2) (.slice i3 j3 l3)) = w5 := ⟨_, rfl⟩
  have hA5 : Below w4.heap.size w4 w5 := by rw [← hw5]; exact bel_al (Below.refl _ _) _
  have hN5 : WB w5 w4.heap.size (.slice i1 j1 l1) (.slice i2 j2 l2) (.slice i3 j3 l3) V := by rw [← hw5]; exact WB.new hW4
  have hB5 := bt (unhide HB3) (bt hB4 hA5)
  have HN5 := hide hN5
  have HO5 := hide ((unhide HN3).below (bt hB4 hA5))
  have HB5 := hide hB5
  have HW5 := hide hw5
  clear c0 c1 c2 g0 g1 g2 g3 g4 hW4 hB4 hA5 hN5 hB5 hw5 HD3 HN3 HB3
  go_upto_region 3 with fail
  rw [show w4.alloc (wbox (.slice i1 j1 l1) (.slice i2 j2 l2) (.slice i3 j3 l3)) = w5 from unhide HW5]
  have c0 := heap_row (i := 0) (unhide HCE w5 (unhide HB5)).1
  have c1 := heap_row (i := 1) (unhide HCE w5 (unhide HB5)).1
  have c2 := heap_row (i := 2) (unhide HCE w5 (unhide HB5)).1
  have HC5 := hide (unhide HCW w5 (unhide HB5))
  clear HW5 HCW
  go_wp2_with fail
  refine (unhide HC5).mono ?_
  rintro e w6 ⟨rfl, hB6⟩
  have HB6 := hide (bt (unhide HB5) hB6)
  have HN6 := hide ((unhide HN5).below hB6)
  have HO6 := hide ((unhide HO5).below hB6)
  have HT6 := hide (told_any w6)
  clear c0 c1 c2 hB6 HB5 HN5 HO5 HC5
  go_wp2_with fail
  refine (unhide HT6).mono ?_
  rintro e w7 ⟨rfl, hB7⟩
  have HB7 := hide (bt (unhide HB6) hB7)
  have HN7 := hide ((unhide HN6).below hB7)
  have HO7 := hide ((unhide HO6).below hB7)
  have HC7 := hide (unhide HCK w7 (unhide HB7))
  have c0 := heap_row (i := 0) (unhide HCE w7 (unhide HB7)).1
  have c1 := heap_row (i := 1) (unhide HCE w7 (unhide HB7)).1
  have c2 := heap_row (i := 2) (unhide HCE w7 (unhide HB7)).1
  clear hB7 HB6 HN6 HO6 HT6 HCK
  go_wp2_with fail
  refine (unhide HC7).mono ?_
  rintro e w8 ⟨rfl, hB8⟩
  have HB8 := hide (bt (unhide HB7) hB8)
  have HN8 := hide ((unhide HN7).below hB8)
  have HO8 := hide ((unhide HO7).below hB8)
  clear c0 c1 c2 hB8 HB7 HN7 HO7 HC7
  have c0 := heap_row (i := 0) (unhide HCE w8 (unhide HB8)).1
  have c1 := heap_row (i := 1) (unhide HCE w8 (unhide HB8)).1
  have c2 := heap_row (i := 2) (unhide HCE w8 (unhide HB8)).1
  have o0 := (unhide HO8).cells.1
  have o1 := (unhide HO8).cells.2.1
  have o2 := (unhide HO8).cells.2.2
  have HS8 := hide (sameW_yes (unhide HO8).win ((unhide HWW).below (unhide HB8)))
  go_wp2_with fail
  refine (unhide HS8).mono ?_
  rintro e w9 ⟨rfl, hB9⟩
  have HB9 := hide (bt (unhide HB8) hB9)
  have HN9 := hide ((unhide HN8).below hB9)
  clear c0 c1 c2 o0 o1 o2 hB9 HB8 HN8 HO8 HS8 hne
  have c0 := heap_row (i := 0) (unhide HCE w9 (unhide HB9)).1
  have c1 := heap_row (i := 1) (unhide HCE w9 (unhide HB9)).1
  have c2 := heap_row (i := 2) (unhide HCE w9 (unhide HB9)).1
  have o0 := (unhide HN9).cells.1
  have o1 := (unhide HN9).cells.2.1
  have o2 := (unhide HN9).cells.2.2
  by_cases h0 : E1 = 0
  · subst h0
    have HS9 := hide (unhide HST rfl w9 (unhide HB9))
    have g0 := heap_row (i := 0) (unhide HCE w9 (unhide HB9)).2
    have g1 := heap_row (i := 1) (unhide HCE w9 (unhide HB9)).2
    have g2 := heap_row (i := 2) (unhide HCE w9 (unhide HB9)).2
    have g3 := heap_row (i := 3) (unhide HCE w9 (unhide HB9)).2
    have g4 := heap_row (i := 4) (unhide HCE w9 (unhide HB9)).2
    clear HST HDO
    go_wp2_with fail
    refine (unhide HS9).mono ?_
    rintro e w10 ⟨u, rfl, hW10, -, hB10⟩
    obtain ⟨i1', j1', l1', i2', j2', l2', i3', j3', l3', rfl, -, -, -⟩ := hW10.vals
    obtain ⟨w11, hw11⟩ : ∃ w11, w10.alloc (wbox (.slice i1' j1' l1') (.slice i2' j2' l2') (.slice i3' j3' l3')) = w11 := ⟨_, rfl⟩
    have hA11 : Below w10.heap.size w10 w11 := by rw [← hw11]; exact bel_al (Below.refl _ _) _
    have hN11 : WB w11 w10.heap.size (.slice i1' j1' l1') (.slice i2' j2' l2') (.slice i3' j3' l3') V := by rw [← hw11]; exact WB.new hW10
    have HB11 := hide (bt (unhide HB9) (bt hB10 hA11))
    have hV11 := (unhide HN9).below (bt hB10 hA11)
    have HS11 := hide (sameW_yes hV11.win hN11.win)
    have HV11 := hide hV11
    have HN11 := hide hN11
    have HW11 := hide hw11
    clear c0 c1 c2 o0 o1 o2 g0 g1 g2 g3 g4 hW10 hB10 hA11 hN11 hV11 hw11 HS9 HN9 HB9
    go_upto_region 9 with fail
    rw [show w10.alloc (wbox (.slice i1' j1' l1') (.slice i2' j2' l2') (.slice i3' j3' l3')) = w11 from unhide HW11]
    have o0 := (unhide HV11).cells.1
    have o1 := (unhide HV11).cells.2.1
    have o2 := (unhide HV11).cells.2.2
    have n0 := (unhide HN11).cells.1
    have n1 := (unhide HN11).cells.2.1
    have n2 := (unhide HN11).cells.2.2
    clear HW11 HV11 HN11
    go_wp2_with fail
    refine (unhide HS11).mono ?_
    rintro e w12 ⟨rfl, hB12⟩
    have HB12 := hide (bt (unhide HB1) (bt (unhide HB11) hB12))
    clear hB12 o0 o1 o2 n0 n1 n2
    go_wp2
    go_ret
    exact ⟨rfl, unhide HB12⟩
  · have hEV := unhide HDO h0
    have h1 := hEV.1
    have h2 := hEV.2
    subst h1 h2
    have HS9 := hide (sameW_yes (unhide HN9).win (WIn.no w9))
    have hFb := (nat_ne h0).1
    have hFc := (nat_ne h0).2
    clear h0 HDO HST hEV
    go_wp2_with fail
    refine (unhide HS9).mono ?_
    rintro e w10 ⟨rfl, hB10⟩
    have HB10 := hide (bt (unhide HB1) (bt (unhide HB9) hB10))
    clear hB10 c0 c1 c2 o0 o1 o2
    go_wp2
    go_ret
    exact ⟨rfl, unhide HB10⟩
end Go.Proofs.YtmgmganbamjnmaaGreatDoor

/-
  Rows of bytes as arguments.
-/
namespace Go.Proofs.YtmgmganbamjnmaaGreatDoor
open Go.RowKit Go.ChangeShapes Go.WideShapes Go.ChangeAt Go.Deep
set_option linter.unusedVariables false

theorem add_plain (b o j : Nat) : (⟨b, o, none⟩ : Addr).add j = ⟨b, o + j, none⟩ := by unfold Addr.add; split <;> simp_all

theorem cells5 : Tryz.prog.cellsOf 5 = 1 := by kernel_rfl

theorem open_bytes {H : Type} {enc : TypeId × Value → H} {w : World} {fuel : Nat} {a0 : Option Addr} {l0 c0 : Nat} {x : DataW H × List MemPlace}
    (h : DataW.trod enc Tryz.prog w 0 (fun _ => true) true fuel 27 [.slice a0 l0 c0] = some x) : l0 ≤ maxLen ∧ ∃ xs, xs.length = l0 ∧ (∀ j, xs.getD j 0 < 256) ∧ BytesIn w a0 xs := by
  rcases open_ints Tryz.underlying27 Tryz.underlying5 cells5 h with ⟨hcs, _⟩ | ⟨a, l, c, zs, hcs, _, hl, hm, hz, _, hcell, hwz⟩
  · simp at hcs
    obtain ⟨rfl, rfl, rfl⟩ := hcs
    exact ⟨Nat.zero_le _, [], rfl, fun j => by simp, .inl rfl⟩
  · simp at hcs
    obtain ⟨rfl, rfl, rfl⟩ := hcs
    have hz' : zs.length = c0 := by simpa using hz
    have hb : ∀ j, j < zs.length → 0 ≤ zs.getD j 0 ∧ zs.getD j 0 ≤ 255 := by
      intro j hj
      have hmem : zs.getD j 0 ∈ zs := by simp [List.getD, hj]
      have := hwz _ hmem
      simpa [Lit.wf, IntKind.min, IntKind.max, IntKind.signed, IntKind.bits] using this
    have e1 : ∀ j, j < l0 → ((zs.take l0).map Int.toNat).getD j 0 = (zs.getD j 0).toNat := by
      intro j hj
      have : j < zs.length := by omega
      simp [List.getD, hj, this]
    refine ⟨Nat.le_trans hl hm, (zs.take l0).map Int.toNat, by simp; omega, ?_, ?_⟩
    · intro j
      by_cases hj : j < l0
      · rw [e1 j hj]
        have := hb j (by omega)
        omega
      · have : ((zs.take l0).map Int.toNat).length ≤ j := by simp; omega
        rw [List.getD_eq_getElem?_getD, List.getElem?_eq_none this]; simp
    by_cases h0 : l0 = 0
    · subst h0
      exact .inl rfl
    · obtain ⟨b, o, spot⟩ := a
      have hc := hcell 0 (by omega)
      have hspot : spot = none := by simpa [Addr.add] using World.cell?_spot hc
      subst hspot
      refine .inr ⟨b, o, rfl, ?_, ?_⟩
      · have := World.block_lt_of_cell? _ _ hc
        simpa [Addr.add] using this
      · intro j hj
        have hj' : j < l0 := by simp at hj; omega
        have h1 := hcell j (by omega)
        rw [e1 j hj', Int.toNat_of_nonneg (hb j (by omega)).1]
        rw [add_plain] at h1
        exact h1
theorem open_cap {H : Type} {enc : TypeId × Value → H} {w : World} {fuel : Nat} {a0 : Option Addr} {l0 c0 : Nat} {x : DataW H × List MemPlace}
    (h : DataW.trod enc Tryz.prog w 0 (fun _ => true) true fuel 27 [.slice a0 l0 c0] = some x) : l0 ≤ c0 := by
  rcases open_ints Tryz.underlying27 Tryz.underlying5 cells5 h with ⟨hcs, _⟩ | ⟨a, l, c, zs, hcs, _, hl, hm, hz, _, hcell, hwz⟩
  · simp at hcs
    obtain ⟨rfl, rfl, rfl⟩ := hcs
    exact Nat.le_refl _
  · simp at hcs
    obtain ⟨rfl, rfl, rfl⟩ := hcs
    exact hl
end Go.Proofs.YtmgmganbamjnmaaGreatDoor

/-
  How files that were handed in lie in memory.
-/
namespace Go.Proofs.YtmgmganbamjnmaaGreatDoor
open Go.RowKit Go.ChangeShapes Go.WideShapes Go.ChangeAt Go.Deep
set_option linter.unusedVariables false
set_option maxRecDepth 100000

theorem cellsFile : Tryz.prog.cellsOf 49 = 5 := by kernel_rfl
theorem cellsStr : Tryz.prog.cellsOf 9 = 1 := by kernel_rfl
theorem cellsInt : Tryz.prog.cellsOf 3 = 1 := by kernel_rfl
theorem cellsBool : Tryz.prog.cellsOf 4 = 1 := by kernel_rfl
theorem cellsBs : Tryz.prog.cellsOf 27 = 1 := by kernel_rfl
theorem bytesU8 : Tryz.prog.bytesOf 5 = 1 := by kernel_rfl
theorem bytesFile : Tryz.prog.bytesOf 49 = 64 := by kernel_rfl

theorem trod_struct5 {H : Type} {enc : TypeId × Value → H} {P : Program} {w : World} {base : Nat} {spare : Nat → Bool} {held : Bool} {t : TypeId} {f0 f1 f2 f3 f4 : Field} {fuel : Nat} {cs : List Value} {x : DataW H × List MemPlace} (ht : P.underlying t = some (.struct #[f0, f1, f2, f3, f4])) (h : DataW.trod enc P w base spare held fuel t cs = some x) :
    ∃ y0 y1 y2 y3 y4 n, x = (.agg [y0.1, y1.1, y2.1, y3.1, y4.1], y0.2 ++ (y1.2 ++ (y2.2 ++ (y3.2 ++ y4.2)))) ∧ cs.length = P.cellsOf t ∧ DataW.trod enc P w base spare held n f0.type ((cs.drop f0.offset).take (P.cellsOf f0.type)) = some y0 ∧
      DataW.trod enc P w base spare held n f1.type ((cs.drop f1.offset).take (P.cellsOf f1.type)) = some y1 ∧ DataW.trod enc P w base spare held n f2.type ((cs.drop f2.offset).take (P.cellsOf f2.type)) = some y2 ∧
      DataW.trod enc P w base spare held n f3.type ((cs.drop f3.offset).take (P.cellsOf f3.type)) = some y3 ∧ DataW.trod enc P w base spare held n f4.type ((cs.drop f4.offset).take (P.cellsOf f4.type)) = some y4 := by
  obtain ⟨xs, n, _, rfl, hl, hlen, hf⟩ := DataW.trod_struct ht h
  match xs, hlen with
  | [y0, y1, y2, y3, y4], _ => exact ⟨y0, y1, y2, y3, y4, n, by simp, hl, by simpa using hf 0 f0 rfl, by simpa using hf 1 f1 rfl, by simpa using hf 2 f2 rfl, by simpa using hf 3 f3 rfl, by simpa using hf 4 f4 rfl⟩

/-- bytes that were handed in -/
theorem open_bs {H : Type} {enc : TypeId × Value → H} {w : World} {fuel : Nat} {v : Value} {x : DataW H × List MemPlace}
    (h : DataW.trod enc Tryz.prog w 0 (fun _ => true) true fuel 27 [v] = some x) (hw : ∀ n ∈ x.1.weights Tryz.prog 27, n ≤ 140737488351232) : ∃ a c bs, v = .slice a bs.length c ∧ BsIn w a c bs ∧ bs.length ≤ 140737488351232 := by
  rcases open_ints Tryz.underlying27 Tryz.underlying5 cells5 h with ⟨hcs, _⟩ | ⟨a, l, c, zs, hcs, _, hl, hm, hz, hx, hcell, hwz⟩
  · simp at hcs
    subst hcs
    exact ⟨none, 0, [], rfl, .inl ⟨rfl, rfl, rfl⟩, by simp⟩
  · simp at hcs
    subst hcs
    have hz' : zs.length = c := by simpa using hz
    have hb : ∀ j, j < zs.length → 0 ≤ zs.getD j 0 ∧ zs.getD j 0 ≤ 255 := by
      intro j hj
      have hmem : zs.getD j 0 ∈ zs := by simp [List.getD, hj]
      have := hwz _ hmem
      simpa [Lit.wf, IntKind.min, IntKind.max, IntKind.signed, IntKind.bits] using this
    have hlen : ((zs.take l).map fun n => UInt8.ofNat n.toNat).length = l := by simp; omega
    have hc : c ≤ 140737488351232 := by
      apply hw
      rw [hx]
      simp only [DataW.weights, Tryz.underlying27, bytesU8]
      refine List.mem_cons.2 (.inl ?_)
      simp [lits]
      omega
    refine ⟨some a, c, (zs.take l).map fun n => UInt8.ofNat n.toNat, by rw [hlen], ?_, by rw [hlen]; omega⟩
    by_cases h0 : l = 0
    · subst h0
      exact .inr (.inl ⟨by simp, a, rfl⟩)
    · obtain ⟨b, o, spot⟩ := a
      have hc0 := hcell 0 (by omega)
      have hspot : spot = none := by simpa [Addr.add] using World.cell?_spot hc0
      subst hspot
      refine .inr (.inr ⟨b, o, rfl, ?_, by rw [hlen]; exact hl, ?_⟩)
      · have := World.block_lt_of_cell? _ _ hc0
        simpa [Addr.add] using this
      · intro j hj
        rw [hlen] at hj
        have h1 := hcell j (by omega)
        rw [add_plain] at h1
        rw [h1]
        have hjz : j < zs.length := by omega
        have hbj := hb j hjz
        have e : ((zs.take l).map fun n => UInt8.ofNat n.toNat).getD j 0 = UInt8.ofNat (zs.getD j 0).toNat := by simp [List.getD, hj, hjz]
        rw [e]
        have e2 : (UInt8.ofNat (zs.getD j 0).toNat).toNat = (zs.getD j 0).toNat := by
          rw [UInt8.toNat_ofNat']
          omega
        rw [e2, Int.toNat_of_nonneg hbj.1]

instance : Inhabited Fv := ⟨⟨⟨[], [], 0, 0, false⟩, none, 0⟩⟩
/-- a file that was handed in -/
theorem open_file {H : Type} {enc : TypeId × Value → H} {w : World} {fuel : Nat} {cs : List Value} {x : DataW H × List MemPlace}
    (h : DataW.trod enc Tryz.prog w 0 (fun _ => true) true fuel 49 cs = some x) (hw : ∀ n ∈ x.1.weights Tryz.prog 49, n ≤ 140737488351232) : ∃ z : Fv, cs = z.cells ∧ FvIn w z := by
  obtain ⟨y0, y1, y2, y3, y4, k, hx, hlen, g0, g1, g2, g3, g4⟩ := trod_struct5 Tryz.underlying49 h
  rw [cellsFile] at hlen
  match cs, hlen with
  | [v0, v1, v2, v3, v4], _ =>
    simp only [cellsStr, cellsInt, cellsBool, cellsBs] at g0 g1 g2 g3 g4
    simp at g0 g1 g2 g3 g4
    have hws : ∀ n, n ∈ y0.1.weights Tryz.prog 9 ∨ n ∈ y1.1.weights Tryz.prog 27 → n ≤ 140737488351232 := by
      intro n hn
      apply hw
      rw [hx]
      simp only [DataW.weights, Tryz.underlying49]
      rcases hn with hn | hn
      · exact DataW.weights_mem_each (j := 0) rfl rfl n hn
      · exact DataW.weights_mem_each (j := 1) rfl rfl n hn
    obtain ⟨s, e0, hs, _⟩ := DataW.trod_string Tryz.underlying9 g0
    obtain ⟨a, c, bs, e1, hB, hbl⟩ := open_bs g1 (fun n hn => hws n (.inr hn))
    obtain ⟨n2, e2, _, _⟩ := DataW.trod_int Tryz.underlying3 g2
    obtain ⟨n3, e3, _, _⟩ := DataW.trod_int Tryz.underlying3 g3
    obtain ⟨n4, e4, _⟩ := DataW.trod_bool Tryz.underlying4 g4
    simp at e0 e2 e3 e4
    subst e0
    subst e1
    subst e2
    subst e3
    subst e4
    have hsl : s.data.toList.length ≤ 140737488351232 := hws _ (.inl (by rw [hs]; simp [DataW.weights]))
    exact ⟨⟨⟨s.data.toList, bs, n2, n3, n4⟩, a, c⟩, by simp [Fv.cells, Fv.sl, B_data], ⟨hB, by simp only; omega, by simp only; omega⟩⟩

theorem weightsAll_mem {H : Type} {P : Program} {e : TypeId} : ∀ {ds : List (DataW H)} {d : DataW H}, d ∈ ds → ∀ n ∈ d.weights P e, n ∈ DataW.weightsAll P e ds
  | x :: r, d, h, n, hn => by
    simp only [DataW.weightsAll, List.mem_append]
    rcases List.mem_cons.1 h with e | e
    · subst e; exact .inl hn
    · exact .inr (weightsAll_mem e n hn)
  | [], d, h, n, hn => by cases h

/-- files that were handed in -/
theorem open_files {H : Type} {enc : TypeId × Value → H} {w : World} {fuel : Nat} {a0 : Option Addr} {l0 c0 : Nat} {d : DataW H} {p : List MemPlace}
    (h : DataW.trod enc Tryz.prog w 0 (fun _ => true) true fuel 46 [.slice a0 l0 c0] = some (d, p)) {ts : List TypeId} {ds : List (DataW H)} {j : Nat}
    (hsz : (DataW.weightsEach Tryz.prog ts ds).all (· ≤ reachBytes) = true) (ht : ts[j]? = some 46) (hd : ds[j]? = some d) : ∃ xs, xs.length = l0 ∧ FsIn w a0 c0 xs := by
  have hw : ∀ n ∈ d.weights Tryz.prog 46, n ≤ 140737488351232 := by
    intro n hn
    have h3 := List.all_eq_true.1 hsz _ (DataW.weights_mem_each ht hd _ hn)
    have h4 : n ≤ reachBytes := by simpa using h3
    have : reachBytes = 140737488351232 := rfl
    omega
  rcases open_slice Tryz.underlying46 h with ⟨hcs, _⟩ | ⟨a, len, cap, m, n, D, Pl, hcs, _, hl, hm, hmm, hx1, hx⟩
  · simp at hcs
    obtain ⟨rfl, rfl, rfl⟩ := hcs
    exact ⟨[], rfl, FsIn.nil w⟩
  · simp at hcs
    obtain ⟨rfl, rfl, rfl⟩ := hcs
    simp only [if_true] at hmm
    subst hmm
    have hd1 := congrArg Prod.fst hx1
    simp only at hd1
    have hcap : m * 64 ≤ 140737488351232 := by
      apply hw
      rw [hd1]
      simp only [DataW.weights, Tryz.underlying46, bytesFile]
      refine List.mem_cons.2 (.inl ?_)
      simp
      omega
    have each : ∀ i, i < l0 → ∃ z : Fv, FvIn w z ∧ ∀ k, k < 5 → w.cell? (a.add (i * 5 + k)) = z.cells[k]? := by
      intro i hi
      obtain ⟨cs', h1, h2⟩ := hx i (by omega)
      rw [cellsFile] at h1
      obtain ⟨_, hlen, hcell⟩ := World.cells?_some h1
      obtain ⟨z, hz, hF⟩ := open_file h2 (fun n hn => hw n (by
        rw [hd1]
        simp only [DataW.weights, Tryz.underlying46]
        exact List.mem_cons_of_mem _ (List.mem_append.2 (.inl (weightsAll_mem (List.mem_map.2 ⟨i, List.mem_range.2 hi, rfl⟩) _ hn)))))
      refine ⟨z, hF, fun k hk => ?_⟩
      have := hcell k hk
      rw [add_add] at this
      rw [this, hz]
    obtain ⟨f, hf⟩ := choose_lt each
    refine ⟨(List.range l0).map f, by simp, ⟨?_, by simp; omega, by unfold maxLen at hm; omega, by simp; omega, ?_⟩⟩
    · by_cases h0 : l0 = 0
      · subst h0
        exact .inl rfl
      · obtain ⟨b, o, spot⟩ := a
        have hc := (hf 0 (by omega)).2 0 (by omega)
        have hc' : w.cell? (Addr.add ⟨b, o, spot⟩ (0 * 5 + 0)) = some (.string (B (f 0).f.name)) := hc
        have hspot : spot = none := by simpa [Addr.add] using World.cell?_spot hc'
        subst hspot
        refine .inr ⟨b, o, rfl, ?_, ?_⟩
        · have := World.block_lt_of_cell? _ _ hc'
          simpa [Addr.add] using this
        · intro j x hj
          have hj' : j < l0 := by
            rcases Nat.lt_or_ge j l0 with h' | h'
            · exact h'
            · rw [List.getElem?_eq_none (by simpa using h')] at hj; cases hj
          simp [hj'] at hj
          subst hj
          have q := (hf j hj').2
          have q0 := q 0 (by decide)
          have q1 := q 1 (by decide)
          have q2 := q 2 (by decide)
          have q3 := q 3 (by decide)
          have q4 := q 4 (by decide)
          rw [add_plain] at q0 q1 q2 q3 q4
          exact ⟨q0, by rw [Nat.add_assoc]; exact q1, by rw [Nat.add_assoc]; exact q2, by rw [Nat.add_assoc]; exact q3, by rw [Nat.add_assoc]; exact q4⟩
    · intro x hx
      obtain ⟨i, hi, rfl⟩ := List.mem_map.1 hx
      exact (hf i (List.mem_range.1 hi)).1
end Go.Proofs.YtmgmganbamjnmaaGreatDoor
