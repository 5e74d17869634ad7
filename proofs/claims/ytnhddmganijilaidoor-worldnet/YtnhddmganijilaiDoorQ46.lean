/-
  The law WorldNet.
-/
import Derived.Test.YtnhddmganijilaiDoorQ44
import Derived.Test.YtnhddmganijilaiDoorQ45
namespace Go.Proofs.YtnhddmganijilaiDoor
open Go.RowKit
set_option linter.unusedVariables false
set_option linter.unusedSimpArgs false
set_option maxRecDepth 100000

set_option maxHeartbeats 4000000 in
theorem worldNet_no {w : World} {v : Value} {W : Wd} (h : WIn w v W) (k : Int) (hbad : ¬ errWd W = 0 ∨ W.net.length = 0 ∨ 20 ≤ W.net.length) : Calls Tryd.prog 6 #[v, .int .i64 k] w fun e w' => e = .returned (.bool true) ∧ Below w.heap.size w w' := by
  obtain ⟨p1, m1, q1, p2, m2, q2, p3, m3, q3, rfl, hm1, hm2, hm3⟩ := h.vals
  have hb0 := WB.new h
  have HB0 := hide (bel_al (Below.refl w.heap.size w) (wbox (.slice p1 m1 q1) (.slice p2 m2 q2) (.slice p3 m3 q3)))
  have HT := hide (told_any (w.alloc (wbox (.slice p1 m1 q1) (.slice p2 m2 q2) (.slice p3 m3 q3))))
  rw [hm3] at hbad
  obtain ⟨E, hE⟩ : ∃ E, errWd W = E := ⟨_, rfl⟩
  rw [hE] at hbad
  have HW0 := hide hb0
  have HE := hide hE
  obtain ⟨x0, x1, x2⟩ := hb0.cells
  clear h hb0 hm1 hm2 hm3 hE
  go_enter Tryd.func6, Tryd.ntmps6
  go_wp2_with fail
  clear x0 x1 x2
  refine (unhide HT).mono ?_
  rintro e w1 ⟨rfl, hB1⟩
  have hbx := (unhide HW0).below hB1
  have HB1 := hide (bt (unhide HB0) hB1)
  have HC := hide (check_w hbx.win)
  rw [unhide HE] at HC
  obtain ⟨x0, x1, x2⟩ := hbx.cells
  have HWx := hide hbx
  clear hB1 hbx HW0 HT
  go_wp2_with fail
  refine (unhide HC).mono ?_
  rintro e w2 ⟨rfl, hB2⟩
  clear x0 x1 x2
  have hbx := (unhide HWx).below hB2
  have HB2 := hide (bt (unhide HB1) hB2)
  obtain ⟨x0, x1, x2⟩ := hbx.cells
  have HW2 := hide hbx
  clear hB2 hbx HWx HC
  by_cases hE0 : E = 0
  · subst hE0
    by_cases hz : m3 = 0
    · subst hz
      clear hbad
      have HT2 := hide (told_any w2)
      go_wp2_with fail
      refine (unhide HT2).mono ?_
      rintro e w3 ⟨rfl, hB3⟩
      have HB3 := hide (bt (unhide HB2) hB3)
      clear hB3
      go_wp2
      go_ret
      exact ⟨rfl, unhide HB3⟩
    · have hg : 20 ≤ m3 := by omega
      have hz1 : ((m3 : Int) == 0) = false := by rw [beq_eq_false_iff_ne]; omega
      have hz2 : (20 : Int) ≤ (m3 : Int) := by omega
      clear hbad hz hg
      have HT2 := hide (told_any w2)
      go_wp2_with fail
      refine (unhide HT2).mono ?_
      rintro e w3 ⟨rfl, hB3⟩
      have HB3 := hide (bt (unhide HB2) hB3)
      clear hB3
      go_wp2
      go_ret
      exact ⟨rfl, unhide HB3⟩
  · obtain ⟨hn1, hn2⟩ := nat_ne hE0
    clear hbad hE0
    have HT2 := hide (told_any w2)
    go_wp2_with fail
    refine (unhide HT2).mono ?_
    rintro e w3 ⟨rfl, hB3⟩
    have HB3 := hide (bt (unhide HB2) hB3)
    clear hB3
    go_wp2
    go_ret
    exact ⟨rfl, unhide HB3⟩
-- a world that is answered by Do, in a new box; V: the world behind the call
set_option maxHeartbeats 8000000 in
theorem worldNet_yes {w : World} {v : Value} {W : Wd} (h : WIn w v W) (k : Int) (hok : WdOk W) (h0 : 0 < W.net.length) (h20 : W.net.length < 20) : Calls Tryd.prog 6 #[v, .int .i64 k] w fun e w' => e = .returned (.bool true) ∧ Below w.heap.size w w' := by
  obtain ⟨p1, m1, q1, p2, m2, q2, p3, m3, q3, rfl, hm1, hm2, hm3⟩ := h.vals
  have hb0 := WB.new h
  have HB0 := hide (bel_al (Below.refl w.heap.size w) (wbox (.slice p1 m1 q1) (.slice p2 m2 q2) (.slice p3 m3 q3)))
  have HT := hide (told_any (w.alloc (wbox (.slice p1 m1 q1) (.slice p2 m2 q2) (.slice p3 m3 q3))))
  have hE : errWd W = 0 := errWd_zero.2 hok
  have HE := hide hE
  have HW0 := hide hb0
  have HOK := hide (And.intro hok (And.intro h0 h20))
  have HM3 := hide hm3
  rw [hm3] at h0 h20
  have hz1 : ((m3 : Int) == 0) = false := by rw [beq_eq_false_iff_ne]; omega
  have hz2 : ¬ (20 : Int) ≤ (m3 : Int) := by omega
  have HAT := hide (fun V => at2_burst k m3 V h0 (by omega))
  obtain ⟨x0, x1, x2⟩ := hb0.cells
  clear h hb0 hm1 hm2 hm3 hE hok h0 h20
  go_enter Tryd.func6, Tryd.ntmps6
  go_wp2_with fail
  clear x0 x1 x2
  refine (unhide HT).mono ?_
  rintro e w1 ⟨rfl, hB1⟩
  have hbx := (unhide HW0).below hB1
  have HB1 := hide (bt (unhide HB0) hB1)
  have HC := hide (check_w hbx.win)
  rw [unhide HE] at HC
  obtain ⟨x0, x1, x2⟩ := hbx.cells
  have HWx := hide hbx
  clear hB1 hbx HW0 HT
  go_wp2_with fail
  refine (unhide HC).mono ?_
  rintro e w2 ⟨rfl, hB2⟩
  clear x0 x1 x2
  have hbx := (unhide HWx).below hB2
  have HB2 := hide (bt (unhide HB1) hB2)
  obtain ⟨x0, x1, x2⟩ := hbx.cells
  have HW2 := hide hbx
  clear hB2 hbx HWx HC
  go_wp2_with fail
  refine (unhide HAT _).mono ?_
  rintro e w2' ⟨p, rfl, hpm, rfl⟩
  -- of lists alone
  obtain ⟨hok, h0, h20⟩ := unhide HOK
  have hm3 := unhide HM3
  obtain ⟨mm, hmm⟩ := get_some (l := W.net) (k := p) (by omega)
  have hmo := hok.ms mm (List.mem_of_getElem? hmm)
  obtain ⟨d, fl⟩ := mm
  obtain ⟨kk, hdk, hkn⟩ := nat_of (isP_true.2 ⟨hmo.lo, hmo.hi⟩)
  simp only at hdk
  subst hdk
  obtain ⟨l, ck, hl, hc, hn⟩ := hok.node hkn
  obtain ⟨D1, D2⟩ := dbl_is hok hmm h20 0 [] []
  have hDok := pass_ok hok hmo h20
  obtain ⟨L1, L2⟩ := lose_is (p := m3) hDok (by simp [passW]; omega) 0 [] []
  have L3 : dropW m3 (passW ⟨(kk : Int), fl⟩ W) = W := by
    rw [← hm3]
    simp [dropW, passW, List.eraseIdx_append_of_length_le]
  rw [L3] at L2
  obtain ⟨A1, A2⟩ := arr_is hok hmm hl 0 [] []
  have hbb := bothE_full2 hn.m hmo.fl
  have HTW := hide (fun hb => net_twice hok hmm hl h20 hb 0 [] [])
  obtain ⟨D, hD⟩ : ∃ D, passW ⟨(kk : Int), fl⟩ W = D := ⟨_, rfl⟩
  rw [hD] at D2 L1 L2 HTW
  rw [hm3] at HTW
  have hDn : D.nodes = W.nodes := by rw [← hD]; rfl
  have hDc : D.clock = W.clock := by rw [← hD]; rfl
  have HD := hide (do_b 6 (p : Int) (unhide HW2).win)
  rw [D1, D2] at HD
  have HPU := hide (And.intro L1 (And.intro L2 (And.intro A1 (And.intro hbb (And.intro hDn hDc)))))
  clear hok h0 h20 hm3 hmm hmo hkn hl hc hn D1 D2 hDok L1 L2 L3 A1 A2 hbb hD hDn hDc HOK HAT hpm
  go_wp2_with fail
  refine (unhide HD).mono ?_
  rintro e w3 ⟨uw3, rfl, hWw3, hVw3, hBw3⟩
  obtain ⟨p1w3, m1w3, q1w3, p2w3, m2w3, q2w3, p3w3, m3w3, q3w3, rfl, -, -, hlw3⟩ := hWw3.vals
  have hAw3 := bel_al (Below.refl w3.heap.size w3) (wbox (.slice p1w3 m1w3 q1w3) (.slice p2w3 m2w3 q2w3) (.slice p3w3 m3w3 q3w3))
  have hNw3 := WB.new hWw3
  have hBAw3 := bt hBw3 hAw3
  obtain ⟨L1, L2, A1, hbb, hDn, hDc⟩ := unhide HPU
  have hb3 := (unhide HW2).below hBAw3
  have HD2 := hide (do_b 5 (m3 : Int) hNw3.win)
  rw [L1, L2] at HD2
  clear x0 x1 x2
  obtain ⟨x0, x1, x2⟩ := hb3.cells
  obtain ⟨y0, y1, y2⟩ := hNw3.cells
  have Hb := hide hb3
  have Hd := hide hNw3
  have HB3 := hide (bt (unhide HB2) hBAw3)
  clear hWw3 hVw3 hBw3 hlw3 hAw3 hNw3 hBAw3 hb3 L1 L2 A1 hbb hDn hDc HD HW2
  go_wp2_with fail
  refine (unhide HD2).mono ?_
  rintro e w5 ⟨uw5, rfl, hWw5, hVw5, hBw5⟩
  obtain ⟨p1w5, m1w5, q1w5, p2w5, m2w5, q2w5, p3w5, m3w5, q3w5, rfl, -, -, hlw5⟩ := hWw5.vals
  have hAw5 := bel_al (Below.refl w5.heap.size w5) (wbox (.slice p1w5 m1w5 q1w5) (.slice p2w5 m2w5 q2w5) (.slice p3w5 m3w5 q3w5))
  have hNw5 := WB.new hWw5
  have hBAw5 := bt hBw5 hAw5
  have hb5 := (unhide Hb).below hBAw5
  have hd5 := (unhide Hd).below hBAw5
  have HS1 := hide (sameW_yes hNw5.win hb5.win)
  clear x0 x1 x2 y0 y1 y2 Hb Hd
  obtain ⟨x0, x1, x2⟩ := hb5.cells
  obtain ⟨y0, y1, y2⟩ := hd5.cells
  obtain ⟨z0, z1, z2⟩ := hNw5.cells
  have Hb := hide hb5
  have Hd := hide hd5
  have HB5 := hide (bt (unhide HB3) hBAw5)
  clear hWw5 hVw5 hBw5 hlw5 hAw5 hNw5 hBAw5 hb5 hd5 HD2
  go_wp2_with fail
  refine (unhide HS1).mono ?_
  rintro e w7 ⟨rfl, hB7⟩
  have hb7 := (unhide Hb).below hB7
  have hd7 := (unhide Hd).below hB7
  obtain ⟨L1, L2, A1, hbb, hDn, hDc⟩ := unhide HPU
  have hdd := hd7.win.bare
  rw [hDn, hDc] at hdd
  have HS2 := hide (sameW_yes hdd hb7.win.bare)
  clear x0 x1 x2 y0 y1 y2 z0 z1 z2 Hb Hd
  obtain ⟨x0, x1, x2⟩ := hb7.cells
  obtain ⟨y0, y1, y2⟩ := hd7.cells
  have Hb := hide hb7
  have Hd := hide hd7
  have HB7 := hide (bt (unhide HB5) hB7)
  clear hB7 hb7 hd7 hdd L1 L2 A1 hbb hDn hDc HS1
  go_wp2_with fail
  refine (unhide HS2).mono ?_
  rintro e w8 ⟨rfl, hB8⟩
  have hb8 := (unhide Hb).below hB8
  have hd8 := (unhide Hd).below hB8
  obtain ⟨L1, L2, A1, hbb, hDn, hDc⟩ := unhide HPU
  have HD3 := hide (do_b 4 (p : Int) hb8.win)
  rw [A1] at HD3
  clear x0 x1 x2 y0 y1 y2 Hb Hd
  obtain ⟨x0, x1, x2⟩ := hb8.cells
  have Hb := hide hb8
  have Hd := hide hd8
  have HB8 := hide (bt (unhide HB7) hB8)
  clear hB8 hb8 hd8 L1 L2 A1 hDn hDc HS2 HPU
  rcases hbb with hb0 | hb11
  · obtain ⟨T1, T2, T3⟩ := unhide HTW hb0
    rw [hb0] at HD3
    have HTT := hide (And.intro T1 (And.intro T2 T3))
    clear T1 T2 T3 hb0
    go_wp2_with fail
    refine (unhide HD3).mono ?_
    rintro e w9 ⟨uw9, rfl, hWw9, hVw9, hBw9⟩
    obtain ⟨p1w9, m1w9, q1w9, p2w9, m2w9, q2w9, p3w9, m3w9, q3w9, rfl, -, -, hlw9⟩ := hWw9.vals
    have hAw9 := bel_al (Below.refl w9.heap.size w9) (wbox (.slice p1w9 m1w9 q1w9) (.slice p2w9 m2w9 q2w9) (.slice p3w9 m3w9 q3w9))
    have hNw9 := WB.new hWw9
    have hBAw9 := bt hBw9 hAw9
    obtain ⟨T1, T2, T3⟩ := unhide HTT
    have hb9 := (unhide Hb).below hBAw9
    have hd9 := (unhide Hd).below hBAw9
    have HD4 := hide (do_b 4 (m3 : Int) hd9.win)
    rw [T1] at HD4
    clear x0 x1 x2 Hb Hd
    obtain ⟨x0, x1, x2⟩ := hb9.cells
    obtain ⟨y0, y1, y2⟩ := hd9.cells
    have Ho := hide hNw9
    have HVo := hide hVw9
    have HB9 := hide (bt (unhide HB8) hBAw9)
    have hsz9 := hBAw9.size
    clear hWw9 hVw9 hBw9 hlw9 hAw9 hNw9 hBAw9 hb9 hd9 T1 T2 T3 HD3
    go_wp2_with fail
    refine (unhide HD4).mono ?_
    rintro e w11 ⟨uw11, rfl, hWw11, hVw11, hBw11⟩
    obtain ⟨p1w11, m1w11, q1w11, p2w11, m2w11, q2w11, p3w11, m3w11, q3w11, rfl, -, -, hlw11⟩ := hWw11.vals
    have hAw11 := bel_al (Below.refl w11.heap.size w11) (wbox (.slice p1w11 m1w11 q1w11) (.slice p2w11 m2w11 q2w11) (.slice p3w11 m3w11 q3w11))
    have hNw11 := WB.new hWw11
    have hBAw11 := bt hBw11 hAw11
    obtain ⟨T1, T2, T3⟩ := unhide HTT
    have ho11 := (unhide Ho).below hBAw11
    have HD5 := hide (do_b 4 (p : Int) hNw11.win)
    rw [T2, T3] at HD5
    clear x0 x1 x2 y0 y1 y2 Ho
    obtain ⟨x0, x1, x2⟩ := ho11.cells
    obtain ⟨y0, y1, y2⟩ := hNw11.cells
    have Ho := hide ho11
    have Ht := hide hNw11
    have HB11 := hide (bt (unhide HB9) hBAw11)
    have HSZ := hide hBw11.size
    clear hWw11 hVw11 hBw11 hlw11 hAw11 hNw11 hBAw11 ho11 T1 T2 T3 HD4
    go_wp2_with fail
    refine (unhide HD5).mono ?_
    rintro e w13 ⟨u, rfl, hW13, hV13, hB13⟩
    obtain ⟨e1, f1, g1, e2, f2, g2, e3, f3, g3, rfl, -, -, -⟩ := hW13.vals
    have ho13 := (unhide Ho).below hB13
    have ht13 := (unhide Ht).below hB13
    have hnf : NFb w13 w11.heap.size := nf3 ht13.box
    obtain ⟨s1, s2⟩ := put3 (.slice e1 f1 g1) (.slice e2 f2 g2) (.slice e3 f3 g3) ht13.box
    have hWt := hW13.offV s2 (fun g e => by cases e; exact hnf) (fun b hb e => by have := (hV13 b hb).1; have := Option.some.inj e; rw [World.size_alloc] at *; omega)
    have hWo := ho13.win.offV s2 (fun g e => by cases e; exact hnf) (fun b hb e => by have := (unhide HVo b hb).2; have := Option.some.inj e; have := unhide HSZ; rw [World.size_alloc] at *; omega)
    have hbo := (s2.block w9.heap.size ho13.lt (fun e => by have := Option.some.inj e; have := unhide HSZ; rw [World.size_alloc] at *; omega)).trans ho13.box
    have HS3 := hide (sameW_yes hWo hWt)
    have hBF := (bt (unhide HB11) hB13).grown s2 (bt (unhide HB11) hB13).size (fun q e => by cases e; have := (unhide HB9).size; have := unhide HSZ; rw [World.size_alloc] at *; omega)
    have HBF := hide hBF
    clear x0 x1 x2 y0 y1 y2
    have x0 := heap_row (i := 0) hbo
    have x1 := heap_row (i := 1) hbo
    have x2 := heap_row (i := 2) hbo
    have y0 := heap_row (i := 0) ht13.box
    have y1 := heap_row (i := 1) ht13.box
    have y2 := heap_row (i := 2) ht13.box
    have k0 := frozen_of_row _ _ 0 _ _ ht13.box
    have k1 := frozen_of_row _ _ 1 _ _ ht13.box
    have k2 := frozen_of_row _ _ 2 _ _ ht13.box
    have z0 := heap_row (i := 0) s1
    have z1 := heap_row (i := 1) s1
    have z2 := heap_row (i := 2) s1
    clear hW13 hV13 hB13 ho13 ht13 hnf s1 s2 hWt hWo hbo hBF HD5 hsz9
    go_wp2_with fail
    refine (unhide HS3).mono ?_
    rintro e w15 ⟨rfl, hB15⟩
    have HB15 := hide ((unhide HBF).trans (hB15.mono (unhide HBF).size))
    clear hB15 x0 x1 x2 y0 y1 y2 k0 k1 k2 z0 z1 z2
    go_wp2
    go_ret
    exact ⟨rfl, unhide HB15⟩
  · rw [hb11] at HD3
    clear hb11 HTW
    go_wp2_with fail
    refine (unhide HD3).mono ?_
    rintro e w9 ⟨uw9, rfl, hWw9, hVw9, hBw9⟩
    obtain ⟨p1w9, m1w9, q1w9, p2w9, m2w9, q2w9, p3w9, m3w9, q3w9, rfl, -, -, hlw9⟩ := hWw9.vals
    have hAw9 := bel_al (Below.refl w9.heap.size w9) (wbox (.slice p1w9 m1w9 q1w9) (.slice p2w9 m2w9 q2w9) (.slice p3w9 m3w9 q3w9))
    have hNw9 := WB.new hWw9
    have hBAw9 := bt hBw9 hAw9
    have HB9 := hide (bt (unhide HB8) hBAw9)
    clear hWw9 hVw9 hBw9 hlw9 hAw9 hNw9 hBAw9 x0 x1 x2
    go_wp2
    go_ret
    exact ⟨rfl, unhide HB9⟩
theorem worldNet_any {w : World} {v : Value} {W : Wd} (h : WIn w v W) (k : Int) : Calls Tryd.prog 6 #[v, .int .i64 k] w fun e w' => e = .returned (.bool true) ∧ Below w.heap.size w w' := by
  by_cases h0 : errWd W = 0
  · by_cases h1 : W.net.length = 0 ∨ 20 ≤ W.net.length
    · exact worldNet_no h k (.inr h1)
    · exact worldNet_yes h k (errWd_zero.1 h0) (by omega) (by omega)
  · exact worldNet_no h k (.inl h0)
end Go.Proofs.YtnhddmganijilaiDoor
