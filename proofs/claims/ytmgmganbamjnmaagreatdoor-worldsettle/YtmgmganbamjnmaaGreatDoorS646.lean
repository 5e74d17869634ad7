/-
  The law WorldSettle, where the files are few enough together.
-/
import Derived.Test.YtmgmganbamjnmaaGreatDoorS645
namespace Go.Proofs.YtmgmganbamjnmaaGreatDoor
open Go.RowKit
set_option linter.unusedVariables false
set_option linter.unusedSimpArgs false
set_option maxRecDepth 100000

theorem WB.ws {V : World} {P : Nat} {p1 p2 p3 : Option Addr} {m1 m2 m3 q1 q2 q3 : Nat} {W : Wd} (h : WB V P (.slice p1 m1 q1) (.slice p2 m2 q2) (.slice p3 m3 q3) W) : WAt V W p1 q1 p2 q2 p3 q3 := by
  obtain ⟨a1, c1, a2, c2, a3, c3, he, hat⟩ := h.win
  simp only [Value.agg.injEq, Array.mk.injEq, List.cons.injEq, Value.slice.injEq, and_true] at he
  obtain ⟨⟨rfl, -, rfl⟩, ⟨rfl, -, rfl⟩, rfl, -, rfl⟩ := he
  exact hat
set_option maxHeartbeats 1200000 in
theorem worldSettle_few {w : World} {v : Value} {W : Wd} (h : WIn w v W) (hT : (W.nodes.map List.length).sum ≤ 1048576) : Calls Tryz.prog 5 #[v] w fun e w' => e = .returned (.bool true) ∧ Below w.heap.size w w' := by
  obtain ⟨p1, c1, p2, c2, p3, c3, rfl, hat⟩ := h
  obtain ⟨n, hn⟩ : ∃ n, W.nodes.length = n := ⟨_, rfl⟩
  obtain ⟨nc, hnc⟩ : ∃ nc, W.clock.length = nc := ⟨_, rfl⟩
  obtain ⟨nn, hnn⟩ : ∃ nn, W.net.length = nn := ⟨_, rfl⟩
  rw [hn, hnc, hnn]
  have hin : WIn w (.agg #[.slice p1 n c1, .slice p2 nc c2, .slice p3 nn c3]) W := ⟨p1, c1, p2, c2, p3, c3, by rw [hn, hnc, hnn], hat⟩
  obtain ⟨w1, hw1⟩ : ∃ w1, w.alloc (wbox (.slice p1 n c1) (.slice p2 nc c2) (.slice p3 nn c3)) = w1 := ⟨_, rfl⟩
  have hb1 : Below w.heap.size w w1 := by rw [← hw1]; exact bel_al (Below.refl _ _) _
  have hB0 : WB w1 w.heap.size (.slice p1 n c1) (.slice p2 nc c2) (.slice p3 nn c3) W := by rw [← hw1]; exact WB.new hin
  obtain ⟨E, hE⟩ : ∃ E, stlE W = E := ⟨_, rfl⟩
  obtain ⟨V, hV⟩ : ∃ V, stlW W = V := ⟨_, rfl⟩
  obtain ⟨E1, hE1⟩ : ∃ E1, errWd W = E1 := ⟨_, rfl⟩
  have HST := hide (settle_w hB0.win)
  rw [hE, hV] at HST
  have HCW : Hid (∀ (V' : World), Below w1.heap.size w1 V' → Calls Tryz.prog 8 #[.agg #[.slice p1 n c1, .slice p2 nc c2, .slice p3 nn c3]] V' fun e w' => e = .returned (.int .i64 (E1 : Nat)) ∧ Below V'.heap.size V' w') := hide (fun V' hb => by rw [← hE1]; exact cw_w (hB0.win.below hb))
  have HTG : Hid (∀ (V' : World) (k : Nat), Below w1.heap.size w1 V' → k ≤ n → Calls Tryz.prog 17 #[.slice p1 k c1] V' fun e w' => ∃ x L, e = .returned x ∧ LIn w' x L ∧ (E1 = 0 → L = (W.nodes.take k).foldl tog []) ∧ Below V'.heap.size V' w') := hide (fun V' k hb hk => by
    refine (together_ns (((hat.ns.below hb1).below hb).take k) (n := k) (by rw [List.length_take, hn]; omega) (Nat.le_trans (sum_take _ _) hT)).mono ?_
    rintro e w' ⟨x, L, h1, h2, h3, h4⟩
    exact ⟨x, L, h1, h2, fun e0 => h3 (fun l hl => all_rise (hE1.trans e0) l (List.mem_of_mem_take hl)), h4⟩)
  have HCL : Hid (∀ (V' : World) (i : Nat) (x : Int), Below w1.heap.size w1 V' → W.clock[i]? = some x → ∃ b o, p2 = some ⟨b, o, none⟩ ∧ V'.cell? ⟨b, o + i, none⟩ = some (.int .i64 x)) := hide (fun V' i x hb hx => by
    obtain ⟨b, o, h1, _, h2⟩ := ((hat.cs.below hb1).below hb).get hx
    exact ⟨b, o, h1, h2⟩)
  have HB0 := hide hB0
  have HB1 := hide hb1
  have HW1 := hide hw1
  have HEV := hide (And.intro hE (And.intro hV hE1))
  have HLN := hide (And.intro hn hnc)
  have hzn := hat.ns.lim
  rw [hn] at hzn
  have hcap : n ≤ c1 := by have := hat.ns.cap; omega
  have hmx := max_run
  clear hT hat hn hnc hnn hin hw1 hb1 hB0 hE hV hE1
  go_enter Tryz.func5, Tryz.ntmps5
  go_upto_region 1 with fail
  rw [show w.alloc (wbox (.slice p1 n c1) (.slice p2 nc c2) (.slice p3 nn c3)) = w1 from unhide HW1]
  have x0 := (unhide HB0).cells.1
  have x1 := (unhide HB0).cells.2.1
  have x2 := (unhide HB0).cells.2.2
  go_wp2_with fail
  refine (unhide HST).mono ?_
  rintro e w2 ⟨u, rfl, hW2, -, hB2⟩
  obtain ⟨r1, k1, s1, r2, k2, s2, r3, k3, s3, rfl, hk1, hk2, hk3⟩ := hW2.vals
  obtain ⟨w3, hw3⟩ : ∃ w3, w2.alloc (wbox (.slice r1 k1 s1) (.slice r2 k2 s2) (.slice r3 k3 s3)) = w3 := ⟨_, rfl⟩
  have hA3 : Below w2.heap.size w2 w3 := by rw [← hw3]; exact bel_al (Below.refl _ _) _
  have hN3 : WB w3 w2.heap.size (.slice r1 k1 s1) (.slice r2 k2 s2) (.slice r3 k3 s3) V := by rw [← hw3]; exact WB.new hW2
  have HB3 := hide (bt hB2 hA3)
  have HN3 := hide hN3
  have HW3 := hide hw3
  have HKL := hide (And.intro hk1 (And.intro hk2 hk3))
  clear x0 x1 x2 hW2 hB2 hA3 hN3 hw3 hk1 hk2 hk3 HST
  go_upto_region 2 with fail
  rw [show w2.alloc (wbox (.slice r1 k1 s1) (.slice r2 k2 s2) (.slice r3 k3 s3)) = w3 from unhide HW3]
  have x0 := ((unhide HB0).below (unhide HB3)).cells.1
  have x1 := ((unhide HB0).below (unhide HB3)).cells.2.1
  have x2 := ((unhide HB0).below (unhide HB3)).cells.2.2
  have HC3 := hide (unhide HCW w3 (unhide HB3))
  clear HW3 HCW
  go_wp2_with fail
  refine (unhide HC3).mono ?_
  rintro e w4 ⟨rfl, hB4⟩
  have HB4 := hide (bt (unhide HB3) hB4)
  have HN4 := hide ((unhide HN3).below hB4)
  clear x0 x1 x2 hB4 HB3 HN3 HC3
  have x0 := ((unhide HB0).below (unhide HB4)).cells.1
  have HT4 := hide (unhide HTG w4 n (unhide HB4) (Nat.le_refl _))
  go_wp2_with fail
  refine (unhide HT4).mono ?_
  rintro e w5 ⟨xa, L, rfl, hL5, hLe, hB5⟩
  obtain ⟨aL, cL, hxa⟩ := hL5.shape
  obtain ⟨nL, hnL⟩ : ∃ nL, L.length = nL := ⟨_, rfl⟩
  rw [hnL] at hxa
  subst hxa
  have HB5 := hide (bt (unhide HB4) hB5)
  have HN5 := hide ((unhide HN4).below hB5)
  have HL5 := hide hL5
  have HLE := hide hLe
  have HNL := hide hnL
  clear x0 hL5 hLe hnL hB5 HB4 HN4 HT4
  have x0 := ((unhide HB0).below (unhide HB5)).cells.1
  have HBI : Hid (BadIs W E1 0 E1) := hide (by
    by_cases h0 : E1 = 0
    · exact .inr (.inl ⟨h0, h0, fun j hj => absurd hj (by omega)⟩)
    · exact .inl ⟨h0, rfl⟩)
  go_wp2
  go_loopw [5, 26] (fun v5 j wr => ∃ (k Bd : Nat), k ≤ n ∧ v5 = .int .i64 (Bd : Int) ∧ j = .int .i64 (k : Int) ∧ Hid (BadIs W E1 k Bd) ∧ Hid (Below w5.heap.size w5 wr)) (fun _ j _ => n - (intOf j).toNat)
  case atStart => exact ⟨0, E1, Nat.zero_le _, rfl, rfl, HBI, hide (Below.refl _ _)⟩
  case round =>
    clear x0 HBI
    obtain ⟨k, Bd, hk, rfl, rfl, HBD, HBW⟩ := hrel
    have HBR := hide (bt (unhide HB5) (unhide HBW))
    have x0 := ((unhide HB0).below (unhide HBR)).cells.1
    by_cases hlt : k < n
    · by_cases hB0 : Bd = 0
      · subst hB0
        have HTK := hide (unhide HTG wr (k + 1) (unhide HBR) (by omega))
        have hki : (k : Int) + 1 ≤ (c1 : Int) := by omega
        have hki0 : (0 : Int) ≤ (k : Int) + 1 := by omega
        have hkt : ((k : Int) + 1).toNat = k + 1 := by omega
        have hkw : IntKind.i64.wrap ((k : Int) + 1) = (k : Int) + 1 := by rw [IntKind.wrap_i64]; omega
        go_wp2_with fail
        refine (unhide HTK).mono ?_
        rintro e w6 ⟨xb, L2, rfl, hL6, hLe6, hB6⟩
        obtain ⟨aB, cB, hxb⟩ := hL6.shape
        obtain ⟨nB, hnB⟩ : ∃ nB, L2.length = nB := ⟨_, rfl⟩
        rw [hnB] at hxb
        subst hxb
        have hle := hLe6 (unhide HBD).zero
        rw [hle] at hnB
        have HB6 := hide (bt (unhide HBW) hB6)
        by_cases h12 : 12 < nB
        · have h12I : (12 : Int) < (nB : Int) := by omega
          have HBD2 := hide ((unhide HBD).full (by rw [hnB]; exact h12))
          clear hL6 hLe6 hB6 hnB hle h12 HTK hki hki0 hkt hkw
          go_wp2
          go_roundw
          case rel => exact ⟨k + 1, 11, by omega, rfl, by go_num, HBD2, HB6⟩
          case measure => simp [intOf]; omega
        · have h12I : ¬ (12 : Int) < (nB : Int) := by omega
          have HBD2 := hide ((unhide HBD).fine (by rw [hnB]; omega))
          clear hL6 hLe6 hB6 hnB hle h12 HTK hki hki0 hkt hkw
          go_wp2
          go_roundw
          case rel => exact ⟨k + 1, 0, by omega, rfl, by go_num, HBD2, HB6⟩
          case measure => simp [intOf]; omega
      · have hFb := (nat_ne hB0).1
        have HBD2 := hide ((unhide HBD).more hB0)
        clear hB0
        go_wp2_with fail
        go_roundw
        case rel => exact ⟨k + 1, Bd, by omega, rfl, by go_num, HBD2, HBW⟩
        case measure => simp [intOf]; omega
    · obtain rfl : n = k := by omega
      have hends := BadIs.ends (unhide HEV).2.2 (by rw [(unhide HLN).1]; exact unhide HBD : BadIs W E1 W.nodes.length Bd)
      have hEB : E = Bd := (unhide HEV).1.symm.trans hends.1
      subst hEB
      have HSL := hide hends.2
      have HTR := hide (told_any wr)
      clear hends hlt
      go_wp2_with fail
      refine (unhide HTR).mono ?_
      rintro e w7 ⟨rfl, hB7⟩
      have HB7 := hide (bt (unhide HBR) hB7)
      have HN7 := hide (((unhide HN5).below (unhide HBW)).below hB7)
      have HL7 := hide (((unhide HL5).below (unhide HBW)).below hB7)
      clear x0 hB7 HTR HBR HBW HN5 HL5
      by_cases hB0 : E = 0
      · subst hB0
        have hE0 := (unhide HBD).zero
        have hok := errWd_zero.1 ((unhide HEV).2.2.trans hE0)
        have hLL : setL [] W.nodes = L := by rw [unhide HSL rfl, unhide HLE hE0, List.take_of_length_le (by rw [(unhide HLN).1]; exact Nat.le_refl _)]
        have hlens := settled_len hok (unhide HEV).1
        rw [(unhide HEV).2.1, (unhide HKL).1, (unhide HKL).2.1, (unhide HKL).2.2, (unhide HLN).1, (unhide HLN).2] at hlens
        obtain ⟨hl1, hl2, hl3⟩ := hlens
        subst hl1 hl2 hl3
        have hcl : k2 = k1 := by have := hok.cl; rw [(unhide HLN).1, (unhide HLN).2] at this; exact this
        subst hcl
        have HAT : Hid (∀ (i : Nat) (c : Int), W.clock[i]? = some c → V.nodes[i]? = some L ∧ V.clock[i]? = some (max c (rsd 0 L))) := hide (fun i c hc => by rw [← (unhide HEV).2.1]; exact settled_at hok (unhide HEV).1 hLL hc)
        have h4 : k2 ≤ 4 := by have := hok.hi; rw [(unhide HLN).1] at this; exact this
        obtain ⟨ad', c'', ys, hv, hFs, hfl⟩ := unhide HL7
        simp only [Value.slice.injEq] at hv
        obtain ⟨rfl, hxx, rfl⟩ := hv
        clear hxx
        have hyl : ys.length = nL := by have := fls_len hfl; rw [this]; exact unhide HNL
        have HFS := hide (And.intro hFs (And.intro hyl hfl))
        have hnlm := hFs.lim
        rw [hyl] at hnlm
        obtain ⟨R, hR⟩ : ∃ R, rsd 0 L = R := ⟨_, rfl⟩
        have HR : Hid (rsd 0 (fls (ys.drop 0)) = R) := hide (by rw [List.drop_zero, hfl]; exact hR)
        rw [hR] at HAT
        clear hE0 hok hLL hFs hyl hfl hR HSL HBD
        go_wp2_with fail
        go_loopw [8, 61] (fun v8 j wq => ∃ (i : Nat) (d : Int), i ≤ nL ∧ v8 = .int .i64 d ∧ j = .int .i64 (i : Int) ∧ Hid (rsd d (fls (ys.drop i)) = R) ∧ Hid (Below w7.heap.size w7 wq)) (fun _ j _ => nL - (intOf j).toNat)
        case atStart => exact ⟨0, 0, Nat.zero_le _, rfl, rfl, HR, Below.refl _ _⟩
        case round =>
          clear HR
          obtain ⟨i, d, hi, rfl, rfl, HD, HQ⟩ := hrel
          by_cases hlt2 : i < nL
          · obtain ⟨y, hy, hym⟩ := get_of (xs := ys) (k := i) (by rw [(unhide HFS).2.1]; exact hlt2)
            obtain ⟨bf, of, hA, hbf, e0, e1, e2, e3, e4⟩ := (unhide HFS).1.get (unhide HQ) hy
            have HD2 := hide ((rsd_step hy d).symm.trans (unhide HD))
            have hys : y.sl = .slice y.a y.f.bytes.length y.c := rfl
            rw [hys] at e1
            clear hy hym hys
            subst hA
            generalize B y.f.name = t at *
            generalize y.f.bytes.length = n2 at *
            generalize y.f.stamp = st2 at *
            generalize y.f.node = d2 at *
            generalize y.f.gone = g2 at *
            have HQ1 := hide (bel_al (unhide HQ) (.cells #[.string t, .slice y.a n2 y.c, .int .i64 st2, .int .i64 d2, .bool g2] 49))
            go_wp2
            go_roundw
            case rel => exact ⟨i + 1, max d st2, by omega, rfl, by go_num, unhide HD2, unhide HQ1⟩
            case measure => simp [intOf]; omega
          · obtain rfl : nL = i := by omega
            have hr := unhide HD
            rw [List.drop_of_length_le (by rw [(unhide HFS).2.1]; exact Nat.le_refl _)] at hr
            have hr2 : d = R := hr
            subst hr2
            have HNQ := hide ((unhide HN7).below (unhide HQ))
            have HBQ := hide (bt (unhide HB7) (unhide HQ))
            have HLQ := hide ((unhide HL7).below (unhide HQ))
            have o0 := (unhide HNQ).cells.1
            have o1 := (unhide HNQ).cells.2.1
            have o2 := (unhide HNQ).cells.2.2
            have x0 := ((unhide HB0).below (unhide HBQ)).cells.1
            have x1 := ((unhide HB0).below (unhide HBQ)).cells.2.1
            have x2 := ((unhide HB0).below (unhide HBQ)).cells.2.2
            have hne1 : ((k2 : Int) != (k2 : Int)) = false := by simp
            clear hr HD HQ HN7 HB7 HL7 hlt2
            go_wp2_with fail
            obtain ⟨wB, rfl⟩ : ∃ x, x = wr := ⟨_, rfl⟩
            go_loopw [99] (fun j wz => ∃ (i : Nat), i ≤ k2 ∧ j = .int .i64 (i : Int) ∧ Hid (Below wB.heap.size wB wz)) (fun j _ => k2 - (intOf j).toNat)
            case atStart => exact ⟨0, Nat.zero_le _, rfl, Below.refl _ _⟩
            case round =>
              clear o0 o1 o2 x0 x1 x2
              obtain ⟨i, hi3, rfl, HZ⟩ := hrel
              have HNZ := hide ((unhide HNQ).below (unhide HZ))
              have HBZ := hide (bt (unhide HBQ) (unhide HZ))
              have HLZ := hide ((unhide HLQ).below (unhide HZ))
              by_cases hlt3 : i < k2
              · obtain ⟨ci, hci⟩ := get_some (l := W.clock) (k := i) (by rw [(unhide HLN).2]; exact hlt3)
                obtain ⟨hvn, hvc⟩ := unhide HAT i ci hci
                obtain ⟨bn, on, xn, hr1, hbn, hxn, hLn⟩ := (WB.ws (unhide HNZ)).ns.get hvn
                obtain ⟨bc, oc, hr2, hbc, hxc⟩ := (WB.ws (unhide HNZ)).cs.get hvc
                obtain ⟨bw, ow, hp2, hxw⟩ := unhide HCL wr i ci (unhide HBZ) hci
                obtain ⟨an, cn, hxs⟩ := hLn.shape
                obtain ⟨nx, hnx⟩ : ∃ nx, L.length = nx := ⟨_, rfl⟩
                rw [hnx] at hxs
                subst hxs
                have HSF := hide (fun (V' : World) (hb : Below wr.heap.size wr V') => same_yes (hLn.below hb) ((unhide HLZ).below hb) rfl)
                subst hr1 hr2 hp2
                obtain ⟨mx, hmxe⟩ : ∃ mx, max ci d = mx := ⟨_, rfl⟩
                rw [hmxe] at hxc
                have hmx2 : ∀ W : World, (Builtin.max_ #[3, 3] 3 #[.int .i64 ci, .int .i64 d]).run Tryz.prog W = .ok (.int .i64 mx) W := fun W => by rw [← hmxe]; exact max_run ci d W
                have HCC : Hid (∀ V', Below wr.heap.size wr V' → V'.cell? ⟨w2.heap.size, 1, none⟩ = some (.slice (some ⟨bc, oc, none⟩) k2 s2) ∧ V'.cell? ⟨bc, oc + i, none⟩ = some (.int .i64 mx) ∧ V'.cell? ⟨w.heap.size, 1, none⟩ = some (.slice (some ⟨bw, ow, none⟩) k2 c2) ∧ V'.cell? ⟨bw, ow + i, none⟩ = some (.int .i64 ci)) := hide (fun V' hb => ⟨((unhide HNZ).below hb).cells.2.1, cell_bel hxc hb (Nat.le_refl _), ((unhide HB0).below (bt (unhide HBZ) hb)).cells.2.1, cell_bel hxw hb (Nat.le_refl _)⟩)
                have hii0 : (0 : Int) ≤ (i : Int) := by omega
                have hii1 : (i : Int) < (k2 : Int) := by omega
                clear hvn hvc hci hbn hbc hLn hnx hxc hxw hmxe hmx
                go_upto_region 23 with fail
                refine wp_region_held_drew (S := fun W => Below wr.heap.size wr W) (by kernel_rfl) (below_drewN (Below.refl _ _) 1) (fun hHeld => ?_)
                refine wpAnyH_take (i := 0) (v := .slice an nx cn) rfl (by kernel_rfl) (by kernel_rfl) (by kernel_rfl) (fun _ _ _ h => h) (Or.inl ⟨by rfl, fun W hS => by go_simp⟩) hHeld ?_
                simp only [Act.put, List.setIfInBounds_toArray, List.set_cons_zero, List.set_cons_succ]
                refine wpAnyH_take (i := 1) (v := .slice aL nL cL) rfl (by kernel_rfl) (by kernel_rfl) (by kernel_rfl) (fun _ _ _ h => h) (Or.inl ⟨by rfl, fun W hS => by go_simp⟩) hHeld ?_
                simp only [Act.put, List.setIfInBounds_toArray, List.set_cons_zero, List.set_cons_succ]
                refine wpAnyH_ready (rs := [2]) (by kernel_rfl) (by simp) (AllReadyH.cons rfl (fun K hK => ?_) AllReadyH.nil)
                go_simp
                refine (unhide HSF wr.drew (below_drewN (Below.refl _ _) 1)).mono ?_
                rintro e w9 ⟨rfl, hB9⟩
                have hBz9 : Below wr.heap.size wr w9 := (below_drewN (Below.refl _ _) 1).trans hB9
                refine hK.out _ _ hBz9 (fun hHeld => ?_)
                clear hK K hB9
                refine wpAnyH_take (i := 3) (v := .bool false) rfl (by kernel_rfl) (by kernel_rfl) (by kernel_rfl) (fun _ _ _ h => h) (Or.inl ⟨by rfl, fun W hS => by go_simp⟩) hHeld ?_
                simp only [Act.put, List.setIfInBounds_toArray, List.set_cons_zero, List.set_cons_succ]
                refine wpAnyH_take (i := 4) (v := .bool false) rfl (by kernel_rfl) (by kernel_rfl) (by kernel_rfl) (fun _ _ _ h => h) (Or.inl ⟨by rfl, fun W hS => by go_simp⟩) hHeld ?_
                simp only [Act.put, List.setIfInBounds_toArray, List.set_cons_zero, List.set_cons_succ]
                refine wpAnyH_take (i := 5) (v := .pointer (some ⟨w2.heap.size, 1, none⟩)) rfl (by kernel_rfl) (by kernel_rfl) (by kernel_rfl) (fun _ _ _ h => h) (Or.inl ⟨by kernel_rfl, fun W hS => by go_simp⟩) hHeld ?_
                simp only [Act.put, List.setIfInBounds_toArray, List.set_cons_zero, List.set_cons_succ]
                refine wpAnyH_take (i := 6) (v := .slice (some ⟨bc, oc, none⟩) k2 s2) rfl (by kernel_rfl) (by kernel_rfl) (by kernel_rfl) (fun _ _ _ h => h) (Or.inl ⟨by kernel_rfl, fun W hS => by have z := (unhide HCC W hS).1; go_simp⟩) hHeld ?_
                simp only [Act.put, List.setIfInBounds_toArray, List.set_cons_zero, List.set_cons_succ]
                refine wpAnyH_take (i := 7) (v := .int .i64 (i : Int)) rfl (by kernel_rfl) (by kernel_rfl) (by kernel_rfl) (fun _ _ _ h => h) (Or.inl ⟨by kernel_rfl, fun W hS => by go_simp⟩) hHeld ?_
                simp only [Act.put, List.setIfInBounds_toArray, List.set_cons_zero, List.set_cons_succ]
                refine wpAnyH_take (i := 8) (v := .pointer (some ⟨bc, oc + i, none⟩)) rfl (by kernel_rfl) (by kernel_rfl) (by kernel_rfl) (fun _ _ _ h => h) (Or.inl ⟨by kernel_rfl, fun W hS => by go_simp⟩) hHeld ?_
                simp only [Act.put, List.setIfInBounds_toArray, List.set_cons_zero, List.set_cons_succ]
                refine wpAnyH_take (i := 9) (v := .int .i64 mx) rfl (by kernel_rfl) (by kernel_rfl) (by kernel_rfl) (fun _ _ _ h => h) (Or.inl ⟨by kernel_rfl, fun W hS => by have z := (unhide HCC W hS).2.1; go_simp⟩) hHeld ?_
                simp only [Act.put, List.setIfInBounds_toArray, List.set_cons_zero, List.set_cons_succ]
                refine wpAnyH_take (i := 10) (v := .pointer (some ⟨w.heap.size, 1, none⟩)) rfl (by kernel_rfl) (by kernel_rfl) (by kernel_rfl) (fun _ _ _ h => h) (Or.inl ⟨by kernel_rfl, fun W hS => by go_simp⟩) hHeld ?_
                simp only [Act.put, List.setIfInBounds_toArray, List.set_cons_zero, List.set_cons_succ]
                refine wpAnyH_take (i := 11) (v := .slice (some ⟨bw, ow, none⟩) k2 c2) rfl (by kernel_rfl) (by kernel_rfl) (by kernel_rfl) (fun _ _ _ h => h) (Or.inl ⟨by kernel_rfl, fun W hS => by have z := (unhide HCC W hS).2.2.1; go_simp⟩) hHeld ?_
                simp only [Act.put, List.setIfInBounds_toArray, List.set_cons_zero, List.set_cons_succ]
                refine wpAnyH_take (i := 12) (v := .int .i64 (i : Int)) rfl (by kernel_rfl) (by kernel_rfl) (by kernel_rfl) (fun _ _ _ h => h) (Or.inl ⟨by kernel_rfl, fun W hS => by go_simp⟩) hHeld ?_
                simp only [Act.put, List.setIfInBounds_toArray, List.set_cons_zero, List.set_cons_succ]
                refine wpAnyH_take (i := 13) (v := .pointer (some ⟨bw, ow + i, none⟩)) rfl (by kernel_rfl) (by kernel_rfl) (by kernel_rfl) (fun _ _ _ h => h) (Or.inl ⟨by kernel_rfl, fun W hS => by go_simp⟩) hHeld ?_
                simp only [Act.put, List.setIfInBounds_toArray, List.set_cons_zero, List.set_cons_succ]
                refine wpAnyH_take (i := 14) (v := .int .i64 ci) rfl (by kernel_rfl) (by kernel_rfl) (by kernel_rfl) (fun _ _ _ h => h) (Or.inl ⟨by kernel_rfl, fun W hS => by have z := (unhide HCC W hS).2.2.2; go_simp⟩) hHeld ?_
                simp only [Act.put, List.setIfInBounds_toArray, List.set_cons_zero, List.set_cons_succ]
                refine wpAnyH_take (i := 15) (v := .int .i64 d) rfl (by kernel_rfl) (by kernel_rfl) (by kernel_rfl) (fun _ _ _ h => h) (Or.inl ⟨by kernel_rfl, fun W hS => by go_simp⟩) hHeld ?_
                simp only [Act.put, List.setIfInBounds_toArray, List.set_cons_zero, List.set_cons_succ]
                refine wpAnyH_take (i := 16) (v := .int .i64 mx) rfl (by kernel_rfl) (by kernel_rfl) (by kernel_rfl) (fun _ _ _ h => h) (Or.inl ⟨by kernel_rfl, fun W hS => by go_simp⟩) hHeld ?_
                simp only [Act.put, List.setIfInBounds_toArray, List.set_cons_zero, List.set_cons_succ]
                refine wpAnyH_ready (rs := [17]) (by kernel_rfl) (by simp) (AllReadyH.cons rfl (fun K hK => ?_) AllReadyH.nil)
                go_simp
                refine hK.out _ _ hHeld (fun hHeld => ?_)
                clear hK K
                refine wpAnyH_ready (rs := [18]) (by kernel_rfl) (by simp) (AllReadyH.cons rfl (fun K hK => ?_) AllReadyH.nil)
                go_simp
                refine hK.out _ _ hHeld (fun _ => ?_)
                clear hK K hHeld
                refine wpAnyH_done (by kernel_rfl) ?_ _
                have HBZ9 := hide (bt (unhide HZ) hBz9)
                clear hBz9 hxn
                go_wp2
                go_roundw
                case rel => exact ⟨i + 1, by omega, by go_num, HBZ9⟩
                case measure => simp [intOf]; omega
              · obtain rfl : k2 = i := by omega
                have HBF := hide (bt (unhide HB1) (unhide HBZ))
                clear hlt3
                go_wp2
                go_ret
                exact ⟨rfl, unhide HBF⟩
      · have hFb := (nat_ne hB0).1
        have hFc := (nat_ne hB0).2
        have hVn : V = noW := by rw [← (unhide HEV).2.1]; exact stl_no (by rw [(unhide HEV).1]; exact hB0)
        subst hVn
        have heq : ((E : Int) == (E : Int)) = true := by simp
        have HT7 := hide (told_any w7)
        clear hB0
        go_wp2_with fail
        refine (unhide HT7).mono ?_
        rintro e w8 ⟨rfl, hB8⟩
        have HB8 := hide (bt (unhide HB7) hB8)
        have HN8 := hide ((unhide HN7).below hB8)
        have o0 := (unhide HN8).cells.1
        have o1 := (unhide HN8).cells.2.1
        have o2 := (unhide HN8).cells.2.2
        have HS8 := hide (sameW_yes (unhide HN8).win (WIn.no w8))
        clear hB8 HB7 HN7 HT7
        go_wp2_with fail
        refine (unhide HS8).mono ?_
        rintro e w9 ⟨rfl, hB9⟩
        have HB9 := hide (bt (unhide HB1) (bt (unhide HB8) hB9))
        clear hB9 o0 o1 o2
        go_wp2
        go_ret
        exact ⟨rfl, unhide HB9⟩
end Go.Proofs.YtmgmganbamjnmaaGreatDoor
