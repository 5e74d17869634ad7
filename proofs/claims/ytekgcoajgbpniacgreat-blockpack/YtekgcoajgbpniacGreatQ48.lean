/-
  The document's reader in memory: a Dynamic block that is read without an error. (Written by tools/mk_unpb3.py.)
-/
import Derived.Test.YtekgcoajgbpniacGreatQ46
import Derived.Deep.RegionHeld3
import Derived.Test.YtekgcoajgbpniacGreatQ41
namespace Go.Proofs.YtekgcoajgbpniacGreat
open Go.RowKit
set_option linter.unusedVariables false
set_option maxRecDepth 100000

set_option maxHeartbeats 8000000 in
theorem block_dynamic (No : Nat → Prop) (B b n2 : Nat) (bs : List Nat) (u : US) (w : World) (h : UIs No B w b (rowB bs n2) u) (hl : bs.length = n2) (hn2 : n2 ≤ 25000) (hp : u.p ≤ 8 * n2) (ho : u.out.length ≤ 3000) (hks : u.ks.length ≤ 100) (hNo : ∀ g, w.heap.size ≤ g → ¬ No g) (l : Nat) (x1 x2 x3 : US) (hg1 : uget (rowB bs n2) 1 u = (l, x1)) (hg2 : uget (rowB bs n2) 2 x1 = (2, x2)) (he2 : x2.e = 0) (LA LB : List Int) (hop : utold (rowB bs n2) x2 = ((LA, LB), x3)) (he3 : x3.e = 0) (V : US) (hut : utok (rowB bs n2) LA LB (rowB bs n2).length x3 = V) (hV : V.e = 0) :
    Calls Tryz.prog 13 #[.pointer (some ⟨b, 0, none⟩)] w fun e w' => e = .returned (.bool (decide (l = 1))) ∧ UUp No B w b (rowB bs n2) (ukept 2 V) w' := by
  obtain ⟨i0, hi, hz0, hz1, hz2⟩ := info_parts info_int
  have hN := rowB_length bs n2
  have hrl : (rowB bs n2).length ≤ 200000 := by omega
  have hp0 : u.p ≤ (rowB bs n2).length := by omega
  obtain ⟨q2, q2l, q2o, q2k, q2e⟩ := uget_p2 hg2 he2
  obtain ⟨q1, q1l, q1o, q1k, _⟩ := uget_p2 hg1 q2e
  obtain ⟨m0, n0, c0, v1, v2, v3, us, S0, L0, hTD⟩ := utold_good hop he3
  have HGA : Hid (Good LA) := hide (errL_good (by rw [hTD.ea]; exact hTD.ca))
  have HGB : Hid (Good LB) := hide (errL_good (by rw [hTD.ec]; exact hTD.cc))
  obtain ⟨t1, t2, t3, t4⟩ := utold_p hTD q2l
  have hx3p : x3.p ≤ (rowB bs n2).length ∧ 1 ≤ x3.p := ⟨t2, by omega⟩
  have hx3o : x3.out.length ≤ 3000 := by rw [t3, q2o, q1o]; exact ho
  have hx3k : x3.ks = u.ks := t4.trans (q2k.trans q1k)
  have HTD := hide hTD
  clear hTD t1 t2 t3 t4 hop
  have H := hide h
  have HNo := hide hNo
  have HG1 := hide hg1
  have HG2 := hide hg2
  have HUT := hide hut
  have hl2 : l < 2 := by
    have := ulow (rowB bs n2) 1 u
    rw [hg1] at this
    exact this
  obtain ⟨hx3l, hx3g⟩ := hx3p
  clear h hNo hg1 hg2 hut q1 q2 q2k q1k q2o q1o
  go_enter Tryz.func13, Tryz.ntmps13
  go_wp2_with fail
  refine (get_l No B b 1 _ u w (unhide H) (by omega) hrl hp0 l x1 (unhide HG1)).mono ?_
  rintro e w1 ⟨rfl, hU1⟩
  have U1 := hide hU1
  clear hU1
  go_wp2_with fail
  refine (get_l No B b 2 _ x1 w1 (unhide U1).is (by omega) hrl q1l 2 x2 (unhide HG2)).mono ?_
  rintro e w2 ⟨rfl, hU2⟩
  have U2 := hide ((unhide U1).trans hU2)
  clear hU2
  obtain ⟨_, _, c42, _⟩ := (unhide U2).is.cell
  rw [he2] at c42
  go_wp2_with fail
  refine (told_ok No B b n2 bs x2 w2 (unhide U2).is hl hn2 (by omega) LA LB x3 m0 n0 c0 v1 v2 v3 us S0 L0 (unhide HTD)).mono ?_
  rintro e w3 ⟨aA, cA, aB, cB, rfl, hRA, hRB, hU3⟩
  have U3 := hide ((unhide U2).trans hU3)
  have RA := hide hRA
  have RB := hide hRB
  obtain ⟨nA, hlA⟩ : ∃ nA, LA.length = nA := ⟨_, rfl⟩
  obtain ⟨nB, hlB⟩ : ∃ nB, LB.length = nB := ⟨_, rfl⟩
  rw [hlA, hlB]
  clear hRA hRB hU3
  obtain ⟨_, _, c43, _⟩ := (unhide U3).is.cell
  rw [he3] at c43
  clear U1 U2 c42
  go_wp2_with fail
  refine (sizes_any w3).mono ?_
  rintro e w4 ⟨g1, s1, g2, s2, rfl, hg1, hg2, hP1, hP2, hB4, hg1b, hg2b⟩
  have hz34 := hB4.size
  have HP1 := hide hP1
  have HP2 := hide hP2
  have HB4 := hide hB4
  clear hP1 hP2 hB4
  have RA4 := hide ((unhide RA).below (unhide HB4) (Nat.le_refl _))
  go_wp2_with fail
  refine (codebook_any aA nA cA LA w4 hlA (unhide RA4) (unhide HGA)).mono ?_
  rintro e w5 ⟨mA, kA, rfl, hmA, hMA, hB5⟩
  have hz45 := hB5.size
  have HMA := hide hMA
  have HB5 := hide hB5
  have hmA2 := hMA.lt
  clear hMA hB5
  have RB5 := hide (((unhide RB).below (unhide HB4) (Nat.le_refl _)).below (unhide HB5) (Nat.le_refl _))
  go_wp2_with fail
  refine (codebook_any aB nB cB LB w5 hlB (unhide RB5) (unhide HGB)).mono ?_
  rintro e w6 ⟨mB, kB, rfl, hmB, hMB, hB6⟩
  have hz56 := hB6.size
  have HMB := hide hMB
  have hmB2 := hMB.lt
  have HMA6 := hide (book_below (unhide HMA) hB6 hmA2)
  have HP16 := hide (prs_below (prs_below (unhide HP1) (unhide HB5) hg1b) hB6 (by omega))
  have HP26 := hide (prs_below (prs_below (unhide HP2) (unhide HB5) hg2b) hB6 (by omega))
  have hB36 : Below w3.heap.size w3 w6 := (unhide HB4).trans (((unhide HB5).mono (by omega)).trans (hB6.mono (by omega)))
  have V6 : Hid (UUp No B w b (rowB bs n2) x3 w6) := hide ((unhide U3).trans (((UUp.refl (unhide U3).is.opened).newer (Nat.le_refl _) hB36).closed))
  obtain ⟨N, hNN⟩ : ∃ N, w3.heap.size = N := ⟨_, rfl⟩
  obtain ⟨M, hMM⟩ : ∃ M, w6.heap.size = M := ⟨_, rfl⟩
  have hbN : b < N := by have := (unhide U3).is.lt; omega
  have I6 : Hid (UIs (N2 No N M) B w6 b (rowB bs n2) x3) := hide ((((unhide U3).is.opened).newer hB36).more (fun e => by rcases e with e | e; exact (unhide V6).is.no e; omega) (fun g hg => by rw [hNN]; rcases hg with e | e; exact .inl (.inl e); exact .inl (.inr e.1)))
  rw [hNN] at hg1 hg2 hz34
  rw [hMM] at hz56 hmB2
  have hwN : w.heap.size ≤ N := by have := (unhide U3).below.size; omega
  clear hMB hB6 hB36 HB4 HB5 HMA HP1 HP2 RA RB RA4 RB5 U3 c43
  go_wp2
  go_loopw [14] (fun v14 wr => ∃ (F : Nat) (x : US), Hid (utok (rowB bs n2) LA LB F x = V) ∧ Hid ((rowB bs n2).length < x.p + F) ∧ Hid (x.p ≤ (rowB bs n2).length) ∧ Hid (x.out.length ≤ 3000) ∧ Hid (x.ks = u.ks) ∧ Hid (UUp (N2 No N M) B w6 b (rowB bs n2) x wr)) (fun _ wr => leftU n2 b wr)
  case atStart => exact ⟨(rowB bs n2).length, x3, HUT, hide (by omega), hide hx3l, hide hx3o, hide hx3k, hide (UUp.refl (unhide I6))⟩
  case round =>
    obtain ⟨F, x, hT, hF, hpx, hox, hkx, hW⟩ := hrel
    have hxe : x.e = 0 := utok_e (by rw [unhide hT]; exact hV)
    obtain ⟨_, _, c4x, _⟩ := (unhide hW).is.cell
    rw [hxe] at c4x
    cases F with
    | zero => exact absurd (unhide hF) (by have := unhide hpx; omega)
    | succ F =>
      obtain ⟨t, y, hTk, hrw⟩ := utok_round (row := rowB bs n2) (a := LA) (b := LB) (F := F) (u := x) (by rw [unhide hT]; exact hV)
      rw [unhide hT] at hrw
      obtain ⟨a1, a2, a3, a4, a5⟩ := hTk.ahead
      have HAH : Hid ((rowB bs n2).length < y.p + F ∧ y.p ≤ (rowB bs n2).length ∧ y.out.length ≤ 3000 ∧ y.ks = u.ks ∧ x.p < y.p) := hide ⟨by have := unhide hF; omega, a2, a5 (unhide hox), a4.trans (unhide hkx), by omega⟩
      have HPA := hide (place_any_u (N2 No N M) B b mA kA n2 LA bs x wr (unhide hW).is (unhide HGA) hl hn2 (by have := unhide hpx; omega) ((unhide hW).book2 (by rw [hlA]; exact unhide HMA6) (by omega) (by omega)) (by omega))
      clear a1 a2 a3 a4 a5 hT hF hpx hkx
      cases hTk with
      | stop _ h1 h2 =>
        rw [h1] at HPA
        have hVy : V = y := by rw [hrw]; rfl
        clear hrw
        subst hVy
        go_wp2_with fail
        refine (unhide HPA).mono ?_
        rintro e w7 ⟨rfl, hU7⟩
        have W7 := hide ((unhide hW).trans hU7)
        clear hU7 hW
        obtain ⟨_, _, c47, _⟩ := (unhide W7).is.cell
        rw [hV] at c47
        have WV := hide ((unhide V6).trans (unhide W7).closed2)
        have HKS : Hid (V.ks.length ≤ 100) := hide (by rw [(unhide HAH).2.2.2.1]; exact hks)
        obtain ⟨ov, kv, _, c3, hh, hov, hkv, hap, hn1, hn2⟩ := (unhide WV).is.rows
        obtain ⟨KL, hKL⟩ : ∃ KL, (V).ks.length = KL := ⟨_, rfl⟩
        have hKV := hkv
        rw [hKL] at hkv
        obtain ⟨ka, kc, rfl⟩ := own_slice' hkv
        have hsz9 := (unhide WV).below.size
        have hbl9 := (unhide WV).is.lt
        have hKL2 : KL ≤ 1000 := by have := unhide HKS; omega
        have HKV := hide hkv
        have HKV2 := hide hKV
        have HOV := hide hov
        have HH := hide hh
        have HAP := hide hap
        have HN1 := hide hn1
        have HN2 := hide hn2
        have HKL := hide hKL
        have HIS := hide (unhide WV).is
        clear hkv hKV hov hh hap hn1 hn2 hKL
        go_wp2_with (at_builtin; refine wpList_append_own_at _ rfl (.tmp 239) (.tmp 241) 23 rfl (b + 1) 3 i0 (.int .i64 0) 1 8 Tryz.underlying23 hi hz0 hz1 hz2 rfl (by decide) _ KL (i64s (V).ks) rfl ((unhide HKV).alloc _) ⟨w7.heap.size, 0, none⟩ 1 1 [.int .i64 (2)] rfl rfl (cell_one_new _ _ _) (one_cell rfl) (by unfold maxLen; omega) (by omega) (by simp; omega) ?_)
        intro v' wK hO3 hgrow _ hspot
        obtain ⟨q3, f3, hFIN⟩ := UIs.keepK (k := 2) (X := .cells #[.int .i64 (2)] 3) (unhide HIS).base (unhide HIS).no (unhide HH) (unhide HOV) (unhide HKV2) (unhide HAP) (unhide HN1) (unhide HN2) (fun g hg => unhide HNo g (by omega)) (by rw [unhide HKL]; exact hO3) hgrow (by simpa using hspot)
        obtain ⟨g9, c9, rfl, _, _⟩ := own_shape hO3 (by omega)
        have HFIN := hide ((unhide WV).trans hFIN)
        clear hO3 hgrow hspot hFIN
        go_wp2
        go_ret
        exact ⟨by rw [beq_one]; rfl, unhide HFIN⟩
      | byte c x' h1 h2 h3 h4 =>
        rw [h1] at HPA
        simp only [if_true] at hrw
        have hrw2 := hide hrw.symm
        have hsay : usay c x' = { x' with out := x'.out ++ [c] } := by unfold usay; rw [if_pos h2, if_neg h4]
        have HSAY := hide hsay
        have hxo : x'.out.length ≤ 3000 := by have := (uplace_p2 h1 h2).2.2.1; rw [this]; exact unhide hox
        have hcI : (c : Int) < 256 := by omega
        have hc2 : ((c : Int) == 256) = false := by rw [beq_eq_false_iff_ne]; omega
        clear hrw hsay h1
        go_wp2_with fail
        refine (unhide HPA).mono ?_
        rintro e w7 ⟨rfl, hU7⟩
        have W7 := hide ((unhide hW).trans hU7)
        clear hU7
        obtain ⟨_, _, c47, _⟩ := (unhide W7).is.cell
        rw [h2] at c47
        go_wp2_with fail
        refine (say_any (N2 No N M) B b c _ x' w7 (unhide W7).is hxo (fun g hg => by have := (unhide W7).below.size; intro e; rcases e with e | e; exact unhide HNo g (by omega) e; omega)).mono ?_
        rintro e w8 ⟨rfl, hU8⟩
        rw [unhide HSAY] at hU8
        have W8 := hide ((unhide W7).trans hU8)
        clear hU8
        go_wp2
        go_roundw
        case rel =>
          obtain ⟨b1, b2, b3, b4, b5⟩ := unhide HAH
          exact ⟨F, _, hrw2, hide b1, hide b2, hide b3, hide b4, W8⟩
        case measure =>
          rw [leftU_is (unhide hW).is, leftU_is (unhide W8).is]
          obtain ⟨b1, b2, b3, b4, b5⟩ := unhide HAH
          rw [hN] at b2
          simp only at b2 b5 ⊢
          omega
      | same k n0 f d0 x1 x2 x3 x4 _ h1 h2 h3 h4 h5 h6 h7 h8 h9 h10 h11 h12 h13 h14 =>
        rw [h1] at HPA
        simp only [if_true] at hrw
        have hrw2 := hide hrw.symm
        obtain ⟨q, hq⟩ : ∃ q, k - 257 = q := ⟨_, rfl⟩
        rw [hq] at h5 h13
        obtain ⟨sb, hsb⟩ : ∃ sb, (samesL.getD q (0, 0)).2 = sb := ⟨_, rfl⟩
        obtain ⟨s0, hs0⟩ : ∃ s0, (samesL.getD q (0, 0)).1 = s0 := ⟨_, rfl⟩
        obtain ⟨fb, hfb⟩ : ∃ fb, (farsL.getD f (0, 0)).2 = fb := ⟨_, rfl⟩
        obtain ⟨f0, hf0⟩ : ∃ f0, (farsL.getD f (0, 0)).1 = f0 := ⟨_, rfl⟩
        have hss := sames_small q (by omega)
        have hfs := fars_small f (by omega)
        rw [hsb, hs0] at hss
        rw [hfb, hf0] at hfs
        obtain ⟨hsb5, hs0b⟩ := hss
        obtain ⟨hfb5, hf0b, hf01⟩ := hfs
        rw [hsb] at h5
        rw [hs0, hf0] at h13
        rw [hfb] at h10
        rw [hf0] at h12
        have p1 := uplace_p2 h1 h2
        have p2 := uget_p2 h5 h6
        have p3 := uplace_p2 h7 h8
        have p4 := uget_p2 h10 h11
        have hx1o : x1.out.length ≤ 3000 := by rw [p1.2.2.1]; exact unhide hox
        have hx4o : x4.out.length ≤ 3000 := by rw [p4.2.2.1, p3.2.2.1, p2.2.2.1]; exact hx1o
        have hx1p := p1.2.1
        have hx2p := p2.2.1
        have hx3p := p3.2.1
        have hx4p := p4.2.1
        have hn32 : n0 < 32 := by
          have h15 := ulow (rowB bs n2) sb x1
          rw [h5] at h15
          exact Nat.lt_of_lt_of_le h15 (Nat.le_trans (Nat.pow_le_pow_right (by decide) hsb5) (by decide))
        have hd32 : d0 < 8192 := by
          have h15 := ulow (rowB bs n2) fb x3
          rw [h10] at h15
          exact Nat.lt_of_lt_of_le h15 (Nat.le_trans (Nat.pow_le_pow_right (by decide) hfb5) (by decide))
        have hk1 : (257 : Int) ≤ (k : Int) := by omega
        have hk2 : (k : Int) - 257 < 29 := by omega
        have hk3 : ¬ (k : Int) < 256 := by omega
        have hk4 : ¬ (285 : Int) < (k : Int) := by omega
        have hk5 : (k : Int) < 286 := by omega
        have hk6 : ((k : Int) == 256) = false := by rw [beq_eq_false_iff_ne]; omega
        have hkw : IntKind.i64.wrap ((k : Int) - 257) = (k : Int) - 257 := by simp [IntKind.wrap, IntKind.signed, IntKind.bits]; omega
        have hkn : ((k : Int) - 257).toNat = q := by omega
        have hsw : IntKind.i64.wrap ((s0 : Int) + (n0 : Int)) = (s0 : Int) + (n0 : Int) := by simp [IntKind.wrap, IntKind.signed, IntKind.bits]; omega
        have hfw : IntKind.i64.wrap ((f0 : Int) + (d0 : Int)) = (f0 : Int) + (d0 : Int) := by simp [IntKind.wrap, IntKind.signed, IntKind.bits]; omega
        have HSB := hide hsb
        have HS0 := hide hs0
        have HFB := hide hfb
        have HF0 := hide hf0
        have H13 := hide h13
        clear hrw h13 p1 p2 p3 p4 hsb hs0 hfb hf0
        go_wp2_with fail
        refine (unhide HPA).mono ?_
        rintro e w7 ⟨rfl, hU7⟩
        have W7 := hide ((unhide hW).trans hU7)
        clear hU7
        obtain ⟨_, _, c47, _⟩ := (unhide W7).is.cell
        rw [h2] at c47
        have hPq := (unhide W7).prs (unhide HP16) (by omega) hg1 (by omega) q (by show q < 29; omega)
        rw [unhide HS0, unhide HSB] at hPq
        obtain ⟨cs1, cs2⟩ := hPq
        have hg17 : g1 < w7.heap.size := by have := (unhide W7).below.size; omega
        have HGT := hide (fun i => get_l (N2 No N M) B b sb _ x1 (w7.drewN i) ((UUp.refl (unhide W7).is).drewN i).is (by omega) hrl hx1p n0 x2 h5)
        have HGD := hide (fun i => (UUp.refl (unhide W7).is).drewN i)
        have hN2 : N2 No N M g1 := .inr ⟨hg1, by omega⟩
        have HN2 := hide hN2
        clear hN2
        go_wp2
        go_region_held3 (fun w' => w'.cell? ⟨g1, q * 2, none⟩ = some (.int .i64 (s0 : Int)) ∧ w'.cell? ⟨g1, q * 2 + 1, none⟩ = some (.int .i64 (sb : Int))) (first | assumption | exact ⟨by assumption, by assumption⟩) (first | (go_at_call 21; refine (unhide HGT _).mono ?_; rintro e w8 ⟨rfl, hU8⟩; have hkp8 := ((unhide HGD _).trans hU8).kp g1 hg17 (unhide HN2); have cd1 := (World.cell?_of_block (a := ⟨g1, q * 2, none⟩) hkp8).trans cs1; have cd2 := (World.cell?_of_block (a := ⟨g1, q * 2 + 1, none⟩) hkp8).trans cs2; have W8 := hide ((unhide W7).trans ((unhide HGD _).trans hU8)); clear hU8 hkp8))
        have HPB := hide (place_any_u (N2 No N M) B b mB kB n2 LB bs x2 w8 (unhide W8).is (unhide HGB) hl hn2 (by omega) ((unhide W8).book2 (by rw [hlB]; exact unhide HMB) (by omega) (by omega)) (by omega))
        rw [h7] at HPB
        clear HGT HGD cs1 cs2 cd1 cd2 W7 c47 HPA
        go_wp2_with fail
        refine (unhide HPB).mono ?_
        rintro e w9 ⟨rfl, hU9⟩
        have W9 := hide ((unhide W8).trans hU9)
        clear hU9
        obtain ⟨_, _, c49, _⟩ := (unhide W9).is.cell
        rw [h8] at c49
        have hPf := (unhide W9).prs (unhide HP26) (by omega) hg2 (by omega) f (by show f < 30; omega)
        rw [unhide HF0, unhide HFB] at hPf
        obtain ⟨cf1, cf2⟩ := hPf
        have hg29 : g2 < w9.heap.size := by have := (unhide W9).below.size; omega
        have hf1 : ¬ (29 : Int) < (f : Int) := by omega
        have hf2 : (f : Int) < 30 := by omega
        have HGT2 := hide (fun i => get_l (N2 No N M) B b fb _ x3 (w9.drewN i) ((UUp.refl (unhide W9).is).drewN i).is (by omega) hrl hx3p d0 x4 h10)
        have HGD2 := hide (fun i => (UUp.refl (unhide W9).is).drewN i)
        have HN22 : Hid (N2 No N M g2) := hide (.inr ⟨hg2, by omega⟩)
        go_wp2
        go_region_held3 (fun w' => w'.cell? ⟨g2, f * 2, none⟩ = some (.int .i64 (f0 : Int)) ∧ w'.cell? ⟨g2, f * 2 + 1, none⟩ = some (.int .i64 (fb : Int))) (first | assumption | exact ⟨by assumption, by assumption⟩) (first | (go_at_call 21; refine (unhide HGT2 _).mono ?_; rintro e wA ⟨rfl, hUA⟩; have hkpA := ((unhide HGD2 _).trans hUA).kp g2 hg29 (unhide HN22); have cg1 := (World.cell?_of_block (a := ⟨g2, f * 2, none⟩) hkpA).trans cf1; have cg2 := (World.cell?_of_block (a := ⟨g2, f * 2 + 1, none⟩) hkpA).trans cf2; have WA := hide ((unhide W9).trans ((unhide HGD2 _).trans hUA)); clear hUA hkpA))
        clear HGT2 HGD2 cf1 cf2 cg1 cg2 W9 W8 c49 HPB
        obtain ⟨_, _, c4A, _⟩ := (unhide WA).is.cell
        rw [h11] at c4A
        obtain ⟨ovA, kvA, c2A, _, _, hovA, _⟩ := (unhide WA).is.rows
        obtain ⟨oA, ocA, rfl⟩ := own_slice' hovA
        clear hovA
        obtain ⟨d, hd⟩ : ∃ d, f0 + d0 = d := ⟨_, rfl⟩
        obtain ⟨n, hn⟩ : ∃ n, s0 + n0 = n := ⟨_, rfl⟩
        have hdI : (f0 : Int) + (d0 : Int) = (d : Int) := by omega
        have hnI : (s0 : Int) + (n0 : Int) = (n : Int) := by omega
        have H13' : Hid (ucopy d n x4 = y) := hide (by rw [← hd, ← hn]; exact unhide H13)
        have hd12 : d ≤ x4.out.length := by rw [← hd]; exact h12
        have hd1 : 1 ≤ d := by omega
        obtain ⟨LO, hLO⟩ : ∃ LO, x4.out.length = LO := ⟨_, rfl⟩
        rw [hLO] at c2A hd12 hx4o
        have hdL : ¬ (LO : Int) < (d : Int) := by omega
        have HLO := hide hLO
        have hnb : n ≤ 300 := by omega
        clear hLO H13 hd hn h12
        rw [hdI, hnI]
        go_wp2
        go_loopw [18] (fun v18 wr => ∃ (j : Nat) (z : US), j ≤ n ∧ v18 = .int .i64 (j : Int) ∧ Hid (ucopy d (n - j) z = y) ∧ Hid (z.out.length ≤ 3000) ∧ Hid (d ≤ z.out.length) ∧ Hid (UUp (N2 No N M) B w6 b (rowB bs n2) z wr)) (fun v18 _ => n - (intOf v18).toNat)
        case atStart => exact ⟨0, x4, Nat.zero_le _, rfl, H13', hide (by rw [unhide HLO]; exact hx4o), hide (by rw [unhide HLO]; exact hd12), WA⟩
        case round =>
          obtain ⟨j, z, hj, rfl, hcp, hzo, hdz, hZ⟩ := hrel
          have hze : z.e = 0 := ucopy_e (by rw [unhide hcp]; exact h14)
          obtain ⟨_, _, c4z, _⟩ := (unhide hZ).is.cell
          rw [hze] at c4z
          by_cases hjn : j < n
          · obtain ⟨ovz, kvz, c2z, _, _, hovz, _⟩ := (unhide hZ).is.rows
            obtain ⟨LZ, hLZ⟩ : ∃ LZ, z.out.length = LZ := ⟨_, rfl⟩
            have hdz2 := unhide hdz
            have hzo2 := unhide hzo
            rw [hLZ] at hovz hdz2 hzo2
            obtain ⟨gz, cz, rfl, hgz1, hgz2⟩ := own_shape hovz (by omega)
            obtain ⟨r, hr⟩ : ∃ r, LZ - d = r := ⟨_, rfl⟩
            obtain ⟨ch, hch⟩ : ∃ ch, z.out.getD r 0 = ch := ⟨_, rfl⟩
            have cx : wr.cell? ⟨gz, r, none⟩ = some (.int .u8 (ch : Int)) := by
              rw [hovz.cellAt r (by omega), ← hch]
              have : r < z.out.length := by omega
              simp [u8s, List.getD, this]
            have hcp2 : ucopy d (n - (j + 1)) (usay ch z) = y := by
              have h20 := unhide hcp
              rw [show n - j = (n - (j + 1)) + 1 by omega, ucopy, if_pos hze, hLZ, hr, hch] at h20
              exact h20
            obtain ⟨_, hz3, hsay⟩ := usay_e (ucopy_e (by rw [hcp2]; exact h14))
            have HCP2 := hide hcp2
            have HSAY := hide hsay
            have HSY := hide (fun i => say_any (N2 No N M) B b ch _ z (wr.drewN i) ((UUp.refl (unhide hZ).is).drewN i).is (unhide hzo) (fun g hg => by have h21 := (unhide hZ).below.size; have h22 : wr.heap.size ≤ g := hg; intro e; rcases e with e | e; exact unhide HNo g (by omega) e; omega))
            have HSD := hide (fun i => (UUp.refl (unhide hZ).is).drewN i)
            have hjI : (j : Int) < (n : Int) := by omega
            have hb1 : (d : Int) ≤ (LZ : Int) := by omega
            have hb2 : (0 : Int) < (d : Int) := by omega
            have hb3 : (LZ : Int) - (d : Int) < (LZ : Int) := by omega
            have hwz : IntKind.i64.wrap ((LZ : Int) - (d : Int)) = (LZ : Int) - (d : Int) := by simp [IntKind.wrap, IntKind.signed, IntKind.bits]; omega
            have htz : ((LZ : Int) - (d : Int)).toNat = r := by omega
            have HLZ := hide hLZ
            clear hovz hcp2 hsay hch hLZ
            go_wp2
            go_region_with (go_at_call 23; refine (unhide HSY _).mono ?_; rintro e wB ⟨rfl, hUB⟩; have WB := hide ((unhide hZ).trans ((unhide HSD _).trans hUB)); clear hUB)
            all_goals try go_wp2
            all_goals
              go_roundw
              case rel =>
                refine ⟨j + 1, usay ch z, by omega, by go_num, HCP2, hide ?_, hide ?_, WB⟩
                · rw [unhide HSAY]; show (z.out ++ [ch]).length ≤ 3000; rw [List.length_append, unhide HLZ]; simp only [List.length_cons, List.length_nil]; have := unhide HLZ; omega
                · rw [unhide HSAY]; show d ≤ (z.out ++ [ch]).length; rw [List.length_append, unhide HLZ]; omega
              case measure => simp [intOf]; omega
          · have hjn2 : j = n := by omega
            subst hjn2
            have hzy : z = y := by
              have h20 := unhide hcp
              rw [Nat.sub_self, ucopy] at h20
              exact h20
            subst hzy
            have hjI : ¬ (j : Int) < (j : Int) := by omega
            go_wp2
            go_roundw
            case rel =>
              obtain ⟨b1, b2, b3, b4, b5⟩ := unhide HAH
              exact ⟨F, z, hrw2, hide b1, hide b2, hide b3, hide b4, hZ⟩
            case measure =>
              rw [leftU_is (unhide hW).is, leftU_is (unhide hZ).is]
              obtain ⟨b1, b2, b3, b4, b5⟩ := unhide HAH
              rw [hN] at b2
              omega
end Go.Proofs.YtekgcoajgbpniacGreat

/-
  What the document's own RowOf says of more bytes.
-/
namespace Go.Proofs.YtekgcoajgbpniacGreat
open Go.RowKit
set_option linter.unusedVariables false
set_option maxRecDepth 100000

set_option maxHeartbeats 2000000 in
theorem rowOf_yes2 (b o len cap : Nat) (xs : List Nat) (w : World) (hl : xs.length = len) (hx : ∀ j, xs.getD j 0 < 256) (hm : len ≤ 25000) (hb : b < w.heap.size) (hX : Bytes w b o xs) :
    Calls Tryz.prog 12 #[.slice (some ⟨b, o, none⟩) len cap] w fun e w' => e = .returned (.string (text (rowB xs len))) ∧ Below w.heap.size w w' := by
  have HX := hide hX
  have HL := hide hl
  have Hx := hide hx
  clear hX hl hx
  go_enter Tryz.func12, Tryz.ntmps12
  go_wp2
  go_loopw [9] (fun i wr => ∃ q : Nat, q ≤ len ∧ i = .int .i64 q ∧ IsB wr w.heap.size (Lib.byteCells ((rowB xs q).map chr)) ∧ Below w.heap.size w wr) (fun i _ => len - (intOf i).toNat)
  case atStart => exact ⟨0, Nat.zero_le _, rfl, IsB.new w, (Below.refl _ _).alloc (Nat.le_refl _) _⟩
  case round =>
    obtain ⟨q, hq, rfl, hI, hB⟩ := hrel
    have HI := hide hI
    have HB := hide hB
    have hzr := hB.size
    by_cases hlt : q < len
    · have c := (hB.cell (p := ⟨b, o + q, none⟩) hb).trans (unhide HX q (by rw [unhide HL]; exact hlt))
      have hx1 := unhide Hx q
      have H2 : Hid (rowB xs (q + 1) = rowB xs q ++ numBits (xs.getD q 0) 8) := rfl
      have HLN := hide (rowB_length xs q)
      generalize xs.getD q 0 = x at *
      clear hI hB
      go_wp2
      go_loopw [13] (fun i wq => ∃ k : Nat, k ≤ 8 ∧ i = .int .i64 k ∧ IsB wq w.heap.size (Lib.byteCells ((rowB xs q ++ numBits x k).map chr)) ∧ Below w.heap.size w wq) (fun i _ => 8 - (intOf i).toNat)
      case atStart => exact ⟨0, Nat.zero_le _, rfl, by simpa [numBits] using unhide HI, unhide HB⟩
      case round =>
        obtain ⟨k, hk, rfl, hI, hB⟩ := hrel
        have HI2 := hide hI
        have HB2 := hide hB
        clear hI hB
        by_cases hlt2 : k < 8
        · have hbl : (Lib.byteCells ((rowB xs q ++ numBits x k).map chr)).length ≤ 1000000 := by
            rw [Lib.byteCells_length, List.length_map, List.length_append, unhide HLN, numBits_length]; omega
          have H3 : Hid (numBits x (k + 1) = numBits x k ++ [x.testBit k]) := rfl
          go_wp2_with fail
          refine (writeByte_any _ _ _ _ (unhide HI2) hbl).mono ?_
          rintro e w3 ⟨rfl, hI3, hB3⟩
          have HI3 := hide hI3
          have HB3 := hide ((unhide HB2).trans hB3)
          clear hI3 hB3
          go_wp2
          go_roundw
          case rel => exact ⟨k + 1, by omega, by go_num, by rw [unhide H3, ← List.append_assoc, ← cells_snoc _ _ _ (chr_bit x k hx1)]; exact unhide HI3, unhide HB3⟩
          case measure => simp [intOf]; omega
        · obtain rfl : k = 8 := by omega
          go_wp2
          go_roundw
          case rel => exact ⟨q + 1, by omega, by go_num, by rw [unhide H2]; exact unhide HI2, unhide HB2⟩
          case measure => simp [intOf]; omega
    · obtain rfl : q = len := by omega
      clear hI hB
      go_wp2_with fail
      refine (string_any _ _ _ (unhide HI) hzr).mono ?_
      rintro e w5 ⟨rfl, hB5⟩
      have HB5 := hide ((unhide HB).trans hB5)
      clear hB5
      go_wp2
      go_ret
      exact ⟨rfl, unhide HB5⟩

theorem rowOf_in2 (a : Option Addr) (len cap : Nat) (xs : List Nat) (w : World) (hl : xs.length = len) (hx : ∀ j, xs.getD j 0 < 256) (hm : len ≤ 25000) (hX : BytesIn w a xs) :
    Calls Tryz.prog 12 #[.slice a len cap] w fun e w' => e = .returned (.string (text (rowB xs len))) ∧ Below w.heap.size w w' := by
  rcases hX with rfl | ⟨b, o, rfl, hb, hX⟩
  · obtain rfl : len = 0 := by simp at hl; omega
    exact rowOf_none a cap w
  · exact rowOf_yes2 b o len cap xs w hl hx hm hb hX
end Go.Proofs.YtekgcoajgbpniacGreat
