/-
  The law WorldSettles.
-/
import Derived.Test.YtmgmganbamjnmaaDoorQ66
import Derived.Test.YtmgmganbamjnmaaDoorQ44
import Derived.Test.YtmgmganbamjnmaaDoorQ65
import Derived.Test.YtmgmganbamjnmaaDoorQ43
import Derived.Test.YtmgmganbamjnmaaDoorQ40
namespace Go.Proofs.YtmgmganbamjnmaaDoor
open Go.RowKit
set_option linter.unusedVariables false
set_option linter.unusedSimpArgs false
set_option maxRecDepth 100000

theorem WB.wat {V : World} {P : Nat} {p1 p2 p3 : Option Addr} {m1 m2 m3 q1 q2 q3 : Nat} {W : Wd} (h : WB V P (.slice p1 m1 q1) (.slice p2 m2 q2) (.slice p3 m3 q3) W) : WAt V W p1 q1 p2 q2 p3 q3 := by
  obtain ⟨a1, c1, a2, c2, a3, c3, he, hat⟩ := h.win
  simp only [Value.agg.injEq, Array.mk.injEq, List.cons.injEq, Value.slice.injEq, and_true] at he
  obtain ⟨⟨rfl, -, rfl⟩, ⟨rfl, -, rfl⟩, rfl, -, rfl⟩ := he
  exact hat
/-- was the file put by one of the first so many? -/
def HasPut (xs : List Hp) (T : List Nat) (f : Fl) (k : Nat) (P : Bool) : Prop := P = true ↔ ∃ (i : Nat) (x : Hp), i < k ∧ xs[i]? = some x ∧ T[i]? = some 0 ∧ PutBy x f
theorem HasPut.zero (xs : List Hp) (T : List Nat) (f : Fl) : HasPut xs T f 0 false := by
  constructor
  · intro h; cases h
  · rintro ⟨i, x, h, _⟩; omega
theorem HasPut.step {xs : List Hp} {T : List Nat} {f : Fl} {k s : Nat} {P Q : Bool} {x : Hp} (h : HasPut xs T f k P) (hx : xs[k]? = some x) (hs : T[k]? = some s) (hq : Q = true ↔ P = true ∨ (s = 0 ∧ PutBy x f)) : HasPut xs T f (k + 1) Q := by
  unfold HasPut at h ⊢
  rw [hq, h]
  constructor
  · rintro (⟨i, y, h1, h2⟩ | ⟨rfl, h2⟩)
    · exact ⟨i, y, by omega, h2⟩
    · exact ⟨k, x, by omega, hx, hs, h2⟩
  · rintro ⟨i, y, h1, h2, h3, h4⟩
    by_cases e : i < k
    · exact .inl ⟨i, y, e, h2, h3, h4⟩
    · obtain rfl : i = k := by omega
      rw [hx] at h2
      rw [hs] at h3
      cases h2
      cases h3
      exact .inr ⟨rfl, h4⟩
theorem HasPut.all {xs : List Hp} {T : List Nat} {f : Fl} {k : Nat} {P : Bool} (h : HasPut xs T f k P) (hk : xs.length ≤ k) (hf : From xs T f) : P = true := by
  obtain ⟨i, x, h1, h2, h3⟩ := hf
  exact h.2 ⟨i, x, Nat.lt_of_lt_of_le (List.getElem?_eq_some_iff.1 h1).1 hk, h1, h2, h3⟩
set_option maxHeartbeats 8000000 in
theorem worldSettles_any (n : Int) (a : Option Addr) (c m : Nat) (xs : List Hp) (w : World) (h : HsIn w a c xs) (hm : xs.length = m) :
    Calls Tryd.prog 3 #[.int .i64 n, .slice a m c] w fun e w' => e = .returned (.bool true) ∧ Below w.heap.size w w' := by
  have HR := hide (run_at n a c m xs w h hm)
  obtain ⟨E, hE⟩ : ∃ E, runE n xs = E := ⟨_, rfl⟩
  obtain ⟨R, hR⟩ : ∃ R, runR n xs = R := ⟨_, rfl⟩
  obtain ⟨T, hT⟩ : ∃ T, runT n xs = T := ⟨_, rfl⟩
  rw [hE, hR, hT] at HR
  have HER := hide (And.intro hE (And.intro hR hT))
  have HXS := hide (And.intro h hm)
  have hlimm := h.lim
  rw [hm] at hlimm
  clear h hm hE hR hT
  go_enter Tryd.func3, Tryd.ntmps3
  go_wp2_with fail
  refine (unhide HR).mono ?_
  rintro e w1 ⟨v, aS, cS, rfl, hW1, -, hS1, hB1⟩
  obtain ⟨p1, m1, q1, p2, m2, q2, p3, m3, q3, rfl, hm1, hm2, -⟩ := hW1.vals
  obtain ⟨mT, hmT⟩ : ∃ mT, T.length = mT := ⟨_, rfl⟩
  rw [hmT]
  have hA1 := bel_al (Below.refl w1.heap.size w1) (wbox (.slice p1 m1 q1) (.slice p2 m2 q2) (.slice p3 m3 q3))
  have HN := hide (WB.new hW1)
  have HT := hide (told_any (w1.alloc (wbox (.slice p1 m1 q1) (.slice p2 m2 q2) (.slice p3 m3 q3))))
  have HB1 := hide (bt hB1 hA1)
  have HS1 := hide (hS1.below hA1)
  have HM := hide hmT
  clear hW1 hS1 hB1 hA1 hmT HR hm1 hm2
  go_wp2_with fail
  refine (unhide HT).mono ?_
  rintro e w2 ⟨rfl, hB2⟩
  by_cases hE0 : E = 0
  · subst hE0
    obtain ⟨hE, hR, hT⟩ := unhide HER
    have hrr := run_right hE
    rw [hR, hT] at hrr
    obtain ⟨hok, hlen, hall⟩ := hrr
    have hmm : mT = m := by rw [← unhide HM, hlen]; exact (unhide HXS).2
    subst hmm
    have hbx := (unhide HN).below hB2
    have HST := hide (settle_w hbx.win)
    obtain ⟨E2, hE2⟩ : ∃ E2, stlE R = E2 := ⟨_, rfl⟩
    obtain ⟨V, hV⟩ : ∃ V, stlW R = V := ⟨_, rfl⟩
    rw [hE2, hV] at HST
    have hsr := stl_right hok
    rw [hE2, hV] at hsr
    have HSR := hide hsr
    have HOK := hide (And.intro hok hall)
    obtain ⟨x0, x1, x2⟩ := hbx.cells
    have hne : ((mT : Int) != (mT : Int)) = false := by simp
    have HB2 := hide (bt (unhide HB1) hB2)
    have HS2 := hide ((unhide HS1).below hB2)
    clear hE hR hT hok hlen hall hbx hE2 hV hsr HT HN HS1 hB2 HER
    go_wp2_with fail
    refine (unhide HST).mono ?_
    rintro e w3 ⟨u, rfl, hW3, -, hB3⟩
    clear x0 x1 x2 hne
    obtain ⟨r1, k1, s1, r2, k2, s2, r3, k3, s3, rfl, hk1, hk2, -⟩ := hW3.vals
    have hA3 := bel_al (Below.refl w3.heap.size w3) (wbox (.slice r1 k1 s1) (.slice r2 k2 s2) (.slice r3 k3 s3))
    have HN3 := hide (WB.new hW3)
    have HB3 := hide (bt (unhide HB2) (bt hB3 hA3))
    have HS3 := hide ((unhide HS2).below (bt hB3 hA3))
    rcases unhide HSR with h11 | ⟨h00, L, hVL, hz1, hz2, hfr⟩
    · subst h11
      clear hW3 hB3 hA3 HSR hk1 hk2 HST
      go_wp2
      go_ret
      exact ⟨rfl, unhide HB3⟩
    · subst h00
      have hclk : k1 = R.clock.length := by rw [← hk1, hVL]; simp
      have hlo := (unhide HOK).1.lo
      have hhi := (unhide HOK).1.hi
      have hcl := (unhide HOK).1.cl
      have hk14 : 1 ≤ k1 ∧ k1 ≤ 4 := by omega
      have hnd : ∀ k, k < k1 → V.nodes[k]? = some L := fun k hk => by
        rw [hVL]
        simp only [List.getElem?_map]
        rw [List.getElem?_eq_getElem (by omega)]
        rfl
      have hL : ∀ f ∈ L, From xs T f := fun f hf => by
        obtain ⟨l, h1, h2⟩ := hfr f hf
        exact (unhide HOK).2.1 l h1 f h2
      obtain ⟨w4, hw4⟩ : ∃ w4, w3.alloc (wbox (.slice r1 k1 s1) (.slice r2 k2 s2) (.slice r3 k3 s3)) = w4 := ⟨_, rfl⟩
      have HW4 := hide hw4
      rw [hw4] at HN3 HB3 HS3
      obtain ⟨y0, y1, y2⟩ := (unhide HN3).cells
      have HY := hide (And.intro y0 (And.intro y1 y2))
      rw [← hw4] at y0 y1 y2
      have HV := hide (And.intro hz1 hz2)
      have HND := hide hnd
      have HL := hide hL
      clear hW3 hB3 hA3 HSR hk1 hk2 HST hVL hz1 hz2 hfr hclk hlo hhi hcl hnd hL hw4 HB2 HS2
      go_wp2
      go_loopw [49] (fun j wr => ∃ k : Nat, k ≤ k1 ∧ j = .int .i64 (k : Int) ∧ Hid (Below w4.heap.size w4 wr)) (fun j _ => k1 - (intOf j).toNat)
      case atStart => exact ⟨0, Nat.zero_le _, rfl, by rw [unhide HW4]; exact Below.refl _ _⟩
      case round =>
        clear y0 y1 y2
        obtain ⟨k, hk, rfl, HB⟩ := hrel
        have hbx := (unhide HN3).below (unhide HB)
        obtain ⟨y0, y1, y2⟩ := hbx.cells
        by_cases hlt : k < k1
        · obtain ⟨wA, rfl⟩ : ∃ x, x = wr := ⟨_, rfl⟩
          obtain ⟨b1, o1, x1', ha1, hb1, hx1, hL1⟩ := hbx.wat.ns.get (unhide HND k hlt)
          obtain ⟨b0, o0, x0', ha0, hb0, hx0, hL0⟩ := hbx.wat.ns.get (unhide HND 0 (by omega))
          have e01 : b0 = b1 ∧ o0 = o1 := by rw [ha1] at ha0; cases ha0; exact ⟨rfl, rfl⟩
          obtain ⟨rfl, rfl⟩ := e01
          have HSM := hide (same_yes hL1 hL0 rfl)
          obtain ⟨ax, cx, ys, hxs, hFs, hfl⟩ := hL1
          obtain ⟨ay, cy, hys⟩ := hL0.shape
          obtain ⟨nL, hnL⟩ : ∃ n, L.length = n := ⟨_, rfl⟩
          have hyl := fls_len hfl
          have hlm := hFs.lim
          rw [hnL] at hxs hys hyl
          rw [hyl] at hlm
          subst hxs hys
          have HFS := hide (And.intro hFs (And.intro hyl hfl))
          rw [Nat.add_zero] at hx0
          clear hbx hL0 hFs hyl hfl hnL ha0
          subst ha1
          go_wp2_with fail
          refine (unhide HSM).mono ?_
          rintro e w5 ⟨rfl, hB5⟩
          have HBA := hide hB5
          have HB5 := hide (bt (unhide HB) hB5)
          clear hB5 y0 y1 y2 hx0 hx1 HSM
          go_wp2
          go_loopw [62] (fun j wq => ∃ i : Nat, i ≤ nL ∧ j = .int .i64 (i : Int) ∧ Hid (Below w5.heap.size w5 wq)) (fun j _ => nL - (intOf j).toNat)
          case atStart => exact ⟨0, Nat.zero_le _, rfl, Below.refl _ _⟩
          case round =>
            obtain ⟨i, hi, rfl, HQ⟩ := hrel
            obtain ⟨wC, rfl⟩ : ∃ x, x = wr := ⟨_, rfl⟩
            by_cases hlt2 : i < nL
            · obtain ⟨y, hy, hym⟩ := get_of (xs := ys) (k := i) (by rw [(unhide HFS).2.1]; exact hlt2)
              have hBq := bt (unhide HBA) (unhide HQ)
              obtain ⟨b, o, hA, hb, e0, e1, e2, e3, e4⟩ := (unhide HFS).1.get hBq hy
              have hfm : y.f ∈ L := by rw [← (unhide HFS).2.2]; exact List.mem_map_of_mem hym
              have hfr := unhide HL y.f hfm
              have hfi := ((unhide HFS).1.all y hym).below hBq (Nat.le_refl _)
              obtain ⟨⟨nm, bs, st, nd, gn⟩, ya, yc⟩ := y
              have hys : (Fv.mk ⟨nm, bs, st, nd, gn⟩ ya yc).sl = .slice ya bs.length yc := rfl
              rw [hys] at e1
              obtain ⟨nb, hnb⟩ : ∃ nb, bs.length = nb := ⟨_, rfl⟩
              obtain ⟨t, ht⟩ : ∃ t, B nm = t := ⟨_, rfl⟩
              simp only at e0 e2 e3 e4
              rw [ht] at e0
              rw [hnb] at e1
              obtain ⟨wF, hwF⟩ : ∃ wF, wC.alloc (.cells #[.string t, .slice ya nb yc, .int .i64 st, .int .i64 nd, .bool gn] 39) = wF := ⟨_, rfl⟩
              have hBF : Below wC.heap.size wC wF := by rw [← hwF]; exact bel_al (Below.refl _ _) _
              have HFR : Hid (wF.heap[wC.heap.size]? = some (.cells #[.string t, .slice ya nb yc, .int .i64 st, .int .i64 nd, .bool gn] 39 (0, 0))) := hide (by rw [← hwF]; exact heap_alloc_new _ _)
              have HWF := hide hwF
              have HBF := hide (bt (unhide HQ) hBF)
              have HFI := hide (hfi.below hBF (Nat.le_refl _))
              have HFF := hide hfr
              have HTN := hide ht
              have HNB := hide hnb
              clear hy hym hBq hfm hfr hfi hys hwF hBF ht hnb
              subst hA
              go_wp2
              go_loopw [13, 68] (fun v13 j wq => ∃ (i3 : Nat) (P : Bool), i3 ≤ mT ∧ v13 = .bool P ∧ j = .int .i64 (i3 : Int) ∧ Hid (HasPut xs T ⟨nm, bs, st, nd, gn⟩ i3 P) ∧ Hid (Below wF.heap.size wF wq)) (fun _ j _ => mT - (intOf j).toNat)
              case atStart => exact ⟨0, false, Nat.zero_le _, rfl, rfl, hide (HasPut.zero _ _ _), by rw [unhide HWF]; exact Below.refl _ _⟩
              case round =>
                clear e0 e1 e2 e3 e4
                obtain ⟨i3, P, hi3, rfl, rfl, HPT, HB7⟩ := hrel
                by_cases hlt3 : i3 < mT
                · obtain ⟨x, hx⟩ := get_some (l := xs) (k := i3) (by rw [(unhide HXS).2]; exact hlt3)
                  obtain ⟨s, hs⟩ := get_some (l := T) (k := i3) (by rw [unhide HM]; exact hlt3)
                  have hB8 := bt (unhide HB5) (bt (unhide HBF) (unhide HB7))
                  obtain ⟨b', o', ab, cb, ha, hb', q0, q1, q2, q3, q4, hxa⟩ := (unhide HXS).1.get (bt (unhide HB3) hB8) hx
                  obtain ⟨bS, oS, haS, hbS, qs⟩ := ((unhide HS3).below hB8).get (xs := en T) (j := i3) (x := ((s : Nat) : Int)) (by simp [en, hs])
                  obtain ⟨xk, xn, xd, xnm, xbs⟩ := x
                  simp only at q0 q1 q2 q3 q4
                  obtain ⟨nx, hnx⟩ : ∃ nx, xbs.length = nx := ⟨_, rfl⟩
                  obtain ⟨tx, htx⟩ : ∃ tx, B xnm = tx := ⟨_, rfl⟩
                  rw [htx] at q3
                  rw [hnx] at q4
                  have hBa := bel_al (Below.refl wr.heap.size wr) (hbox xk xn xd tx (.slice ab nx cb))
                  have hbl := (Array.getElem?_eq_some_iff.1 (unhide HFR)).1
                  have hfr := ((unhide HB7).block _ hbl).trans (unhide HFR)
                  have hfa := (hBa.block _ (Nat.lt_of_lt_of_le hbl (unhide HB7).size)).trans hfr
                  have f0 := heap_row (i := 0) hfa
                  have f1 := heap_row (i := 1) hfa
                  have f2 := heap_row (i := 2) hfa
                  have f3 := heap_row (i := 3) hfa
                  have f4 := heap_row (i := 4) hfa
                  have qsa := (hBa.cell (p := ⟨bS, oS + i3, none⟩) hbS).trans qs
                  have HE := hide (eq_bytes ((hxa.below hBa).bs) ((unhide HFI).below (bt (unhide HB7) hBa) (Nat.le_refl _)).bs)
                  simp only at HE
                  rw [hnx, unhide HNB] at HE
                  have HTX := hide htx
                  have HXK := hide (And.intro hx hs)
                  have HBN := hide (bt (unhide HB7) hBa)
                  clear hx hs hB8 hxa hnx htx hBa hbl hfr hfa
                  subst ha haS
                  cases gn
                  · skip
                    cases P
                    · by_cases hs0 : s = 0
                      · subst hs0
                        by_cases hkk : xk = 1
                        · have hkb : (xk == 1) = true := by simp [hkk]
                          have HKK := hide hkk
                          clear hkk
                          by_cases hnn : xnm = nm
                          · have hnb : (tx.toList == t.toList) = true := by rw [← unhide HTX, ← unhide HTN, hnn]; simp
                            have HNN := hide hnn
                            clear hnn
                            by_cases hdd : xn = nd
                            · have hdb : (xn == nd) = true := by simp [hdd]
                              have HDD := hide hdd
                              clear hdd
                              by_cases hbb : xbs = bs
                              · rw [decide_eq_true hbb] at HE
                                have HBB := hide hbb
                                clear hbb
                                go_wp2_with fail
                                refine (unhide HE).mono ?_
                                rintro e w9 ⟨rfl, rfl⟩
                                go_wp2
                                go_roundw
                                case rel => exact ⟨i3 + 1, true, by omega, rfl, by go_num, hide ((unhide HPT).step (unhide HXK).1 (unhide HXK).2 (by unfold PutBy; simp [unhide HKK, unhide HNN, unhide HDD, unhide HBB])), unhide HBN⟩
                                case measure => simp [intOf]; omega
                              · rw [decide_eq_false hbb] at HE
                                have HBB := hide hbb
                                clear hbb
                                go_wp2_with fail
                                refine (unhide HE).mono ?_
                                rintro e w9 ⟨rfl, rfl⟩
                                go_wp2
                                go_roundw
                                case rel => exact ⟨i3 + 1, false, by omega, rfl, by go_num, hide ((unhide HPT).step (unhide HXK).1 (unhide HXK).2 (by unfold PutBy; simp [unhide HKK, unhide HNN, unhide HDD, unhide HBB])), unhide HBN⟩
                                case measure => simp [intOf]; omega
                            · have hdb : (xn == nd) = false := by simp [hdd]
                              have HDD := hide hdd
                              clear hdd
                              go_wp2
                              go_roundw
                              case rel => exact ⟨i3 + 1, false, by omega, rfl, by go_num, hide ((unhide HPT).step (unhide HXK).1 (unhide HXK).2 (by unfold PutBy; simp [unhide HKK, unhide HNN, unhide HDD])), unhide HBN⟩
                              case measure => simp [intOf]; omega
                          · have hnb : (tx.toList == t.toList) = false := by rw [← unhide HTX, ← unhide HTN, toList_B, toList_B]; simp [hnn]
                            have HNN := hide hnn
                            clear hnn
                            go_wp2
                            go_roundw
                            case rel => exact ⟨i3 + 1, false, by omega, rfl, by go_num, hide ((unhide HPT).step (unhide HXK).1 (unhide HXK).2 (by unfold PutBy; simp [unhide HKK, unhide HNN])), unhide HBN⟩
                            case measure => simp [intOf]; omega
                        · have hkb : (xk == 1) = false := by simp [hkk]
                          have HKK := hide hkk
                          clear hkk
                          go_wp2
                          go_roundw
                          case rel => exact ⟨i3 + 1, false, by omega, rfl, by go_num, hide ((unhide HPT).step (unhide HXK).1 (unhide HXK).2 (by unfold PutBy; simp [unhide HKK])), unhide HBN⟩
                          case measure => simp [intOf]; omega
                      · obtain ⟨hsb, hsc⟩ := nat_ne hs0
                        have HS0 := hide hs0
                        clear hs0
                        go_wp2
                        go_roundw
                        case rel => exact ⟨i3 + 1, false, by omega, rfl, by go_num, hide ((unhide HPT).step (unhide HXK).1 (unhide HXK).2 (by unfold PutBy; simp [unhide HS0])), unhide HBN⟩
                        case measure => simp [intOf]; omega
                    · skip
                      go_wp2
                      go_roundw
                      case rel => exact ⟨i3 + 1, true, by omega, rfl, by go_num, hide ((unhide HPT).step (unhide HXK).1 (unhide HXK).2 (by unfold PutBy; simp [true_or])), unhide HBN⟩
                      case measure => simp [intOf]; omega
                  · skip
                    cases P
                    · by_cases hs0 : s = 0
                      · subst hs0
                        by_cases hkk : xk = 2
                        · have hkb : (xk == 2) = true := by simp [hkk]
                          have HKK := hide hkk
                          clear hkk
                          by_cases hnn : xnm = nm
                          · have hnb : (tx.toList == t.toList) = true := by rw [← unhide HTX, ← unhide HTN, hnn]; simp
                            have HNN := hide hnn
                            clear hnn
                            by_cases hdd : xn = nd
                            · have hdb : (xn == nd) = true := by simp [hdd]
                              have HDD := hide hdd
                              clear hdd
                              go_wp2
                              go_roundw
                              case rel => exact ⟨i3 + 1, true, by omega, rfl, by go_num, hide ((unhide HPT).step (unhide HXK).1 (unhide HXK).2 (by unfold PutBy; simp [unhide HKK, unhide HNN, unhide HDD])), unhide HBN⟩
                              case measure => simp [intOf]; omega
                            · have hdb : (xn == nd) = false := by simp [hdd]
                              have HDD := hide hdd
                              clear hdd
                              go_wp2
                              go_roundw
                              case rel => exact ⟨i3 + 1, false, by omega, rfl, by go_num, hide ((unhide HPT).step (unhide HXK).1 (unhide HXK).2 (by unfold PutBy; simp [unhide HKK, unhide HNN, unhide HDD])), unhide HBN⟩
                              case measure => simp [intOf]; omega
                          · have hnb : (tx.toList == t.toList) = false := by rw [← unhide HTX, ← unhide HTN, toList_B, toList_B]; simp [hnn]
                            have HNN := hide hnn
                            clear hnn
                            go_wp2
                            go_roundw
                            case rel => exact ⟨i3 + 1, false, by omega, rfl, by go_num, hide ((unhide HPT).step (unhide HXK).1 (unhide HXK).2 (by unfold PutBy; simp [unhide HKK, unhide HNN])), unhide HBN⟩
                            case measure => simp [intOf]; omega
                        · have hkb : (xk == 2) = false := by simp [hkk]
                          have HKK := hide hkk
                          clear hkk
                          go_wp2
                          go_roundw
                          case rel => exact ⟨i3 + 1, false, by omega, rfl, by go_num, hide ((unhide HPT).step (unhide HXK).1 (unhide HXK).2 (by unfold PutBy; simp [unhide HKK])), unhide HBN⟩
                          case measure => simp [intOf]; omega
                      · obtain ⟨hsb, hsc⟩ := nat_ne hs0
                        have HS0 := hide hs0
                        clear hs0
                        go_wp2
                        go_roundw
                        case rel => exact ⟨i3 + 1, false, by omega, rfl, by go_num, hide ((unhide HPT).step (unhide HXK).1 (unhide HXK).2 (by unfold PutBy; simp [unhide HS0])), unhide HBN⟩
                        case measure => simp [intOf]; omega
                    · skip
                      go_wp2
                      go_roundw
                      case rel => exact ⟨i3 + 1, true, by omega, rfl, by go_num, hide ((unhide HPT).step (unhide HXK).1 (unhide HXK).2 (by unfold PutBy; simp [true_or])), unhide HBN⟩
                      case measure => simp [intOf]; omega
                · obtain rfl : mT = i3 := by omega
                  obtain rfl : P = true := (unhide HPT).all (by rw [(unhide HXS).2]; exact Nat.le_refl _) (unhide HFF)
                  have HBN := hide (bt (unhide HBF) (unhide HB7))
                  clear hlt3
                  go_wp2
                  go_roundw
                  case rel => exact ⟨i + 1, by omega, by go_num, unhide HBN⟩
                  case measure => simp [intOf]; omega
            · obtain rfl : nL = i := by omega
              have HBN := hide (bt (unhide HB5) (unhide HQ))
              clear hlt2
              go_wp2
              go_roundw
              case rel => exact ⟨k + 1, by omega, by go_num, unhide HBN⟩
              case measure => simp [intOf]; omega
        · obtain rfl : k1 = k := by omega
          have HS2 := hide (settle_w hbx.win)
          rw [(unhide HV).1, (unhide HV).2] at HS2
          have Hbx := hide hbx
          clear hbx hlt
          go_wp2_with fail
          refine (unhide HS2).mono ?_
          rintro e w6 ⟨u, rfl, hW6, -, hB6⟩
          clear y0 y1 y2
          obtain ⟨t1, i1, j1, t2, i2, j2, t3, i3, j3, rfl, -, -, -⟩ := hW6.vals
          have hA6 := bel_al (Below.refl w6.heap.size w6) (wbox (.slice t1 i1 j1) (.slice t2 i2 j2) (.slice t3 i3 j3))
          have hb6 := ((unhide Hbx).below hB6).below hA6
          obtain ⟨y0, y1, y2⟩ := hb6.cells
          have HSW := hide (sameW_yes (WB.new hW6).win hb6.win)
          have HB6 := hide (bt (unhide HB3) (bt (unhide HB) (bt hB6 hA6)))
          clear hW6 hB6 hA6 hb6 HS2
          go_wp2_with fail
          refine (unhide HSW).mono ?_
          rintro e w7 ⟨rfl, hB7⟩
          have HB7 := hide (bt (unhide HB6) hB7)
          clear hB7 y0 y1 y2
          go_wp2
          go_ret
          exact ⟨rfl, unhide HB7⟩
  · obtain ⟨hn1, hn2⟩ := nat_ne hE0
    have HT2 := hide (told_any w2)
    have HB2 := hide (bt (unhide HB1) hB2)
    clear hE0 hB2 HN HS1 HT
    go_wp2_with fail
    refine (unhide HT2).mono ?_
    rintro e w5 ⟨rfl, hB5⟩
    have HB5 := hide (bt (unhide HB2) hB5)
    clear hB5
    go_wp2
    go_ret
    exact ⟨rfl, unhide HB5⟩
end Go.Proofs.YtmgmganbamjnmaaDoor
