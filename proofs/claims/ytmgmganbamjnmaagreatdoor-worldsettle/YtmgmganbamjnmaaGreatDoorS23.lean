/-
  The document's CheckFiles and Together, of slices of files.
-/
import Derived.Test.YtmgmganbamjnmaaGreatDoorS18
import Derived.Test.YtmgmganbamjnmaaGreatDoorS22
import Derived.Test.YtmgmganbamjnmaaGreatDoorS11
import Derived.Test.YtmgmganbamjnmaaGreatDoorS17
namespace Go.Proofs.YtmgmganbamjnmaaGreatDoor
open Go.RowKit
set_option linter.unusedVariables false
set_option maxRecDepth 100000

theorem cfl {w : World} {v : Value} {a : List Fl} (h : LIn w v a) :
    Calls Tryz.prog 22 #[v] w fun e w' => e = .returned (.int .i64 (errM a : Nat)) ∧ Below w.heap.size w w' := by
  obtain ⟨ad, c, out, rfl, h2, h3⟩ := h
  refine (checkFiles_any ad c out w h2 _ (fls_len h3)).mono ?_
  rintro e w' ⟨rfl, ha⟩
  rw [h3]
  exact ⟨rfl, ha⟩
theorem together_l {w : World} {v u : Value} {a b : List Fl} (g : Nat) (h : LIn w v a) (k : LIn w u b) (ha : errM a = 0) (hb : errM b = 0) (hg0 : w.cell? ⟨g, 0, none⟩ = some v) (hg1 : w.cell? ⟨g, 1, none⟩ = some u) (hgl : g < w.heap.size) :
    Calls Tryz.prog 17 #[.slice (some ⟨g, 0, none⟩) 2 2] w fun e w' => ∃ x, e = .returned x ∧ LIn w' x (tog a b) ∧ Below w.heap.size w w' := by
  obtain ⟨ad, c, xs, rfl, h2, h3⟩ := h
  obtain ⟨bd, d, ys, rfl, k2, k3⟩ := k
  obtain ⟨a1, a2, a3⟩ := errM_zero.1 ha
  obtain ⟨b1, b2, b3⟩ := errM_zero.1 hb
  refine (togetherRef_any g ad bd c d xs ys w h2 k2 _ _ (fls_len h3) (fls_len k3) a1 b1 hg0 hg1 hgl).mono ?_
  rintro e w' ⟨v, out, rfl, hr, ho, hl, hn, hbel⟩
  refine ⟨v, rfl, ?_, hbel⟩
  have := hr.lin (by omega)
  rw [together_is (xs := xs) (ys := ys) (by rw [h3]; exact a3) (by rw [k3]; exact b3) _ rfl ho hl, h3, k3] at this
  exact this
end Go.Proofs.YtmgmganbamjnmaaGreatDoor

/-
  The document's CheckWorld.
-/
namespace Go.Proofs.YtmgmganbamjnmaaGreatDoor
open Go.RowKit
set_option linter.unusedVariables false
set_option linter.unusedSimpArgs false
set_option maxRecDepth 100000

theorem rsd0_iff {l : List Fl} {c : Int} : ¬ c < rsd 0 l ↔ 0 ≤ c ∧ ∀ f ∈ l, f.stamp ≤ c := by
  constructor
  · intro h
    refine ⟨by have := rsd_le l 0; omega, fun f hf => ?_⟩
    have := rsd_all l 0 f hf
    omega
  · rintro ⟨h0, h⟩
    have := rsd_lub l 0 c h0 h
    omega
theorem errNd_is {l : List Fl} {c : Int} (h : errM l = 0) : errNd l c = if c < rsd 0 l ∨ 1000000 < c then 3 else 0 := by
  unfold errNd
  rw [if_neg (by simp [h])]
  by_cases h1 : c < rsd 0 l ∨ 1000000 < c
  · rw [if_pos h1, if_pos]
    rcases h1 with h1 | h1
    · by_cases h0 : c < 0
      · exact .inl h0
      · refine .inr (.inr ?_)
        refine Classical.byContradiction fun hn => ?_
        exact absurd h1 (rsd0_iff.2 ⟨by omega, rsd_iff.1 hn⟩)
    · exact .inr (.inl h1)
  · rw [if_neg h1, if_neg]
    obtain ⟨k1, k2⟩ := rsd0_iff.1 (fun e => h1 (.inl e))
    have := rsd_iff.2 k2
    have : ¬ 1000000 < c := fun e => h1 (.inr e)
    omega
theorem cw_few (a1 a2 a3 : Option Addr) (n1 c1 n2 c2 n3 c3 : Nat) (w : World) (h : n1 < 1 ∨ 4 < n1 ∨ ¬ n2 = n1) : Calls Tryz.prog 8 #[.agg #[.slice a1 n1 c1, .slice a2 n2 c2, .slice a3 n3 c3]] w fun e w' => e = .returned (.int .i64 3) ∧ Below w.heap.size w w' := by
  have HB := hide (bel_al (Below.refl _ w) (wbox (.slice a1 n1 c1) (.slice a2 n2 c2) (.slice a3 n3 c3)))
  by_cases h1 : n1 < 1
  · have h1I : (n1 : Int) < 1 := by omega
    clear h h1
    go_enter Tryz.func8, Tryz.ntmps8
    go_wp2
    go_ret
    exact ⟨rfl, unhide HB⟩
  · by_cases h2 : 4 < n1
    · have h1I : ¬ (n1 : Int) < 1 := by omega
      have h2I : (4 : Int) < (n1 : Int) := by omega
      clear h h1 h2
      go_enter Tryz.func8, Tryz.ntmps8
      go_wp2
      go_ret
      exact ⟨rfl, unhide HB⟩
    · have h1I : ¬ (n1 : Int) < 1 := by omega
      have h2I : ¬ (4 : Int) < (n1 : Int) := by omega
      have h3I : ((n2 : Int) != (n1 : Int)) = true := by rw [bne_iff_ne]; omega
      clear h h1 h2
      go_enter Tryz.func8, Tryz.ntmps8
      go_wp2
      go_ret
      exact ⟨rfl, unhide HB⟩
set_option maxHeartbeats 4000000 in
theorem cw_wat (a1 a2 a3 : Option Addr) (c1 c2 c3 : Nat) (W : Wd) (w : World) (h : WAt w W a1 c1 a2 c2 a3 c3) (n m : Nat) (hn : W.nodes.length = n) (hc : W.clock.length = n) (hm : W.net.length = m) (h1 : 1 ≤ n) (h4 : n ≤ 4) :
    Calls Tryz.prog 8 #[.agg #[.slice a1 n c1, .slice a2 n c2, .slice a3 m c3]] w fun e w' => e = .returned (.int .i64 (errWd W : Nat)) ∧ Below w.heap.size w w' := by
  obtain ⟨E, hE⟩ : ∃ E, errWd W = E := ⟨_, rfl⟩
  rw [hE]
  unfold errWd at hE
  rw [if_neg (by omega), hm] at hE
  have h1I : ¬ (n : Int) < 1 := by omega
  have h2I : ¬ (4 : Int) < (n : Int) := by omega
  have h3I : ((n : Int) != (n : Int)) = false := by rw [bne_eq_false_iff_eq]
  by_cases h20 : 20 < m
  · rw [if_pos h20] at hE
    subst hE
    have h20I : (20 : Int) < (m : Int) := by omega
    have HB := hide (bel_al (Below.refl _ w) (wbox (.slice a1 n c1) (.slice a2 n c2) (.slice a3 m c3)))
    clear h hn hc hm h20 h1 h4
    go_enter Tryz.func8, Tryz.ntmps8
    go_wp2
    go_ret
    exact ⟨rfl, unhide HB⟩
  · rw [if_neg h20] at hE
    have h20I : ¬ (20 : Int) < (m : Int) := by omega
    have HW := hide h
    have HN := hide hn
    have HCL := hide hc
    have HM := hide hm
    have HE := hide hE
    rw [hn] at HE
    have hmx := max_run
    have HB0 : Hid (Below (w.alloc (wbox (.slice a1 n c1) (.slice a2 n c2) (.slice a3 m c3))).heap.size (w.alloc (wbox (.slice a1 n c1) (.slice a2 n c2) (.slice a3 m c3))) (w.alloc (wbox (.slice a1 n c1) (.slice a2 n c2) (.slice a3 m c3)))) := Below.refl _ _
    clear h hn hc hm hE h20
    go_enter Tryz.func8, Tryz.ntmps8
    go_wp2
    go_loopw [36] (fun j wr => ∃ k : Nat, k ≤ n ∧ j = .int .i64 (k : Int) ∧ Hid (errNs W.nodes W.clock = errNs (W.nodes.drop k) (W.clock.drop k)) ∧ Hid (Below (w.alloc (wbox (.slice a1 n c1) (.slice a2 n c2) (.slice a3 m c3))).heap.size (w.alloc (wbox (.slice a1 n c1) (.slice a2 n c2) (.slice a3 m c3))) wr)) (fun j _ => n - (intOf j).toNat)
    case atStart => exact ⟨0, Nat.zero_le _, rfl, hide rfl, HB0⟩
    case round =>
      obtain ⟨k, hk, rfl, HS, HB⟩ := hrel
      obtain ⟨q0, q1, q2⟩ := wbox_cells (unhide HB)
      by_cases hlt : k < n
      · obtain ⟨l, hl⟩ := get_some (l := W.nodes) (k := k) (by rw [unhide HN]; exact hlt)
        obtain ⟨c, hcl⟩ := get_some (l := W.clock) (k := k) (by rw [unhide HCL]; exact hlt)
        have hW := (unhide HW).below (al_bel (unhide HB))
        obtain ⟨b, o, x, ha1, hb, hx, hL⟩ := hW.ns.get hl
        have HC := hide (cfl hL)
        have hst := errNs_step hl hcl
        have HST := hide ((unhide HS).trans hst)
        have HCL2 := hide hcl
        obtain ⟨ax, cx, ys, hxs, hFs, hfl⟩ := hL
        obtain ⟨ln, hln⟩ : ∃ ln, l.length = ln := ⟨_, rfl⟩
        rw [hln] at hxs
        subst hxs
        have hyl := fls_len hfl
        rw [hln] at hyl
        have hlm := hFs.lim
        rw [hyl] at hlm
        have HFS := hide (And.intro hFs (And.intro hyl hfl))
        obtain ⟨F, hF⟩ : ∃ F, errM l = F := ⟨_, rfl⟩
        rw [hF] at HC
        have HF := hide hF
        obtain ⟨wA, rfl⟩ : ∃ x, x = wr := ⟨_, rfl⟩
        clear hW hln hF hst hl hcl hFs hyl hfl
        subst ha1
        go_wp2_with fail
        refine (unhide HC).mono ?_
        rintro e w1 ⟨rfl, hb1⟩
        have HBA := hide hb1
        have HB1 := hide ((unhide HB).trans (hb1.mono (unhide HB).size))
        clear hb1
        by_cases hF0 : F = 0
        · subst hF0
          obtain ⟨R, hR⟩ : ∃ R, rsd 0 l = R := ⟨_, rfl⟩
          have HR : Hid (rsd 0 (fls (ys.drop 0)) = R) := hide (by rw [List.drop_zero, (unhide HFS).2.2]; exact hR)
          have HR0 := hide hR
          clear q0 q1 q2 hx hR
          go_wp2
          go_loopw [7, 48] (fun v7 j wq => ∃ (i : Nat) (d : Int), i ≤ ln ∧ v7 = .int .i64 d ∧ j = .int .i64 (i : Int) ∧ Hid (rsd d (fls (ys.drop i)) = R) ∧ Hid (Below w1.heap.size w1 wq)) (fun _ j _ => ln - (intOf j).toNat)
          case atStart => exact ⟨0, 0, Nat.zero_le _, rfl, rfl, HR, Below.refl _ _⟩
          case round =>
            obtain ⟨i, d, hi, rfl, rfl, HD, HQ⟩ := hrel
            by_cases hlt2 : i < ln
            · obtain ⟨y, hy, hym⟩ := get_of (xs := ys) (k := i) (by rw [(unhide HFS).2.1]; exact hlt2)
              obtain ⟨bf, of, hA, hbf, e0, e1, e2, e3, e4⟩ := (unhide HFS).1.get ((unhide HBA).trans ((unhide HQ).mono (unhide HBA).size)) hy
              have HD2 := hide ((rsd_step hy d).symm.trans (unhide HD))
              have hys : y.sl = .slice y.a y.f.bytes.length y.c := rfl
              rw [hys] at e1
              clear hy hym hys
              subst hA
              generalize B y.f.name = t at *
              generalize y.f.bytes.length = n2 at *
              generalize y.f.stamp = s2 at *
              generalize y.f.node = d2 at *
              generalize y.f.gone = g2 at *
              have HQ1 := hide (bel_al (unhide HQ) (.cells #[.string t, .slice y.a n2 y.c, .int .i64 s2, .int .i64 d2, .bool g2] 49))
              go_wp2
              go_roundw
              case rel => exact ⟨i + 1, max d s2, by omega, rfl, by go_num, unhide HD2, unhide HQ1⟩
              case measure => simp [intOf]; omega
            · obtain rfl : ln = i := by omega
              have hr := unhide HD
              rw [List.drop_of_length_le (by rw [(unhide HFS).2.1]; exact Nat.le_refl _)] at hr
              have hr2 : d = R := hr
              subst hr2
              have HB2 := hide ((unhide HB1).trans ((unhide HQ).mono (unhide HB1).size))
              obtain ⟨q0, q1, q2⟩ := wbox_cells (unhide HB2)
              obtain ⟨b', o', ha2, hb', hx'⟩ := ((unhide HW).below (al_bel (unhide HB2))).cs.get (unhide HCL2)
              have hnd := errNd_is (c := c) (unhide HF)
              rw [unhide HR0] at hnd
              clear hr HD HR
              subst ha2
              by_cases hlo : c < d
              · have hEE := unhide HE
                rw [if_pos (.inl hlo)] at hnd
                rw [unhide HST, hnd] at hEE
                simp only [ne_eq, Nat.succ_ne_self, not_false_eq_true, if_true, reduceCtorEq, Nat.reduceEqDiff] at hEE
                subst hEE
                clear hnd hlt2
                go_wp2
                go_ret
                exact ⟨rfl, al_bel (unhide HB2)⟩
              · by_cases hhi : 1000000 < c
                · have hEE := unhide HE
                  rw [if_pos (.inr hhi)] at hnd
                  rw [unhide HST, hnd] at hEE
                  simp only [ne_eq, Nat.succ_ne_self, not_false_eq_true, if_true, reduceCtorEq, Nat.reduceEqDiff] at hEE
                  subst hEE
                  clear hnd hlt2
                  go_wp2
                  go_ret
                  exact ⟨rfl, al_bel (unhide HB2)⟩
                · have HS4 : Hid (errNs W.nodes W.clock = errNs (W.nodes.drop (k + 1)) (W.clock.drop (k + 1))) := hide (by
                    rw [if_neg (by omega)] at hnd
                    rw [unhide HST, hnd, if_neg (by simp)])
                  clear hnd hlt2
                  go_wp2
                  go_roundw
                  case rel => exact ⟨k + 1, by omega, by go_num, unhide HS4, unhide HB2⟩
                  case measure => simp [intOf]; omega
        · obtain ⟨hFb, hFc⟩ := nat_ne hF0
          have hEE := unhide HE
          have hnd : errNd l c = F := by unfold errNd; rw [unhide HF, if_pos hF0]
          rw [unhide HST, hnd, if_pos hF0, if_pos hF0] at hEE
          subst hEE
          clear hF0 hnd
          go_wp2
          go_ret
          exact ⟨rfl, al_bel (unhide HB1)⟩
      · obtain rfl : n = k := by omega
        have hS0 := unhide HS
        rw [List.drop_of_length_le (by rw [unhide HN]; exact Nat.le_refl _)] at hS0
        have hEE := unhide HE
        rw [hS0] at hEE
        simp only [errNs, ne_eq, not_true_eq_false, if_false] at hEE
        have HE2 := hide hEE
        clear hS0 hEE HE
        go_wp2
        go_loopw [76] (fun j wq => ∃ k : Nat, k ≤ m ∧ j = .int .i64 (k : Int) ∧ Hid (errMs n (W.net.drop k) = E) ∧ Hid (Below (w.alloc (wbox (.slice a1 n c1) (.slice a2 n c2) (.slice a3 m c3))).heap.size (w.alloc (wbox (.slice a1 n c1) (.slice a2 n c2) (.slice a3 m c3))) wq)) (fun j _ => m - (intOf j).toNat)
        case atStart => exact ⟨0, Nat.zero_le _, rfl, hide (by rw [List.drop_zero]; exact unhide HE2), HB⟩
        case round =>
          obtain ⟨k, hk, rfl, HS, HB⟩ := hrel
          clear q0 q1 q2
          obtain ⟨q0, q1, q2⟩ := wbox_cells (unhide HB)
          by_cases hlt : k < m
          · obtain ⟨mm, hl⟩ := get_some (l := W.net) (k := k) (by rw [unhide HM]; exact hlt)
            have hW := (unhide HW).below (al_bel (unhide HB))
            obtain ⟨b, o, x, ha1, hb, hy0, hy1, hL⟩ := hW.ms.get hl
            obtain ⟨d, l⟩ := mm
            simp only at hy0 hL
            have hst := errMs_step (n := n) hl
            have HST := hide (hst.symm.trans (unhide HS))
            simp only at HST
            obtain ⟨ax, cx, hxs⟩ := hL.shape
            obtain ⟨ln, hln⟩ : ∃ ln, l.length = ln := ⟨_, rfl⟩
            rw [hln] at hxs
            subst hxs
            have hbm : Below wr.heap.size wr (wr.alloc (.cells #[.int .i64 d, .slice ax ln cx] 54)) := bel_al (Below.refl _ _) _
            have HC := hide (cfl (hL.below hbm))
            have hxm := heap_alloc_new wr (.cells #[.int .i64 d, .slice ax ln cx] 54)
            have HXM := hide hxm
            have z0 := heap_row (i := 0) hxm
            have z1 := heap_row (i := 1) hxm
            obtain ⟨F, hF⟩ : ∃ F, errM l = F := ⟨_, rfl⟩
            rw [hF] at HC HST
            have HBm := hide ((unhide HB).trans (hbm.mono (unhide HB).size))
            clear hW hL hln hst hl hF hbm hxm HS
            subst ha1
            go_wp2_with fail
            refine (unhide HC).mono ?_
            rintro e w1 ⟨rfl, hb1⟩
            have hxm := (hb1.block wr.heap.size (by rw [World.size_alloc]; omega)).trans (unhide HXM)
            clear z0 z1
            have z0 := heap_row (i := 0) hxm
            have HB1 := hide ((unhide HBm).trans (hb1.mono (unhide HBm).size))
            clear hb1 hxm
            by_cases hF0 : F = 0
            · subst hF0
              have hst := unhide HST
              rw [if_neg (by simp)] at hst
              by_cases hp : isP d n = true
              · obtain ⟨p1, p2⟩ := isP_true.1 hp
                rw [if_neg (by simp [hp])] at hst
                have HS4 := hide hst
                have p1n : ¬ d < 0 := by omega
                have p2n : ¬ (n : Int) ≤ d := by omega
                clear hst hp p1 p2 HST HC
                go_wp2
                go_roundw
                case rel => exact ⟨k + 1, by omega, by go_num, unhide HS4, unhide HB1⟩
                case measure => simp [intOf]; omega
              · have hpf : isP d n = false := by simpa using hp
                rw [if_pos hpf] at hst
                subst hst
                have hq := isP_false.1 hpf
                clear hp hpf HST HC
                by_cases hd0 : d < 0
                · clear hq
                  go_wp2
                  go_ret
                  exact ⟨rfl, al_bel (unhide HB1)⟩
                · have hd1 : (n : Int) ≤ d := by omega
                  clear hq
                  go_wp2
                  go_ret
                  exact ⟨rfl, al_bel (unhide HB1)⟩
            · obtain ⟨hFb, hFc⟩ := nat_ne hF0
              have hEE := unhide HST
              rw [if_pos hF0] at hEE
              subst hEE
              clear hF0 HST HC
              go_wp2
              go_ret
              exact ⟨rfl, al_bel (unhide HB1)⟩
          · obtain rfl : m = k := by omega
            have hS0 := unhide HS
            rw [List.drop_of_length_le (by rw [unhide HM]; exact Nat.le_refl _)] at hS0
            have h0 : 0 = E := hS0
            subst h0
            clear hS0 hlt
            go_wp2
            go_ret
            exact ⟨rfl, al_bel (unhide HB)⟩
theorem cw_w {w : World} {v : Value} {W : Wd} (h : WIn w v W) : Calls Tryz.prog 8 #[v] w fun e w' => e = .returned (.int .i64 (errWd W : Nat)) ∧ Below w.heap.size w w' := by
  obtain ⟨a1, c1, a2, c2, a3, c3, rfl, h1⟩ := h
  by_cases hf : W.nodes.length < 1 ∨ 4 < W.nodes.length ∨ ¬ W.clock.length = W.nodes.length
  · have e : errWd W = 3 := by unfold errWd; rw [if_pos hf]
    rw [e]
    exact cw_few _ _ _ _ _ _ _ _ _ _ hf
  · have hc : W.clock.length = W.nodes.length := by omega
    have := cw_wat a1 a2 a3 c1 c2 c3 W w h1 _ _ rfl hc rfl (by omega) (by omega)
    rw [hc]
    exact this
end Go.Proofs.YtmgmganbamjnmaaGreatDoor
