/-
  Package world: what any happening does.
-/
import Derived.Test.YtmgmganbamjnmaaDoorQ29
namespace Go.Proofs.YtmgmganbamjnmaaDoor
open Go.RowKit
set_option linter.unusedVariables false
set_option linter.unusedSimpArgs false
set_option maxRecDepth 100000

theorem ChA.err {w w' : World} {e : Ending} {E : Nat} {c c' : Cg} (h : ChA w e w' E c) (hE : E ≠ 0) : ChA w e w' E c' := by
  obtain ⟨h1, s, h2, h3⟩ := h
  exact ⟨h1, s, h2, fun e => absurd e hE⟩
theorem nat_of {i : Int} {n : Nat} (h : isP i n = true) : ∃ k : Nat, i = (k : Int) ∧ k < n := by
  obtain ⟨h1, h2⟩ := isP_true.1 h
  exact ⟨i.toNat, by omega, by omega⟩
theorem file_ch {w : World} {v : Value} {W : Wd} {x : Hp} {a : Option Addr} {c : Nat} (h : WIn w v W) (hok : WdOk W) (hx : HpAt w x a c) (hk : x.kind = 1 ∨ x.kind = 2) : Calls Tryd.prog 39 #[v, hpV x a c] w fun e w' => ChA w e w' (fileE W x) (fileC W x) := by
  obtain ⟨a1, c1, a2, c2, a3, c3, rfl, h1⟩ := h
  obtain ⟨kd, nd, ds, nm, bs⟩ := x
  unfold hpV
  simp only at hk ⊢
  cases hp : isP nd W.nodes.length with
  | false =>
    have e : fileE W ⟨kd, nd, ds, nm, bs⟩ = 5 := by unfold fileE; rw [if_pos hp]
    rw [e]
    refine (file_who _ _ _ a1 _ c1 kd nd ds (B nm) a bs.length c w rfl ⟨_, _, _, rfl⟩ ⟨_, _, _, rfl⟩ hp).mono ?_
    intro e w' h
    exact h.err (by decide)
  | true =>
    obtain ⟨k, rfl, hkn⟩ := nat_of hp
    obtain ⟨l, ck, hl, hc, hn⟩ := hok.node hkn
    have := file_main a1 a2 a3 c1 c2 c3 W w h1 _ _ k rfl hok.cl rfl hkn (by have := hok.hi; omega) kd ds nm bs a c _ rfl hx hk l ck hl hc hn.lo hn.hi _ rfl
    rw [hok.cl]
    exact this
theorem send_ch {w : World} {v : Value} {W : Wd} {x : Hp} {a : Option Addr} {c : Nat} (h : WIn w v W) (hok : WdOk W) : Calls Tryd.prog 40 #[v, hpV x a c] w fun e w' => ChA w e w' (sendE W x) (sendC W x) := by
  obtain ⟨a1, c1, a2, c2, a3, c3, rfl, h1⟩ := h
  obtain ⟨kd, nd, ds, nm, bs⟩ := x
  unfold hpV
  simp only
  by_cases hb : isP nd W.nodes.length = false ∨ isP ds W.nodes.length = false
  · have e : sendE W ⟨kd, nd, ds, nm, bs⟩ = 5 := by unfold sendE; rw [if_pos hb]
    rw [e]
    refine (send_who a1 a2 a3 a _ c1 _ c2 _ c3 _ c kd nd ds (B nm) w hb).mono ?_
    intro e w' h
    exact h.err (by decide)
  · have hp : isP nd W.nodes.length = true := by cases hp : isP nd W.nodes.length with | true => rfl | false => exact absurd (.inl hp) hb
    have hq : isP ds W.nodes.length = true := by cases hq : isP ds W.nodes.length with | true => rfl | false => exact absurd (.inr hq) hb
    obtain ⟨k, rfl, hkn⟩ := nat_of hp
    obtain ⟨l, ck, hl, hc, hn⟩ := hok.node hkn
    have e : sendE W ⟨kd, k, ds, nm, bs⟩ = passE W := by unfold sendE; rw [if_neg hb]
    have e2 : sendC W ⟨kd, k, ds, nm, bs⟩ = .pass ⟨ds, l⟩ := by simp [sendC, List.getD, hl]
    rw [e, e2]
    exact send_main a1 a2 a3 a _ c1 _ c2 _ c3 _ c kd ds k (B nm) W w h1 rfl hkn hq l hl _ rfl
theorem net_ch {w : World} {v : Value} {W : Wd} {x : Hp} {a : Option Addr} {c : Nat} (h : WIn w v W) (hok : WdOk W) (hk : x.kind = 4 ∨ x.kind = 5 ∨ x.kind = 6) : Calls Tryd.prog 41 #[v, hpV x a c] w fun e w' => ChA w e w' (netE W x) (netC W x) := by
  obtain ⟨a1, c1, a2, c2, a3, c3, rfl, h1⟩ := h
  obtain ⟨kd, nd, ds, nm, bs⟩ := x
  unfold hpV
  simp only at hk ⊢
  cases hp : isP ds W.net.length with
  | false =>
    have e : netE W ⟨kd, nd, ds, nm, bs⟩ = 5 := by unfold netE; rw [if_pos hp]
    rw [e]
    refine (net_who a1 a2 a3 a _ c1 _ c2 _ c3 _ c kd nd ds (B nm) w hp).mono ?_
    intro e w' h
    exact h.err (by decide)
  | true =>
    obtain ⟨p, rfl, hpm⟩ := nat_of hp
    obtain ⟨mm, hm⟩ := get_some (l := W.net) hpm
    have hmo := hok.ms mm (List.mem_of_getElem? hm)
    obtain ⟨d, fl⟩ := mm
    have em : msgAt W (p : Int) = ⟨d, fl⟩ := by simp [msgAt, List.getD, hm]
    obtain ⟨k, hdk, hkn⟩ := nat_of (isP_true.2 ⟨hmo.lo, hmo.hi⟩)
    simp only at hdk
    obtain ⟨l, ck, hl, hc, hn⟩ := hok.node hkn
    rcases hk with rfl | rfl | rfl
    · have e : netE W ⟨4, nd, p, nm, bs⟩ = bothE l fl := by
        unfold netE
        rw [if_neg (by rw [hp]; decide), if_neg (by simp), if_neg (by simp), em]
        simp [hdk, List.getD, hl]
      have e2 : netC W ⟨4, nd, p, nm, bs⟩ = .both k (bothL l fl) p := by
        unfold netC
        rw [if_neg (by simp), if_neg (by simp), em]
        simp [hdk, List.getD, hl]
      rw [e, e2]
      exact net_arrive a1 a2 a3 a _ c1 _ c2 _ c3 _ c p k nd d hdk (B nm) W w h1 hpm hkn fl l hm hl _ rfl
    · have e : netE W ⟨5, nd, p, nm, bs⟩ = 0 := by
        unfold netE
        rw [if_neg (by rw [hp]; decide), if_pos rfl]
      have e2 : netC W ⟨5, nd, p, nm, bs⟩ = .drop p := by
        unfold netC
        rw [if_pos rfl]
        simp
      rw [e, e2]
      exact net_lose a1 a2 a3 a _ c1 _ c2 _ c3 _ c p nd d (B nm) W w h1 hpm fl hm
    · have e : netE W ⟨6, nd, p, nm, bs⟩ = passE W := by
        unfold netE
        rw [if_neg (by rw [hp]; decide), if_neg (by simp), if_pos rfl]
      have e2 : netC W ⟨6, nd, p, nm, bs⟩ = .pass ⟨d, fl⟩ := by
        unfold netC
        rw [if_neg (by simp), if_pos rfl, em]
      rw [e, e2]
      exact net_double a1 a2 a3 a _ c1 _ c2 _ c3 _ c p nd d (B nm) W w h1 hpm fl hm _ rfl
set_option maxHeartbeats 2000000 in
theorem by_call (f : Nat) (a1 a2 a3 ab : Option Addr) (n1 c1 n2 c2 n3 c3 nb cb : Nat) (kd nd ds : Int) (t : ByteArray) (w : World) (E : Nat) (cc : Cg)
    (hk : (kd = 1 ∨ kd = 2) ∧ f = 39 ∨ kd = 3 ∧ f = 40 ∨ (kd = 4 ∨ kd = 5 ∨ kd = 6) ∧ f = 41)
    (HC : ∀ W, Below w.heap.size w W → Calls Tryd.prog f #[.agg #[.slice a1 n1 c1, .slice a2 n2 c2, .slice a3 n3 c3], .agg #[.int .i64 kd, .int .i64 nd, .int .i64 ds, .string t, .slice ab nb cb]] W fun e w' => ChA W e w' E cc) :
    Calls Tryd.prog 29 #[.agg #[.slice a1 n1 c1, .slice a2 n2 c2, .slice a3 n3 c3], .agg #[.int .i64 kd, .int .i64 nd, .int .i64 ds, .string t, .slice ab nb cb]] w fun e w' => ChA w e w' E cc := by
  rcases hk with ⟨rfl | rfl, rfl⟩ | ⟨rfl, rfl⟩ | ⟨rfl | rfl | rfl, rfl⟩
  · skip
    obtain ⟨w1, hw1, hz1, hb1, hx0, hx1⟩ := wh_boxes w (.slice a1 n1 c1) (.slice a2 n2 c2) (.slice a3 n3 c3) 1 nd ds t (.slice ab nb cb)
    have HB := hide hb1
    have HG := hide (HC w1 hb1)
    rw [← hw1] at HB HG
    clear hw1 hz1 hb1 hx0 hx1 HC
    go_enter Tryd.func29, Tryd.ntmps29
    go_wp2_with fail
    refine (unhide HG).mono ?_
    rintro e w4 ⟨hB4, s4, rfl, hs4⟩
    have HF : Hid (ChA w (.returned (.tuple #[s4, .int .i64 (E : Int)])) w4 E cc) := hide ⟨(unhide HB).trans (hB4.mono (unhide HB).size), s4, rfl, hs4⟩
    clear hB4 hs4
    go_wp2
    go_ret2
    exact unhide HF
  · skip
    obtain ⟨w1, hw1, hz1, hb1, hx0, hx1⟩ := wh_boxes w (.slice a1 n1 c1) (.slice a2 n2 c2) (.slice a3 n3 c3) 2 nd ds t (.slice ab nb cb)
    have HB := hide hb1
    have HG := hide (HC w1 hb1)
    rw [← hw1] at HB HG
    clear hw1 hz1 hb1 hx0 hx1 HC
    go_enter Tryd.func29, Tryd.ntmps29
    go_wp2_with fail
    refine (unhide HG).mono ?_
    rintro e w4 ⟨hB4, s4, rfl, hs4⟩
    have HF : Hid (ChA w (.returned (.tuple #[s4, .int .i64 (E : Int)])) w4 E cc) := hide ⟨(unhide HB).trans (hB4.mono (unhide HB).size), s4, rfl, hs4⟩
    clear hB4 hs4
    go_wp2
    go_ret2
    exact unhide HF
  · skip
    obtain ⟨w1, hw1, hz1, hb1, hx0, hx1⟩ := wh_boxes w (.slice a1 n1 c1) (.slice a2 n2 c2) (.slice a3 n3 c3) 3 nd ds t (.slice ab nb cb)
    have HB := hide hb1
    have HG := hide (HC w1 hb1)
    rw [← hw1] at HB HG
    clear hw1 hz1 hb1 hx0 hx1 HC
    go_enter Tryd.func29, Tryd.ntmps29
    go_wp2_with fail
    refine (unhide HG).mono ?_
    rintro e w4 ⟨hB4, s4, rfl, hs4⟩
    have HF : Hid (ChA w (.returned (.tuple #[s4, .int .i64 (E : Int)])) w4 E cc) := hide ⟨(unhide HB).trans (hB4.mono (unhide HB).size), s4, rfl, hs4⟩
    clear hB4 hs4
    go_wp2
    go_ret2
    exact unhide HF
  · skip
    obtain ⟨w1, hw1, hz1, hb1, hx0, hx1⟩ := wh_boxes w (.slice a1 n1 c1) (.slice a2 n2 c2) (.slice a3 n3 c3) 4 nd ds t (.slice ab nb cb)
    have HB := hide hb1
    have HG := hide (HC w1 hb1)
    rw [← hw1] at HB HG
    clear hw1 hz1 hb1 hx0 hx1 HC
    go_enter Tryd.func29, Tryd.ntmps29
    go_wp2_with fail
    refine (unhide HG).mono ?_
    rintro e w4 ⟨hB4, s4, rfl, hs4⟩
    have HF : Hid (ChA w (.returned (.tuple #[s4, .int .i64 (E : Int)])) w4 E cc) := hide ⟨(unhide HB).trans (hB4.mono (unhide HB).size), s4, rfl, hs4⟩
    clear hB4 hs4
    go_wp2
    go_ret2
    exact unhide HF
  · skip
    obtain ⟨w1, hw1, hz1, hb1, hx0, hx1⟩ := wh_boxes w (.slice a1 n1 c1) (.slice a2 n2 c2) (.slice a3 n3 c3) 5 nd ds t (.slice ab nb cb)
    have HB := hide hb1
    have HG := hide (HC w1 hb1)
    rw [← hw1] at HB HG
    clear hw1 hz1 hb1 hx0 hx1 HC
    go_enter Tryd.func29, Tryd.ntmps29
    go_wp2_with fail
    refine (unhide HG).mono ?_
    rintro e w4 ⟨hB4, s4, rfl, hs4⟩
    have HF : Hid (ChA w (.returned (.tuple #[s4, .int .i64 (E : Int)])) w4 E cc) := hide ⟨(unhide HB).trans (hB4.mono (unhide HB).size), s4, rfl, hs4⟩
    clear hB4 hs4
    go_wp2
    go_ret2
    exact unhide HF
  · skip
    obtain ⟨w1, hw1, hz1, hb1, hx0, hx1⟩ := wh_boxes w (.slice a1 n1 c1) (.slice a2 n2 c2) (.slice a3 n3 c3) 6 nd ds t (.slice ab nb cb)
    have HB := hide hb1
    have HG := hide (HC w1 hb1)
    rw [← hw1] at HB HG
    clear hw1 hz1 hb1 hx0 hx1 HC
    go_enter Tryd.func29, Tryd.ntmps29
    go_wp2_with fail
    refine (unhide HG).mono ?_
    rintro e w4 ⟨hB4, s4, rfl, hs4⟩
    have HF : Hid (ChA w (.returned (.tuple #[s4, .int .i64 (E : Int)])) w4 E cc) := hide ⟨(unhide HB).trans (hB4.mono (unhide HB).size), s4, rfl, hs4⟩
    clear hB4 hs4
    go_wp2
    go_ret2
    exact unhide HF
theorem by_none (a1 a2 a3 ab : Option Addr) (n1 c1 n2 c2 n3 c3 nb cb : Nat) (kd nd ds : Int) (t : ByteArray) (w : World) (cc : Cg) (hk : ¬ (kd = 1 ∨ kd = 2) ∧ ¬ kd = 3 ∧ ¬ (kd = 4 ∨ kd = 5 ∨ kd = 6)) :
    Calls Tryd.prog 29 #[.agg #[.slice a1 n1 c1, .slice a2 n2 c2, .slice a3 n3 c3], .agg #[.int .i64 kd, .int .i64 nd, .int .i64 ds, .string t, .slice ab nb cb]] w fun e w' => ChA w e w' 3 cc := by
  obtain ⟨w1, hw1, hz1, hb1, hx0, hx1⟩ := wh_boxes w (.slice a1 n1 c1) (.slice a2 n2 c2) (.slice a3 n3 c3) kd nd ds t (.slice ab nb cb)
  have HB := hide hb1
  rw [← hw1] at HB
  have k1 : (kd == 1) = false := by rw [beq_eq_false_iff_ne]; omega
  have k2 : (kd == 2) = false := by rw [beq_eq_false_iff_ne]; omega
  have k3 : (kd == 3) = false := by rw [beq_eq_false_iff_ne]; omega
  have k4 : (kd == 4) = false := by rw [beq_eq_false_iff_ne]; omega
  have k5 : (kd == 5) = false := by rw [beq_eq_false_iff_ne]; omega
  have k6 : (kd == 6) = false := by rw [beq_eq_false_iff_ne]; omega
  clear hw1 hz1 hb1 hx0 hx1 hk
  go_enter Tryd.func29, Tryd.ntmps29
  go_wp2
  go_ret2
  exact ⟨unhide HB, _, rfl, fun e => by cases e⟩
theorem changeBy_any {w : World} {v : Value} {W : Wd} {x : Hp} {a : Option Addr} {c : Nat} (h : WIn w v W) (hok : WdOk W) (hx : HpAt w x a c) : Calls Tryd.prog 29 #[v, hpV x a c] w fun e w' => ChA w e w' (cgE W x) (cgC W x) := by
  have hk := h
  obtain ⟨a1, c1, a2, c2, a3, c3, rfl, h1⟩ := h
  by_cases k1 : x.kind = 1 ∨ x.kind = 2
  · have e1 : cgE W x = fileE W x := by unfold cgE; rw [if_pos k1]
    have e2 : cgC W x = fileC W x := by unfold cgC; rw [if_pos k1]
    rw [e1, e2]
    exact by_call _ a1 a2 a3 a _ c1 _ c2 _ c3 _ c _ _ _ _ w _ _ (.inl ⟨k1, rfl⟩) (fun W' hW => file_ch (hk.below hW) hok (hx.below hW) k1)
  · by_cases k2 : x.kind = 3
    · have e1 : cgE W x = sendE W x := by unfold cgE; rw [if_neg k1, if_pos k2]
      have e2 : cgC W x = sendC W x := by unfold cgC; rw [if_neg k1, if_pos k2]
      rw [e1, e2]
      exact by_call _ a1 a2 a3 a _ c1 _ c2 _ c3 _ c _ _ _ _ w _ _ (.inr (.inl ⟨k2, rfl⟩)) (fun W' hW => send_ch (hk.below hW) hok)
    · by_cases k3 : x.kind = 4 ∨ x.kind = 5 ∨ x.kind = 6
      · have e1 : cgE W x = netE W x := by unfold cgE; rw [if_neg k1, if_neg k2, if_pos k3]
        have e2 : cgC W x = netC W x := by unfold cgC; rw [if_neg k1, if_neg k2]
        rw [e1, e2]
        exact by_call _ a1 a2 a3 a _ c1 _ c2 _ c3 _ c _ _ _ _ w _ _ (.inr (.inr ⟨k3, rfl⟩)) (fun W' hW => net_ch (hk.below hW) hok k3)
      · have e1 : cgE W x = 3 := by unfold cgE; rw [if_neg k1, if_neg k2, if_neg k3]
        rw [e1]
        exact by_none a1 a2 a3 a _ c1 _ c2 _ c3 _ c _ _ _ _ w _ ⟨k1, k2, k3⟩
end Go.Proofs.YtmgmganbamjnmaaDoor
