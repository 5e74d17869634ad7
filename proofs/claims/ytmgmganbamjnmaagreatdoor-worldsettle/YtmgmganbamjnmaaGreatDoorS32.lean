/-
  Package world: what any happening does.
-/
import Derived.Test.YtmgmganbamjnmaaGreatDoorS31
namespace Go.Proofs.YtmgmganbamjnmaaGreatDoor
open Go.RowKit
set_option linter.unusedVariables false
set_option linter.unusedSimpArgs false
set_option maxRecDepth 100000

theorem ChA.err {w w' : World} {e : Ending} {E : Nat} {c c' : Cg} (h : ChA w e w' E c) (hE : E ≠ 0) : ChA w e w' E c' := by
  obtain ⟨h1, s, h2, h3⟩ := h
  exact ⟨h1, s, h2, fun e => absurd e hE⟩
theorem nat_of {i : Int} {n : Nat} (h : isP i n = true) : ∃ k : Nat, i = (k : Int) ∧ k < n := by
  obtain ⟨h1, h2⟩ := isP_true.1 h
  exact ⟨i.toNat, by omega, by omega⟩
theorem file_ch {w : World} {v : Value} {W : Wd} {x : Hp} {a : Option Addr} {c : Nat} (h : WIn w v W) (hok : WdOk W) (hx : HpAt w x a c) (hk : x.kind = 1 ∨ x.kind = 2) : Calls Tryz.prog 42 #[v, hpV x a c] w fun e w' => ChA w e w' (fileE W x) (fileC W x) := by
  obtain ⟨a1, c1, a2, c2, a3, c3, rfl, h1⟩ := h
  obtain ⟨kd, nd, ds, nm, bs⟩ := x
  unfold hpV
  simp only at hk ⊢
  cases hp : isP nd W.nodes.length with
  | false =>
    have e : fileE W ⟨kd, nd, ds, nm, bs⟩ = 5 := by unfold fileE; rw [if_pos hp]
    rw [e]
    refine (file_who _ _ _ a1 _ c1 kd nd ds (B nm) a bs.length c w rfl ⟨_, _, _, rfl⟩ ⟨_, _, _, rfl⟩ hp).mono ?_
    intro e w' h
    exact h.err (by decide)
  | true =>
    obtain ⟨k, rfl, hkn⟩ := nat_of hp
    obtain ⟨l, ck, hl, hc, hn⟩ := hok.node hkn
    have := file_main a1 a2 a3 c1 c2 c3 W w h1 _ _ k rfl hok.cl rfl hkn (by have := hok.hi; omega) kd ds nm bs a c _ rfl hx hk l ck hl hc hn.lo hn.hi _ rfl
    rw [hok.cl]
    exact this
theorem send_ch {w : World} {v : Value} {W : Wd} {x : Hp} {a : Option Addr} {c : Nat} (h : WIn w v W) (hok : WdOk W) : Calls Tryz.prog 43 #[v, hpV x a c] w fun e w' => ChA w e w' (sendE W x) (sendC W x) := by
  obtain ⟨a1, c1, a2, c2, a3, c3, rfl, h1⟩ := h
  obtain ⟨kd, nd, ds, nm, bs⟩ := x
  unfold hpV
  simp only
  by_cases hb : isP nd W.nodes.length = false ∨ isP ds W.nodes.length = false
  · have e : sendE W ⟨kd, nd, ds, nm, bs⟩ = 5 := by unfold sendE; rw [if_pos hb]
    rw [e]
    refine (send_who a1 a2 a3 a _ c1 _ c2 _ c3 _ c kd nd ds (B nm) w hb).mono ?_
    intro e w' h
    exact h.err (by decide)
  · have hp : isP nd W.nodes.length = true := by cases hp : isP nd W.nodes.length with | true => rfl | false => exact absurd (.inl hp) hb
    have hq : isP ds W.nodes.length = true := by cases hq : isP ds W.nodes.length with | true => rfl | false => exact absurd (.inr hq) hb
    obtain ⟨k, rfl, hkn⟩ := nat_of hp
    obtain ⟨l, ck, hl, hc, hn⟩ := hok.node hkn
    have e : sendE W ⟨kd, k, ds, nm, bs⟩ = passE W := by unfold sendE; rw [if_neg hb]
    have e2 : sendC W ⟨kd, k, ds, nm, bs⟩ = .pass ⟨ds, l⟩ := by simp [sendC, List.getD, hl]
    rw [e, e2]
    exact send_main a1 a2 a3 a _ c1 _ c2 _ c3 _ c kd ds k (B nm) W w h1 rfl hkn hq l hl _ rfl
theorem net_ch {w : World} {v : Value} {W : Wd} {x : Hp} {a : Option Addr} {c : Nat} (h : WIn w v W) (hok : WdOk W) (hk : x.kind = 4 ∨ x.kind = 5 ∨ x.kind = 6) : Calls Tryz.prog 44 #[v, hpV x a c] w fun e w' => ChA w e w' (netE W x) (netC W x) := by
  obtain ⟨a1, c1, a2, c2, a3, c3, rfl, h1⟩ := h
  obtain ⟨kd, nd, ds, nm, bs⟩ := x
  unfold hpV
  simp only at hk ⊢
  cases hp : isP ds W.net.length with
  | false =>
    have e : netE W ⟨kd, nd, ds, nm, bs⟩ = 5 := by unfold netE; rw [if_pos hp]
    rw [e]
    refine (net_who a1 a2 a3 a _ c1 _ c2 _ c3 _ c kd nd ds (B nm) w hp).mono ?_
    intro e w' h
    exact h.err (by decide)
  | true =>
    obtain ⟨p, rfl, hpm⟩ := nat_of hp
    obtain ⟨mm, hm⟩ := get_some (l := W.net) hpm
    have hmo := hok.ms mm (List.mem_of_getElem? hm)
    obtain ⟨d, fl⟩ := mm
    have em : msgAt W (p : Int) = ⟨d, fl⟩ := by simp [msgAt, List.getD, hm]
    obtain ⟨k, hdk, hkn⟩ := nat_of (isP_true.2 ⟨hmo.lo, hmo.hi⟩)
    simp only at hdk
    obtain ⟨l, ck, hl, hc, hn⟩ := hok.node hkn
    rcases hk with rfl | rfl | rfl
    · have e : netE W ⟨4, nd, p, nm, bs⟩ = bothE l fl := by
        unfold netE
        rw [if_neg (by rw [hp]; decide), if_neg (by simp), if_neg (by simp), em]
        simp [hdk, List.getD, hl]
      have e2 : netC W ⟨4, nd, p, nm, bs⟩ = .both k (bothL l fl) p := by
        unfold netC
        rw [if_neg (by simp), if_neg (by simp), em]
        simp [hdk, List.getD, hl]
      rw [e, e2]
      exact net_arrive a1 a2 a3 a _ c1 _ c2 _ c3 _ c p k nd d hdk (B nm) W w h1 hpm hkn fl l hm hl _ rfl
    · have e : netE W ⟨5, nd, p, nm, bs⟩ = 0 := by
        unfold netE
        rw [if_neg (by rw [hp]; decide), if_pos rfl]
      have e2 : netC W ⟨5, nd, p, nm, bs⟩ = .drop p := by
        unfold netC
        rw [if_pos rfl]
        simp
      rw [e, e2]
      exact net_lose a1 a2 a3 a _ c1 _ c2 _ c3 _ c p nd d (B nm) W w h1 hpm fl hm
    · have e : netE W ⟨6, nd, p, nm, bs⟩ = passE W := by
        unfold netE
        rw [if_neg (by rw [hp]; decide), if_neg (by simp), if_pos rfl]
      have e2 : netC W ⟨6, nd, p, nm, bs⟩ = .pass ⟨d, fl⟩ := by
        unfold netC
        rw [if_neg (by simp), if_pos rfl, em]
      rw [e, e2]
      exact net_double a1 a2 a3 a _ c1 _ c2 _ c3 _ c p nd d (B nm) W w h1 hpm fl hm _ rfl
set_option maxHeartbeats 2000000 in
theorem by_call (f : Nat) (a1 a2 a3 ab : Option Addr) (n1 c1 n2 c2 n3 c3 nb cb : Nat) (kd nd ds : Int) (t : ByteArray) (w : World) (E : Nat) (cc : Cg)
    (hk : (kd = 1 ∨ kd = 2) ∧ f = 42 ∨ kd = 3 ∧ f = 43 ∨ (kd = 4 ∨ kd = 5 ∨ kd = 6) ∧ f = 44)
    (HC : ∀ W, Below w.heap.size w W → Calls Tryz.prog f #[.agg #[.slice a1 n1 c1, .slice a2 n2 c2, .slice a3 n3 c3], .agg #[.int .i64 kd, .int .i64 nd, .int .i64 ds, .string t, .slice ab nb cb]] W fun e w' => ChA W e w' E cc) :
    Calls Tryz.prog 20 #[.agg #[.slice a1 n1 c1, .slice a2 n2 c2, .slice a3 n3 c3], .agg #[.int .i64 kd, .int .i64 nd, .int .i64 ds, .string t, .slice ab nb cb]] w fun e w' => ChA w e w' E cc := by
  rcases hk with ⟨rfl | rfl, rfl⟩ | ⟨rfl, rfl⟩ | ⟨rfl | rfl | rfl, rfl⟩
  · skip
    obtain ⟨w1, hw1, hz1, hb1, hx0, hx1⟩ := wh_boxes w (.slice a1 n1 c1) (.slice a2 n2 c2) (.slice a3 n3 c3) 1 nd ds t (.slice ab nb cb)
    have HB := hide hb1
    have HG := hide (HC w1 hb1)
    rw [← hw1] at HB HG
    clear hw1 hz1 hb1 hx0 hx1 HC
    go_enter Tryz.func20, Tryz.ntmps20
    go_wp2_with fail
    refine (unhide HG).mono ?_
    rintro e w4 ⟨hB4, s4, rfl, hs4⟩
    have HF : Hid (ChA w (.returned (.tuple #[s4, .int .i64 (E : Int)])) w4 E cc) := hide ⟨(unhide HB).trans (hB4.mono (unhide HB).size), s4, rfl, hs4⟩
    clear hB4 hs4
    go_wp2
    go_ret2
    exact unhide HF
  · skip
    obtain ⟨w1, hw1, hz1, hb1, hx0, hx1⟩ := wh_boxes w (.slice a1 n1 c1) (.slice a2 n2 c2) (.slice a3 n3 c3) 2 nd ds t (.slice ab nb cb)
    have HB := hide hb1
    have HG := hide (HC w1 hb1)
    rw [← hw1] at HB HG
    clear hw1 hz1 hb1 hx0 hx1 HC
    go_enter Tryz.func20, Tryz.ntmps20
    go_wp2_with fail
    refine (unhide HG).mono ?_
    rintro e w4 ⟨hB4, s4, rfl, hs4⟩
    have HF : Hid (ChA w (.returned (.tuple #[s4, .int .i64 (E : Int)])) w4 E cc) := hide ⟨(unhide HB).trans (hB4.mono (unhide HB).size), s4, rfl, hs4⟩
    clear hB4 hs4
    go_wp2
    go_ret2
    exact unhide HF
  · skip
    obtain ⟨w1, hw1, hz1, hb1, hx0, hx1⟩ := wh_boxes w (.slice a1 n1 c1) (.slice a2 n2 c2) (.slice a3 n3 c3) 3 nd ds t (.slice ab nb cb)
    have HB := hide hb1
    have HG := hide (HC w1 hb1)
    rw [← hw1] at HB HG
    clear hw1 hz1 hb1 hx0 hx1 HC
    go_enter Tryz.func20, Tryz.ntmps20
    go_wp2_with fail
    refine (unhide HG).mono ?_
    rintro e w4 ⟨hB4, s4, rfl, hs4⟩
    have HF : Hid (ChA w (.returned (.tuple #[s4, .int .i64 (E : Int)])) w4 E cc) := hide ⟨(unhide HB).trans (hB4.mono (unhide HB).size), s4, rfl, hs4⟩
    clear hB4 hs4
    go_wp2
    go_ret2
    exact unhide HF
  · skip
    obtain ⟨w1, hw1, hz1, hb1, hx0, hx1⟩ := wh_boxes w (.slice a1 n1 c1) (.slice a2 n2 c2) (.slice a3 n3 c3) 4 nd ds t (.slice ab nb cb)
    have HB := hide hb1
    have HG := hide (HC w1 hb1)
    rw [← hw1] at HB HG
    clear hw1 hz1 hb1 hx0 hx1 HC
    go_enter Tryz.func20, Tryz.ntmps20
    go_wp2_with fail
    refine (unhide HG).mono ?_
    rintro e w4 ⟨hB4, s4, rfl, hs4⟩
    have HF : Hid (ChA w (.returned (.tuple #[s4, .int .i64 (E : Int)])) w4 E cc) := hide ⟨(unhide HB).trans (hB4.mono (unhide HB).size), s4, rfl, hs4⟩
    clear hB4 hs4
    go_wp2
    go_ret2
    exact unhide HF
  · skip
    obtain ⟨w1, hw1, hz1, hb1, hx0, hx1⟩ := wh_boxes w (.slice a1 n1 c1) (.slice a2 n2 c2) (.slice a3 n3 c3) 5 nd ds t (.slice ab nb cb)
    have HB := hide hb1
    have HG := hide (HC w1 hb1)
    rw [← hw1] at HB HG
    clear hw1 hz1 hb1 hx0 hx1 HC
    go_enter Tryz.func20, Tryz.ntmps20
    go_wp2_with fail
    refine (unhide HG).mono ?_
    rintro e w4 ⟨hB4, s4, rfl, hs4⟩
    have HF : Hid (ChA w (.returned (.tuple #[s4, .int .i64 (E : Int)])) w4 E cc) := hide ⟨(unhide HB).trans (hB4.mono (unhide HB).size), s4, rfl, hs4⟩
    clear hB4 hs4
    go_wp2
    go_ret2
    exact unhide HF
  · skip
    obtain ⟨w1, hw1, hz1, hb1, hx0, hx1⟩ := wh_boxes w (.slice a1 n1 c1) (.slice a2 n2 c2) (.slice a3 n3 c3) 6 nd ds t (.slice ab nb cb)
    have HB := hide hb1
    have HG := hide (HC w1 hb1)
    rw [← hw1] at HB HG
    clear hw1 hz1 hb1 hx0 hx1 HC
    go_enter Tryz.func20, Tryz.ntmps20
    go_wp2_with fail
    refine (unhide HG).mono ?_
    rintro e w4 ⟨hB4, s4, rfl, hs4⟩
    have HF : Hid (ChA w (.returned (.tuple #[s4, .int .i64 (E : Int)])) w4 E cc) := hide ⟨(unhide HB).trans (hB4.mono (unhide HB).size), s4, rfl, hs4⟩
    clear hB4 hs4
    go_wp2
    go_ret2
    exact unhide HF
theorem by_none (a1 a2 a3 ab : Option Addr) (n1 c1 n2 c2 n3 c3 nb cb : Nat) (kd nd ds : Int) (t : ByteArray) (w : World) (cc : Cg) (hk : ¬ (kd = 1 ∨ kd = 2) ∧ ¬ kd = 3 ∧ ¬ (kd = 4 ∨ kd = 5 ∨ kd = 6)) :
    Calls Tryz.prog 20 #[.agg #[.slice a1 n1 c1, .slice a2 n2 c2, .slice a3 n3 c3], .agg #[.int .i64 kd, .int .i64 nd, .int .i64 ds, .string t, .slice ab nb cb]] w fun e w' => ChA w e w' 3 cc := by
  obtain ⟨w1, hw1, hz1, hb1, hx0, hx1⟩ := wh_boxes w (.slice a1 n1 c1) (.slice a2 n2 c2) (.slice a3 n3 c3) kd nd ds t (.slice ab nb cb)
  have HB := hide hb1
  rw [← hw1] at HB
  have k1 : (kd == 1) = false := by rw [beq_eq_false_iff_ne]; omega
  have k2 : (kd == 2) = false := by rw [beq_eq_false_iff_ne]; omega
  have k3 : (kd == 3) = false := by rw [beq_eq_false_iff_ne]; omega
  have k4 : (kd == 4) = false := by rw [beq_eq_false_iff_ne]; omega
  have k5 : (kd == 5) = false := by rw [beq_eq_false_iff_ne]; omega
  have k6 : (kd == 6) = false := by rw [beq_eq_false_iff_ne]; omega
  clear hw1 hz1 hb1 hx0 hx1 hk
  go_enter Tryz.func20, Tryz.ntmps20
  go_wp2
  go_ret2
  exact ⟨unhide HB, _, rfl, fun e => by cases e⟩
theorem changeBy_any {w : World} {v : Value} {W : Wd} {x : Hp} {a : Option Addr} {c : Nat} (h : WIn w v W) (hok : WdOk W) (hx : HpAt w x a c) : Calls Tryz.prog 20 #[v, hpV x a c] w fun e w' => ChA w e w' (cgE W x) (cgC W x) := by
  have hk := h
  obtain ⟨a1, c1, a2, c2, a3, c3, rfl, h1⟩ := h
  by_cases k1 : x.kind = 1 ∨ x.kind = 2
  · have e1 : cgE W x = fileE W x := by unfold cgE; rw [if_pos k1]
    have e2 : cgC W x = fileC W x := by unfold cgC; rw [if_pos k1]
    rw [e1, e2]
    exact by_call _ a1 a2 a3 a _ c1 _ c2 _ c3 _ c _ _ _ _ w _ _ (.inl ⟨k1, rfl⟩) (fun W' hW => file_ch (hk.below hW) hok (hx.below hW) k1)
  · by_cases k2 : x.kind = 3
    · have e1 : cgE W x = sendE W x := by unfold cgE; rw [if_neg k1, if_pos k2]
      have e2 : cgC W x = sendC W x := by unfold cgC; rw [if_neg k1, if_pos k2]
      rw [e1, e2]
      exact by_call _ a1 a2 a3 a _ c1 _ c2 _ c3 _ c _ _ _ _ w _ _ (.inr (.inl ⟨k2, rfl⟩)) (fun W' hW => send_ch (hk.below hW) hok)
    · by_cases k3 : x.kind = 4 ∨ x.kind = 5 ∨ x.kind = 6
      · have e1 : cgE W x = netE W x := by unfold cgE; rw [if_neg k1, if_neg k2, if_pos k3]
        have e2 : cgC W x = netC W x := by unfold cgC; rw [if_neg k1, if_neg k2]
        rw [e1, e2]
        exact by_call _ a1 a2 a3 a _ c1 _ c2 _ c3 _ c _ _ _ _ w _ _ (.inr (.inr ⟨k3, rfl⟩)) (fun W' hW => net_ch (hk.below hW) hok k3)
      · have e1 : cgE W x = 3 := by unfold cgE; rw [if_neg k1, if_neg k2, if_neg k3]
        rw [e1]
        exact by_none a1 a2 a3 a _ c1 _ c2 _ c3 _ c _ _ _ _ w _ ⟨k1, k2, k3⟩
end Go.Proofs.YtmgmganbamjnmaaGreatDoor

/-
  Package world: Do.
-/
namespace Go.Proofs.YtmgmganbamjnmaaGreatDoor
open Go.RowKit
set_option linter.unusedVariables false
set_option linter.unusedSimpArgs false
set_option maxRecDepth 100000

theorem results_wt {fn : Func} {p u : Tmp} {ty : TypeId} (h : fn.results = #[.cell p ty, .tmp u]) (tmps : Array Value) (w : World) (g : Nat) (v x : Value)
    (hp : tmps.getD p undef = .pointer (some ⟨g, 0, none⟩)) (hv : (loadVar ty ⟨g, 0, none⟩).run Tryz.prog w = .ok v w) (hx : tmps.getD u undef = x) :
    (results fn tmps).run Tryz.prog w = .ok (.tuple #[v, x]) w := by
  have hp' : tmps[p]?.getD undef = .pointer (some ⟨g, 0, none⟩) := by simpa using hp
  have hx' : tmps[u]?.getD undef = x := by simpa using hx
  simp [results, h, hp', hx', asAddr, hv]
theorem wd_load {w : World} {g : Nat} {u v x : Value} (h : w.heap[g]? = some (.cells #[u, v, x] 26 (0, 0))) : (loadVar 26 ⟨g, 0, none⟩).run Tryz.prog w = .ok (.agg #[u, v, x]) w :=
  run_loadVar_row w g 26 26 #[u, v, x] (0, 0) _ h Tryz.underlying26 rfl (by kernel_rfl)
/-- what a change answers -/
def ActP (B : Nat) (w : World) (W : Wd) (e : Ending) (w' : World) : Prop := ∃ vn vc vm ns cs ms, e = .returned (.agg #[vn, vc, vm]) ∧ OW w' B vn vc vm ns cs ms ∧ owd ns cs ms = W ∧ (ns.length ≤ 1001 ∧ cs.length ≤ 1001 ∧ ms.length ≤ 1001) ∧ Below B w w'
theorem OW.act {w w' : World} {B : Nat} {vn vc vm : Value} {ns : List Lv} {cs : List Int} {ms : List Mv} {W : Wd} (h : OW w' B vn vc vm ns cs ms) (h1 : ns.length ≤ 1000) (h2 : cs.length ≤ 1000) (h3 : ms.length ≤ 1001) (hW : owd ns cs ms = W) (hB : Below B w w') : ActP B w W (.returned (.agg #[vn, vc, vm])) w' := ⟨vn, vc, vm, ns, cs, ms, rfl, h, hW, ⟨by omega, by omega, h3⟩, hB⟩
theorem lss_set (ns : List Lv) (k : Nat) (y : Lv) : lss (ns.set k y) = (lss ns).set k y.l := by simp [lss, List.map_set]
theorem mss_erase (ms : List Mv) (p : Nat) : mss (ms.eraseIdx p) = (mss ms).eraseIdx p := by
  unfold mss
  rw [List.eraseIdx_eq_take_drop_succ, List.eraseIdx_eq_take_drop_succ, List.map_append, List.map_take, List.map_drop]
theorem act_keep {w : World} {B bf bn k : Nat} {vn vc vm v s : Value} {ns : List Lv} {cs : List Int} {ms : List Mv} {l : List Fl} {W : Wd} (h : OW w B vn vc vm ns cs ms) (hW : owd ns cs ms = W) (hB : B ≤ w.heap.size) (hc : KeepIn w s k l bf bn v) (hbf : bf < B) (hbn : bn < B) (hf : (Cg.keep k l).fits W) (h1 : ns.length ≤ 1000) (h3 : ms.length ≤ 1000) :
    Calls Tryz.prog 77 #[.agg #[vn, vc, vm], .pointer (some ⟨bf, 0, none⟩), .pointer (some ⟨bn, 0, none⟩)] w (ActP B w ((Cg.keep k l).act W)) := by
  subst hW
  obtain ⟨f1, f2⟩ := hf
  have e1 : (lss ns).length = ns.length := by simp [lss]
  simp only [e1] at f1 f2
  refine (keep1_any h hB f1 f2 h1 hc.n hc.f hbn hbf hc.l).mono ?_
  rintro e w' ⟨y, hy, rfl, h4, hB4, _⟩
  refine h4.act (by simpa using h1) (by simpa using (by omega : cs.length ≤ 1000)) (by omega) ?_ hB4
  simp only [owd, lss_set, hy]
  rfl
theorem act_drop {w : World} {B bp p : Nat} {vn vc vm s : Value} {ns : List Lv} {cs : List Int} {ms : List Mv} {W : Wd} (h : OW w B vn vc vm ns cs ms) (hW : owd ns cs ms = W) (hB : B ≤ w.heap.size) (hc : DropIn w s p bp) (hbp : bp < B) (hf : (Cg.drop p).fits W) (h1 : ns.length ≤ 1000) (h2 : cs.length ≤ 1000) (h3 : ms.length ≤ 1000) :
    Calls Tryz.prog 79 #[.agg #[vn, vc, vm], .pointer (some ⟨bp, 0, none⟩)] w (ActP B w ((Cg.drop p).act W)) := by
  subst hW
  have e3 : (mss ms).length = ms.length := by simp [mss]
  have hp : p < ms.length := by have : p < (mss ms).length := hf; omega
  refine (drop1_any h hB hp h3 hc.p hbp).mono ?_
  rintro e w' ⟨vm', rfl, h4, hB4, _⟩
  refine h4.act h1 h2 (by rw [List.length_eraseIdx]; split <;> omega) ?_ hB4
  simp only [owd, mss_erase]
  rfl
theorem act_pass {w : World} {B bm : Nat} {m : Ms} {vn vc vm v : Value} {ns : List Lv} {cs : List Int} {ms : List Mv} {W : Wd} (h : OW w B vn vc vm ns cs ms) (hW : owd ns cs ms = W) (hB : B ≤ w.heap.size) (hc0 : w.cell? ⟨bm, 0, none⟩ = some (.int .i64 m.dst)) (hc1 : w.cell? ⟨bm, 1, none⟩ = some v) (hbm : bm < B) (hl : LIn w v m.files) (h1 : ns.length ≤ 1000) (h2 : cs.length ≤ 1000) (h3 : ms.length ≤ 1000) :
    Calls Tryz.prog 78 #[.agg #[vn, vc, vm], .pointer (some ⟨bm, 0, none⟩)] w (ActP B w ((Cg.pass m).act W)) := by
  subst hW
  refine (pass1_any h hB h3 hc0 hc1 hbm hl).mono ?_
  rintro e w' ⟨vm', y, hy, rfl, h4, hB4⟩
  refine h4.act h1 h2 (by rw [List.length_append, List.length_singleton]; omega) ?_ hB4
  simp [owd, mss, hy, Cg.act, passW]
theorem act_both {w : World} {B bF bL bf bn bp k p : Nat} {vn vc vm v sF sL : Value} {ns : List Lv} {cs : List Int} {ms : List Mv} {l : List Fl} {W : Wd} (h : OW w B vn vc vm ns cs ms) (hW : owd ns cs ms = W) (hB : B ≤ w.heap.size) (hF : w.cell? ⟨bF, 0, none⟩ = some sF) (hL : w.cell? ⟨bL, 0, none⟩ = some sL) (hbF : bF < B) (hbL : bL < B) (hbf : bf < B) (hbn : bn < B) (hbp : bp < B) (hK : KeepIn w sL k l bf bn v) (hD : DropIn w sF p bp) (hf : (Cg.both k l p).fits W) (h1 : ns.length ≤ 1000) (h3 : ms.length ≤ 1000) :
    Calls Tryz.prog 61 #[.agg #[vn, vc, vm], .pointer (some ⟨bF, 0, none⟩), .pointer (some ⟨bL, 0, none⟩)] w (ActP B w ((Cg.both k l p).act W)) := by
  subst hW
  obtain ⟨f1, f2, f3⟩ := hf
  have e1 : (lss ns).length = ns.length := by simp [lss]
  have e3 : (mss ms).length = ms.length := by simp [mss]
  simp only [e1, e3] at f1 f2 f3
  refine (both1_any h hB f1 f2 h1 f3 h3 hF hL hbF hbL hbf hbn hbp hK hD).mono ?_
  rintro e w' ⟨vm', y, hy, rfl, h4, hB4⟩
  refine h4.act (by simpa using h1) (by simpa using (by omega : cs.length ≤ 1000)) (by rw [List.length_eraseIdx]; split <;> omega) ?_ hB4
  simp only [owd, lss_set, mss_erase, hy]
  rfl
theorem cg_fits {W : Wd} {x : Hp} (hok : WdOk W) (hE : cgE W x = 0) : (cgC W x).fits W := by
  unfold cgE at hE
  unfold cgC
  by_cases k1 : x.kind = 1 ∨ x.kind = 2
  · rw [if_pos k1] at hE ⊢
    unfold fileE at hE
    cases hp : isP x.node W.nodes.length with
    | false => rw [if_pos hp] at hE; cases hE
    | true =>
      have := isP_true.1 hp
      exact ⟨by omega, hok.cl⟩
  · rw [if_neg k1] at hE ⊢
    by_cases k2 : x.kind = 3
    · rw [if_pos k2]; trivial
    · rw [if_neg k2] at hE ⊢
      by_cases k3 : x.kind = 4 ∨ x.kind = 5 ∨ x.kind = 6
      · rw [if_pos k3] at hE
        unfold netE at hE
        unfold netC
        cases hp : isP x.dst W.net.length with
        | false => rw [if_pos hp] at hE; cases hE
        | true =>
          have hq := isP_true.1 hp
          by_cases k5 : x.kind = 5
          · rw [if_pos k5]
            show x.dst.toNat < W.net.length
            omega
          · rw [if_neg k5]
            by_cases k6 : x.kind = 6
            · rw [if_pos k6]; trivial
            · rw [if_neg k6]
              have hd : x.dst.toNat < W.net.length := by omega
              have hm := hok.ms (msgAt W x.dst) (by
                unfold msgAt
                simp only [List.getD, List.getElem?_eq_getElem hd, Option.getD_some]
                exact List.getElem_mem hd)
              have := hm.lo
              have := hm.hi
              exact ⟨by omega, hok.cl, by omega⟩
      · rw [if_neg k3] at hE; cases hE
theorem three_boxes (w : World) (v1 v2 v3 : Value) (k n d : Int) (t : ByteArray) (v : Value) : ∃ w1, ((w.alloc (wbox v1 v2 v3)).alloc (hbox k n d t v)).alloc (wbox (.slice none 0 0) (.slice none 0 0) (.slice none 0 0)) = w1 ∧ w1.heap.size = w.heap.size + 3 ∧ Below w.heap.size w w1 ∧ w1.heap[w.heap.size]? = some (.cells #[v1, v2, v3] 26 (0, 0)) ∧ w1.heap[w.heap.size + 1]? = some (.cells #[.int .i64 k, .int .i64 n, .int .i64 d, .string t, v] 29 (0, 0)) ∧ w1.heap[w.heap.size + 2]? = some (.cells #[(.slice none 0 0), (.slice none 0 0), (.slice none 0 0)] 26 (0, 0)) := by
  obtain ⟨w1, hw1, hz1, hb1, hx0, hx1⟩ := wh_boxes w v1 v2 v3 k n d t v
  rw [hw1]
  have h3 := heap_alloc_new w1 (wbox (.slice none 0 0) (.slice none 0 0) (.slice none 0 0))
  have hB := bel_al (Below.refl w1.heap.size w1) (wbox (.slice none 0 0) (.slice none 0 0) (.slice none 0 0))
  refine ⟨_, rfl, by rw [World.size_alloc]; omega, hb1.trans (hB.mono (by omega)), (hB.block _ (by omega)).trans hx0, (hB.block _ (by omega)).trans hx1, ?_⟩
  rw [hz1] at h3
  exact h3
/-- the blocks in which a world's rows lie -/
def vBlocks (v : Value) (b : Nat) : Prop := ∃ a1 n1 c1 a2 n2 c2 a3 n3 c3 o, v = .agg #[.slice a1 n1 c1, .slice a2 n2 c2, .slice a3 n3 c3] ∧ (a1 = some ⟨b, o, none⟩ ∨ a2 = some ⟨b, o, none⟩ ∨ a3 = some ⟨b, o, none⟩)
def VFrom (B T : Nat) (v : Value) : Prop := ∀ b, vBlocks v b → B ≤ b ∧ b < T
theorem VFrom.no (B T : Nat) : VFrom B T (.agg #[(.slice none 0 0), (.slice none 0 0), (.slice none 0 0)]) := by
  rintro b ⟨a1, n1, c1, a2, n2, c2, a3, n3, c3, o, e, h⟩
  cases e
  rcases h with h | h | h <;> cases h
theorem VFrom.mono {B B' T T' : Nat} {v : Value} (h : VFrom B T v) (hB : B' ≤ B) (hT : T ≤ T') : VFrom B' T' v := fun b hb => ⟨Nat.le_trans hB (h b hb).1, Nat.lt_of_lt_of_le (h b hb).2 hT⟩
theorem OW.from {w : World} {B : Nat} {vn vc vm : Value} {ns : List Lv} {cs : List Int} {ms : List Mv} (h : OW w B vn vc vm ns cs ms) : VFrom B w.heap.size (.agg #[vn, vc, vm]) := by
  rintro b ⟨a1, n1, c1, a2, n2, c2, a3, n3, c3, o, e, hb⟩
  cases e
  rcases hb with rfl | rfl | rfl
  · exact h.n.lt rfl
  · exact h.c.lt rfl
  · exact h.m.lt rfl
theorem WIn.offV {w w' : World} {r : Option Nat} {v : Value} {W : Wd} (h : WIn w v W) (hg : w.grownBy w' r) (hn : ∀ g, r = some g → NFb w g) (hv : ∀ b, vBlocks v b → some b ≠ r) : WIn w' v W := by
  obtain ⟨a1, c1, a2, c2, a3, c3, rfl, h1, h2, h3⟩ := h
  refine ⟨a1, c1, a2, c2, a3, c3, rfl, ⟨h1.cap, h1.capm, h1.lim, h1.nil, ?_⟩, ⟨h2.cap, h2.capm, h2.lim, h2.nil, ?_⟩, ⟨h3.cap, h3.capm, h3.lim, h3.nil, ?_⟩⟩
  · rcases h1.at_ with k | ⟨b, o, k1, k2, k3⟩
    · exact .inl k
    · refine .inr ⟨b, o, k1, Nat.lt_of_lt_of_le k2 hg.size, fun j l hj => ?_⟩
      obtain ⟨x, q1, q2⟩ := k3 j l hj
      exact ⟨x, hg.cell q1 (hv b ⟨a1, _, c1, a2, _, c2, a3, _, c3, o, rfl, .inl k1⟩), q2.offN hg hn⟩
  · rcases h2.at_ with k | ⟨b, o, k1, k2, k3⟩
    · exact .inl k
    · exact .inr ⟨b, o, k1, Nat.lt_of_lt_of_le k2 hg.size, fun j l hj => hg.cell (k3 j l hj) (hv b ⟨a1, _, c1, a2, _, c2, a3, _, c3, o, rfl, .inr (.inl k1)⟩)⟩
  · rcases h3.at_ with k | ⟨b, o, k1, k2, k3⟩
    · exact .inl k
    · refine .inr ⟨b, o, k1, Nat.lt_of_lt_of_le k2 hg.size, fun j l hj => ?_⟩
      obtain ⟨x, q1, q2, q3⟩ := k3 j l hj
      have hb := hv b ⟨a1, _, c1, a2, _, c2, a3, _, c3, o, rfl, .inr (.inr k1)⟩
      exact ⟨x, hg.cell q1 hb, hg.cell q2 hb, q3.offN hg hn⟩
end Go.Proofs.YtmgmganbamjnmaaGreatDoor
