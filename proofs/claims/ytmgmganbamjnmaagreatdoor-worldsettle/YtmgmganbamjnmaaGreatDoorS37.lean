/-
  The document's StepOf: its functions; the step under way.
-/
import Derived.Test.YtmgmganbamjnmaaGreatDoorS15
import Derived.Test.YtmgmganbamjnmaaGreatDoorS23
import Derived.Test.YtmgmganbamjnmaaGreatDoorS36
import Derived.Test.YtmgmganbamjnmaaGreatDoorS33
import Derived.Test.YtmgmganbamjnmaaGreatDoorS25
import Derived.Test.YtmgmganbamjnmaaGreatDoorS17
import Derived.Test.YtmgmganbamjnmaaGreatDoorS28
namespace Go.Proofs.YtmgmganbamjnmaaGreatDoor
open Go.RowKit
set_option linter.unusedVariables false
set_option linter.unusedSimpArgs false
set_option maxRecDepth 100000

/-- nothing but an error -/
theorem fail1_any (E : Int) (w : World) : Calls Tryz.prog 30 #[.int .i64 E] w fun e w' => e = .returned (.tuple #[.agg #[(.slice none 0 0), (.slice none 0 0), (.slice none 0 0)], .int .i64 E]) ∧ Below w.heap.size w w' := by
  have hx := heap_alloc_new w (wbox (.slice none 0 0) (.slice none 0 0) (.slice none 0 0))
  have hb := bel_al (Below.refl w.heap.size w) (wbox (.slice none 0 0) (.slice none 0 0) (.slice none 0 0))
  have HP := hide hx
  have HB := hide hb
  clear hx hb
  go_enter Tryz.func30, Tryz.ntmps30
  go_wp2
  refine bodyPost_ret (v := .tuple #[.agg #[(.slice none 0 0), (.slice none 0 0), (.slice none 0 0)], .int .i64 E]) ?_ rfl ⟨rfl, unhide HB⟩
  exact results_wt rfl _ _ w.heap.size _ _ rfl (wd_load (unhide HP)) rfl
/-- is there such a node? -/
theorem node2_any (k : Int) (n : Nat) {g c : Nat} {a : Option Addr} (w : World) (h : w.cell? ⟨g, 0, none⟩ = some (.slice a n c)) : Calls Tryz.prog 31 #[.int .i64 k, .pointer (some ⟨g, 0, none⟩)] w fun e w' => e = .returned (.bool (isP k n)) ∧ w' = w := by
  unfold isP
  by_cases h1 : 0 ≤ k
  · by_cases h2 : k < (n : Int)
    · rw [decide_eq_true ⟨h1, h2⟩]
      go_enter Tryz.func31, Tryz.ntmps31
      go_wp2
      go_ret
      exact ⟨rfl, rfl⟩
    · rw [decide_eq_false (fun e => h2 e.2)]
      go_enter Tryz.func31, Tryz.ntmps31
      go_wp2
      go_ret
      exact ⟨rfl, rfl⟩
  · rw [decide_eq_false (fun e => h1 e.1)]
    go_enter Tryz.func31, Tryz.ntmps31
    go_wp2
    go_ret
    exact ⟨rfl, rfl⟩
theorem step3_any {w : World} {bx : Nat} {xk xn xd : Int} {nm : List UInt8} {v : Value} (h0 : w.heap[bx]? = some (.cells #[.int .i64 xk, .int .i64 xn, .int .i64 xd, .string (B nm), v] 29 (0, 0))) : FnIs w 34 (.pointer (some ⟨bx, 0, none⟩)) (fun g => g.name == nm) := by
  refine ⟨enters_of Tryz.func34 (by kernel_rfl) rfl, fun y W hW => ?_⟩
  have he : ((B y.f.name).toList == (B nm).toList) = (y.f.name == nm) := by rw [toList_B, toList_B]
  have hB1 := bel_al (Below.refl W.heap.size W) (.cells #[.string (B y.f.name), .slice y.a y.f.bytes.length y.c, .int .i64 y.f.stamp, .int .i64 y.f.node, .bool y.f.gone] 49)
  have hbl := (Array.getElem?_eq_some_iff.1 h0).1
  have hh := (hB1.block bx (Nat.lt_of_lt_of_le hbl hW.size)).trans ((hW.block bx hbl).trans h0)
  have q3 := heap_row (i := 3) hh
  rw [val_is]
  have HB := hide hB1
  obtain ⟨r, hr⟩ : ∃ r, (y.f.name == nm) = r := ⟨_, rfl⟩
  simp only [hr]
  rw [hr] at he
  clear h0 hW hB1 hbl hh hr
  generalize B y.f.name = t at *
  generalize B nm = t2 at *
  generalize y.f.bytes.length = n at *
  generalize y.f.gone = g at *
  generalize y.f.stamp = s1 at *
  generalize y.f.node = s2 at *
  go_enter Tryz.func34, Tryz.ntmps34
  go_wp2
  go_ret
  exact ⟨rfl, unhide HB⟩
/-- the step under way: the world that is changed, in its box; the happening; the answer's box -/
structure SSt (w0 W : World) (vn vc vm : Value) (ns : List Lv) (cs : List Int) (ms : List Mv) (x : Hp) (ab : Option Addr) (cb : Nat) : Prop where
  bel : Below w0.heap.size w0 W
  b2 : W.heap[w0.heap.size]? = some (.cells #[vn, vc, vm] 26 (0, 0))
  b3 : W.heap[w0.heap.size + 1]? = some (.cells #[.int .i64 x.kind, .int .i64 x.node, .int .i64 x.dst, .string (B x.name), .slice ab x.bytes.length cb] 29 (0, 0))
  b4 : W.heap[w0.heap.size + 2]? = some (.cells #[(.slice none 0 0), (.slice none 0 0), (.slice none 0 0)] 26 (0, 0))
  ow : OW W (w0.heap.size + 3) vn vc vm ns cs ms
  hp : HpAt W x ab cb
theorem SSt.lt {w0 W : World} {vn vc vm : Value} {ns : List Lv} {cs : List Int} {ms : List Mv} {x : Hp} {ab : Option Addr} {cb : Nat} (h : SSt w0 W vn vc vm ns cs ms x ab cb) : w0.heap.size + 3 ≤ W.heap.size := (Array.getElem?_eq_some_iff.1 h.b4).1
theorem SSt.below {w0 W W' : World} {vn vc vm : Value} {ns : List Lv} {cs : List Int} {ms : List Mv} {x : Hp} {ab : Option Addr} {cb : Nat} (h : SSt w0 W vn vc vm ns cs ms x ab cb) (hB : Below W.heap.size W W') : SSt w0 W' vn vc vm ns cs ms x ab cb := by
  have hl := h.lt
  exact ⟨h.bel.trans (hB.mono h.bel.size), (hB.block _ (by omega)).trans h.b2, (hB.block _ (by omega)).trans h.b3, (hB.block _ (by omega)).trans h.b4, h.ow.below hB, h.hp.below hB⟩
/-- what the walk starts from -/
theorem SSt.start {w w1 w4 : World} {v1 v2 v3 : Value} {vn vc vm : Value} {ns : List Lv} {cs : List Int} {ms : List Mv} {x : Hp} {ab : Option Addr} {cb : Nat} (hz : w1.heap.size = w.heap.size + 3) (hb : Below w.heap.size w w1) (hx0 : w1.heap[w.heap.size]? = some (.cells #[v1, v2, v3] 26 (0, 0)))
    (hx1 : w1.heap[w.heap.size + 1]? = some (.cells #[.int .i64 x.kind, .int .i64 x.node, .int .i64 x.dst, .string (B x.name), .slice ab x.bytes.length cb] 29 (0, 0))) (hx2 : w1.heap[w.heap.size + 2]? = some (.cells #[(.slice none 0 0), (.slice none 0 0), (.slice none 0 0)] 26 (0, 0)))
    (hs : ∃ a1 n1 c1 a2 n2 c2 a3 n3 c3, v1 = .slice a1 n1 c1 ∧ v2 = .slice a2 n2 c2 ∧ v3 = .slice a3 n3 c3) (hB4 : Below w1.heap.size w1 w4) (hO : OW w4 w1.heap.size vn vc vm ns cs ms) (hp : HpAt w4 x ab cb) :
    w4.heap[w.heap.size]? = some (.cells #[v1, v2, v3] 26 (0, 0)) ∧ SSt w (((w4.setCell ⟨w.heap.size, 0, none⟩ vn).setCell ⟨w.heap.size, 1, none⟩ vc).setCell ⟨w.heap.size, 2, none⟩ vm) vn vc vm ns cs ms x ab cb := by
  obtain ⟨a1, n1, c1, a2, n2, c2, a3, n3, c3, rfl, rfl, rfl⟩ := hs
  have h0 := (hB4.block _ (by omega)).trans hx0
  have h1 := (hB4.block _ (by omega)).trans hx1
  have h2 := (hB4.block _ (by omega)).trans hx2
  obtain ⟨p1, p2⟩ := put3 vn vc vm h0
  have hb4 : Below w.heap.size w w4 := hb.trans (hB4.mono (by omega))
  rw [hz] at hO
  refine ⟨h0, hb4.grown p2 hb4.size (fun q e => by cases e; exact Nat.le_refl _), p1, (p2.block _ (Array.getElem?_eq_some_iff.1 h1).1 (fun e => by have := Option.some.inj e; omega)).trans h1, (p2.block _ (Array.getElem?_eq_some_iff.1 h2).1 (fun e => by have := Option.some.inj e; omega)).trans h2, hO.off p2 (by omega) (nf3 h0), ⟨hp.bs.offN p2 (fun q e => by cases e; exact nf3 h0), hp.big, hp.txt⟩⟩
/-- the world is answered -/
theorem SSt.answer {w W : World} {vn vc vm : Value} {ns : List Lv} {cs : List Int} {ms : List Mv} {x : Hp} {ab : Option Addr} {cb : Nat} (h : SSt w W vn vc vm ns cs ms x ab cb) (h1 : ns.length ≤ 1000) (h2 : cs.length ≤ 1000) (h3 : ms.length ≤ 1000) {V : Wd} (hV : owd ns cs ms = V) :
    (((W.setCell ⟨w.heap.size + 2, 0, none⟩ vn).setCell ⟨w.heap.size + 2, 1, none⟩ vc).setCell ⟨w.heap.size + 2, 2, none⟩ vm).heap[w.heap.size + 2]? = some (.cells #[vn, vc, vm] 26 (0, 0)) ∧ WIn (((W.setCell ⟨w.heap.size + 2, 0, none⟩ vn).setCell ⟨w.heap.size + 2, 1, none⟩ vc).setCell ⟨w.heap.size + 2, 2, none⟩ vm) (.agg #[vn, vc, vm]) V ∧ VFrom w.heap.size (((W.setCell ⟨w.heap.size + 2, 0, none⟩ vn).setCell ⟨w.heap.size + 2, 1, none⟩ vc).setCell ⟨w.heap.size + 2, 2, none⟩ vm).heap.size (.agg #[vn, vc, vm]) ∧ Below w.heap.size w (((W.setCell ⟨w.heap.size + 2, 0, none⟩ vn).setCell ⟨w.heap.size + 2, 1, none⟩ vc).setCell ⟨w.heap.size + 2, 2, none⟩ vm) := by
  obtain ⟨p1, p2⟩ := put3 vn vc vm h.b4
  have hO := h.ow.off p2 (by omega) (nf3 h.b4)
  have hw := hO.win (by omega) (by omega) (by omega)
  rw [hV] at hw
  exact ⟨p1, hw, hO.from.mono (by omega) (Nat.le_refl _), h.bel.grown p2 h.bel.size (fun q e => by cases e; omega)⟩
theorem SSt.fail {w W : World} {vn vc vm : Value} {ns : List Lv} {cs : List Int} {ms : List Mv} {x : Hp} {ab : Option Addr} {cb : Nat} (h : SSt w W vn vc vm ns cs ms x ab cb) :
    (((W.setCell ⟨w.heap.size + 2, 0, none⟩ (.slice none 0 0)).setCell ⟨w.heap.size + 2, 1, none⟩ (.slice none 0 0)).setCell ⟨w.heap.size + 2, 2, none⟩ (.slice none 0 0)).heap[w.heap.size + 2]? = some (.cells #[(.slice none 0 0), (.slice none 0 0), (.slice none 0 0)] 26 (0, 0)) ∧ Below w.heap.size w (((W.setCell ⟨w.heap.size + 2, 0, none⟩ (.slice none 0 0)).setCell ⟨w.heap.size + 2, 1, none⟩ (.slice none 0 0)).setCell ⟨w.heap.size + 2, 2, none⟩ (.slice none 0 0)) := put_no h.b4 h.bel (by omega)
/-- of lists alone: the clock of a node that learns -/
theorem nwr_stamp2 {f g : Fl} (h : nwr f g ≤ 0) : f.stamp ≤ g.stamp := by
  refine Classical.byContradiction fun hn => ?_
  rw [nwr_up (by omega)] at h
  omega
theorem rsd_both {l fl : List Fl} {c : Int} (h : bothE l fl = 0) (hn : ∀ f ∈ l, f.stamp ≤ c) : rsd c (bothL l fl) = rsd c fl := by
  have h1 : rsd c (bothL l fl) ≤ rsd c fl := rsd_lub _ _ _ (rsd_le _ _) (fun f hf => by
    rcases mem_both hf with q | q
    · exact Int.le_trans (hn f q) (rsd_le _ _)
    · exact rsd_all _ _ f q)
  have h2 : rsd c fl ≤ rsd c (bothL l fl) := rsd_lub _ _ _ (rsd_le _ _) (fun f hf => by
    obtain ⟨g, k1, _, k3⟩ := (newer_both h).2 f hf
    exact Int.le_trans (nwr_stamp2 k3) (rsd_all _ _ g k1))
  omega
theorem both_is {l fl : List Fl} (h1 : errM l = 0) (h2 : errM fl = 0) : bothE l fl = (if 12 < (tog l fl).length then 11 else 0) ∧ ((tog l fl).length ≤ 12 → bothL l fl = tog l fl) := by
  by_cases h : 12 < (tog l fl).length
  · rw [if_pos h]
    refine ⟨?_, fun e => by omega⟩
    rcases bothE_full2 h1 h2 with q | q
    · have := (bothE_zero.1 q).2.2; omega
    · exact q
  · have h0 : bothE l fl = 0 := bothE_zero.2 ⟨h1, h2, by omega⟩
    rw [if_neg h]
    exact ⟨h0, fun _ => bothL_ok h0⟩
theorem bothE_second {l fl : List Fl} (h1 : errM l = 0) (h2 : errM fl ≠ 0) : bothE l fl = errM fl := by
  unfold bothE errE
  simp [h1, h2]
end Go.Proofs.YtmgmganbamjnmaaGreatDoor
