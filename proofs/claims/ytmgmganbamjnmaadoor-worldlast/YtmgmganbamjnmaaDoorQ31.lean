/-
  Package world: Do.
-/
import Derived.Test.YtmgmganbamjnmaaDoorQ30
namespace Go.Proofs.YtmgmganbamjnmaaDoor
open Go.RowKit
set_option linter.unusedVariables false
set_option linter.unusedSimpArgs false
set_option maxRecDepth 100000

theorem results_wt {fn : Func} {p u : Tmp} {ty : TypeId} (h : fn.results = #[.cell p ty, .tmp u]) (tmps : Array Value) (w : World) (g : Nat) (v x : Value)
    (hp : tmps.getD p undef = .pointer (some ⟨g, 0, none⟩)) (hv : (loadVar ty ⟨g, 0, none⟩).run Tryd.prog w = .ok v w) (hx : tmps.getD u undef = x) :
    (results fn tmps).run Tryd.prog w = .ok (.tuple #[v, x]) w := by
  have hp' : tmps[p]?.getD undef = .pointer (some ⟨g, 0, none⟩) := by simpa using hp
  have hx' : tmps[u]?.getD undef = x := by simpa using hx
  simp [results, h, hp', hx', asAddr, hv]
theorem wd_load {w : World} {g : Nat} {u v x : Value} (h : w.heap[g]? = some (.cells #[u, v, x] 27 (0, 0))) : (loadVar 27 ⟨g, 0, none⟩).run Tryd.prog w = .ok (.agg #[u, v, x]) w :=
  run_loadVar_row w g 27 27 #[u, v, x] (0, 0) _ h Tryd.underlying27 rfl (by kernel_rfl)
/-- what a change answers -/
def ActP (B : Nat) (w : World) (W : Wd) (e : Ending) (w' : World) : Prop := ∃ vn vc vm ns cs ms, e = .returned (.agg #[vn, vc, vm]) ∧ OW w' B vn vc vm ns cs ms ∧ owd ns cs ms = W ∧ (ns.length ≤ 1001 ∧ cs.length ≤ 1001 ∧ ms.length ≤ 1001) ∧ Below B w w'
theorem OW.act {w w' : World} {B : Nat} {vn vc vm : Value} {ns : List Lv} {cs : List Int} {ms : List Mv} {W : Wd} (h : OW w' B vn vc vm ns cs ms) (h1 : ns.length ≤ 1000) (h2 : cs.length ≤ 1000) (h3 : ms.length ≤ 1001) (hW : owd ns cs ms = W) (hB : Below B w w') : ActP B w W (.returned (.agg #[vn, vc, vm])) w' := ⟨vn, vc, vm, ns, cs, ms, rfl, h, hW, ⟨by omega, by omega, h3⟩, hB⟩
theorem lss_set (ns : List Lv) (k : Nat) (y : Lv) : lss (ns.set k y) = (lss ns).set k y.l := by simp [lss, List.map_set]
theorem mss_erase (ms : List Mv) (p : Nat) : mss (ms.eraseIdx p) = (mss ms).eraseIdx p := by
  unfold mss
  rw [List.eraseIdx_eq_take_drop_succ, List.eraseIdx_eq_take_drop_succ, List.map_append, List.map_take, List.map_drop]
theorem act_keep {w : World} {B bf bn k : Nat} {vn vc vm v s : Value} {ns : List Lv} {cs : List Int} {ms : List Mv} {l : List Fl} {W : Wd} (h : OW w B vn vc vm ns cs ms) (hW : owd ns cs ms = W) (hB : B ≤ w.heap.size) (hc : KeepIn w s k l bf bn v) (hbf : bf < B) (hbn : bn < B) (hf : (Cg.keep k l).fits W) (h1 : ns.length ≤ 1000) (h3 : ms.length ≤ 1000) :
    Calls Tryd.prog 58 #[.agg #[vn, vc, vm], .pointer (some ⟨bf, 0, none⟩), .pointer (some ⟨bn, 0, none⟩)] w (ActP B w ((Cg.keep k l).act W)) := by
  subst hW
  obtain ⟨f1, f2⟩ := hf
  have e1 : (lss ns).length = ns.length := by simp [lss]
  simp only [e1] at f1 f2
  refine (keep1_any h hB f1 f2 h1 hc.n hc.f hbn hbf hc.l).mono ?_
  rintro e w' ⟨y, hy, rfl, h4, hB4, _⟩
  refine h4.act (by simpa using h1) (by simpa using (by omega : cs.length ≤ 1000)) (by omega) ?_ hB4
  simp only [owd, lss_set, hy]
  rfl
theorem act_drop {w : World} {B bp p : Nat} {vn vc vm s : Value} {ns : List Lv} {cs : List Int} {ms : List Mv} {W : Wd} (h : OW w B vn vc vm ns cs ms) (hW : owd ns cs ms = W) (hB : B ≤ w.heap.size) (hc : DropIn w s p bp) (hbp : bp < B) (hf : (Cg.drop p).fits W) (h1 : ns.length ≤ 1000) (h2 : cs.length ≤ 1000) (h3 : ms.length ≤ 1000) :
    Calls Tryd.prog 60 #[.agg #[vn, vc, vm], .pointer (some ⟨bp, 0, none⟩)] w (ActP B w ((Cg.drop p).act W)) := by
  subst hW
  have e3 : (mss ms).length = ms.length := by simp [mss]
  have hp : p < ms.length := by have : p < (mss ms).length := hf; omega
  refine (drop1_any h hB hp h3 hc.p hbp).mono ?_
  rintro e w' ⟨vm', rfl, h4, hB4, _⟩
  refine h4.act h1 h2 (by rw [List.length_eraseIdx]; split <;> omega) ?_ hB4
  simp only [owd, mss_erase]
  rfl
theorem act_pass {w : World} {B bm : Nat} {m : Ms} {vn vc vm v : Value} {ns : List Lv} {cs : List Int} {ms : List Mv} {W : Wd} (h : OW w B vn vc vm ns cs ms) (hW : owd ns cs ms = W) (hB : B ≤ w.heap.size) (hc0 : w.cell? ⟨bm, 0, none⟩ = some (.int .i64 m.dst)) (hc1 : w.cell? ⟨bm, 1, none⟩ = some v) (hbm : bm < B) (hl : LIn w v m.files) (h1 : ns.length ≤ 1000) (h2 : cs.length ≤ 1000) (h3 : ms.length ≤ 1000) :
    Calls Tryd.prog 59 #[.agg #[vn, vc, vm], .pointer (some ⟨bm, 0, none⟩)] w (ActP B w ((Cg.pass m).act W)) := by
  subst hW
  refine (pass1_any h hB h3 hc0 hc1 hbm hl).mono ?_
  rintro e w' ⟨vm', y, hy, rfl, h4, hB4⟩
  refine h4.act h1 h2 (by rw [List.length_append, List.length_singleton]; omega) ?_ hB4
  simp [owd, mss, hy, Cg.act, passW]
theorem act_both {w : World} {B bF bL bf bn bp k p : Nat} {vn vc vm v sF sL : Value} {ns : List Lv} {cs : List Int} {ms : List Mv} {l : List Fl} {W : Wd} (h : OW w B vn vc vm ns cs ms) (hW : owd ns cs ms = W) (hB : B ≤ w.heap.size) (hF : w.cell? ⟨bF, 0, none⟩ = some sF) (hL : w.cell? ⟨bL, 0, none⟩ = some sL) (hbF : bF < B) (hbL : bL < B) (hbf : bf < B) (hbn : bn < B) (hbp : bp < B) (hK : KeepIn w sL k l bf bn v) (hD : DropIn w sF p bp) (hf : (Cg.both k l p).fits W) (h1 : ns.length ≤ 1000) (h3 : ms.length ≤ 1000) :
    Calls Tryd.prog 55 #[.agg #[vn, vc, vm], .pointer (some ⟨bF, 0, none⟩), .pointer (some ⟨bL, 0, none⟩)] w (ActP B w ((Cg.both k l p).act W)) := by
  subst hW
  obtain ⟨f1, f2, f3⟩ := hf
  have e1 : (lss ns).length = ns.length := by simp [lss]
  have e3 : (mss ms).length = ms.length := by simp [mss]
  simp only [e1, e3] at f1 f2 f3
  refine (both1_any h hB f1 f2 h1 f3 h3 hF hL hbF hbL hbf hbn hbp hK hD).mono ?_
  rintro e w' ⟨vm', y, hy, rfl, h4, hB4⟩
  refine h4.act (by simpa using h1) (by simpa using (by omega : cs.length ≤ 1000)) (by rw [List.length_eraseIdx]; split <;> omega) ?_ hB4
  simp only [owd, lss_set, mss_erase, hy]
  rfl
theorem cg_fits {W : Wd} {x : Hp} (hok : WdOk W) (hE : cgE W x = 0) : (cgC W x).fits W := by
  unfold cgE at hE
  unfold cgC
  by_cases k1 : x.kind = 1 ∨ x.kind = 2
  · rw [if_pos k1] at hE ⊢
    unfold fileE at hE
    cases hp : isP x.node W.nodes.length with
    | false => rw [if_pos hp] at hE; cases hE
    | true =>
      have := isP_true.1 hp
      exact ⟨by omega, hok.cl⟩
  · rw [if_neg k1] at hE ⊢
    by_cases k2 : x.kind = 3
    · rw [if_pos k2]; trivial
    · rw [if_neg k2] at hE ⊢
      by_cases k3 : x.kind = 4 ∨ x.kind = 5 ∨ x.kind = 6
      · rw [if_pos k3] at hE
        unfold netE at hE
        unfold netC
        cases hp : isP x.dst W.net.length with
        | false => rw [if_pos hp] at hE; cases hE
        | true =>
          have hq := isP_true.1 hp
          by_cases k5 : x.kind = 5
          · rw [if_pos k5]
            show x.dst.toNat < W.net.length
            omega
          · rw [if_neg k5]
            by_cases k6 : x.kind = 6
            · rw [if_pos k6]; trivial
            · rw [if_neg k6]
              have hd : x.dst.toNat < W.net.length := by omega
              have hm := hok.ms (msgAt W x.dst) (by
                unfold msgAt
                simp only [List.getD, List.getElem?_eq_getElem hd, Option.getD_some]
                exact List.getElem_mem hd)
              have := hm.lo
              have := hm.hi
              exact ⟨by omega, hok.cl, by omega⟩
      · rw [if_neg k3] at hE; cases hE
theorem three_boxes (w : World) (v1 v2 v3 : Value) (k n d : Int) (t : ByteArray) (v : Value) : ∃ w1, ((w.alloc (wbox v1 v2 v3)).alloc (hbox k n d t v)).alloc (wbox (.slice none 0 0) (.slice none 0 0) (.slice none 0 0)) = w1 ∧ w1.heap.size = w.heap.size + 3 ∧ Below w.heap.size w w1 ∧ w1.heap[w.heap.size]? = some (.cells #[v1, v2, v3] 27 (0, 0)) ∧ w1.heap[w.heap.size + 1]? = some (.cells #[.int .i64 k, .int .i64 n, .int .i64 d, .string t, v] 41 (0, 0)) ∧ w1.heap[w.heap.size + 2]? = some (.cells #[(.slice none 0 0), (.slice none 0 0), (.slice none 0 0)] 27 (0, 0)) := by
  obtain ⟨w1, hw1, hz1, hb1, hx0, hx1⟩ := wh_boxes w v1 v2 v3 k n d t v
  rw [hw1]
  have h3 := heap_alloc_new w1 (wbox (.slice none 0 0) (.slice none 0 0) (.slice none 0 0))
  have hB := bel_al (Below.refl w1.heap.size w1) (wbox (.slice none 0 0) (.slice none 0 0) (.slice none 0 0))
  refine ⟨_, rfl, by rw [World.size_alloc]; omega, hb1.trans (hB.mono (by omega)), (hB.block _ (by omega)).trans hx0, (hB.block _ (by omega)).trans hx1, ?_⟩
  rw [hz1] at h3
  exact h3
/-- the blocks in which a world's rows lie -/
def vBlocks (v : Value) (b : Nat) : Prop := ∃ a1 n1 c1 a2 n2 c2 a3 n3 c3 o, v = .agg #[.slice a1 n1 c1, .slice a2 n2 c2, .slice a3 n3 c3] ∧ (a1 = some ⟨b, o, none⟩ ∨ a2 = some ⟨b, o, none⟩ ∨ a3 = some ⟨b, o, none⟩)
def VFrom (B T : Nat) (v : Value) : Prop := ∀ b, vBlocks v b → B ≤ b ∧ b < T
theorem VFrom.no (B T : Nat) : VFrom B T (.agg #[(.slice none 0 0), (.slice none 0 0), (.slice none 0 0)]) := by
  rintro b ⟨a1, n1, c1, a2, n2, c2, a3, n3, c3, o, e, h⟩
  cases e
  rcases h with h | h | h <;> cases h
theorem VFrom.mono {B B' T T' : Nat} {v : Value} (h : VFrom B T v) (hB : B' ≤ B) (hT : T ≤ T') : VFrom B' T' v := fun b hb => ⟨Nat.le_trans hB (h b hb).1, Nat.lt_of_lt_of_le (h b hb).2 hT⟩
theorem OW.from {w : World} {B : Nat} {vn vc vm : Value} {ns : List Lv} {cs : List Int} {ms : List Mv} (h : OW w B vn vc vm ns cs ms) : VFrom B w.heap.size (.agg #[vn, vc, vm]) := by
  rintro b ⟨a1, n1, c1, a2, n2, c2, a3, n3, c3, o, e, hb⟩
  cases e
  rcases hb with rfl | rfl | rfl
  · exact h.n.lt rfl
  · exact h.c.lt rfl
  · exact h.m.lt rfl
theorem WIn.offV {w w' : World} {r : Option Nat} {v : Value} {W : Wd} (h : WIn w v W) (hg : w.grownBy w' r) (hn : ∀ g, r = some g → NFb w g) (hv : ∀ b, vBlocks v b → some b ≠ r) : WIn w' v W := by
  obtain ⟨a1, c1, a2, c2, a3, c3, rfl, h1, h2, h3⟩ := h
  refine ⟨a1, c1, a2, c2, a3, c3, rfl, ⟨h1.cap, h1.capm, h1.lim, h1.nil, ?_⟩, ⟨h2.cap, h2.capm, h2.lim, h2.nil, ?_⟩, ⟨h3.cap, h3.capm, h3.lim, h3.nil, ?_⟩⟩
  · rcases h1.at_ with k | ⟨b, o, k1, k2, k3⟩
    · exact .inl k
    · refine .inr ⟨b, o, k1, Nat.lt_of_lt_of_le k2 hg.size, fun j l hj => ?_⟩
      obtain ⟨x, q1, q2⟩ := k3 j l hj
      exact ⟨x, hg.cell q1 (hv b ⟨a1, _, c1, a2, _, c2, a3, _, c3, o, rfl, .inl k1⟩), q2.offN hg hn⟩
  · rcases h2.at_ with k | ⟨b, o, k1, k2, k3⟩
    · exact .inl k
    · exact .inr ⟨b, o, k1, Nat.lt_of_lt_of_le k2 hg.size, fun j l hj => hg.cell (k3 j l hj) (hv b ⟨a1, _, c1, a2, _, c2, a3, _, c3, o, rfl, .inr (.inl k1)⟩)⟩
  · rcases h3.at_ with k | ⟨b, o, k1, k2, k3⟩
    · exact .inl k
    · refine .inr ⟨b, o, k1, Nat.lt_of_lt_of_le k2 hg.size, fun j l hj => ?_⟩
      obtain ⟨x, q1, q2, q3⟩ := k3 j l hj
      have hb := hv b ⟨a1, _, c1, a2, _, c2, a3, _, c3, o, rfl, .inr (.inr k1)⟩
      exact ⟨x, hg.cell q1 hb, hg.cell q2 hb, q3.offN hg hn⟩
end Go.Proofs.YtmgmganbamjnmaaDoor
