/-
  Worlds, of lists alone: a right world stays right.
-/
import Derived.Test.YtmgmganbamjnmaaDoorQ26
import Derived.Test.YtmgmganbamjnmaaDoorQ38
namespace Go.Proofs.YtmgmganbamjnmaaDoor
open Go.RowKit
set_option linter.unusedVariables false
set_option linter.unusedSimpArgs false

theorem errM_stamp {l : List Fl} (h : errM l = 0) : ∀ f ∈ l, f.stamp ≤ 1000000 := by
  intro f hf
  have h2 := (errM_zero.1 h).2.1 f hf
  unfold errV at h2
  split at h2
  · rename_i h3; exact absurd h2 h3
  · split at h2
    · cases h2
    · split at h2
      · cases h2
      · omega
theorem ndok_rsd {l : List Fl} {c : Int} (h : errM l = 0) (h0 : 0 ≤ c) (h1 : c ≤ 1000000) : NdOk l (rsd c l) :=
  ⟨h, Int.le_trans h0 (rsd_le l c), rsd_lub l c 1000000 h1 (errM_stamp h), rsd_all l c⟩
theorem keep_ok {W : Wd} {k : Nat} {l : List Fl} (h : WdOk W) (hl : errM l = 0) : WdOk (keepW k l W) := by
  refine ⟨by simp [keepW]; exact h.lo, by simp [keepW]; exact h.hi, by simp [keepW]; exact h.cl, h.nt, ?_, by simp only [keepW, List.length_set]; exact h.ms⟩
  intro j l' c' h1 h2
  simp only [keepW] at h1 h2
  by_cases hj : j = k
  · subst hj
    rw [List.getElem?_set] at h1 h2
    simp only [if_true] at h1 h2
    split at h1
    · split at h2
      · rename_i q1 q2
        cases h1; cases h2
        obtain ⟨l0, c0, e1, e2, h0⟩ := h.node q1
        have e3 : W.clock.getD j 0 = c0 := by simp [List.getD, e2]
        rw [e3]
        exact ndok_rsd hl h0.lo h0.hi
      · cases h2
    · cases h1
  · rw [List.getElem?_set_ne (fun e => hj e.symm)] at h1 h2
    exact h.nd j l' c' h1 h2
theorem pass_ok {W : Wd} {m : Ms} (h : WdOk W) (hm : MsOk W.nodes.length m) (hn : W.net.length < 20) : WdOk (passW m W) := by
  refine ⟨h.lo, h.hi, h.cl, by simp [passW]; omega, h.nd, ?_⟩
  intro x hx
  rcases List.mem_append.1 hx with hx | hx
  · exact h.ms x hx
  · rw [List.mem_singleton.1 hx]; exact hm
theorem drop_ok {W : Wd} {p : Nat} (h : WdOk W) : WdOk (dropW p W) := by
  refine ⟨h.lo, h.hi, h.cl, ?_, h.nd, fun x hx => h.ms x (List.mem_of_mem_eraseIdx hx)⟩
  simp only [dropW, List.length_eraseIdx]
  have := h.nt
  split <;> omega
theorem node_ok {W : Wd} (h : WdOk W) (k : Nat) : errM (W.nodes.getD k []) = 0 := by
  by_cases hk : k < W.nodes.length
  · obtain ⟨l, c, e1, e2, h0⟩ := h.node hk
    simp only [List.getD, e1, Option.getD_some]
    exact h0.m
  · simp only [List.getD, List.getElem?_eq_none (Nat.le_of_not_lt hk), Option.getD_none]
    decide
theorem msg_ok {W : Wd} (h : WdOk W) {i : Int} (hi : isP i W.net.length = true) : MsOk W.nodes.length (msgAt W i) := by
  have hq := isP_true.1 hi
  have hd : i.toNat < W.net.length := by omega
  unfold msgAt
  simp only [List.getD, List.getElem?_eq_getElem hd, Option.getD_some]
  exact h.ms _ (List.getElem_mem hd)
theorem passE_zero {W : Wd} (h : passE W = 0) : W.net.length < 20 := by
  unfold passE at h
  split at h
  · cases h
  · omega
theorem cg_ok {W : Wd} {x : Hp} (h : WdOk W) (hE : cgE W x = 0) : WdOk ((cgC W x).act W) := by
  unfold cgE at hE
  unfold cgC
  by_cases k1 : x.kind = 1 ∨ x.kind = 2
  · rw [if_pos k1] at hE ⊢
    unfold fileE at hE
    have hb : bothE (W.nodes.getD x.node.toNat []) [putF x (W.clock.getD x.node.toNat 0)] = 0 := by
      split at hE
      · cases hE
      · split at hE
        · rename_i q; exact absurd hE q
        · split at hE
          · cases hE
          · split at hE
            · cases hE
            · exact hE
    exact keep_ok h (bothL_err hb)
  · rw [if_neg k1] at hE ⊢
    by_cases k2 : x.kind = 3
    · rw [if_pos k2] at hE ⊢
      unfold sendE at hE
      by_cases hb : isP x.node W.nodes.length = false ∨ isP x.dst W.nodes.length = false
      · rw [if_pos hb] at hE; cases hE
      · rw [if_neg hb] at hE
        have hq := isP_true.1 (by cases hq : isP x.dst W.nodes.length with | true => rfl | false => exact absurd (.inr hq) hb : isP x.dst W.nodes.length = true)
        exact pass_ok h ⟨node_ok h _, hq.1, hq.2⟩ (passE_zero hE)
    · rw [if_neg k2] at hE ⊢
      by_cases k3 : x.kind = 4 ∨ x.kind = 5 ∨ x.kind = 6
      · rw [if_pos k3] at hE
        unfold netE at hE
        unfold netC
        cases hp : isP x.dst W.net.length with
        | false => rw [if_pos hp] at hE; cases hE
        | true =>
          rw [if_neg (by rw [hp]; decide)] at hE
          by_cases k5 : x.kind = 5
          · rw [if_pos k5]; exact drop_ok h
          · rw [if_neg k5] at hE ⊢
            by_cases k6 : x.kind = 6
            · rw [if_pos k6] at hE ⊢
              exact pass_ok h (msg_ok h hp) (passE_zero hE)
            · rw [if_neg k6] at hE ⊢
              exact drop_ok (keep_ok h (bothL_err hE))
      · rw [if_neg k3] at hE; cases hE
theorem doE_zero {W : Wd} {x : Hp} (h : doE W x = 0) : WdOk W ∧ cgE W x = 0 ∧ doW W x = (cgC W x).act W := by
  have h2 := h
  unfold doE at h2
  by_cases h0 : errWd W = 0
  · rw [if_neg (by simp [h0])] at h2
    exact ⟨errWd_zero.1 h0, h2, by unfold doW; rw [if_pos h]⟩
  · rw [if_pos h0] at h2; exact absurd h2 h0
theorem doE_ok {W : Wd} {x : Hp} (h : WdOk W) : doE W x = cgE W x := by
  unfold doE
  rw [if_neg (by simp [errWd_zero.2 h])]
theorem do_ok {W : Wd} {x : Hp} (h : doE W x = 0) : WdOk (doW W x) := by
  obtain ⟨h1, h2, h3⟩ := doE_zero h
  rw [h3]
  exact cg_ok h1 h2
/-- messages -/
theorem arr_is {W : Wd} {p k : Nat} {l fl : List Fl} (h : WdOk W) (hm : W.net[p]? = some ⟨(k : Int), fl⟩) (hl : W.nodes[k]? = some l) (nd : Int) (nm bs : List UInt8) : doE W ⟨4, nd, p, nm, bs⟩ = bothE l fl ∧ (bothE l fl = 0 → doW W ⟨4, nd, p, nm, bs⟩ = dropW p (keepW k (bothL l fl) W)) := by
  have hp : isP (p : Int) W.net.length = true := isP_nat (List.getElem?_eq_some_iff.1 hm).1
  have em : msgAt W (p : Int) = ⟨(k : Int), fl⟩ := by simp [msgAt, List.getD, hm]
  have e : doE W ⟨4, nd, p, nm, bs⟩ = bothE l fl := by
    rw [doE_ok h]
    unfold cgE
    rw [if_neg (by simp), if_neg (by simp), if_pos (by simp)]
    unfold netE
    rw [if_neg (by rw [hp]; decide), if_neg (by simp), if_neg (by simp), em]
    simp [List.getD, hl]
  refine ⟨e, fun h0 => ?_⟩
  obtain ⟨_, _, h3⟩ := doE_zero (e.trans h0)
  rw [h3]
  unfold cgC
  rw [if_neg (by simp), if_neg (by simp)]
  unfold netC
  rw [if_neg (by simp), if_neg (by simp), em]
  simp [Cg.act, List.getD, hl]
theorem lose_is {W : Wd} {p : Nat} (h : WdOk W) (hp : p < W.net.length) (nd : Int) (nm bs : List UInt8) : doE W ⟨5, nd, p, nm, bs⟩ = 0 ∧ doW W ⟨5, nd, p, nm, bs⟩ = dropW p W := by
  have e : doE W ⟨5, nd, p, nm, bs⟩ = 0 := by
    rw [doE_ok h]
    unfold cgE
    rw [if_neg (by simp), if_neg (by simp), if_pos (by simp)]
    unfold netE
    rw [if_neg (by rw [isP_nat hp]; decide), if_pos rfl]
  refine ⟨e, ?_⟩
  obtain ⟨_, _, h3⟩ := doE_zero e
  rw [h3]
  unfold cgC
  rw [if_neg (by simp), if_neg (by simp)]
  unfold netC
  rw [if_pos rfl]
  simp [Cg.act]
theorem dbl_is {W : Wd} {p : Nat} {m : Ms} (h : WdOk W) (hm : W.net[p]? = some m) (hn : W.net.length < 20) (nd : Int) (nm bs : List UInt8) : doE W ⟨6, nd, p, nm, bs⟩ = 0 ∧ doW W ⟨6, nd, p, nm, bs⟩ = passW m W := by
  have hp : isP (p : Int) W.net.length = true := isP_nat (List.getElem?_eq_some_iff.1 hm).1
  have em : msgAt W (p : Int) = m := by simp [msgAt, List.getD, hm]
  have e : doE W ⟨6, nd, p, nm, bs⟩ = 0 := by
    rw [doE_ok h]
    unfold cgE
    rw [if_neg (by simp), if_neg (by simp), if_pos (by simp)]
    unfold netE
    rw [if_neg (by rw [hp]; decide), if_neg (by simp), if_pos rfl]
    unfold passE
    rw [if_neg (by omega)]
  refine ⟨e, ?_⟩
  obtain ⟨_, _, h3⟩ := doE_zero e
  rw [h3]
  unfold cgC
  rw [if_neg (by simp), if_neg (by simp)]
  unfold netC
  rw [if_neg (by simp), if_pos rfl, em]
  rfl
theorem bothE_full2 {a b : List Fl} (ha : errM a = 0) (hb : errM b = 0) : bothE a b = 0 ∨ bothE a b = 11 := by
  by_cases h : (tog a b).length ≤ 12
  · exact .inl (bothE_zero.2 ⟨ha, hb, h⟩)
  · refine .inr (bothE_full ?_ (by omega))
    unfold errE
    simp [ha, hb]
theorem both_again {a b : List Fl} (h : bothE a b = 0) : bothE (bothL a b) b = 0 ∧ bothL (bothL a b) b = bothL a b := by
  obtain ⟨h1, h2⟩ := both_comm a b
  have h3 := both_twice (h1.1 h)
  rw [← h2] at h3
  exact ⟨h3.1, h3.2.1⟩
theorem rsd_again (c : Int) (l : List Fl) : rsd (rsd c l) l = rsd c l := rsd_same (rsd_all l c)
/-- a message that comes twice -/
theorem net_twice {W : Wd} {p k : Nat} {l fl : List Fl} (h : WdOk W) (hm : W.net[p]? = some ⟨(k : Int), fl⟩) (hl : W.nodes[k]? = some l) (hn : W.net.length < 20) (hb : bothE l fl = 0) (nd : Int) (nm bs : List UInt8) :
    doE (passW ⟨(k : Int), fl⟩ W) ⟨4, nd, (W.net.length : Nat), nm, bs⟩ = 0 ∧ doE (doW (passW ⟨(k : Int), fl⟩ W) ⟨4, nd, (W.net.length : Nat), nm, bs⟩) ⟨4, nd, p, nm, bs⟩ = 0 ∧ doW (doW (passW ⟨(k : Int), fl⟩ W) ⟨4, nd, (W.net.length : Nat), nm, bs⟩) ⟨4, nd, p, nm, bs⟩ = doW W ⟨4, nd, p, nm, bs⟩ := by
  have hmo := h.ms _ (List.mem_of_getElem? hm)
  have hp := (List.getElem?_eq_some_iff.1 hm).1
  have hD := pass_ok h hmo hn
  have hkn := (List.getElem?_eq_some_iff.1 hl).1
  obtain ⟨ck, hck⟩ : ∃ ck, W.clock[k]? = some ck := ⟨_, List.getElem?_eq_getElem (by rw [h.cl]; exact hkn)⟩
  obtain ⟨e1, e2⟩ := arr_is (p := W.net.length) (k := k) (fl := fl) hD (by simp [passW]) hl nd nm bs
  have e3 := e2 hb
  have hx : dropW W.net.length (keepW k (bothL l fl) (passW ⟨(k : Int), fl⟩ W)) = keepW k (bothL l fl) W := by
    simp [dropW, keepW, passW, List.eraseIdx_append_of_length_le]
  rw [hx] at e3
  have hK := keep_ok (k := k) h (bothL_err hb)
  obtain ⟨b1, b2⟩ := both_again hb
  obtain ⟨f1, f2⟩ := arr_is (W := keepW k (bothL l fl) W) (p := p) (l := bothL l fl) hK (by simpa [keepW] using hm) (by simp [keepW, hkn]) nd nm bs
  obtain ⟨g1, g2⟩ := arr_is h hm hl nd nm bs
  refine ⟨e1.trans hb, by rw [e3, f1, b1], ?_⟩
  rw [e3, f2 b1, g2 hb, b2]
  have hc2 : k < W.clock.length := by rw [h.cl]; exact hkn
  simp only [dropW, keepW, List.set_set]
  congr 1
  simp [List.getD, hc2, rsd_again]
end Go.Proofs.YtmgmganbamjnmaaDoor

/-
  Worlds in boxes, and what is done to them, as the laws meet them.
-/
namespace Go.Proofs.YtmgmganbamjnmaaDoor
open Go.RowKit
set_option linter.unusedVariables false
set_option linter.unusedSimpArgs false
set_option maxRecDepth 100000

/-- a world in a box -/
structure WB (V : World) (P : Nat) (v1 v2 v3 : Value) (W : Wd) : Prop where
  box : V.heap[P]? = some (.cells #[v1, v2, v3] 27 (0, 0))
  win : WIn V (.agg #[v1, v2, v3]) W
theorem WB.lt {V : World} {P : Nat} {v1 v2 v3 : Value} {W : Wd} (h : WB V P v1 v2 v3 W) : P < V.heap.size := (Array.getElem?_eq_some_iff.1 h.box).1
theorem WB.below {V V' : World} {P : Nat} {v1 v2 v3 : Value} {W : Wd} (h : WB V P v1 v2 v3 W) (hB : Below V.heap.size V V') : WB V' P v1 v2 v3 W := ⟨(hB.block P h.lt).trans h.box, h.win.below hB⟩
theorem WB.cells {V : World} {P : Nat} {v1 v2 v3 : Value} {W : Wd} (h : WB V P v1 v2 v3 W) : V.cell? ⟨P, 0, none⟩ = some v1 ∧ V.cell? ⟨P, 1, none⟩ = some v2 ∧ V.cell? ⟨P, 2, none⟩ = some v3 := ⟨heap_row h.box, heap_row h.box, heap_row h.box⟩
theorem WB.new {V : World} {v1 v2 v3 : Value} {W : Wd} (h : WIn V (.agg #[v1, v2, v3]) W) : WB (V.alloc (wbox v1 v2 v3)) V.heap.size v1 v2 v3 W := ⟨heap_alloc_new _ _, h.below (bel_al (Below.refl _ _) _)⟩
theorem bt {a b c : World} (h : Below a.heap.size a b) (k : Below b.heap.size b c) : Below a.heap.size a c := h.trans (k.mono h.size)
theorem WIn.vals {V : World} {v : Value} {W : Wd} (h : WIn V v W) : ∃ p1 m1 q1 p2 m2 q2 p3 m3 q3, v = .agg #[.slice p1 m1 q1, .slice p2 m2 q2, .slice p3 m3 q3] ∧ W.nodes.length = m1 ∧ W.clock.length = m2 ∧ W.net.length = m3 := by
  obtain ⟨a1, c1, a2, c2, a3, c3, rfl, _⟩ := h
  exact ⟨a1, _, c1, a2, _, c2, a3, _, c3, rfl, rfl, rfl, rfl⟩
/-- Do of a happening without a name and bytes -/
theorem do_b {V : World} {v : Value} {W : Wd} (kd p : Int) (h : WIn V v W) : Calls Tryd.prog 12 #[v, .agg #[.int .i64 kd, .int .i64 0, .int .i64 p, .string ⟨#[]⟩, .slice none 0 0]] V (DoA V (doE W ⟨kd, 0, p, [], []⟩) (doW W ⟨kd, 0, p, [], []⟩)) := by
  have := do_w (x := ⟨kd, 0, p, [], []⟩) (a := none) (c := 0) h ⟨.inl ⟨rfl, rfl, rfl⟩, by simp, by simp⟩
  exact this
/-- the nodes and clocks alone -/
theorem WIn.bare {V : World} {v1 v2 v3 : Value} {W : Wd} (h : WIn V (.agg #[v1, v2, v3]) W) : WIn V (.agg #[v1, v2, (.slice none 0 0)]) ⟨W.nodes, W.clock, []⟩ := by
  obtain ⟨a1, c1, a2, c2, a3, c3, e, h1, h2, h3⟩ := h
  cases e
  exact ⟨a1, c1, a2, c2, none, 0, rfl, h1, h2, MsIn.zero _⟩
end Go.Proofs.YtmgmganbamjnmaaDoor
