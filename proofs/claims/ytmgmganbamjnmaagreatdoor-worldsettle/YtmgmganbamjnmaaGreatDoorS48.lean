/-
  Worlds that are alike; the law's closed fact.
-/
import Derived.Test.YtmgmganbamjnmaaGreatDoorS35
import Derived.Test.YtmgmganbamjnmaaGreatDoorS47
import Derived.Lib.SlBytesConst
import Derived.Test.YtmgmganbamjnmaaGreatDoorS24
namespace Go.Proofs.YtmgmganbamjnmaaGreatDoor
open Go.RowKit
set_option linter.unusedVariables false
set_option linter.unusedSimpArgs false
set_option maxRecDepth 100000

theorem sameW_yes {w : World} {v u : Value} {W : Wd} (h : WIn w v W) (k : WIn w u W) : Calls Tryz.prog 11 #[v, u] w fun e w' => e = .returned (.bool true) ∧ Below w.heap.size w w' := by
  obtain ⟨a1, c1, a2, c2, a3, c3, rfl, h1⟩ := h
  obtain ⟨b1, d1, b2, d2, b3, d3, rfl, k1⟩ := k
  obtain ⟨n1, hn1⟩ : ∃ n1, W.nodes.length = n1 := ⟨_, rfl⟩
  obtain ⟨n2, hn2⟩ : ∃ n2, W.clock.length = n2 := ⟨_, rfl⟩
  obtain ⟨n3, hn3⟩ : ∃ n3, W.net.length = n3 := ⟨_, rfl⟩
  rw [hn1, hn2, hn3]
  obtain ⟨w1, hw1⟩ : ∃ w1, (w.alloc (wbox (.slice a1 n1 c1) (.slice a2 n2 c2) (.slice a3 n3 c3))).alloc (wbox (.slice b1 n1 d1) (.slice b2 n2 d2) (.slice b3 n3 d3)) = w1 := ⟨_, rfl⟩
  have hb1 : Below w.heap.size w w1 := by rw [← hw1]; exact bel_al (bel_al (Below.refl _ _) _) _
  have hx0 : w1.heap[w.heap.size]? = some (.cells #[.slice a1 n1 c1, .slice a2 n2 c2, .slice a3 n3 c3] 26 (0, 0)) := by rw [← hw1, Below.heap_alloc _ _ _ (by simp), heap_alloc_new]
  have hx1 : w1.heap[w.heap.size + 1]? = some (.cells #[.slice b1 n1 d1, .slice b2 n2 d2, .slice b3 n3 d3] 26 (0, 0)) := by
    have := heap_alloc_new (w.alloc (wbox (.slice a1 n1 c1) (.slice a2 n2 c2) (.slice a3 n3 c3))) (wbox (.slice b1 n1 d1) (.slice b2 n2 d2) (.slice b3 n3 d3))
    rw [hw1, World.size_alloc] at this
    exact this
  have HL := hide (equalL_yes (h1.ns.below hb1) (k1.ns.below hb1) hn1)
  have HI := hide (fun W (hW : Below w1.heap.size w1 W) => equalI_yes ((h1.cs.below hb1).below hW) ((k1.cs.below hb1).below hW) hn2)
  have HM := hide (fun W (hW : Below w1.heap.size w1 W) => equalM_yes ((h1.ms.below hb1).below hW) ((k1.ms.below hb1).below hW) hn3)
  have HCC := hide (fun (W : World) (hW : Below w1.heap.size w1 W) => And.intro (cell_bel (heap_row (i := 1) hx0) hW (Nat.le_refl _)) (And.intro (cell_bel (heap_row (i := 1) hx1) hW (Nat.le_refl _)) (And.intro (cell_bel (heap_row (i := 2) hx0) hW (Nat.le_refl _)) (cell_bel (heap_row (i := 2) hx1) hW (Nat.le_refl _)))))
  have HB := hide hb1
  have HW := hide hw1
  rw [← hw1] at HL
  clear h1 k1 hn1 hn2 hn3 hb1 hx0 hx1 hw1
  go_enter Tryz.func11, Tryz.ntmps11
  go_wp2_with fail
  refine (unhide HL).mono ?_
  rintro e w2 ⟨rfl, hB2⟩
  rw [show (w.alloc (wbox (.slice a1 n1 c1) (.slice a2 n2 c2) (.slice a3 n3 c3))).alloc (wbox (.slice b1 n1 d1) (.slice b2 n2 d2) (.slice b3 n3 d3)) = w1 from unhide HW] at hB2
  have HI2 := hide (unhide HI w2 hB2)
  have HB2 := hide hB2
  obtain ⟨q1, q2, q3, q4⟩ := unhide HCC w2 hB2
  clear hB2 HW
  go_wp2_with fail
  refine (unhide HI2).mono ?_
  rintro e w3 ⟨rfl, hB3⟩
  replace hB3 : Below w1.heap.size w1 w3 := (unhide HB2).trans (hB3.mono (unhide HB2).size)
  have HM3 := hide (unhide HM w3 hB3)
  have HB3 := hide hB3
  clear q1 q2 q3 q4
  obtain ⟨q1, q2, q3, q4⟩ := unhide HCC w3 hB3
  clear hB3
  go_wp2_with fail
  refine (unhide HM3).mono ?_
  rintro e w4 ⟨rfl, hB4⟩
  replace hB4 : Below w1.heap.size w1 w4 := (unhide HB3).trans (hB4.mono (unhide HB3).size)
  have HB4 := hide ((unhide HB).trans (hB4.mono (unhide HB).size))
  clear hB4
  go_wp2
  go_ret
  exact ⟨rfl, unhide HB4⟩
theorem told_script (w : World) : HsIn ((w.alloc (.cells #[.int .u8 120] 5 (1, 2))).alloc (.cells #[.int .i64 1, .int .i64 0, .int .i64 0, .string ⟨#[97]⟩, .slice (some ⟨w.heap.size, 0, none⟩) 1 1, .int .i64 3, .int .i64 0, .int .i64 1, .string ⟨#[]⟩, .slice none 0 0, .int .i64 4, .int .i64 0, .int .i64 0, .string ⟨#[]⟩, .slice none 0 0, .int .i64 4, .int .i64 0, .int .i64 0, .string ⟨#[]⟩, .slice none 0 0] 29)) (some ⟨w.heap.size + 1, 0, none⟩) 4 tX := by
  have h := heap_alloc_new (w.alloc (.cells #[.int .u8 120] 5 (1, 2))) (.cells #[.int .i64 1, .int .i64 0, .int .i64 0, .string ⟨#[97]⟩, .slice (some ⟨w.heap.size, 0, none⟩) 1 1, .int .i64 3, .int .i64 0, .int .i64 1, .string ⟨#[]⟩, .slice none 0 0, .int .i64 4, .int .i64 0, .int .i64 0, .string ⟨#[]⟩, .slice none 0 0, .int .i64 4, .int .i64 0, .int .i64 0, .string ⟨#[]⟩, .slice none 0 0] 29)
  rw [World.size_alloc] at h
  have h0 : ((w.alloc (.cells #[.int .u8 120] 5 (1, 2))).alloc (.cells #[.int .i64 1, .int .i64 0, .int .i64 0, .string ⟨#[97]⟩, .slice (some ⟨w.heap.size, 0, none⟩) 1 1, .int .i64 3, .int .i64 0, .int .i64 1, .string ⟨#[]⟩, .slice none 0 0, .int .i64 4, .int .i64 0, .int .i64 0, .string ⟨#[]⟩, .slice none 0 0, .int .i64 4, .int .i64 0, .int .i64 0, .string ⟨#[]⟩, .slice none 0 0] 29)).cell? ⟨w.heap.size, 0, none⟩ = some (.int .u8 120) := by
    refine cell_al ?_
    exact cell_of_row _ _ 0 _ _ _ (heap_alloc_new w _)
  refine ⟨by decide, by decide, by decide, .inr ⟨w.heap.size + 1, 0, rfl, by simp, fun j x hj => ?_⟩⟩
  have hbare : ∀ (x : Hp), x.bytes = [] → x.name = [] → HpAt ((w.alloc (.cells #[.int .u8 120] 5 (1, 2))).alloc (.cells #[.int .i64 1, .int .i64 0, .int .i64 0, .string ⟨#[97]⟩, .slice (some ⟨w.heap.size, 0, none⟩) 1 1, .int .i64 3, .int .i64 0, .int .i64 1, .string ⟨#[]⟩, .slice none 0 0, .int .i64 4, .int .i64 0, .int .i64 0, .string ⟨#[]⟩, .slice none 0 0, .int .i64 4, .int .i64 0, .int .i64 0, .string ⟨#[]⟩, .slice none 0 0] 29)) x none 0 := fun x e1 e2 => ⟨.inl ⟨rfl, e1, rfl⟩, by rw [e1]; simp, by rw [e2]; simp⟩
  have hjl := (List.getElem?_eq_some_iff.1 hj).1
  have hj4 : j < 4 := hjl
  rcases (by omega : j = 0 ∨ j = 1 ∨ j = 2 ∨ j = 3) with rfl | rfl | rfl | rfl
  · cases hj
    refine ⟨some ⟨w.heap.size, 0, none⟩, 1, heap_row h, heap_row h, heap_row h, heap_row h, heap_row h, ⟨.inr (.inr ⟨w.heap.size, 0, rfl, by simp; omega, Nat.le_refl _, fun j hj => ?_⟩), by decide, by decide⟩⟩
    have : j = 0 := by simp at hj; omega
    subst this
    exact h0
  · cases hj
    exact ⟨none, 0, heap_row h, heap_row h, heap_row h, heap_row h, heap_row h, hbare _ rfl rfl⟩
  · cases hj
    exact ⟨none, 0, heap_row h, heap_row h, heap_row h, heap_row h, heap_row h, hbare _ rfl rfl⟩
  · cases hj
    exact ⟨none, 0, heap_row h, heap_row h, heap_row h, heap_row h, heap_row h, hbare _ rfl rfl⟩
theorem fls_one {out : List Fv} {f : Fl} (h : fls out = [f]) : ∃ y, out = [y] ∧ y.f = f := by
  match out, h with
  | [y], h => simp [fls] at h; exact ⟨y, rfl, h⟩
theorem csin_new (w : World) (xs : List Int) (t : TypeId) (A : Array Value) (n : Nat) (hA : A = (iv xs).toArray) (hn : xs.length = n) (hl : n ≤ 1000) : CsIn (w.alloc (.cells A t)) (some ⟨w.heap.size, 0, none⟩) n xs := by
  refine ⟨by omega, by omega, by omega, (fun e => by cases e), .inr ⟨w.heap.size, 0, rfl, by simp, fun j x hj => ?_⟩⟩
  rw [heap_row (heap_alloc_new w _), hA, Nat.zero_add]
  simp [iv, hj]
set_option maxHeartbeats 4000000 in
theorem told_any (w : World) : Calls Tryz.prog 9 #[] w fun e w' => e = .returned (.bool true) ∧ Below w.heap.size w w' := by
  have hE : runE 2 tX = 0 := by decide
  have hR : runR 2 tX = ⟨[[tF], [tF]], [1, 1], []⟩ := by unfold runR; rw [if_pos hE]; exact told_run.1
  have hT : runT 2 tX = [0, 0, 0, 5] := by unfold runT; rw [if_pos hE]; exact told_run.2
  have HRn := hide (run_at 2 (some ⟨w.heap.size + 1, 0, none⟩) 4 4 tX _ (told_script w) rfl)
  rw [hE, hR, hT] at HRn
  have HB := hide (bel_al (bel_al (Below.refl w.heap.size w) (.cells #[.int .u8 120] 5 (1, 2))) (.cells #[.int .i64 1, .int .i64 0, .int .i64 0, .string ⟨#[97]⟩, .slice (some ⟨w.heap.size, 0, none⟩) 1 1, .int .i64 3, .int .i64 0, .int .i64 1, .string ⟨#[]⟩, .slice none 0 0, .int .i64 4, .int .i64 0, .int .i64 0, .string ⟨#[]⟩, .slice none 0 0, .int .i64 4, .int .i64 0, .int .i64 0, .string ⟨#[]⟩, .slice none 0 0] 29))
  have hcc := Lib.run_convert_bytes_const (P := Tryz.prog) w 27 5 #[.int .u8 120] 1 1 Tryz.underlying27 Tryz.underlying5
  simp only [List.size_toArray, List.length_cons, List.length_nil, Nat.zero_add, Nat.reduceAdd] at hcc
  clear hE hR hT
  go_enter Tryz.func9, Tryz.ntmps9
  go_wp2_with fail
  refine (unhide HRn).mono ?_
  clear hcc
  rintro e w2 ⟨v, a, c, he, hW2, -, hC2, hB2⟩
  have he' : e = .returned (.tuple #[v, .slice a 4 c, .int .i64 0]) := he
  clear he
  subst he'
  obtain ⟨a1, c1, a2, c2, a3, c3, hv, hat⟩ := hW2
  have hv' : v = .agg #[.slice a1 2 c1, .slice a2 2 c2, .slice a3 0 c3] := hv
  subst hv'
  clear hv
  obtain ⟨w3, hw3⟩ : ∃ w3, w2.alloc (wbox (.slice a1 2 c1) (.slice a2 2 c2) (.slice a3 0 c3)) = w3 := ⟨_, rfl⟩
  have hx3 : w3.heap[w2.heap.size]? = some (.cells #[.slice a1 2 c1, .slice a2 2 c2, .slice a3 0 c3] 26 (0, 0)) := by rw [← hw3]; exact heap_alloc_new _ _
  have hB3 : Below w2.heap.size w2 w3 := by rw [← hw3]; exact bel_al (Below.refl _ _) _
  have h3 := hat.below hB3
  have hB4 := bel_al (Below.refl w3.heap.size w3) (.cells #[.int .i64 0, .int .i64 0, .int .i64 0, .int .i64 5] 31)
  have HEQ := hide (equalE_yes (n := 4) (hC2.below (hB3.trans (hB4.mono hB3.size))) (csin_new w3 (en [0, 0, 0, 5]) 31 #[.int .i64 0, .int .i64 0, .int .i64 0, .int .i64 5] 4 rfl rfl (by decide)) rfl)
  obtain ⟨b1, o1, x1, ha1, hbb1, hx1, hL1⟩ := h3.ns.get (j := 1) rfl
  obtain ⟨ad, cd, out, hx1v, hfs, hfo⟩ := hL1
  obtain ⟨y, rfl, hyf⟩ := fls_one hfo
  obtain ⟨fb, fo, hfa, hfb, _, g1, _⟩ := hfs.get (k := 0) (x := y) (Below.refl _ _) rfl
  have hys : y.sl = .slice y.a 1 y.c := by unfold Fv.sl; rw [hyf]; rfl
  rw [hys] at g1
  have hbs : BsIn w3 y.a y.c [120] := by have := (hfs.all y (List.mem_cons_self)).bs; rw [hyf] at this; exact this
  have HCV := hide (fun (W : World) (hW : Below w3.heap.size w3 W) => conv_any (hbs.below hW (Nat.le_refl _)))
  simp only [List.length_singleton] at HCV
  have hx1' : x1 = .slice (some ⟨fb, fo, none⟩) 1 cd := by rw [hx1v, hfa]; rfl
  subst hx1'
  have HCC := hide (fun (W : World) (hW : Below w3.heap.size w3 W) => And.intro (cell_bel (heap_row (i := 0) hx3) hW (Nat.le_refl _)) (And.intro (cell_bel (heap_row (i := 1) hx3) hW (Nat.le_refl _)) (And.intro (cell_bel hx1 hW (Nat.le_refl _)) (cell_bel g1 hW (Nat.le_refl _)))))
  have HCI := hide (fun (W : World) (hW : Below w3.heap.size w3 W) => equalI_yes (n := 2) ((h3.cs.below hW).below (bel_al (Below.refl W.heap.size W) (.cells #[.int .i64 1, .int .i64 1] 3))) (csin_new W [1, 1] 3 #[.int .i64 1, .int .i64 1] 2 rfl rfl (by decide)) rfl)
  have HBw := hide ((unhide HB).trans ((hB2.trans (hB3.mono hB2.size)).mono (unhide HB).size))
  have HB4 := hide hB4
  rw [← hw3, World.size_alloc] at HEQ
  have HW3 := hide hw3
  clear hat hC2 hB2 hw3 hx3 hB3 h3 hB4 hbb1 hx1 hfs hfo hfb g1 hyf hys hbs hx1v hfa HRn HB
  subst ha1
  go_wp2_with fail
  refine (unhide HEQ).mono ?_
  rintro e w5 ⟨rfl, hB5⟩
  rw [show w2.alloc (wbox (.slice (some ⟨b1, o1, none⟩) 2 c1) (.slice a2 2 c2) (.slice a3 0 c3)) = w3 from unhide HW3] at hB5
  replace hB5 : Below w3.heap.size w3 w5 := (unhide HB4).trans (hB5.mono (by simp))
  obtain ⟨q0, q1, q2, q3⟩ := unhide HCC w5 hB5
  have hcv := unhide HCV w5 hB5
  have hs120 : ((B [120]).toList == [120]) = true := by rw [toList_B]; rfl
  have HI5 := hide (unhide HCI w5 hB5)
  have HB5 := hide ((unhide HBw).trans (hB5.mono (unhide HBw).size))
  clear hB5 HEQ HW3 HCC HCV HCI
  generalize B [120] = sx at *
  go_wp2_with fail
  refine (unhide HI5).mono ?_
  rintro e w6 ⟨rfl, hB6⟩
  have HB6 := hide ((bel_al (unhide HB5) (.cells #[.int .i64 1, .int .i64 1] 3)).trans (hB6.mono (by have := (unhide HB5).size; simp; omega)))
  clear hB6
  go_wp2
  go_ret
  exact ⟨rfl, unhide HB6⟩
end Go.Proofs.YtmgmganbamjnmaaGreatDoor

/-
  Worlds in boxes, and what is done to them, as the laws meet them.
-/
namespace Go.Proofs.YtmgmganbamjnmaaGreatDoor
open Go.RowKit
set_option linter.unusedVariables false
set_option linter.unusedSimpArgs false
set_option maxRecDepth 100000

/-- a world in a box -/
structure WB (V : World) (P : Nat) (v1 v2 v3 : Value) (W : Wd) : Prop where
  box : V.heap[P]? = some (.cells #[v1, v2, v3] 26 (0, 0))
  win : WIn V (.agg #[v1, v2, v3]) W
theorem WB.lt {V : World} {P : Nat} {v1 v2 v3 : Value} {W : Wd} (h : WB V P v1 v2 v3 W) : P < V.heap.size := (Array.getElem?_eq_some_iff.1 h.box).1
theorem WB.below {V V' : World} {P : Nat} {v1 v2 v3 : Value} {W : Wd} (h : WB V P v1 v2 v3 W) (hB : Below V.heap.size V V') : WB V' P v1 v2 v3 W := ⟨(hB.block P h.lt).trans h.box, h.win.below hB⟩
theorem WB.cells {V : World} {P : Nat} {v1 v2 v3 : Value} {W : Wd} (h : WB V P v1 v2 v3 W) : V.cell? ⟨P, 0, none⟩ = some v1 ∧ V.cell? ⟨P, 1, none⟩ = some v2 ∧ V.cell? ⟨P, 2, none⟩ = some v3 := ⟨heap_row h.box, heap_row h.box, heap_row h.box⟩
theorem WB.new {V : World} {v1 v2 v3 : Value} {W : Wd} (h : WIn V (.agg #[v1, v2, v3]) W) : WB (V.alloc (wbox v1 v2 v3)) V.heap.size v1 v2 v3 W := ⟨heap_alloc_new _ _, h.below (bel_al (Below.refl _ _) _)⟩
theorem bt {a b c : World} (h : Below a.heap.size a b) (k : Below b.heap.size b c) : Below a.heap.size a c := h.trans (k.mono h.size)
theorem WIn.vals {V : World} {v : Value} {W : Wd} (h : WIn V v W) : ∃ p1 m1 q1 p2 m2 q2 p3 m3 q3, v = .agg #[.slice p1 m1 q1, .slice p2 m2 q2, .slice p3 m3 q3] ∧ W.nodes.length = m1 ∧ W.clock.length = m2 ∧ W.net.length = m3 := by
  obtain ⟨a1, c1, a2, c2, a3, c3, rfl, _⟩ := h
  exact ⟨a1, _, c1, a2, _, c2, a3, _, c3, rfl, rfl, rfl, rfl⟩
/-- Do of a happening without a name and bytes -/
theorem do_b {V : World} {v : Value} {W : Wd} (kd p : Int) (h : WIn V v W) : Calls Tryz.prog 7 #[v, .agg #[.int .i64 kd, .int .i64 0, .int .i64 p, .string ⟨#[]⟩, .slice none 0 0]] V (DoA V (doE W ⟨kd, 0, p, [], []⟩) (doW W ⟨kd, 0, p, [], []⟩)) := by
  have := do_w (x := ⟨kd, 0, p, [], []⟩) (a := none) (c := 0) h ⟨.inl ⟨rfl, rfl, rfl⟩, by simp, by simp⟩
  exact this
/-- the nodes and clocks alone -/
theorem WIn.bare {V : World} {v1 v2 v3 : Value} {W : Wd} (h : WIn V (.agg #[v1, v2, v3]) W) : WIn V (.agg #[v1, v2, (.slice none 0 0)]) ⟨W.nodes, W.clock, []⟩ := by
  obtain ⟨a1, c1, a2, c2, a3, c3, e, h1, h2, h3⟩ := h
  cases e
  exact ⟨a1, c1, a2, c2, none, 0, rfl, h1, h2, MsIn.zero _⟩
end Go.Proofs.YtmgmganbamjnmaaGreatDoor
