/-
  Package inflate: the fixed codes, made once.
-/
import Derived.Test.YtfoaaamcpknjnahCod4
import Derived.Laws.EntriesVeiled
namespace Go.Proofs.Ytfoaaamcpknjnah
open Go.RowKit
set_option linter.unusedVariables false
set_option linter.unusedSimpArgs false
set_option maxRecDepth 100000

/-- the fixed codes: not made yet, or made -/
def Fx (No : Nat → Prop) (w : World) (b : Nat) (f1 f2 : Value) : Prop :=
  (f1 = .nilFunc ∧ f2 = .nilFunc) ∨ ∃ g1 m1 b1 n1 g2 m2 b2 n2, f1 = DV g1 m1 ∧ f2 = DV g2 m2 ∧ DIs w g1 m1 b1 n1 b fixA ∧ DIs w g2 m2 b2 n2 b fixB ∧ (No g1 ∧ No m1 ∧ No b1) ∧ (No g2 ∧ No m2 ∧ No b2)
theorem Fx.keep {No : Nat → Prop} {w w' : World} {b : Nat} {f1 f2 : Value} (h : Fx No w b f1 f2) (hs : w.heap.size ≤ w'.heap.size) (hk : Kp No w w') : Fx No w' b f1 f2 := by
  rcases h with h | ⟨g1, m1, b1, n1, g2, m2, b2, n2, e1, e2, d1, d2, ⟨a1, a2, a3⟩, ⟨c1, c2, c3⟩⟩
  · exact .inl h
  · have t1 := d1.lt
    have t2 := d1.is.lt
    have t3 := d2.lt
    have t4 := d2.is.lt
    exact .inr ⟨g1, m1, b1, n1, g2, m2, b2, n2, e1, e2, d1.keep hs (hk g1 t1.1 a1) (hk m1 t1.2 a2) (hk b1 t2 a3), d2.keep hs (hk g2 t3.1 c1) (hk m2 t3.2 c2) (hk b2 t4 c3), ⟨a1, a2, a3⟩, ⟨c1, c2, c3⟩⟩
/-- what fixedCodes answers -/
def GotF (No : Nat → Prop) (B : Nat) (w : World) (b : Nat) (R : Value) (u : US) (e : Ending) (w' : World) : Prop :=
  ∃ No' g1 m1 b1 n1 g2 m2 b2 n2, (∀ g, No g → No' g) ∧ (∀ g, w'.heap.size ≤ g → ¬ No' g) ∧ e = .returned (.agg #[DV g1 m1, DV g2 m2]) ∧ IIs No' B w' b R (DV g1 m1) (DV g2 m2) u ∧ DIs w' g1 m1 b1 n1 b fixA ∧ DIs w' g2 m2 b2 n2 b fixB ∧ (No' g1 ∧ No' m1 ∧ No' b1) ∧ (No' g2 ∧ No' m2 ∧ No' b2) ∧ Bl No B w w'

theorem IIs.cells45 {No : Nat → Prop} {B b : Nat} {w : World} {R f1 f2 : Value} {u : US} (h : IIs No B w b R f1 f2 u) : w.cell? ⟨b, 4, none⟩ = some f1 ∧ w.cell? ⟨b, 5, none⟩ = some f2 ∧ ∀ j, w.frozen? ⟨b, j, none⟩ = false := by
  obtain ⟨ov, kv, h1, _⟩ := h.ex
  exact ⟨heap_row h1, heap_row h1, fun j => frozen_of_row w b j _ _ h1⟩

set_option maxHeartbeats 4000000 in
theorem fixedMade_any (No : Nat → Prop) (B b : Nat) (R : Value) (u : US) (w : World) (g1 m1 b1 n1 g2 m2 b2 n2 : Nat) (h : IIs No B w b R (DV g1 m1) (DV g2 m2) u) (d1 : DIs w g1 m1 b1 n1 b fixA) (d2 : DIs w g2 m2 b2 n2 b fixB) (a1 : No g1 ∧ No m1 ∧ No b1) (a2 : No g2 ∧ No m2 ∧ No b2) (hNo : ∀ g, w.heap.size ≤ g → ¬ No g) :
    Calls Try.prog 75 #[.pointer (some ⟨b, 0, none⟩)] w fun e w' => GotF No B w b R u e w' := by
  have hbl := h.lt
  have hbB := h.base
  obtain ⟨c4, c5, _⟩ := h.cells45
  have HF : Hid (∀ w', Below w.heap.size w w' → GotF No B w b R u (.returned (.agg #[DV g1 m1, DV g2 m2])) w') := hide (fun w' hB => by
    have hs := hB.size
    have t1 := d1.lt
    have t2 := d1.is.lt
    have t3 := d2.lt
    have t4 := d2.is.lt
    exact ⟨No, g1, m1, b1, n1, g2, m2, b2, n2, fun _ h => h, fun g hg => hNo g (by omega), rfl, h.past hB, d1.keep hs (hB.block g1 t1.1) (hB.block m1 t1.2) (hB.block b1 t2), d2.keep hs (hB.block g2 t3.1) (hB.block m2 t3.2) (hB.block b2 t4), a1, a2, bl_of hB (by omega)⟩)
  clear h d1 d2 a1 a2 hNo
  have heq : ∀ W : World, (binOp .eql 87 (DV g1 m1) .nilFunc).run Try.prog W = .ok (.bool false) W := fun W => by first | rfl | kernel_rfl
  go_enter Try.func75, Try.ntmps75
  have hA0 : (w.alloc (.cells #[.nilFunc, .nilFunc] 89)).heap[w.heap.size]? = some (.cells #[.nilFunc, .nilFunc] 89 (0, 0)) := heap_alloc_new _ _
  have HA0 := hide hA0
  have HB0 : Hid (Below w.heap.size w ((w.alloc (.cells #[.nilFunc, .nilFunc] 89)).setRow w.heap.size #[DV g1 m1, DV g2 m2])) := hide (below_setRow ((Below.refl w.heap.size w).alloc (Nat.le_refl _) _) (Nat.le_refl _) _)
  clear hA0
  go_wp2_with (refine wpList_store_row rfl 89 (.tmp 2) (.tmp 28) rfl w.heap.size #[DV g1 m1, DV g2 m2] rfl rfl 89 #[.nilFunc, .nilFunc] (unhide HA0) info_codes rfl (by first | rfl | simp [Value.oneCell']) ?_)
  refine bodyPost_ret (v := .agg #[DV g1 m1, DV g2 m2]) ?_ rfl (unhide HF _ (unhide HB0))
  exact results_cell_row rfl _ _ w.heap.size _ _ _ _ (by first | rfl | kernel_rfl | simp) (setRow_heap _ _ _ _ _ _ (unhide HA0)) Try.underlying89 rfl info_codes

set_option maxHeartbeats 4000000 in
theorem fixedNew_any (No : Nat → Prop) (B b : Nat) (R : Value) (u : US) (w : World) (h : IIs No B w b R .nilFunc .nilFunc u) (hNo : ∀ g, w.heap.size ≤ g → ¬ No g) :
    Calls Try.prog 75 #[.pointer (some ⟨b, 0, none⟩)] w fun e w' => GotF No B w b R u e w' := by
  have hbl := h.lt
  have hbB := h.base
  obtain ⟨c4, c5, frz⟩ := h.cells45
  have heq : ∀ W : World, (binOp .eql 87 .nilFunc .nilFunc).run Try.prog W = .ok (.bool true) W := fun W => by first | rfl | kernel_rfl
  have HK0 := hide (Rk.refl h)
  have HNo := hide hNo
  obtain ⟨FA, hFA⟩ : ∃ FA, fixA = FA := ⟨_, rfl⟩
  obtain ⟨FB, hFB⟩ : ∃ FB, fixB = FB := ⟨_, rfl⟩
  have hlA := fixA_len
  have hlB := fixB_len
  have hgA := fixA_good
  have hgB := fixB_good
  have HFL := hide (fun W => fixed_own W)
  simp only [hFA, hFB] at HFL hlA hlB hgA hgB
  have HGA := hide hgA
  have HGB := hide hgB
  have HFA := hide hFA
  have HFB := hide hFB
  have hA0 : (w.alloc (.cells #[.nilFunc, .nilFunc] 89)).heap[w.heap.size]? = some (.cells #[.nilFunc, .nilFunc] 89 (0, 0)) := heap_alloc_new _ _
  have HA0 := hide hA0
  have HB0 : Hid (Below w.heap.size w (w.alloc (.cells #[.nilFunc, .nilFunc] 89))) := hide ((Below.refl w.heap.size w).alloc (Nat.le_refl _) _)
  clear h hNo hFA hFB hgA hgB hA0
  have hi1 : (Try.prog.info? 131).map (·.size) = some (iv FA).toArray.size := by rw [info288]; simp [hlA]
  have hi2 : (Try.prog.info? 132).map (·.size) = some (iv FB).toArray.size := by rw [info32]; simp [hlB]
  go_enter Try.func75, Try.ntmps75
  go_wp2_with fail
  refine (unhide HFL _).mono ?_
  rintro e w1 ⟨rfl, hB1⟩
  have hz1 := hB1.size
  simp only [World.size_alloc] at hz1
  have HB1 : Hid (Below w.heap.size w w1) := hide ((unhide HB0).trans (hB1.mono (by simp)))
  have HC1 : Hid (w1.heap[w.heap.size]? = some (.cells #[.nilFunc, .nilFunc] 89 (0, 0))) := hide ((hB1.block _ (by simp)).trans (unhide HA0))
  clear hB1
  have A1 : ((w1.alloc (.cells (iv (List.replicate 288 0)).toArray 131)).alloc (.cells (iv (List.replicate 32 0)).toArray 132)).heap[w1.heap.size]? = some (.cells (iv (List.replicate 288 0)).toArray 131 (0, 0)) := (Below.heap_alloc _ _ _ (by simp)).trans (heap_alloc_new _ _)
  have A2 : (((w1.alloc (.cells (iv (List.replicate 288 0)).toArray 131)).alloc (.cells (iv (List.replicate 32 0)).toArray 132)).setRow w1.heap.size (iv FA).toArray).heap[w1.heap.size + 1]? = some (.cells (iv (List.replicate 32 0)).toArray 132 (0, 0)) := by
    rw [Go.setRow_other _ _ _ _ (by omega)]
    have e : w1.heap.size + 1 = (w1.alloc (.cells (iv (List.replicate 288 0)).toArray 131)).heap.size := by simp
    rw [e]
    exact heap_alloc_new _ _
  have HA1 := hide A1
  have HA2 := hide A2
  have HT := hide (fun x y => two_arrays w1 w1 x y 131 132 FA FB (Below.refl _ _) (by simp))
  clear A1 A2
  go_upto_region 3 with (first | refine wpList_store_row rfl 131 (.tmp 3) (.tmp 13) rfl w1.heap.size _ rfl rfl 131 (iv (List.replicate 288 0)).toArray (unhide HA1) hi1 (by simp [hlA]) (iv_all_one FA) ?_ | refine wpList_store_row rfl 132 (.tmp 4) (.tmp 14) rfl (w1.heap.size + 1) _ rfl rfl 132 (iv (List.replicate 32 0)).toArray (unhide HA2) hi2 (by simp [hlB]) (iv_all_one FB) ?_)
  simp only [Act.put]
  generalize hW2 : World.setRow (World.setRow (World.alloc (World.alloc _ _) _) _ _) _ _ = W2
  have t1 : ARow 131 W2 w1.heap.size FA := by rw [← hW2]; exact (unhide HT _ _).1
  have t2 : ARow 132 W2 (w1.heap.size + 1) FB := by rw [← hW2]; exact (unhide HT _ _).2.1
  have t3 : Below w1.heap.size w1 W2 := by rw [← hW2]; exact (unhide HT _ _).2.2
  clear hW2 HT HA1 HA2
  have hzW := t3.size
  have K2 : Hid (Rk No B w b R .nilFunc .nilFunc u W2) := hide ((unhide HK0).past ((unhide HB1).trans (t3.mono (by omega))))
  have HC2 : Hid (W2.heap[w.heap.size]? = some (.cells #[.nilFunc, .nilFunc] 89 (0, 0))) := hide ((t3.block _ (by omega)).trans (unhide HC1))
  have HD1 := hide (fun k => decoder_ok b (some ⟨w1.heap.size, 0, none⟩) 288 288 FA (W2.drewN k) hlA (.inr ⟨_, 0, rfl, t1.lt, t1.row⟩) (unhide HGA))
  have HD2 : Hid (∀ W, Below W2.heap.size W2 W → Calls Try.prog 87 #[.pointer (some ⟨b, 0, none⟩), .slice (some ⟨w1.heap.size + 1, 0, none⟩) 32 32] W fun e w' => ∃ gr gm mb nn, e = .returned (DV gr gm) ∧ W.heap.size ≤ gr ∧ W.heap.size ≤ gm ∧ W.heap.size ≤ mb ∧ mb < w'.heap.size ∧ DIs w' gr gm mb nn b FB ∧ Below W.heap.size W w') := hide (fun W hB => decoder_ok b (some ⟨w1.heap.size + 1, 0, none⟩) 32 32 FB W hlB (.inr ⟨_, 0, rfl, (t2.keep (hB.block _ t2.lt)).lt, (t2.keep (hB.block _ t2.lt)).row⟩) (unhide HGB))
  clear t1 t2 t3
  refine wp_region_any (by kernel_rfl) ?_
  try (change wpAny _ _ _ _ _ _ _ (World.drew _))
  refine wpAny_take (i := 0) (v := .pointer (some ⟨b, 0, none⟩)) rfl (by kernel_rfl) (by kernel_rfl) (by kernel_rfl) (fun _ _ _ h => h) (Or.inl ⟨by rfl, fun W => by go_simp⟩) ?_
  simp only [Act.put, List.setIfInBounds_toArray, List.set_cons_zero, List.set_cons_succ]
  refine wpAny_take (i := 1) (v := .pointer (some ⟨b, 0, none⟩)) rfl (by kernel_rfl) (by kernel_rfl) (by kernel_rfl) (fun _ _ _ h => h) (Or.inl ⟨by rfl, fun W => by go_simp⟩) ?_
  simp only [Act.put, List.setIfInBounds_toArray, List.set_cons_zero, List.set_cons_succ]
  refine wpAny_take (i := 2) (v := .slice (some ⟨w1.heap.size, 0, none⟩) 288 288) rfl (by kernel_rfl) (by kernel_rfl) (by kernel_rfl) (fun _ _ _ h => h) (Or.inl ⟨by rfl, fun W => by go_simp⟩) ?_
  simp only [Act.put, List.setIfInBounds_toArray, List.set_cons_zero, List.set_cons_succ]
  refine wpAny_take (i := 4) (v := .pointer (some ⟨b, 0, none⟩)) rfl (by kernel_rfl) (by kernel_rfl) (by kernel_rfl) (fun _ _ _ h => h) (Or.inl ⟨by rfl, fun W => by go_simp⟩) ?_
  simp only [Act.put, List.setIfInBounds_toArray, List.set_cons_zero, List.set_cons_succ]
  refine wpAny_take (i := 5) (v := .slice (some ⟨w1.heap.size + 1, 0, none⟩) 32 32) rfl (by kernel_rfl) (by kernel_rfl) (by kernel_rfl) (fun _ _ _ h => h) (Or.inl ⟨by rfl, fun W => by go_simp⟩) ?_
  simp only [Act.put, List.setIfInBounds_toArray, List.set_cons_zero, List.set_cons_succ]
  refine wpAny_ready (rs := [3]) (by kernel_rfl) (by simp) (AllReady.cons rfl (fun K hK => ?_) AllReady.nil)
  go_simp
  refine (unhide HD1 _).mono ?_
  rintro e w6 ⟨g1, m1, b1, n1, rfl, d1, d2, d3, d4, d5, hB6⟩
  have HB6 : Hid (Below W2.heap.size W2 w6) := hide ((below_drewN (Below.refl _ _) _).trans hB6)
  clear hB6
  dsimp only
  refine hK _ _ ?_
  clear hK K
  refine wpAny_ready (rs := [6]) (by kernel_rfl) (by simp) (AllReady.cons rfl (fun K hK => ?_) AllReady.nil)
  go_simp
  refine (unhide HD2 _ (unhide HB6)).mono ?_
  rintro e w7 ⟨g2, m2, b2, n2, rfl, x1, x2, x3, x4, x5, hB7⟩
  have HB7 := hide hB7
  have HB27 : Hid (Below W2.heap.size W2 w7) := hide ((unhide HB6).trans (hB7.mono (unhide HB6).size))
  clear hB7
  dsimp only
  refine hK _ _ ?_
  clear hK K
  refine wpAny_ready (rs := [7]) (by kernel_rfl) (by simp) (AllReady.cons rfl (fun K hK => ?_) AllReady.nil)
  go_simp
  refine hK _ _ ?_
  clear hK K
  refine wpAny_ready (rs := [8]) (by kernel_rfl) (by simp) (AllReady.cons rfl (fun K hK => ?_) AllReady.nil)
  go_simp
  refine hK _ _ ?_
  clear hK K
  refine wpAny_ready (rs := [9]) (by kernel_rfl) (by simp) (AllReady.cons rfl (fun K hK => ?_) AllReady.nil)
  go_simp
  refine hK _ _ ?_
  clear hK K
  have hK7 := (unhide K2).past (unhide HB27)
  have HK7 := hide hK7
  obtain ⟨z4, z5, zf⟩ := hK7.is.cells45
  have zf4 := zf 4
  have zf5 := zf 5
  clear hK7
  refine wpAny_ready (rs := [10]) (by kernel_rfl) (by simp) (AllReady.cons rfl (fun K hK => ?_) AllReady.nil)
  go_simp
  refine hK _ _ ?_
  clear hK K
  refine wpAny_done (by kernel_rfl) ?_ _
  obtain ⟨w8, hw8⟩ : ∃ w8, (w7.setCell ⟨b, 4, none⟩ (DV g1 m1)).setCell ⟨b, 5, none⟩ (DV g2 m2) = w8 := ⟨_, rfl⟩
  have I4 := (unhide HK7).is.set (g1 := DV g1 m1) (g2 := .nilFunc) 4 (DV g1 m1) u rfl rfl (fun _ _ => rfl)
  have I5 := I4.is.set (g1 := DV g1 m1) (g2 := DV g2 m2) 5 (DV g2 m2) u rfl rfl (fun _ _ => rfl)
  have hs7 := (unhide HB27).size
  have K8 : Rk No B w b R (DV g1 m1) (DV g2 m2) u w8 := by
    rw [← hw8]
    exact ⟨I5.is, (unhide HK7).bl.trans ((I4.bl.trans I5.bl).weaken (fun _ h => .inl h))⟩
  have hother : ∀ g, g ≠ b → w8.heap[g]? = w7.heap[g]? := fun g hg => by
    rw [← hw8]
    by_cases hlt : g < w7.heap.size
    · have q1 := (grown_setCell w7 b 4 (DV g1 m1)).block g hlt (fun e => hg (Option.some.inj e))
      have q2 := (grown_setCell (w7.setCell ⟨b, 4, none⟩ (DV g1 m1)) b 5 (DV g2 m2)).block g (Nat.lt_of_lt_of_le hlt I4.below.size) (fun e => hg (Option.some.inj e))
      exact q2.trans q1
    · have z1 : ((w7.setCell ⟨b, 4, none⟩ (DV g1 m1)).setCell ⟨b, 5, none⟩ (DV g2 m2)).heap.size = w7.heap.size := by simp
      rw [Array.getElem?_eq_none (by omega), Array.getElem?_eq_none (by omega)]
  have hs8 : w7.heap.size ≤ w8.heap.size := by rw [← hw8]; exact Nat.le_trans I4.below.size I5.below.size
  obtain ⟨y4, y5, _⟩ := K8.is.cells45
  have HC8 : Hid (w8.heap[w.heap.size]? = some (.cells #[.nilFunc, .nilFunc] 89 (0, 0))) := hide ((hother _ (by omega)).trans (((unhide HB27).block _ (by omega)).trans (unhide HC2)))
  obtain ⟨w9, hw9⟩ : ∃ w9, w8.setRow w.heap.size #[DV g1 m1, DV g2 m2] = w9 := ⟨_, rfl⟩
  have hgr : w8.grownBy w9 (some w.heap.size) := by rw [← hw9]; exact grown_setRow _ _ _
  have HC9 : Hid (w9.heap[w.heap.size]? = some (.cells #[DV g1 m1, DV g2 m2] 89 (0, 0))) := hide (by rw [← hw9]; exact setRow_heap _ _ _ _ _ _ (unhide HC8))
  have K9 : Rk No B w b R (DV g1 m1) (DV g2 m2) u w9 := K8.aside hgr (fun g e => by cases e; exact Nat.le_refl _) (unhide HNo) hbl
  have hs9 := hgr.size
  have hs6 := (unhide HB6).size
  have d1' : W2.heap.size ≤ g1 := d1
  have d2' : W2.heap.size ≤ m1 := d2
  have d3' : W2.heap.size ≤ b1 := d3
  have hk9 : ∀ g, W2.heap.size ≤ g → g < w7.heap.size → w9.heap[g]? = w7.heap[g]? := fun g h1 h2 => (hgr.block g (by omega) (fun e => by have := Option.some.inj e; omega)).trans (hother g (by omega))
  have D1 : DIs w9 g1 m1 b1 n1 b FA := by
    have t1 := d5.lt
    have t2 := d5.is.lt
    have hs67 := (unhide HB7).size
    exact (d5.keep hs67 ((unhide HB7).block g1 t1.1) ((unhide HB7).block m1 t1.2) ((unhide HB7).block b1 t2)).keep (by omega) (hk9 g1 d1' (by omega)) (hk9 m1 d2' (by omega)) (hk9 b1 d3' (by omega))
  have D2 : DIs w9 g2 m2 b2 n2 b FB := by
    have t1 := x5.lt
    have t2 := x5.is.lt
    exact x5.keep (by omega) (hk9 g2 (by omega) t1.1) (hk9 m2 (by omega) t1.2) (hk9 b2 (by omega) t2)
  have HF : Hid (GotF No B w b R u (.returned (.agg #[DV g1 m1, DV g2 m2])) w9) := hide (by
    have t1 := D1.lt
    have t2 := D1.is.lt
    have t3 := D2.lt
    have t4 := D2.is.lt
    refine ⟨NK No w.heap.size w9.heap.size, g1, m1, b1, n1, g2, m2, b2, n2, fun _ h => .inl h, fun g hg e => ?_, rfl, K9.inner, by rw [unhide HFA]; exact D1, by rw [unhide HFB]; exact D2, ⟨.inr ⟨by omega, t1.1⟩, .inr ⟨by omega, t1.2⟩, .inr ⟨by omega, t2⟩⟩, ⟨.inr ⟨by omega, t3.1⟩, .inr ⟨by omega, t3.2⟩, .inr ⟨by omega, t4⟩⟩, K9.bl⟩
    rcases e with e | e
    · exact unhide HNo g (by have := K9.bl.below.size; omega) e
    · omega)
  clear D1 D2 hk9 d1' d2' d3' K9 hgr hother K8 I4 I5 d1 d2 d3 d4 d5 x1 x2 x3 x4 x5 z4 z5 zf zf4 zf5
  have HW9 := hide hw9
  clear hw9
  change Exit.then _ _ Exit.normal _ ((w7.setCell ⟨b, 4, none⟩ (DV g1 m1)).setCell ⟨b, 5, none⟩ (DV g2 m2))
  rw [hw8]
  clear hw8
  go_wp2_with (refine wpList_store_row rfl 89 (.tmp 2) (.tmp 28) rfl w.heap.size #[DV g1 m1, DV g2 m2] rfl rfl 89 #[.nilFunc, .nilFunc] (unhide HC8) info_codes rfl (by first | rfl | simp [Value.oneCell']) ?_)
  rw [unhide HW9]
  refine bodyPost_ret (v := .agg #[DV g1 m1, DV g2 m2]) ?_ rfl (unhide HF)
  exact results_cell_row rfl _ _ w.heap.size _ _ _ _ (by first | rfl | kernel_rfl | simp) (unhide HC9) Try.underlying89 rfl info_codes

theorem fixedCodes_any (No : Nat → Prop) (B b : Nat) (R f1 f2 : Value) (u : US) (w : World) (h : IIs No B w b R f1 f2 u) (hF : Fx No w b f1 f2) (hNo : ∀ g, w.heap.size ≤ g → ¬ No g) :
    Calls Try.prog 75 #[.pointer (some ⟨b, 0, none⟩)] w fun e w' => GotF No B w b R u e w' := by
  rcases hF with ⟨rfl, rfl⟩ | ⟨g1, m1, b1, n1, g2, m2, b2, n2, rfl, rfl, d1, d2, a1, a2⟩
  · exact fixedNew_any No B b R u w h hNo
  · exact fixedMade_any No B b R u w g1 m1 b1 n1 g2 m2 b2 n2 h d1 d2 a1 a2 hNo
end Go.Proofs.Ytfoaaamcpknjnah
