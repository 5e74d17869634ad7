/-
  Worlds, of lists alone: what was put is not lost.
-/
import Derived.Test.YtmgmganbamjnmaaDoorQ45
import Derived.Test.YtmgmganbamjnmaaDoorQ43
import Derived.Test.YtmgmganbamjnmaaDoorQ24
namespace Go.Proofs.YtmgmganbamjnmaaDoor
open Go.RowKit
set_option linter.unusedVariables false
set_option linter.unusedSimpArgs false

/-- a list has this file, or a newer one -/
def Has (l : List Fl) (f : Fl) : Prop := ∃ g ∈ l, g.name = f.name ∧ nwr f g ≤ 0
theorem newer_trans {a b c : List Fl} (h : Newer1 a b) (k : Newer1 b c) : Newer1 a c := fun f hf => by
  obtain ⟨g, h1, h2, h3⟩ := h f hf
  obtain ⟨g', k1, k2, k3⟩ := k g h1
  exact ⟨g', k1, k2.trans h2, nwr_ord.trans h3 k3⟩
theorem Has.newer {l l' : List Fl} {f : Fl} (h : Has l f) (hn : Newer1 l l') : Has l' f := by
  obtain ⟨g, h1, h2, h3⟩ := h
  obtain ⟨g', k1, k2, k3⟩ := hn g h1
  exact ⟨g', k1, k2.trans h2, nwr_ord.trans h3 k3⟩
/-- its node has it, or a newer one -/
def Kept (W : Wd) (f : Fl) : Prop := ∃ (j : Nat) (l : List Fl), f.node = (j : Int) ∧ W.nodes[j]? = some l ∧ Has l f
theorem Kept.gw {W V : Wd} {kd : Int} {f : Fl} (h : Kept W f) (g : Gw W V kd) : Kept V f := by
  obtain ⟨j, l, h1, h2, h3⟩ := h
  have hj := (List.getElem?_eq_some_iff.1 h2).1
  have hv : j < V.nodes.length := by rw [g.len]; exact hj
  exact ⟨j, _, h1, List.getElem?_eq_getElem hv, h3.newer (g.new j _ _ h2 (List.getElem?_eq_getElem hv))⟩
theorem set_newer : ∀ (ls : List (List Fl)) (a : List Fl), setE a ls = 0 → Newer1 a (setL a ls) ∧ ∀ l ∈ ls, Newer1 l (setL a ls)
  | [], a, _ => ⟨newer_refl a, fun l hl => by cases hl⟩
  | l :: r, a, h => by
    unfold setE at h
    unfold setL
    by_cases h0 : bothE a l = 0
    · rw [if_neg (by simp [h0])] at h
      obtain ⟨h1, h2⟩ := newer_both h0
      obtain ⟨k1, k2⟩ := set_newer r _ h
      refine ⟨newer_trans h1 k1, fun m hm => ?_⟩
      rcases List.mem_cons.1 hm with rfl | hm
      · exact newer_trans h2 k1
      · exact k2 m hm
    · rw [if_pos h0] at h; exact absurd h h0
theorem stl_zero {W : Wd} (h : stlE W = 0) : setE [] W.nodes = 0 ∧ stlW W = ⟨W.clock.map fun _ => setL [] W.nodes, W.clock.map fun c => rsd c (setL [] W.nodes), []⟩ := by
  have h2 := h
  unfold stlE at h2
  by_cases h0 : errWd W = 0
  · rw [if_neg (by simp [h0])] at h2
    exact ⟨h2, by unfold stlW; rw [if_pos h]⟩
  · rw [if_pos h0] at h2; exact absurd h2 h0
theorem Kept.settled {W : Wd} {f : Fl} (h : Kept W f) (hs : stlE W = 0) {l : List Fl} (hl : l ∈ (stlW W).nodes) : Has l f := by
  obtain ⟨h1, h2⟩ := stl_zero hs
  rw [h2] at hl
  simp only [List.mem_map] at hl
  obtain ⟨c, _, rfl⟩ := hl
  obtain ⟨j, m, _, k2, k3⟩ := h
  exact k3.newer ((set_newer _ _ h1).2 m (List.mem_of_getElem? k2))
theorem putF_name (x : Hp) (c : Int) : (putF x c).name = x.name := by unfold putF; split <;> rfl
theorem putF_node (x : Hp) (c : Int) : (putF x c).node = x.node := by unfold putF; split <;> rfl
theorem putF_stamp (x : Hp) (c : Int) : (putF x c).stamp = c + 1 := by unfold putF; split <;> rfl
theorem putF_gone (x : Hp) (c : Int) : (putF x c).gone = decide (x.kind = 2) := by
  unfold putF
  by_cases h : x.kind = 2
  · rw [if_pos h]; simp [h]
  · rw [if_neg h]; simp [h]
theorem nwr_up {p y : Fl} (h : y.stamp < p.stamp) : nwr p y = 1 := by
  have e : cmpI p.stamp y.stamp = 1 := by unfold cmpI; rw [if_neg (by omega), if_pos h]
  unfold nwr nz
  rw [e, if_pos (by decide)]
/-- what was put is there -/
theorem do_put {W : Wd} {x : Hp} (h : doE W x = 0) (hk : x.kind = 1 ∨ x.kind = 2) : ∃ (j : Nat) (c : Int) (L : List Fl), x.node = (j : Int) ∧ j < W.nodes.length ∧ (doW W x).nodes[j]? = some L ∧ lookF x.name L = some (putF x c) ∧ NRise L ∧ (∀ f ∈ L, lookF f.name L = some f) := by
  obtain ⟨hok, hE, hV⟩ := doE_zero h
  rw [hV]
  unfold cgE at hE
  unfold cgC
  rw [if_pos hk] at hE ⊢
  obtain ⟨hp, _, hb⟩ := fileE_zero hE
  obtain ⟨h1, h2⟩ := isP_true.1 hp
  obtain ⟨j, hj⟩ : ∃ j : Nat, x.node = (j : Int) := ⟨x.node.toNat, by omega⟩
  have hjl : j < W.nodes.length := by omega
  obtain ⟨l, c, e1, e2, hn⟩ := hok.node hjl
  have ej : x.node.toNat = j := by omega
  rw [ej] at hb
  have g1 : W.nodes.getD j [] = l := by simp [List.getD, e1]
  have g2 : W.clock.getD j 0 = c := by simp [List.getD, e2]
  rw [g1, g2] at hb
  obtain ⟨m1, m2, _⟩ := bothE_zero.1 hb
  have r1 := (errM_zero.1 m1).2.2
  have r2 := (errM_zero.1 m2).2.2
  have hr : NRise (bothL l [putF x c]) := by rw [bothL_ok hb]; exact rise_tog _ _ r1 r2
  refine ⟨j, c, bothL l [putF x c], hj, hjl, ?_, ?_, hr, fun f hf => look_mem hr hf⟩
  · show (W.nodes.set _ _)[j]? = _
    rw [ej, g1, g2, List.getElem?_set_self hjl]
  · rw [bothL_ok hb, look_tog _ _ r1 r2, look_cons, if_pos (putF_name x c)]
    cases hl : lookF x.name l with
    | none => rfl
    | some y =>
      have := hn.st y (look_some hl).2
      show some (pickF y (putF x c)) = _
      unfold pickF
      rw [nwr_up (p := putF x c) (y := y) (by rw [putF_stamp]; omega), if_pos (by decide)]
theorem found_look {L : List Fl} {n : List UInt8} {r : Int} {f : Fl} (h : Found (fun g => g.name == n) L r) (hl : lookF n L = some f) (hr : NRise L) : ∃ i : Nat, r = (i : Int) ∧ L[i]? = some f ∧ i < L.length := by
  rcases h with ⟨_, h⟩ | ⟨i, g, h1, h2, h3, _⟩
  · have h2 := h f (look_some hl).2
    simp only [(look_some hl).1, beq_self_eq_true] at h2
    cases h2
  · have e : g.name = n := by simpa using h3
    have := look_mem hr (List.mem_of_getElem? h2)
    rw [e, hl] at this
    cases this
    exact ⟨i, h1, h2, (List.getElem?_eq_some_iff.1 h2).1⟩
theorem found_has {L : List Fl} {r : Int} {f : Fl} (h : Found (fun g => g.name == f.name) L r) (hf : Has L f) (hr : NRise L) : ∃ (i : Nat) (g : Fl), r = (i : Int) ∧ L[i]? = some g ∧ i < L.length ∧ nwr f g ≤ 0 := by
  obtain ⟨g, h1, h2, h3⟩ := hf
  have hl := look_mem hr h1
  rw [h2] at hl
  obtain ⟨i, k1, k2, k3⟩ := found_look h hl hr
  exact ⟨i, g, k1, k2, k3, h3⟩
theorem errN_nn {n : List UInt8} (h : errN n = 0) : n ≠ [] := by
  rintro rfl
  revert h
  decide
theorem errM_ne {l : List Fl} (h : errM l = 0) : ∀ f ∈ l, f.name ≠ [] := by
  intro f hf
  have h2 := (errM_zero.1 h).2.1 f hf
  unfold errV at h2
  split at h2
  · rename_i h3; exact absurd h2 h3
  · rename_i h3
    exact errN_nn (by simpa using h3)
theorem node_rise {W : Wd} (h : WdOk W) {j : Nat} {l : List Fl} (hl : W.nodes[j]? = some l) : errM l = 0 ∧ NRise l := by
  have := node_ok h j
  rw [show W.nodes.getD j [] = l by simp [List.getD, hl]] at this
  exact ⟨this, (errM_zero.1 this).2.2⟩
end Go.Proofs.YtmgmganbamjnmaaDoor
