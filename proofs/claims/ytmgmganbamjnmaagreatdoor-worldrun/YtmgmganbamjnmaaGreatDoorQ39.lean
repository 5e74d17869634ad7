/-
  A row of messages, one of them taken out.
-/
import Derived.Test.YtmgmganbamjnmaaGreatDoorQ26
namespace Go.Proofs.YtmgmganbamjnmaaGreatDoor
open Go.RowKit
set_option linter.unusedVariables false
set_option linter.unusedSimpArgs false
set_option maxRecDepth 100000

theorem mss_cut (ms : List Mv) (p : Nat) : mss (ms.eraseIdx p) = (mss ms).eraseIdx p := by
  unfold mss
  induction ms generalizing p with
  | nil => simp
  | cons x r ih => cases p with
    | zero => simp
    | succ p => simp [ih]
theorem sl_cut (g n c k : Nat) (h1 : k ≤ n) (hn : n ≤ c) (W : World) : (Instr.slice 24 (.slice (some ⟨g, 0, none⟩) n c) none (some (.int .i64 (k : Int))) (some (.int .i64 (k : Int)))).run Tryz.prog W = .ok (.slice (some ⟨g, 0, none⟩) k k) W := by
  have hs := Tryz.sizeOf54
  have ht := Tryz.underlying24
  have q1 : (k : Int) ≤ (c : Int) := by omega
  simp [go_sem, ht, hs, q1]
theorem MsIn.ofCells {W : World} {b o c : Nat} {ms : List Mv} (hb : b < W.heap.size) (hc : ∀ (j : Nat) (u : Value), (mcells ms)[j]? = some u → W.cell? ⟨b, o + j, none⟩ = some u) (ha : ∀ x ∈ ms, LIn W x.sl x.m.files) (h1 : ms.length ≤ c) (h2 : c ≤ 9223372036854775807) (h3 : ms.length ≤ 1000) : MsIn W (some ⟨b, o, none⟩) c (mss ms) := by
  have e : (mss ms).length = ms.length := by simp [mss]
  refine ⟨by omega, h2, by omega, (fun e => by cases e), .inr ⟨b, o, rfl, hb, fun j l hj => ?_⟩⟩
  unfold mss at hj
  rw [List.getElem?_map] at hj
  obtain ⟨x, hx, rfl⟩ := Option.map_eq_some_iff.1 hj
  have hq : ∀ i u, i < 2 → x.cells[i]? = some u → W.cell? ⟨b, o + j * 2 + i, none⟩ = some u := by
    intro i u hi hu
    have := hc (j * 2 + i) u (by rw [mcells_at ms j x i hx hi, hu])
    rw [← Nat.add_assoc] at this
    exact this
  exact ⟨x.sl, hq 0 _ (by decide) rfl, hq 1 _ (by decide) rfl, ha x (List.mem_of_getElem? hx)⟩
/-- one is taken out: the others in a row of their own -/
theorem app_cut (w : World) (ty : TypeId) {B g n cap k : Nat} {ms : List Mv} (h : TRow w B 54 2 (.slice (some ⟨g, 0, none⟩) n cap) n (mcells ms)) (ha : ∀ x ∈ ms, LIn w x.sl x.m.files) (hn : ms.length = n) (hk : k < n) (hlim : n ≤ 1000) (hB : B ≤ w.heap.size) :
    ∃ a c w', (Builtin.append_ #[24, 24] ty #[.slice (some ⟨g, 0, none⟩) k k, .slice (some (if cap = k + 1 then ⟨g, 0, none⟩ else ⟨g, (k + 1) * 2, none⟩)) (n - (k + 1)) (cap - (k + 1))]).run Tryz.prog w = .ok (.slice a (n - 1) c) w' ∧ MsIn w' a c ((mss ms).eraseIdx k) ∧ Below w.heap.size w w' ∧ (∀ b o, a = some ⟨b, o, none⟩ → B ≤ b ∧ b < w'.heap.size) := by
  obtain ⟨i0, hi, hz0, hz1, hz2⟩ := info_parts info_msg
  have ht := Tryz.underlying24
  have hgb := h.lt (g := g) rfl
  have hcell : ∀ (j : Nat) (u : Value), (mcells ms)[j]? = some u → w.cell? ⟨g, j, none⟩ = some u := fun j u hu => by
    have hj := (List.getElem?_eq_some_iff.1 hu).1
    rw [mcells_len, hn] at hj
    rw [h.own.cellAt j hj]
    exact hu
  have hcap : n ≤ cap := by
    rcases h.own.2 with ⟨h1, _⟩ | ⟨g', cap', cur, h1, _, _, h4, _⟩
    · cases h1
    · injection h1 with _ _ h1; omega
  have hml := mcells_len ms
  rw [hn] at hml
  have hae : ∀ x ∈ ms.eraseIdx k, LIn w x.sl x.m.files := fun x hx => ha x (List.mem_of_mem_eraseIdx hx)
  have hel : (ms.eraseIdx k).length = n - 1 := by rw [List.length_eraseIdx]; simp [hn, hk]
  by_cases hl : n = k + 1
  · refine ⟨some ⟨g, 0, none⟩, k, w, ?_, ?_, Below.refl _ _, fun b o e => by cases e; exact hgb⟩
    · rw [show n - (k + 1) = 0 by omega, show n - 1 = k by omega]
      generalize (if cap = k + 1 then (⟨g, 0, none⟩ : Addr) else ⟨g, (k + 1) * 2, none⟩) = ad
      simp [Builtin.append_, run_underlying ht, sizeOf, typeInfo, hi, Builtin.lenOf, Builtin.firstCells, loadCells, loadCellsFrom, storeCells]
    · rw [← mss_cut]
      refine MsIn.ofCells hgb.2 (fun j u hu => ?_) hae (by omega) (by omega) (by omega)
      rw [Nat.zero_add]
      apply hcell
      rw [mcells_erase, List.drop_of_length_le (by rw [hml, hl]; exact Nat.le_refl _), List.append_nil, List.getElem?_take] at hu
      split at hu
      · exact hu
      · cases hu
  · have e1 : ¬ cap = k + 1 := by omega
    rw [if_neg e1]
    have hadd : ∀ (o j : Nat), (⟨g, o, none⟩ : Addr).add j = ⟨g, o + j, none⟩ := fun o j => by unfold Addr.add; split <;> simp_all
    have hr := run_append_grow (P := Tryz.prog) w 24 ty 54 i0 _ ht hi hz0 ⟨g, 0, none⟩ k k ((mcells ms).take (k * 2)) (by rw [hz1, List.length_take, hml]; omega) (fun j u hu => by
      rw [hadd, Nat.zero_add]
      rw [List.getElem?_take] at hu
      split at hu
      · exact hcell j u hu
      · cases hu) ⟨g, (k + 1) * 2, none⟩ (n - (k + 1)) (cap - (k + 1)) ((mcells ms).drop ((k + 1) * 2)) (by rw [hz1, List.length_drop, hml]; omega) (fun j u hu => by
      rw [hadd]
      rw [List.getElem?_drop] at hu
      exact hcell _ u hu) (by omega) (by omega) (growslice_fits (by omega) (by rw [hz2]; omega))
    rw [show k + (n - (k + 1)) = n - 1 by omega] at hr
    have hB1 : Below w.heap.size w (w.drew.alloc (.cells (((mcells ms).take (k * 2)).toArray ++ ((mcells ms).drop ((k + 1) * 2)).toArray ++ Builtin.zeroCells (Value.agg #[.int .i64 0, .slice none 0 0]).cells (grownCap w (n - 1) k 54 - (n - 1))) 54)) := bel_al (below_drewN (Below.refl _ _) 1) _
    refine ⟨_, _, _, hr, ?_, hB1, fun b o e => by cases e; exact ⟨hB, by rw [World.size_alloc]; exact Nat.lt_succ_self _⟩⟩
    rw [← mss_cut]
    refine MsIn.ofCells (by rw [World.size_alloc]; exact Nat.lt_succ_self _) (fun j u hu => ?_) (fun x hx => (hae x hx).below hB1) ?_ ?_ (by omega)
    · rw [Nat.zero_add]
      have hnew := heap_alloc_new w.drew (.cells (((mcells ms).take (k * 2)).toArray ++ ((mcells ms).drop ((k + 1) * 2)).toArray ++ Builtin.zeroCells (Value.agg #[.int .i64 0, .slice none 0 0]).cells (grownCap w (n - 1) k 54 - (n - 1))) 54)
      have hc := heap_row (i := j) hnew
      refine hc.trans ?_
      rw [mcells_erase] at hu
      have hj := (List.getElem?_eq_some_iff.1 hu).1
      rw [← hu, Array.getElem?_append_left (by simpa using hj)]
      simp
    · rw [hel]; exact grownCap_ge w _ _ _
    · have := grownCap_le_maxLen w (n - 1) k 54 (by unfold maxLen; omega); unfold maxLen at this; omega
end Go.Proofs.YtmgmganbamjnmaaGreatDoor
