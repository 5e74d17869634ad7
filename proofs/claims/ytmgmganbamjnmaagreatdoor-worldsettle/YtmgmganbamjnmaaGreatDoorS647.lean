/-
  A world that was handed in: how many files its nodes have together, held against how much was read.
-/
import Derived.Test.YtmgmganbamjnmaaGreatDoorS50
namespace Go.Proofs.YtmgmganbamjnmaaGreatDoor
open Go.RowKit Go.ChangeShapes Go.WideShapes Go.ChangeAt Go.Deep
set_option linter.unusedVariables false
set_option maxRecDepth 100000

theorem bulk_pos {H : Type} (d : DataW H) : 1 ≤ Rows.uptoBulk d := by
  cases d with
  | lit l => cases l <;> simp [Rows.uptoBulk]
  | _ => simp [Rows.uptoBulk]
theorem bulk_len {H : Type} : ∀ (l : List (DataW H)), l.length ≤ Rows.uptoBulkAll l
  | [] => by simp [Rows.uptoBulkAll]
  | d :: r => by have := bulk_len r; have := bulk_pos d; simp only [Rows.uptoBulkAll, List.length_cons]; omega
theorem bulk_sum {H : Type} (f : Nat → List Fl) (D : Nat → DataW H) : ∀ (is : List Nat), (∀ i ∈ is, (f i).length ≤ Rows.uptoBulk (D i)) → ((is.map f).map List.length).sum ≤ Rows.uptoBulkAll (is.map D)
  | [], _ => by simp [Rows.uptoBulkAll]
  | i :: r, h => by
    have h1 := bulk_sum f D r (fun j hj => h j (List.mem_cons_of_mem _ hj))
    have h2 := h i List.mem_cons_self
    simp only [Rows.uptoBulkAll, List.map_cons, List.sum_cons]
    omega
theorem open_listB {H : Type} {enc : TypeId × Value → H} {w : World} {fuel : Nat} {v : Value} {x : DataW H × List MemPlace}
    (h : DataW.trod enc Tryz.prog w 0 (fun _ => true) true fuel 46 [v] = some x) (hw : ∀ n ∈ x.1.weights Tryz.prog 46, n ≤ 140737488351232) : ∃ l, LIn w v l ∧ l.length ≤ Rows.uptoBulk x.1 := by
  obtain ⟨l, hl⟩ := open_listW h hw
  refine ⟨l, hl, ?_⟩
  obtain ⟨a0, c0, hv⟩ := hl.shape
  subst hv
  rcases open_slice Tryz.underlying46 h with ⟨hcs, _⟩ | ⟨a, len, cap, m, n, D, Pl, hcs, _, _, _, _, hx1, _⟩
  · simp at hcs
    have := hcs.2.1
    simp [this]
  · simp at hcs
    have e := hcs.2.1
    rw [hx1]
    simp only [Rows.uptoBulk]
    have := bulk_len ((List.range len).map D)
    simp at this
    rw [e]
    omega
theorem open_nsB {H : Type} {enc : TypeId × Value → H} {w : World} {fuel : Nat} {v : Value} {x : DataW H × List MemPlace}
    (h : DataW.trod enc Tryz.prog w 0 (fun _ => true) true fuel 22 [v] = some x) (hw : ∀ n ∈ x.1.weights Tryz.prog 22, n ≤ 140737488351232) : ∃ a c ls, v = .slice a ls.length c ∧ NsIn w a c ls ∧ (ls.map List.length).sum ≤ Rows.uptoBulk x.1 := by
  rcases open_slice1 Tryz.underlying22 cellsFsW h with ⟨hcs, _⟩ | ⟨a, len, cap, m, n, V, D, Pl, hcs, _, hl, hm, hmm, hx1, hx⟩
  · simp at hcs
    subst hcs
    exact ⟨none, 0, [], rfl, NsIn.zero w, by simp⟩
  · simp at hcs
    subst hcs
    simp only [if_true] at hmm
    subst hmm
    have hd1 := congrArg Prod.fst hx1
    simp only at hd1
    have hcap : m * 24 ≤ 140737488351232 := by
      apply hw
      rw [hd1]
      simp only [DataW.weights, Tryz.underlying22, bytesFsW]
      refine List.mem_cons.2 (.inl ?_)
      simp
      omega
    have each : ∀ i, i < len → ∃ z : List Fl, LIn w (V i) z ∧ z.length ≤ Rows.uptoBulk (D i) := by
      intro i hi
      exact open_listB (hx i (by omega)).2 (fun n hn => hw n (by
        rw [hd1]
        simp only [DataW.weights, Tryz.underlying22]
        exact List.mem_cons_of_mem _ (List.mem_append.2 (.inl (weightsAll_mem (List.mem_map.2 ⟨i, List.mem_range.2 hi, rfl⟩) _ hn)))))
    obtain ⟨f, hf⟩ := choose_lt each
    refine ⟨some a, m, (List.range len).map f, by simp, ⟨by simp; omega, by omega, by simp; omega, (fun e => by cases e), ?_⟩, ?_⟩
    · by_cases h0 : len = 0
      · subst h0; exact .inl rfl
      · obtain ⟨b, o, spot⟩ := a
        have hc' := (hx 0 (by omega)).1
        have hspot : spot = none := by simpa [Addr.add] using World.cell?_spot hc'
        subst hspot
        refine .inr ⟨b, o, rfl, ?_, fun j l hj => ?_⟩
        · have := World.block_lt_of_cell? _ _ hc'
          simpa [Addr.add] using this
        · have hj' : j < len := by
            have := (List.getElem?_eq_some_iff.1 hj).1
            simpa using this
          simp [hj'] at hj
          subst hj
          have := (hx j (by omega)).1
          rw [add_plain] at this
          exact ⟨V j, this, (hf j hj').1⟩
    · have hs := bulk_sum f D (List.range len) (fun i hi => (hf i (List.mem_range.1 hi)).2)
      rw [hd1]
      simp only [Rows.uptoBulk]
      omega
theorem open_worldB {H : Type} {enc : TypeId × Value → H} {w : World} {fuel : Nat} {cs : List Value} {x : DataW H × List MemPlace}
    (h : DataW.trod enc Tryz.prog w 0 (fun _ => true) true fuel 26 cs = some x) (hw : ∀ n ∈ x.1.weights Tryz.prog 26, n ≤ 140737488351232) : ∃ u v z W, cs = [u, v, z] ∧ WIn w (.agg #[u, v, z]) W ∧ (W.nodes.map List.length).sum ≤ Rows.uptoBulk x.1 := by
  obtain ⟨y0, y1, y2, k, hx, hlen, g0, g1, g2⟩ := trod_tri Tryz.underlying26 h
  rw [cellsWd] at hlen
  match cs, hlen with
  | [v0, v1, v2], _ =>
    simp only [cellsLsW, cellsIsW, cellsMsW] at g0 g1 g2
    simp at g0 g1 g2
    have hws : ∀ n, n ∈ y0.1.weights Tryz.prog 22 ∨ n ∈ y1.1.weights Tryz.prog 23 ∨ n ∈ y2.1.weights Tryz.prog 24 → n ≤ 140737488351232 := by
      intro n hn
      apply hw
      rw [hx]
      simp only [DataW.weights, Tryz.underlying26]
      rcases hn with hn | hn | hn
      · exact DataW.weights_mem_each (j := 0) rfl rfl n hn
      · exact DataW.weights_mem_each (j := 1) rfl rfl n hn
      · exact DataW.weights_mem_each (j := 2) rfl rfl n hn
    obtain ⟨a1, c1, ls, rfl, h1, hb⟩ := open_nsB g0 (fun n hn => hws n (.inl hn))
    obtain ⟨a2, c2, xs, rfl, h2⟩ := open_csW g1 (fun n hn => hws n (.inr (.inl hn)))
    obtain ⟨a3, c3, ms, rfl, h3⟩ := open_msW g2 (fun n hn => hws n (.inr (.inr hn)))
    refine ⟨_, _, _, ⟨ls, xs, ms⟩, rfl, ⟨a1, c1, a2, c2, a3, c3, rfl, h1, h2, h3⟩, ?_⟩
    rw [hx]
    simp only [Rows.uptoBulk, Rows.uptoBulkAll]
    show (ls.map List.length).sum ≤ _
    omega
end Go.Proofs.YtmgmganbamjnmaaGreatDoor
