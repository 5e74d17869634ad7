/-
  How a world that was handed in lies in memory.
-/
import Derived.Test.YtmgmganbamjnmaaGreatDoorS49
import Derived.Test.YtmgmganbamjnmaaGreatDoorS10
namespace Go.Proofs.YtmgmganbamjnmaaGreatDoor
open Go.RowKit Go.ChangeShapes Go.WideShapes Go.ChangeAt Go.Deep
set_option linter.unusedVariables false
set_option maxRecDepth 100000

theorem cellsFsW : Tryz.prog.cellsOf 46 = 1 := by kernel_rfl
theorem bytesFsW : Tryz.prog.bytesOf 46 = 24 := by kernel_rfl
theorem cellsMsg : Tryz.prog.cellsOf 54 = 2 := by kernel_rfl
theorem bytesMsg : Tryz.prog.bytesOf 54 = 32 := by kernel_rfl
theorem bytesIntW : Tryz.prog.bytesOf 3 = 8 := by kernel_rfl
theorem cellsWd : Tryz.prog.cellsOf 26 = 3 := by kernel_rfl
theorem cellsLsW : Tryz.prog.cellsOf 22 = 1 := by kernel_rfl
theorem cellsIsW : Tryz.prog.cellsOf 23 = 1 := by kernel_rfl
theorem cellsMsW : Tryz.prog.cellsOf 24 = 1 := by kernel_rfl
theorem trod_pair {H : Type} {enc : TypeId × Value → H} {P : Program} {w : World} {base : Nat} {spare : Nat → Bool} {held : Bool} {t : TypeId} {f0 f1 : Field} {fuel : Nat} {cs : List Value} {x : DataW H × List MemPlace} (ht : P.underlying t = some (.struct #[f0, f1])) (h : DataW.trod enc P w base spare held fuel t cs = some x) :
    ∃ y0 y1 n, x = (.agg [y0.1, y1.1], y0.2 ++ y1.2) ∧ cs.length = P.cellsOf t ∧ DataW.trod enc P w base spare held n f0.type ((cs.drop f0.offset).take (P.cellsOf f0.type)) = some y0 ∧
      DataW.trod enc P w base spare held n f1.type ((cs.drop f1.offset).take (P.cellsOf f1.type)) = some y1 := by
  obtain ⟨xs, n, _, rfl, hl, hlen, hf⟩ := DataW.trod_struct ht h
  match xs, hlen with
  | [y0, y1], _ => exact ⟨y0, y1, n, by simp, hl, by simpa using hf 0 f0 rfl, by simpa using hf 1 f1 rfl⟩
theorem trod_tri {H : Type} {enc : TypeId × Value → H} {P : Program} {w : World} {base : Nat} {spare : Nat → Bool} {held : Bool} {t : TypeId} {f0 f1 f2 : Field} {fuel : Nat} {cs : List Value} {x : DataW H × List MemPlace} (ht : P.underlying t = some (.struct #[f0, f1, f2])) (h : DataW.trod enc P w base spare held fuel t cs = some x) :
    ∃ y0 y1 y2 n, x = (.agg [y0.1, y1.1, y2.1], y0.2 ++ (y1.2 ++ y2.2)) ∧ cs.length = P.cellsOf t ∧ DataW.trod enc P w base spare held n f0.type ((cs.drop f0.offset).take (P.cellsOf f0.type)) = some y0 ∧
      DataW.trod enc P w base spare held n f1.type ((cs.drop f1.offset).take (P.cellsOf f1.type)) = some y1 ∧ DataW.trod enc P w base spare held n f2.type ((cs.drop f2.offset).take (P.cellsOf f2.type)) = some y2 := by
  obtain ⟨xs, n, _, rfl, hl, hlen, hf⟩ := DataW.trod_struct ht h
  match xs, hlen with
  | [y0, y1, y2], _ => exact ⟨y0, y1, y2, n, by simp, hl, by simpa using hf 0 f0 rfl, by simpa using hf 1 f1 rfl, by simpa using hf 2 f2 rfl⟩
theorem open_listW {H : Type} {enc : TypeId × Value → H} {w : World} {fuel : Nat} {v : Value} {x : DataW H × List MemPlace}
    (h : DataW.trod enc Tryz.prog w 0 (fun _ => true) true fuel 46 [v] = some x) (hw : ∀ n ∈ x.1.weights Tryz.prog 46, n ≤ 140737488351232) : ∃ l, LIn w v l := by
  obtain ⟨d, p⟩ := x
  have hsz : (DataW.weightsEach Tryz.prog [46] [d]).all (· ≤ reachBytes) = true := by
    rw [List.all_eq_true]
    intro n hn
    have hn2 : n ∈ d.weights Tryz.prog 46 := by simpa [DataW.weightsEach] using hn
    have : reachBytes = 140737488351232 := rfl
    exact decide_eq_true (by rw [this]; exact hw n hn2)
  obtain ⟨a0, l0, c0, rfl⟩ : ∃ a0 l0 c0, v = .slice a0 l0 c0 := by
    rcases open_slice Tryz.underlying46 h with ⟨hcs, _⟩ | ⟨a, len, cap, m, n, D, Pl, hcs, _⟩
    · simp at hcs; exact ⟨_, _, _, hcs⟩
    · simp at hcs; exact ⟨_, _, _, hcs⟩
  obtain ⟨xs, h1, h2⟩ := open_files h hsz (j := 0) rfl rfl
  exact ⟨_, lin_of h2 h1⟩
/-- lists of files that were handed in -/
theorem open_nsW {H : Type} {enc : TypeId × Value → H} {w : World} {fuel : Nat} {v : Value} {x : DataW H × List MemPlace}
    (h : DataW.trod enc Tryz.prog w 0 (fun _ => true) true fuel 22 [v] = some x) (hw : ∀ n ∈ x.1.weights Tryz.prog 22, n ≤ 140737488351232) : ∃ a c ls, v = .slice a ls.length c ∧ NsIn w a c ls := by
  rcases open_slice1 Tryz.underlying22 cellsFsW h with ⟨hcs, _⟩ | ⟨a, len, cap, m, n, V, D, Pl, hcs, _, hl, hm, hmm, hx1, hx⟩
  · simp at hcs
    subst hcs
    exact ⟨none, 0, [], rfl, NsIn.zero w⟩
  · simp at hcs
    subst hcs
    simp only [if_true] at hmm
    subst hmm
    have hd1 := congrArg Prod.fst hx1
    simp only at hd1
    have hcap : m * 24 ≤ 140737488351232 := by
      apply hw
      rw [hd1]
      simp only [DataW.weights, Tryz.underlying22, bytesFsW]
      refine List.mem_cons.2 (.inl ?_)
      simp
      omega
    have each : ∀ i, i < len → ∃ z : List Fl, LIn w (V i) z := by
      intro i hi
      exact open_listW (hx i (by omega)).2 (fun n hn => hw n (by
        rw [hd1]
        simp only [DataW.weights, Tryz.underlying22]
        exact List.mem_cons_of_mem _ (List.mem_append.2 (.inl (weightsAll_mem (List.mem_map.2 ⟨i, List.mem_range.2 hi, rfl⟩) _ hn)))))
    obtain ⟨f, hf⟩ := choose_lt each
    refine ⟨some a, m, (List.range len).map f, by simp, by simp; omega, by omega, by simp; omega, (fun e => by cases e), ?_⟩
    by_cases h0 : len = 0
    · subst h0; exact .inl rfl
    · obtain ⟨b, o, spot⟩ := a
      have hc' := (hx 0 (by omega)).1
      have hspot : spot = none := by simpa [Addr.add] using World.cell?_spot hc'
      subst hspot
      refine .inr ⟨b, o, rfl, ?_, fun j l hj => ?_⟩
      · have := World.block_lt_of_cell? _ _ hc'
        simpa [Addr.add] using this
      · have hj' : j < len := by
          have := (List.getElem?_eq_some_iff.1 hj).1
          simpa using this
        simp [hj'] at hj
        subst hj
        have := (hx j (by omega)).1
        rw [add_plain] at this
        exact ⟨V j, this, hf j hj'⟩
/-- clocks -/
theorem open_csW {H : Type} {enc : TypeId × Value → H} {w : World} {fuel : Nat} {v : Value} {x : DataW H × List MemPlace}
    (h : DataW.trod enc Tryz.prog w 0 (fun _ => true) true fuel 23 [v] = some x) (hw : ∀ n ∈ x.1.weights Tryz.prog 23, n ≤ 140737488351232) : ∃ a c xs, v = .slice a xs.length c ∧ CsIn w a c xs := by
  rcases open_ints Tryz.underlying23 Tryz.underlying3 cellsInt h with ⟨hcs, _⟩ | ⟨a, l, c, zs, hcs, _, hl, hm, hz, hx, hcell, hwz⟩
  · simp at hcs
    subst hcs
    exact ⟨none, 0, [], rfl, CsIn.zero w⟩
  · simp at hcs
    subst hcs
    have hz' : zs.length = c := by simpa using hz
    have hlen : (zs.take l).length = l := by simp; omega
    have hc : c * 8 ≤ 140737488351232 := by
      apply hw
      rw [hx]
      simp only [DataW.weights, Tryz.underlying23, bytesIntW]
      refine List.mem_cons.2 (.inl ?_)
      simp [lits]
      omega
    refine ⟨some a, c, zs.take l, by rw [hlen], by rw [hlen]; exact hl, by omega, by omega, (fun e => by cases e), ?_⟩
    by_cases h0 : l = 0
    · subst h0; exact .inl rfl
    · obtain ⟨b, o, spot⟩ := a
      have hc0 := hcell 0 (by omega)
      have hspot : spot = none := by simpa [Addr.add] using World.cell?_spot hc0
      subst hspot
      refine .inr ⟨b, o, rfl, ?_, fun j x hj => ?_⟩
      · have := World.block_lt_of_cell? _ _ hc0
        simpa [Addr.add] using this
      · have hj' : j < l := by
          have := (List.getElem?_eq_some_iff.1 hj).1
          omega
        have h1 := hcell j (by omega)
        rw [add_plain] at h1
        rw [h1]
        rw [List.getElem?_take_of_lt hj'] at hj
        simp [List.getD, hj]
/-- a message -/
theorem open_msgW {H : Type} {enc : TypeId × Value → H} {w : World} {fuel : Nat} {cs : List Value} {x : DataW H × List MemPlace}
    (h : DataW.trod enc Tryz.prog w 0 (fun _ => true) true fuel 54 cs = some x) (hw : ∀ n ∈ x.1.weights Tryz.prog 54, n ≤ 140737488351232) : ∃ z : Value × Ms, cs = [.int .i64 z.2.dst, z.1] ∧ LIn w z.1 z.2.files := by
  obtain ⟨y0, y1, k, hx, hlen, g0, g1⟩ := trod_pair Tryz.underlying54 h
  rw [cellsMsg] at hlen
  match cs, hlen with
  | [v0, v1], _ =>
    simp only [cellsInt, cellsFsW] at g0 g1
    simp at g0 g1
    have hws : ∀ n, n ∈ y1.1.weights Tryz.prog 46 → n ≤ 140737488351232 := by
      intro n hn
      apply hw
      rw [hx]
      simp only [DataW.weights, Tryz.underlying54]
      exact DataW.weights_mem_each (j := 1) rfl rfl n hn
    obtain ⟨n0, e0, _, _⟩ := DataW.trod_int Tryz.underlying3 g0
    simp at e0
    subst e0
    obtain ⟨l, hl⟩ := open_listW g1 hws
    exact ⟨(v1, ⟨n0, l⟩), rfl, hl⟩
instance : Inhabited (Value × Ms) := ⟨(.bool false, ⟨0, []⟩)⟩
/-- messages -/
theorem open_msW {H : Type} {enc : TypeId × Value → H} {w : World} {fuel : Nat} {v : Value} {x : DataW H × List MemPlace}
    (h : DataW.trod enc Tryz.prog w 0 (fun _ => true) true fuel 24 [v] = some x) (hw : ∀ n ∈ x.1.weights Tryz.prog 24, n ≤ 140737488351232) : ∃ a c ms, v = .slice a ms.length c ∧ MsIn w a c ms := by
  rcases open_slice Tryz.underlying24 h with ⟨hcs, _⟩ | ⟨a, len, cap, m, n, D, Pl, hcs, _, hl, hm, hmm, hx1, hx⟩
  · simp at hcs
    subst hcs
    exact ⟨none, 0, [], rfl, MsIn.zero w⟩
  · simp at hcs
    subst hcs
    simp only [if_true] at hmm
    subst hmm
    have hd1 := congrArg Prod.fst hx1
    simp only at hd1
    have hcap : m * 32 ≤ 140737488351232 := by
      apply hw
      rw [hd1]
      simp only [DataW.weights, Tryz.underlying24, bytesMsg]
      refine List.mem_cons.2 (.inl ?_)
      simp
      omega
    have each : ∀ i, i < len → ∃ z : Value × Ms, LIn w z.1 z.2.files ∧ ∀ k, k < 2 → w.cell? (a.add (i * 2 + k)) = [Value.int .i64 z.2.dst, z.1][k]? := by
      intro i hi
      obtain ⟨cs', h1, h2⟩ := hx i (by omega)
      rw [cellsMsg] at h1
      obtain ⟨_, hlen, hcell⟩ := World.cells?_some h1
      obtain ⟨z, hz, hF⟩ := open_msgW h2 (fun n hn => hw n (by
        rw [hd1]
        simp only [DataW.weights, Tryz.underlying24]
        exact List.mem_cons_of_mem _ (List.mem_append.2 (.inl (weightsAll_mem (List.mem_map.2 ⟨i, List.mem_range.2 hi, rfl⟩) _ hn)))))
      refine ⟨z, hF, fun k hk => ?_⟩
      have := hcell k hk
      rw [add_add] at this
      rw [this, hz]
    obtain ⟨f, hf⟩ := choose_lt each
    refine ⟨some a, m, (List.range len).map fun i => (f i).2, by simp, by simp; omega, by omega, by simp; omega, (fun e => by cases e), ?_⟩
    by_cases h0 : len = 0
    · subst h0; exact .inl rfl
    · obtain ⟨b, o, spot⟩ := a
      have hc := (hf 0 (by omega)).2 0 (by omega)
      have hc' : w.cell? (Addr.add ⟨b, o, spot⟩ (0 * 2 + 0)) = some (.int .i64 (f 0).2.dst) := hc
      have hspot : spot = none := by simpa [Addr.add] using World.cell?_spot hc'
      subst hspot
      refine .inr ⟨b, o, rfl, ?_, fun j mm hj => ?_⟩
      · have := World.block_lt_of_cell? _ _ hc'
        simpa [Addr.add] using this
      · have hj' : j < len := by
          have := (List.getElem?_eq_some_iff.1 hj).1
          simpa using this
        simp [hj'] at hj
        subst hj
        have q0 := (hf j hj').2 0 (by decide)
        have q1 := (hf j hj').2 1 (by decide)
        rw [add_plain] at q0 q1
        exact ⟨(f j).1, q0, by rw [Nat.add_assoc]; exact q1, (hf j hj').1⟩
/-- a world -/
theorem open_world {H : Type} {enc : TypeId × Value → H} {w : World} {fuel : Nat} {cs : List Value} {x : DataW H × List MemPlace}
    (h : DataW.trod enc Tryz.prog w 0 (fun _ => true) true fuel 26 cs = some x) (hw : ∀ n ∈ x.1.weights Tryz.prog 26, n ≤ 140737488351232) : ∃ u v z W, cs = [u, v, z] ∧ WIn w (.agg #[u, v, z]) W := by
  obtain ⟨y0, y1, y2, k, hx, hlen, g0, g1, g2⟩ := trod_tri Tryz.underlying26 h
  rw [cellsWd] at hlen
  match cs, hlen with
  | [v0, v1, v2], _ =>
    simp only [cellsLsW, cellsIsW, cellsMsW] at g0 g1 g2
    simp at g0 g1 g2
    have hws : ∀ n, n ∈ y0.1.weights Tryz.prog 22 ∨ n ∈ y1.1.weights Tryz.prog 23 ∨ n ∈ y2.1.weights Tryz.prog 24 → n ≤ 140737488351232 := by
      intro n hn
      apply hw
      rw [hx]
      simp only [DataW.weights, Tryz.underlying26]
      rcases hn with hn | hn | hn
      · exact DataW.weights_mem_each (j := 0) rfl rfl n hn
      · exact DataW.weights_mem_each (j := 1) rfl rfl n hn
      · exact DataW.weights_mem_each (j := 2) rfl rfl n hn
    obtain ⟨a1, c1, ls, rfl, h1⟩ := open_nsW g0 (fun n hn => hws n (.inl hn))
    obtain ⟨a2, c2, xs, rfl, h2⟩ := open_csW g1 (fun n hn => hws n (.inr (.inl hn)))
    obtain ⟨a3, c3, ms, rfl, h3⟩ := open_msW g2 (fun n hn => hws n (.inr (.inr hn)))
    exact ⟨_, _, _, ⟨ls, xs, ms⟩, rfl, a1, c1, a2, c2, a3, c3, rfl, h1, h2, h3⟩
end Go.Proofs.YtmgmganbamjnmaaGreatDoor
