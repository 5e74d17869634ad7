/-
  The library's slices.Delete of one message; package world: drop, and what it answers.
-/
import Derived.Test.YtmgmganbamjnmaaGreatDoorS25
namespace Go.Proofs.YtmgmganbamjnmaaGreatDoor
open Go.RowKit
set_option linter.unusedVariables false
set_option linter.unusedSimpArgs false
set_option maxRecDepth 100000

theorem zero_msg (w : World) : (zeroValue 54).run Tryz.prog w = .ok (.agg #[Value.int .i64 0, Value.slice none 0 0]) w := by
  obtain ⟨i0, hi, hz0, hz1, hz2⟩ := info_parts info_msg
  simp [zeroValue, typeInfo, hi, hz0]
theorem run_clear_msg (w : World) (ty : TypeId) (g o c : Nat) (cur : Array Value) (h : w.heap[g]? = some (.cells cur 54 (0, 0))) (ho : o + 2 ≤ cur.size) :
    (Builtin.clear_ #[24] ty #[.slice (some ⟨g, o, none⟩) 1 c]).run Tryz.prog w = .ok (.tuple #[]) (w.setRow g (cur.toList.take o ++ [Value.int .i64 0, Value.slice none 0 0] ++ cur.toList.drop (o + 2)).toArray) := by
  have hst := run_storeCells_at Tryz.prog g o 54 [Value.int .i64 0, Value.slice none 0 0] 0 cur w h (by simpa using ho) (fun v hv => by simp at hv; rcases hv with rfl | rfl <;> rfl)
  have e : (Builtin.zeroCells (Value.agg #[Value.int .i64 0, Value.slice none 0 0]).cells 1).toList = [Value.int .i64 0, Value.slice none 0 0] := by simp [Builtin.zeroCells, Value.cells, List.range, List.range.loop]
  simp only [Nat.add_zero, List.length_cons, List.length_nil, Nat.zero_add, Nat.reduceAdd] at hst
  simp [Builtin.clear_, run_underlying Tryz.underlying24, zero_msg, e, hst]
theorem sl_none (g n c i j k : Nat) (h1 : i ≤ j) (h2 : j ≤ k) (h3 : k ≤ c) (hn : n ≤ c) : ∃ x, ∀ W : World, (Instr.slice 24 (.slice (some ⟨g, 0, none⟩) n c) (some (.int .i64 (i : Int))) (some (.int .i64 (j : Int))) (some (.int .i64 (k : Int)))).run Tryz.prog W = .ok x W := by
  have hs := Tryz.sizeOf54
  have ht := Tryz.underlying24
  have q1 : (i : Int) ≤ (j : Int) := by omega
  have q2 : (j : Int) ≤ (k : Int) := by omega
  have q3 : (k : Int) ≤ (c : Int) := by omega
  by_cases e : k = i
  · subst e
    exact ⟨_, fun W => by simp [go_sem, ht, hs, q1, q2, q3]; rfl⟩
  · exact ⟨_, fun W => by simp [go_sem, ht, hs, q1, q2, q3, e]; rfl⟩
theorem sl_to (g n c i : Nat) (h1 : i ≤ n) (hn : n ≤ c) (W : World) : (Instr.slice 24 (.slice (some ⟨g, 0, none⟩) n c) none (some (.int .i64 (i : Int))) none).run Tryz.prog W = .ok (.slice (some ⟨g, 0, none⟩) i c) W := by
  have hs := Tryz.sizeOf54
  have ht := Tryz.underlying24
  have q1 : (i : Int) ≤ (c : Int) := by omega
  simp [go_sem, ht, hs, q1]
theorem sl_past (g n c j : Nat) (h1 : j ≤ n) (hn : n ≤ c) (W : World) : (Instr.slice 24 (.slice (some ⟨g, 0, none⟩) n c) (some (.int .i64 (j : Int))) none none).run Tryz.prog W = .ok (.slice (some (if c = j then ⟨g, 0, none⟩ else ⟨g, j * 2, none⟩)) (n - j) (c - j)) W := by
  have hs := Tryz.sizeOf54
  have ht := Tryz.underlying24
  have q1 : (j : Int) ≤ (n : Int) := by omega
  have q2 : (n : Int) ≤ (c : Int) := by omega
  by_cases e : c = j
  · subst e
    simp [go_sem, ht, hs, q1, q2]
  · simp [go_sem, ht, hs, q1, q2, e]
theorem sl_last (g n c j : Nat) (h1 : j < n) (hn : n ≤ c) (W : World) : (Instr.slice 24 (.slice (some ⟨g, 0, none⟩) j c) (some (.int .i64 (j : Int))) (some (.int .i64 (n : Int))) none).run Tryz.prog W = .ok (.slice (some ⟨g, j * 2, none⟩) (n - j) (c - j)) W := by
  have hs := Tryz.sizeOf54
  have ht := Tryz.underlying24
  have q1 : (j : Int) ≤ (n : Int) := by omega
  have q2 : (n : Int) ≤ (c : Int) := by omega
  have e : ¬ c = j := by omega
  simp [go_sem, ht, hs, q1, q2, e]
theorem mcells_take (ms : List Mv) (i : Nat) : mcells (ms.take i) = (mcells ms).take (i * 2) := by
  induction ms generalizing i with
  | nil => simp [mcells]
  | cons x r ih =>
    cases i with
    | zero => simp [mcells]
    | succ i =>
      have e1 : mcells ((x :: r).take (i + 1)) = x.cells ++ mcells (r.take i) := rfl
      have e2 : mcells (x :: r) = x.cells ++ mcells r := rfl
      rw [e1, e2, ih, List.take_append]
      have hl : x.cells.length = 2 := rfl
      rw [hl, List.take_of_length_le (l := x.cells) (by rw [hl]; omega), show (i + 1) * 2 - 2 = i * 2 by omega]
theorem mcells_drop (ms : List Mv) (i : Nat) : mcells (ms.drop i) = (mcells ms).drop (i * 2) := by
  induction ms generalizing i with
  | nil => simp [mcells]
  | cons x r ih =>
    cases i with
    | zero => simp [mcells]
    | succ i =>
      have e1 : mcells ((x :: r).drop (i + 1)) = mcells (r.drop i) := rfl
      have e2 : mcells (x :: r) = x.cells ++ mcells r := rfl
      rw [e1, e2, ih, List.drop_append]
      have hl : x.cells.length = 2 := rfl
      rw [hl, List.drop_of_length_le (l := x.cells) (by rw [hl]; omega), show (i + 1) * 2 - 2 = i * 2 by omega]
      rfl
theorem mcells_erase (ms : List Mv) (i : Nat) : mcells (ms.eraseIdx i) = (mcells ms).take (i * 2) ++ (mcells ms).drop ((i + 1) * 2) := by
  rw [List.eraseIdx_eq_take_drop_succ, mcells_app, mcells_take, mcells_drop]
/-- of lists alone: what stands in the row behind the append and the clearing -/
theorem del_row {cur : List Value} {ms : List Mv} {n cap i : Nat} (hn : ms.length = n) (hi : i < n) (hc : n ≤ cap) (hcs : cur.length = cap * 2) (ht : cur.take (n * 2) = mcells ms) :
    let c1 := cur.take (i * 2) ++ mcells (ms.drop (i + 1)) ++ cur.drop (i * 2 + (mcells (ms.drop (i + 1))).length)
    c1.length = cap * 2 ∧ (c1.take ((n - 1) * 2) ++ [Value.int .i64 0, Value.slice none 0 0] ++ c1.drop ((n - 1) * 2 + 2)).length = cap * 2 ∧ (c1.take ((n - 1) * 2) ++ [Value.int .i64 0, Value.slice none 0 0] ++ c1.drop ((n - 1) * 2 + 2)).take ((n - 1) * 2) = mcells (ms.eraseIdx i) := by
  intro c1
  have hl : (mcells (ms.drop (i + 1))).length = (n - (i + 1)) * 2 := by rw [mcells_len, List.length_drop, hn]
  have h1 : c1.length = cap * 2 := by
    simp only [c1, List.length_append, List.length_take, List.length_drop, hl, hcs]
    omega
  have h2 : c1.take ((n - 1) * 2) = mcells (ms.eraseIdx i) := by
    have hlen : (cur.take (i * 2) ++ mcells (ms.drop (i + 1))).length = (n - 1) * 2 := by
      simp only [List.length_append, List.length_take, hl, hcs]
      omega
    show List.take _ (cur.take (i * 2) ++ mcells (ms.drop (i + 1)) ++ _) = _
    rw [← hlen, List.take_left, mcells_erase, mcells_drop, ← ht, List.take_take, Nat.min_eq_left (by omega)]
  refine ⟨h1, ?_, ?_⟩
  · simp only [List.length_append, List.length_take, List.length_drop, h1, List.length_cons, List.length_nil]
    omega
  · rw [List.append_assoc, List.take_append_of_le_length (by rw [List.length_take, h1]; omega), List.take_take, Nat.min_self]
    exact h2
theorem grown_row (w : World) (g : Nat) (cs : Array Value) : w.grownBy (w.setRow g cs) (some g) := ⟨rfl, rfl, rfl, by simp, fun k _ hk => setRow_other w g k _ (fun e => hk (by rw [e]))⟩
set_option maxHeartbeats 4000000 in
theorem delete_any {w : World} {B g n cap i j r : Nat} {ms : List Mv} (h : TRow w B 54 2 (.slice (some ⟨g, 0, none⟩) n cap) n (mcells ms)) (hn : ms.length = n) (hi : i < n) (hj : i + 1 = j) (hr : n - 1 = r) (hlim : n ≤ 1000) :
    Calls Tryz.prog 80 #[.slice (some ⟨g, 0, none⟩) n cap, .int .i64 (i : Int), .int .i64 (j : Int)] w fun e w' => e = .returned (.slice (some ⟨g, 0, none⟩) r cap) ∧ TRow w' B 54 2 (.slice (some ⟨g, 0, none⟩) r cap) r (mcells (ms.eraseIdx i)) ∧ w.grownBy w' (some g) := by
  obtain ⟨i0, hinf, hz0, hz1, hz2⟩ := info_parts info_msg
  rcases h.own.2 with ⟨h1, _⟩ | ⟨g', cap', cur, h1, hbg, hg, hnc, hcm, hcs, htake⟩
  · cases h1
  cases h1
  obtain ⟨hl1, hl2, hl3⟩ := del_row (cur := cur.toList) hn hi hnc (by simpa using hcs) htake
  have hml : (mcells (ms.drop (i + 1))).length = (n - (i + 1)) * 2 := by rw [mcells_len, List.length_drop, hn]
  obtain ⟨x1, hx1⟩ := sl_none g n cap i (i + 1) n (by omega) (by omega) hnc hnc
  have hsl1 := fun W => sl_to g n cap i (by omega) hnc W
  have hsl2 := fun W => sl_past g n cap (i + 1) (by omega) hnc W
  have hsl3 := fun W => sl_last g n cap (n - 1) (by omega) hnc W
  have hold : ∀ u ∈ cur.toList, nfv u = true := by
    intro u hu
    obtain ⟨j, hj⟩ := List.getElem?_of_mem hu
    refine h.nf g rfl j u ?_
    rw [heap_row hg]
    simpa using hj
  obtain ⟨A', hA'⟩ : ∃ A' : Addr, (if cap = i + 1 then ⟨g, 0, none⟩ else ⟨g, (i + 1) * 2, none⟩) = A' := ⟨_, rfl⟩
  have hnews : ∀ (W : World), W.heap[g]? = some (.cells cur 54 (0, 0)) → ∀ (j : Nat) (u : Value), (mcells (ms.drop (i + 1)))[j]? = some u → W.cell? (A'.add j) = some u := by
    intro W hW j u hj
    have hjl := (List.getElem?_eq_some_iff.1 hj).1
    rw [hml] at hjl
    have hne : ¬ cap = i + 1 := by omega
    rw [← hA', if_neg hne]
    have e2 : (⟨g, (i + 1) * 2, none⟩ : Addr).add j = ⟨g, (i + 1) * 2 + j, none⟩ := by unfold Addr.add; split <;> simp_all
    rw [e2, heap_row hW]
    rw [mcells_drop, ← htake, List.getElem?_drop, List.getElem?_take_of_lt (by omega)] at hj
    simpa using hj
  obtain ⟨c1, hc1⟩ : ∃ c1, cur.toList.take (i * 2) ++ mcells (ms.drop (i + 1)) ++ cur.toList.drop (i * 2 + (mcells (ms.drop (i + 1))).length) = c1 := ⟨_, rfl⟩
  have hr1 : ∀ (W : World), W.heap[g]? = some (.cells cur 54 (0, 0)) → (Builtin.append_ #[24, 24] 24 #[.slice (some ⟨g, 0, none⟩) i cap, .slice (some A') (n - (i + 1)) (cap - (i + 1))]).run Tryz.prog W = .ok (.slice (some ⟨g, 0, none⟩) (n - 1) cap) (W.setRow g c1.toArray) := by
    intro W hW
    have := run_append_room (P := Tryz.prog) W 24 24 54 i0 Tryz.underlying24 hinf g i cap cur hW A' (n - (i + 1)) (cap - (i + 1)) (mcells (ms.drop (i + 1))) (by rw [hz1]; exact hml) (hnews W hW) (fun u hu => (mcells_nf _ u hu).2) (by omega) (by rw [hz1, hml, hcs]; omega)
    rw [hz1, hc1, show i + (n - (i + 1)) = n - 1 by omega] at this
    exact this
  rw [hA'] at hsl2
  rw [hc1] at hl1 hl2 hl3
  have hc1n : ∀ u ∈ c1, nfv u = true := by
    intro u hu
    rw [← hc1] at hu
    simp only [List.mem_append] at hu
    rcases hu with (hu | hu) | hu
    · exact hold u (List.mem_of_mem_take hu)
    · exact (mcells_nf _ u hu).1
    · exact hold u (List.mem_of_mem_drop hu)
  have hg1 : ∀ W : World, W.heap[g]? = some (.cells cur 54 (0, 0)) → (W.setRow g c1.toArray).heap[g]? = some (.cells c1.toArray 54 (0, 0)) := fun W hW => setRow_heap W g cur _ _ _ hW
  obtain ⟨c2, hc2⟩ : ∃ c2, c1.take ((n - 1) * 2) ++ [Value.int .i64 0, Value.slice none 0 0] ++ c1.drop ((n - 1) * 2 + 2) = c2 := ⟨_, rfl⟩
  have hr2 : ∀ (W : World) (ty : TypeId), W.heap[g]? = some (.cells cur 54 (0, 0)) → (Builtin.clear_ #[24] ty #[.slice (some ⟨g, (n - 1) * 2, none⟩) (n - (n - 1)) (cap - (n - 1))]).run Tryz.prog (W.setRow g c1.toArray) = .ok (.tuple #[]) ((W.setRow g c1.toArray).setRow g c2.toArray) := by
    intro W ty hW
    have := run_clear_msg (W.setRow g c1.toArray) ty g ((n - 1) * 2) (cap - (n - 1)) c1.toArray (hg1 W hW) (by simp [hl1]; omega)
    simp only [hc2] at this
    rw [show n - (n - 1) = 1 by omega]
    exact this
  rw [hc2] at hl2 hl3
  have hc2n : ∀ u ∈ c2, nfv u = true := by
    intro u hu
    rw [← hc2] at hu
    simp only [List.mem_append, List.mem_cons, List.not_mem_nil, or_false] at hu
    rcases hu with (hu | rfl | rfl) | hu
    · exact hc1n u (List.mem_of_mem_take hu)
    · rfl
    · rfl
    · exact hc1n u (List.mem_of_mem_drop hu)
  have HF : Hid (∀ W : World, W.heap[g]? = some (.cells cur 54 (0, 0)) → TRow ((W.setRow g c1.toArray).setRow g c2.toArray) B 54 2 (.slice (some ⟨g, 0, none⟩) (n - 1) cap) (n - 1) (mcells (ms.eraseIdx i))) := hide (fun W hW => by
    have h2 := setRow_heap (W.setRow g c1.toArray) g c1.toArray c2.toArray _ _ (hg1 W hW)
    refine ⟨⟨?_, .inr ⟨g, cap, c2.toArray, rfl, hbg, h2, by omega, hcm, by simpa using hl2, hl3⟩⟩, fun q e => by cases e; exact NFb.row h2 hc2n⟩
    rw [mcells_len, List.length_eraseIdx, hn, if_pos hi])
  have HG : Hid (w.drew.heap[g]? = some (.cells cur 54 (0, 0))) := hide hg
  have HGR : Hid (w.grownBy ((w.drew.setRow g c1.toArray).setRow g c2.toArray) (some g)) := hide (grown_trans (grown_drew (grown_refl w _) |> fun q => grown_trans q (grown_row _ g _)) (grown_row _ g _))
  have HR1 := hide hr1
  have hr2' := fun ty => hr2 w.drew ty hg
  rw [hj] at hx1 hsl2
  rw [hr] at hsl3 HF
  obtain ⟨q, hq⟩ : ∃ q, n - j = q := ⟨_, rfl⟩
  obtain ⟨cq, hcq⟩ : ∃ cq, cap - j = cq := ⟨_, rfl⟩
  obtain ⟨z, hz⟩ : ∃ z, n - r = z := ⟨_, rfl⟩
  obtain ⟨cz, hcz⟩ : ∃ cz, cap - r = cz := ⟨_, rfl⟩
  obtain ⟨r2, hr2e⟩ : ∃ r2, r * 2 = r2 := ⟨_, rfl⟩
  rw [hq, hcq] at hsl2
  rw [hz, hcz, hr2e] at hsl3
  simp only [hr, hz, hcz, hr2e] at hr2'
  have HRR := hide (hr1 w.drew hg)
  rw [hj, hr, hq, hcq] at HRR
  have hne : ((i : Int) == (j : Int)) = false := by rw [beq_eq_false_iff_ne]; omega
  clear hr1 hr2 hg1 hnews hold hc1n hc2n hl1 hl2 hl3 hml h hg htake hcs hcm hbg HR1 hj hr hq hcq hz hcz hr2e hc1 hc2 hA' hz0 hz1 hz2 hinf hn
  go_enter Tryz.func80, Tryz.ntmps80
  go_upto_region 5 with fail
  go_cut [0] (fun v0 wc => v0 = .slice (some ⟨g, 0, none⟩) r cap ∧ wc = w.drew.setRow g c1.toArray)
  case first =>
    refine wp_region_held_drew (S := fun _ => True) (by kernel_rfl) trivial (fun hHeld => ?_)
    refine wpAnyH_take (i := 0) (v := .slice (some ⟨g, 0, none⟩) n cap) rfl (by kernel_rfl) (by kernel_rfl) (by kernel_rfl) (fun _ _ _ h => h) (Or.inl ⟨by rfl, fun W hS => by go_simp⟩) hHeld ?_
    simp only [Act.put, List.setIfInBounds_toArray, List.set_cons_zero, List.set_cons_succ]
    refine wpAnyH_take (i := 1) (v := .int .i64 (i : Int)) rfl (by kernel_rfl) (by kernel_rfl) (by kernel_rfl) (fun _ _ _ h => h) (Or.inl ⟨by rfl, fun W hS => by go_simp⟩) hHeld ?_
    simp only [Act.put, List.setIfInBounds_toArray, List.set_cons_zero, List.set_cons_succ]
    refine wpAnyH_take (i := 2) (v := .slice (some ⟨g, 0, none⟩) i cap) rfl (by kernel_rfl) (by kernel_rfl) (by kernel_rfl) (fun _ _ _ h => h) (Or.inl ⟨by rfl, fun W hS => by go_simp⟩) hHeld ?_
    simp only [Act.put, List.setIfInBounds_toArray, List.set_cons_zero, List.set_cons_succ]
    refine wpAnyH_take (i := 3) (v := .slice (some ⟨g, 0, none⟩) n cap) rfl (by kernel_rfl) (by kernel_rfl) (by kernel_rfl) (fun _ _ _ h => h) (Or.inl ⟨by rfl, fun W hS => by go_simp⟩) hHeld ?_
    simp only [Act.put, List.setIfInBounds_toArray, List.set_cons_zero, List.set_cons_succ]
    refine wpAnyH_take (i := 4) (v := .int .i64 (j : Int)) rfl (by kernel_rfl) (by kernel_rfl) (by kernel_rfl) (fun _ _ _ h => h) (Or.inl ⟨by rfl, fun W hS => by go_simp⟩) hHeld ?_
    simp only [Act.put, List.setIfInBounds_toArray, List.set_cons_zero, List.set_cons_succ]
    refine wpAnyH_take (i := 5) (v := .slice (some A') q cq) rfl (by kernel_rfl) (by kernel_rfl) (by kernel_rfl) (fun _ _ _ h => h) (Or.inl ⟨by rfl, fun W hS => by go_simp⟩) hHeld ?_
    simp only [Act.put, List.setIfInBounds_toArray, List.set_cons_zero, List.set_cons_succ]
    refine wpAnyH_ready (rs := [6]) (by kernel_rfl) (by simp) (AllReadyH.cons rfl (fun K hK => ?_) AllReadyH.nil)
    rw [if_pos (by rfl)]
    refine wp_append_run (.tmp 22) (.tmp 25) 24 rfl rfl rfl (unhide HRR) ?_
    refine hK.out _ _ trivial (fun _ => ?_)
    clear hK K
    simp only [Act.put, List.setIfInBounds_toArray, List.set_cons_zero, List.set_cons_succ]
    refine wpAnyH_ready (rs := [7]) (by kernel_rfl) (by simp) (AllReadyH.cons rfl (fun K hK => ?_) AllReadyH.nil)
    go_simp
    refine hK.out _ _ trivial (fun _ => ?_)
    clear hK K
    refine wpAnyH_done (by kernel_rfl) ?_ _
    go_wp2_with fail
    go_meet
    exact ⟨rfl, rfl⟩
  case rest =>
    obtain ⟨rfl, rfl⟩ := hcut
    go_wp2
    go_ret
    exact ⟨rfl, unhide HF _ (unhide HG), unhide HGR⟩
theorem drop_any (k : Int) (w : World) :
    Calls Tryz.prog 60 #[.int .i64 k] w fun e w' => e = .returned (.func (.func 79) #[] #[.pointer (some ⟨w.heap.size, 0, none⟩)]) ∧ w' = w.alloc (.cells #[.int .i64 k] 3) := by
  go_enter Tryz.func60, Tryz.ntmps60
  go_wp2
  go_ret
  exact ⟨rfl, rfl⟩
end Go.Proofs.YtmgmganbamjnmaaGreatDoor

/-
  Package world: what drop answers.
-/
namespace Go.Proofs.YtmgmganbamjnmaaGreatDoor
open Go.RowKit
set_option linter.unusedVariables false
set_option linter.unusedSimpArgs false
set_option maxRecDepth 100000

/-- the rows, if the messages' one was worked upon -/
theorem OW.msgs {w w' : World} {B g : Nat} {vn vc vm vm' : Value} {ns : List Lv} {cs : List Int} {ms ms' : List Mv} (h : OW w B vn vc vm ns cs ms) (hg : w.grownBy w' (some g)) (hm : vm.ownBlock = some g) (ht : TRow w' B 54 2 vm' ms'.length (mcells ms')) (hs : ∀ x ∈ ms', x ∈ ms) : OW w' B vn vc vm' ns cs ms' := by
  have hnf : ∀ q, some g = some q → NFb w q := fun q e => by cases e; exact h.m.nf g hm
  have hN := h.n.ne h.m (by decide)
  have hC := h.c.ne h.m (by decide)
  rw [hm] at hN hC
  exact ⟨h.n.kept hg hN, h.c.kept hg hC, ht, fun x hx => (h.la x hx).offN hg hnf, fun x hx => (h.ma x (hs x hx)).offN hg hnf⟩
set_option maxHeartbeats 4000000 in
theorem drop1_any {w : World} {B bp : Nat} {vn vc vm : Value} {ns : List Lv} {cs : List Int} {ms : List Mv} {i : Nat} (h : OW w B vn vc vm ns cs ms) (hB : B ≤ w.heap.size) (hi : i < ms.length) (hlim : ms.length ≤ 1000) (hcp : w.cell? ⟨bp, 0, none⟩ = some (.int .i64 (i : Int))) (hbp : bp < B) :
    Calls Tryz.prog 79 #[.agg #[vn, vc, vm], .pointer (some ⟨bp, 0, none⟩)] w fun e w' => ∃ vm', e = .returned (.agg #[vn, vc, vm']) ∧ OW w' B vn vc vm' ns cs (ms.eraseIdx i) ∧ Below B w w' ∧ KpW w w' := by
  obtain ⟨m, hm⟩ : ∃ m, ms.length = m := ⟨_, rfl⟩
  rw [hm] at hi hlim
  obtain ⟨g, cap, hvm, hg1, hg2⟩ := own_shape h.m.own (by omega)
  rw [hm] at hvm
  subst hvm
  obtain ⟨an, cn, hvn⟩ := h.n.sl
  obtain ⟨ac, cc, hvc⟩ := h.c.sl
  obtain ⟨n, hn⟩ : ∃ n, ns.length = n := ⟨_, rfl⟩
  obtain ⟨q, hq⟩ : ∃ q, cs.length = q := ⟨_, rfl⟩
  rw [hn] at hvn
  rw [hq] at hvc
  subst hvn hvc
  obtain ⟨w1, hw1, hz1, hb1, hx0, hx1⟩ := two_boxes w (.slice an n cn) (.slice ac q cc) (.slice (some ⟨g, 0, none⟩) m cap)
  have h1 := h.below hb1
  have hcp1 : w1.cell? ⟨bp, 0, none⟩ = some (.int .i64 (i : Int)) := (hb1.cell (p := ⟨bp, 0, none⟩) (by show bp < _; omega)).trans hcp
  obtain ⟨r, hr⟩ : ∃ r, m - 1 = r := ⟨_, rfl⟩
  have hel : (ms.eraseIdx i).length = r := by rw [List.length_eraseIdx, hm, if_pos hi]; exact hr
  have HKC := hide (fun (W W' : World) (k1 : KpW w W) (k2 : W.grownBy W' (some g)) => KpW.row (v := .slice (some ⟨g, 0, none⟩) m cap) k1 h.m k2 (by decide))
  have HD := hide (delete_any (by have := h1.m; rw [hm] at this; exact this) hm hi rfl hr hlim)
  have e1 : (((i + 1 : Nat)) : Int) = (i : Int) + 1 := by omega
  rw [e1] at HD
  have q2 := heap_row (i := 2) hx0
  have HX := hide (And.intro hx0 hx1)
  have HZ := hide hz1
  have HB := hide (And.intro hb1 hB)
  have H1 := hide h1
  have HEL := hide hel
  have HGL := hide (And.intro hg1 hg2)
  have HW1 := hide hw1
  rw [← hw1] at hcp1 q2 HD
  clear h h1 hm hn hq hx0 hx1 hz1 hb1 hw1 hcp hr hel hg1 hg2 hB e1
  go_enter Tryz.func79, Tryz.ntmps79
  go_wp2_with fail
  refine (unhide HD).mono ?_
  rintro e w4 ⟨rfl, hT, hg⟩
  rw [show (w.alloc (wbox (.slice an n cn) (.slice ac q cc) (.slice (some ⟨g, 0, none⟩) m cap))).alloc (wbox (.slice none 0 0) (.slice none 0 0) (.slice none 0 0)) = w1 from unhide HW1] at hg
  obtain ⟨hx0, hx1⟩ := unhide HX
  obtain ⟨hb1, hB⟩ := unhide HB
  obtain ⟨hg1, hg2⟩ := unhide HGL
  have hz1 := unhide HZ
  rw [← unhide HEL] at hT
  have h4 := (unhide H1).msgs hg rfl hT (fun x hx => List.mem_of_mem_eraseIdx hx)
  rw [unhide HEL] at h4
  have y0 := (hg.block w.heap.size (by omega) (fun e => by have := Option.some.inj e; omega)).trans hx0
  have y1 := (hg.block (w.heap.size + 1) (by omega) (fun e => by have := Option.some.inj e; omega)).trans hx1
  have hB4 : Below B w w4 := (hb1.mono hB).grown hg (by omega) (fun q e => by cases e; exact hg1)
  have a0 := heap_row (i := 2) y0
  have a1 := frozen_of_row w4 w.heap.size 2 _ _ y0
  have s5 := grown_setCell w4 w.heap.size 2 (.slice (some ⟨g, 0, none⟩) r cap)
  have h5 := h4.offT s5 y0 (nf3 y0) (by decide) (by decide) (by decide)
  have z0 := heap_setCell_same w4 w.heap.size 2 _ _ (.slice (some ⟨g, 0, none⟩) r cap) y0
  have z1 := (s5.block (w.heap.size + 1) (by have := hg.size; omega) (fun e => by have := Option.some.inj e; omega)).trans y1
  have hB5 := hB4.grown s5 (by have := hg.size; omega) (fun q e => by cases e; exact hB)
  have b0 := heap_row (i := 0) z0
  have b1 := heap_row (i := 1) z0
  have b2 := heap_row (i := 2) z0
  have c0 := heap_row (i := 0) z1
  have c1 := heap_row (i := 1) z1
  have c2 := heap_row (i := 2) z1
  have f0 := frozen_of_row _ _ 0 _ _ z1
  have f1 := frozen_of_row _ _ 1 _ _ z1
  have f2 := frozen_of_row _ _ 2 _ _ z1
  obtain ⟨p1, p2⟩ := put3 (.slice an n cn) (.slice ac q cc) (.slice (some ⟨g, 0, none⟩) r cap) z1
  have h6 := h5.offT p2 z1 (nf3 z1) (by decide) (by decide) (by decide)
  have hB6 := hB5.grown p2 (by have := (Array.getElem?_eq_some_iff.1 z1).1; omega) (fun q e => by cases e; omega)
  have HKF := hide ((((unhide HKC _ _ (KpW.below hb1) hg).new s5 (by omega))).new p2 (by omega))
  have HP := hide p1
  have H6 := hide h6
  have HB6 := hide hB6
  clear hT hg h4 y0 y1 hB4 s5 h5 z0 z1 hB5 p1 p2 h6 hB6 hx0 hx1 hb1 hB hz1 hg1 hg2 hcp1 q2
  go_wp2
  refine bodyPost_ret (v := .agg #[.slice an n cn, .slice ac q cc, .slice (some ⟨g, 0, none⟩) r cap]) ?_ rfl ⟨_, rfl, unhide H6, unhide HB6, unhide HKF⟩
  exact results_cell_row rfl _ _ _ _ _ _ _ rfl (unhide HP) Tryz.underlying26 rfl (by kernel_rfl)
end Go.Proofs.YtmgmganbamjnmaaGreatDoor
