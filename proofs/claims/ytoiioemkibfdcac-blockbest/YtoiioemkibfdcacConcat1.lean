/-
  The library's slices.Grow of nothing.
-/
import Derived.Test.YtoiioemkibfdcacKeep
import Derived.OwnWalk
namespace Go.Proofs.Ytoiioemkibfdcac
open Go.RowKit
set_option linter.unusedVariables false
set_option maxRecDepth 100000

theorem zeros_int (n : Nat) : (Builtin.zeroCells (Value.int .i64 0).cells n).toList = iv (List.replicate n 0) := by
  show (Builtin.zeroCells #[Value.int .i64 0] n).toList = _
  unfold Builtin.zeroCells
  apply List.ext_getElem?
  intro i
  by_cases h : i < n
  · simp [h, Nat.mod_one]
  · simp [h]

/-- 'append(nil, make([]int, n)...)' -/
theorem run_append_make (w : World) (ty : TypeId) (n : Nat) (h0 : 0 < n) (hn : n ≤ 100000) :
    ∃ c w', (Builtin.append_ #[36, 3] ty #[.slice none 0 0, .int .i64 (n : Int)]).run Try.prog w = .ok (.slice (some ⟨w.heap.size, 0, none⟩) n c) w' ∧ n ≤ c ∧ c ≤ maxLen ∧ w'.heap[w.heap.size]? = some (.cells (iv (List.replicate c 0)).toArray 3 (0, 0)) ∧ w.grownBy w' none := by
  obtain ⟨i0, hi, hz0, hz1, hz2⟩ := info_parts info_int
  have hge := grownCap_ge w n 0 3
  have hle := grownCap_le_maxLen w n 0 3 (by unfold maxLen; omega)
  have hnz : n ≠ 0 := by omega
  have h63' : ¬ (9223372036854775807 < (n : Int)) := by omega
  have hneg : ¬ ((n : Int) < 0) := by omega
  have h48 : ¬ (281474976710656 < (n : Int) * 8) := by omega
  have h48' : ¬ (281474976710656 < Builtin.nextslicecap n 0 * 8) := by rw [nextslicecap_zero h0]; omega
  have hw : IntKind.i64.wrap (n : Int) = (n : Int) := by simp [IntKind.wrap, IntKind.signed, IntKind.bits]; omega
  refine ⟨grownCap w n 0 3, w.drew.alloc (.cells (Builtin.zeroCells (Value.int .i64 0).cells n ++ Builtin.zeroCells (Value.int .i64 0).cells (grownCap w n 0 3 - n)) 3), ?_, hge, hle, ?_, ?_⟩
  · simp [Builtin.append_, run_underlying Try.underlying36, run_underlying Try.underlying3, sizeOf, typeInfo, zeroValue, hi, hz0, hz1, hz2, asInt, asIntOf, hw, hneg, h48, hnz, h63', h48', Question.forced, run_firstCells_none, newRow, grownCap]
  · have := heap_alloc_new w.drew (.cells (Builtin.zeroCells (Value.int .i64 0).cells n ++ Builtin.zeroCells (Value.int .i64 0).cells (grownCap w n 0 3 - n)) 3)
    rw [show w.drew.heap.size = w.heap.size from rfl] at this
    rw [this]
    congr 2
    apply Array.ext'
    rw [Array.toList_append, zeros_int, zeros_int]
    show _ = iv (List.replicate (grownCap w n 0 3) 0)
    unfold iv
    rw [← List.map_append, List.replicate_append_replicate]
    congr 2
    omega
  · exact ⟨rfl, rfl, rfl, by simp, fun k hk _ => Below.heap_alloc w.drew _ k hk⟩
theorem wpList_append_make (w : World) {ops : Array Oper} {rest : List Oper} {o : Oper} {a : Act} {Q : Exit → Act → World → Prop} (hgd : o.guard = none) (s x : Operand)
    (ho : o.op = .call { callee := .builtin .append, args := #[s, x], argTypes := #[36, 3] }) (n : Nat) (hs : a.eval s = .slice none 0 0) (hx : a.eval x = .int .i64 (n : Int)) (h0 : 0 < n) (hn : n ≤ 100000)
    (h : ∀ c w', n ≤ c → c ≤ maxLen → w'.heap[w.heap.size]? = some (.cells (iv (List.replicate c 0)).toArray 3 (0, 0)) → w.grownBy w' none → wpList Try.prog ops Q rest (a.put o.dst (.slice (some ⟨w.heap.size, 0, none⟩) n c)) w') :
    wpList Try.prog ops Q (o :: rest) a w := by
  refine wpList_plain hgd fun K hK => ?_
  obtain ⟨c, w', hr, h2, h3, h4, h5⟩ := run_append_make w o.type n h0 hn
  unfold Oper.wp execOp
  simp only [ho, resolve, invoke, builtin, Sem.run_bind, Sem.run_pure, Result.andThen_ok, List.map_toArray, List.map_cons, List.map_nil, hs, hx, hr]
  exact hK _ _ (h c w' h2 h3 h4 h5)

theorem grow_nil (n : Nat) (w : World) (h0 : 0 < n) (hn : n ≤ 100000) : Calls Try.prog 89 #[.slice none 0 0, .int .i64 (n : Int)] w fun e w' => ∃ c, e = .returned (.slice (some ⟨w.heap.size, 0, none⟩) 0 c) ∧ w'.ownsRow w.heap.size 3 1 (.slice (some ⟨w.heap.size, 0, none⟩) 0 c) 0 (iv []) ∧ Below w.heap.size w w' := by
  go_enter Try.func89, Try.ntmps89
  go_wp2_with (refine wpList_append_make w rfl (.tmp 20) (.tmp 21) rfl n rfl rfl h0 hn ?_)
  intro c w2 hc1 hc2 hg hgr
  have HB := hide (below_none (Below.refl w.heap.size w) hgr (Nat.le_refl _))
  have HO : Hid (w2.ownsRow w.heap.size 3 1 (.slice (some ⟨w.heap.size, 0, none⟩) 0 c) 0 (iv [])) := ⟨rfl, .inr ⟨w.heap.size, c, _, rfl, Nat.le_refl _, hg, Nat.zero_le _, hc2, by simp, rfl⟩⟩
  clear hg hgr
  go_wp2
  go_ret
  exact ⟨c, rfl, unhide HO, unhide HB⟩
end Go.Proofs.Ytoiioemkibfdcac
