/-
  Package inflate: a reading that gives up is caught.
-/
import Derived.Test.YtfoaaamcpknjnahInf1
import Derived.Defers
import Derived.Recover
import Derived.Laws.Pointers
namespace Go.Proofs.Ytfoaaamcpknjnah
open Go.RowKit
set_option linter.unusedVariables false
set_option maxRecDepth 100000

theorem ass_yes (v : Value) (w : World) : (Instr.typeAssert (.iface 115 v) 20 115 true).run Try.prog w = .ok (.tuple #[v, .bool true]) w := by kernel_rfl
theorem ass_nil (w : World) : (Instr.typeAssert .nilIface 20 115 true).run Try.prog w = .ok (.tuple #[.agg #[.int .i64 0], .bool false]) w := by kernel_rfl

theorem catch_fault (p : Addr) (x y : Int) (older : List PanicEntry) (w : World) (hc : w.cell? p = some (.int .i64 y)) (hz : w.frozen? p = false) (hk : p.block < w.heap.size) :
    CallsD Try.prog 63 #[.pointer (some p)] (.panicking ({ v := .iface 115 (.agg #[.int .i64 x]), recovered := false } :: older)) w fun e u' w' =>
      e = .returned (.tuple #[]) ∧ u' = .panicking ({ v := .iface 115 (.agg #[.int .i64 x]), recovered := true } :: older) ∧ w' = (w.alloc (.cells #[.int .i64 x] 115)).setCell p (.int .i64 x) := by
  refine callsD_of_wpS Try.func63 rfl fun c₀ cs hu => ?_
  apply wpS_seq
  apply wpS_region
  simp [wpOpsS, go_sem, recoverD, hu, Try.ntmps63, Exit.thenS]
  apply wpS_seq
  apply wpS_region
  simp [wpOpsS, go_sem, ass_yes, Exit.thenS, Array.replicate]
  apply wpS_seq
  apply wpS_region
  simp [wpOpsS, go_sem, Exit.thenS]
  refine wpS_cond (t := true) (by simp [Act.eval]) ?_
  simp only [if_true]
  have hc' := (World.cell?_alloc_lt w (.cells #[Value.int .i64 x] 115) p hk).trans hc
  have hz' := (frozen?_alloc_cells w #[Value.int .i64 x] 115 p).trans hz
  apply wpS_region
  simp [wpOpsS, go_sem, hc', hz', bodyPostS, results, Try.results63]

theorem catch_idle (p : Addr) (w : World) :
    CallsD Try.prog 63 #[.pointer (some p)] .returning w fun e u' w' =>
      e = .returned (.tuple #[]) ∧ u' = .returning ∧ w' = w.alloc (.cells #[.int .i64 0] 115) := by
  refine callsD_of_wpS Try.func63 rfl fun c₀ cs hu => ?_
  apply wpS_seq
  apply wpS_region
  simp [wpOpsS, go_sem, recoverD, hu, Try.ntmps63, Exit.thenS]
  apply wpS_seq
  apply wpS_region
  simp [wpOpsS, go_sem, ass_nil, Exit.thenS, Array.replicate]
  apply wpS_seq
  apply wpS_region
  simp [wpOpsS, go_sem, Exit.thenS]
  refine wpS_cond (t := false) (by simp [Act.eval]) ?_
  simp only [Bool.false_eq_true, if_false]
  apply wpS_seq
  apply wpS_region
  simp [wpOpsS, go_sem, Exit.thenS]
  refine wpS_cond (t := false) (by simp [Act.eval]) ?_
  simp only [Bool.false_eq_true, if_false]
  refine wpS_of_wp (wp_skip ?_)
  cases c₀
  simp_all [bodyPostS, results, Try.results63]

/-- caught, of a reading that returns or gives up and leaves the block of the answer as it is -/
theorem caught_any (kf : Nat) (br : Array Value) (Q : Nat → World → Prop) (w : World) (hf : ∀ (args : Array Value) (w : World), (callFunc kf args).run Try.prog w = .ok (.enter kf args) w)
    (hr : Calls Try.prog kf br (w.alloc (.cells #[.int .i64 0] 24)) fun e w' => (∃ x, Q x w' ∧ ((x = 0 ∧ e = .returned (.tuple #[])) ∨ (x ≠ 0 ∧ e = Flt x))) ∧ w'.heap[w.heap.size]? = some (.cells #[.int .i64 0] 24 (0, 0))) :
    Calls Try.prog 46 #[.func (.func kf) br #[]] w fun e w'' => ∃ x w', Q x w' ∧ e = .returned (.int .i64 (x : Int)) ∧ w'.heap.size ≤ w''.heap.size ∧ (∀ j, j < w'.heap.size → j ≠ w.heap.size → (w''.heap[j]? = w'.heap[j]?)) ∧ ∀ B, B ≤ w.heap.size → Below B w' w'' := by
  have hmf : ∀ (fn : Fn) (first cap : Array Value) (w : World), (Instr.makeFunc fn first cap).run Try.prog w = .ok (.func fn first cap) w := fun _ _ _ _ => rfl
  go_enter_defers Try.func46, Try.ntmps46
  go_wp2
  refine hr.mono ?_
  rintro e w' ⟨⟨x, hq, hx⟩, hb⟩
  have hlt : w.heap.size < w'.heap.size := (Array.getElem?_eq_some_iff.1 hb).1
  have hcl : w'.cell? ⟨w.heap.size, 0, none⟩ = some (.int .i64 0) := by simp [World.cell?, hb]
  have hzl : w'.frozen? ⟨w.heap.size, 0, none⟩ = false := by simp [World.frozen?, hb]
  rcases hx with ⟨rfl, rfl⟩ | ⟨hx, rfl⟩
  · go_wp2
    refine leaves_cons (f := 63) (args := #[.pointer (some ⟨w.heap.size, 0, none⟩)]) (by simp) (by simp [go_sem]) ?_
    refine (catch_idle ⟨w.heap.size, 0, none⟩ _).mono ?_
    rintro e u' w'' ⟨rfl, rfl, rfl⟩
    have c1 : ((w'.setCell ⟨w.heap.size, 0, none⟩ (.int .i64 0)).alloc (.cells #[.int .i64 0] 115)).cell? ⟨w.heap.size, 0, none⟩ = some (.int .i64 0) := (World.cell?_alloc_lt _ _ _ (by simpa using hlt)).trans (World.cell?_setCell_same _ _ _ hcl)
    simp [Leaves, settle, results, Try.results46, go_sem, c1]
    refine ⟨0, w', hq, rfl, by omega, fun j hj hn => ?_, fun B hB => ?_⟩
    rotate_left
    · have hb1 := (Below.refl B w').grown (grown_setCell w' w.heap.size 0 (.int .i64 0)) (by omega) (fun g e => by cases e; exact hB)
      exact hb1.alloc (by simp; omega) _
    exact (Below.heap_alloc _ _ j (by simpa using hj)).trans (Below.heap_setCell _ _ _ j hn)
  · go_wp2
    refine leaves_cons (f := 63) (args := #[.pointer (some ⟨w.heap.size, 0, none⟩)]) (by simp) (by simp [go_sem]) ?_
    refine (catch_fault ⟨w.heap.size, 0, none⟩ x 0 [] _ hcl hzl hlt).mono ?_
    rintro e u' w'' ⟨rfl, rfl, rfl⟩
    have c1 : ((w'.alloc (.cells #[.int .i64 (x : Int)] 115)).setCell ⟨w.heap.size, 0, none⟩ (.int .i64 (x : Int))).cell? ⟨w.heap.size, 0, none⟩ = some (.int .i64 (x : Int)) := World.cell?_setCell_same _ _ _ ((World.cell?_alloc_lt _ _ _ hlt).trans hcl)
    have hw : ∀ j, j < w'.heap.size → ¬ j = w.heap.size → ((w'.alloc (.cells #[.int .i64 (x : Int)] 115)).setCell ⟨w.heap.size, 0, none⟩ (.int .i64 (x : Int))).heap[j]? = w'.heap[j]? := fun j hj hn => (Below.heap_setCell _ _ _ j hn).trans (Below.heap_alloc _ _ j hj)
    have hs : ((w'.alloc (.cells #[.int .i64 (x : Int)] 115)).setCell ⟨w.heap.size, 0, none⟩ (.int .i64 (x : Int))).heap.size = w'.heap.size + 1 := by simp
    have hbl : ∀ B, B ≤ w.heap.size → Below B w' ((w'.alloc (.cells #[.int .i64 (x : Int)] 115)).setCell ⟨w.heap.size, 0, none⟩ (.int .i64 (x : Int))) := fun B hB =>
      ((Below.refl B w').alloc (by omega) _).grown (grown_setCell _ w.heap.size 0 _) (by simp; omega) (fun g e => by cases e; exact hB)
    generalize (w'.alloc (.cells #[.int .i64 (x : Int)] 115)).setCell ⟨w.heap.size, 0, none⟩ (.int .i64 (x : Int)) = W at c1 hw hs hbl ⊢
    simp [Leaves, settle, results, Try.results46, go_sem, c1]
    exact ⟨x, w', hq, rfl, by omega, hw, hbl⟩
end Go.Proofs.Ytfoaaamcpknjnah
