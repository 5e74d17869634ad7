/-
  Arrays of numbers.
-/
import Derived.Test.YtfoaaamcpknjnahKeep
import Derived.Test.YtfoaaamcpknjnahCode1
import Derived.Laws.Tables
import Derived.Laws.Rows
import Derived.Laws.ResultCell
import Derived.Laws.CopyRow
import Derived.Deep.RegionHeld3
import Derived.Deep.WholeRow
namespace Go.Proofs.Ytfoaaamcpknjnah
open Go.RowKit
set_option linter.unusedVariables false
set_option maxRecDepth 100000

/-- block g holds the numbers xs -/
def ARow (T : TypeId) (w : World) (g : Nat) (xs : List Int) : Prop := w.heap[g]? = some (.cells (iv xs).toArray T (0, 0))
theorem ARow.lt {T : TypeId} {w : World} {g : Nat} {xs : List Int} (h : ARow T w g xs) : g < w.heap.size := (Array.getElem?_eq_some_iff.1 h).1
theorem iv_at (xs : List Int) (j : Nat) (hj : j < xs.length) : (iv xs).toArray[j]? = some (.int .i64 (xs.getD j 0)) := by simp [iv, List.getD, hj]
theorem ARow.cell {T : TypeId} {w : World} {g : Nat} {xs : List Int} (h : ARow T w g xs) (j : Nat) (hj : j < xs.length) : w.cell? ⟨g, j, none⟩ = some (.int .i64 (xs.getD j 0)) := (heap_row h).trans (iv_at xs j hj)
theorem ARow.frozen {T : TypeId} {w : World} {g : Nat} {xs : List Int} (h : ARow T w g xs) (j : Nat) : w.frozen? ⟨g, j, none⟩ = false := frozen_of_row w g j _ _ h
theorem ARow.row {T : TypeId} {w : World} {g : Nat} {xs : List Int} (h : ARow T w g xs) : Row .i64 w g 0 xs := fun j hj => by rw [Nat.zero_add]; exact h.cell j hj
theorem ARow.keep {T : TypeId} {w w' : World} {g : Nat} {xs : List Int} (h : ARow T w g xs) (hk : w'.heap[g]? = w.heap[g]?) : ARow T w' g xs := hk.trans h
theorem ARow.set {T : TypeId} {w : World} {g : Nat} {xs : List Int} (h : ARow T w g xs) (i : Nat) (v : Int) : ARow T (w.setCell ⟨g, i, none⟩ (.int .i64 v)) g (xs.set i v) := by
  unfold ARow
  rw [heap_setCell_same w g i _ _ _ h]
  simp [iv, List.map_set]
theorem ARow.new (T : TypeId) (w : World) (xs : List Int) (A : Array Value) (hA : A = (iv xs).toArray) : ARow T (w.alloc (.cells A T)) w.heap.size xs := by
  subst hA; exact heap_alloc_new w _
theorem results_cells {fn : Func} {p u : Tmp} {ty tz : TypeId} (h : fn.results = #[.cell p ty, .cell u tz]) (tmps : Array Value) (w : World) (g1 g2 : Nat) (v1 v2 : Value)
    (hp : tmps.getD p undef = .pointer (some ⟨g1, 0, none⟩)) (hu : tmps.getD u undef = .pointer (some ⟨g2, 0, none⟩)) (h1 : (loadVar ty ⟨g1, 0, none⟩).run Try.prog w = .ok v1 w) (h2 : (loadVar tz ⟨g2, 0, none⟩).run Try.prog w = .ok v2 w) :
    (results fn tmps).run Try.prog w = .ok (.tuple #[v1, v2]) w := by
  have hp' : tmps[p]?.getD undef = .pointer (some ⟨g1, 0, none⟩) := by simpa using hp
  have hu' : tmps[u]?.getD undef = .pointer (some ⟨g2, 0, none⟩) := by simpa using hu
  simp [results, h, hp', hu', asAddr, h1, h2]
theorem ARow.range {T : TypeId} {w : World} {g : Nat} {xs : List Int} (h : ARow T w g xs) : w.rangeAt g 0 (iv xs) := fun j v hv => by
  rw [Nat.zero_add]
  exact (heap_row h).trans (by simpa using hv)
theorem iv_all_one (xs : List Int) : (iv xs).toArray.all (·.oneCell') = true := by
  simp [iv]
  intro x hx
  rfl

theorem step_store_same {ops : Array Oper} {o : Oper} {a : Act} {W : World} {K : Act → World → Prop} {Q : Exit → Act → World → Prop} {E : Prop} (hgd : o.guard = none) (T : TypeId) (x y : Operand) (ho : o.op = .store T x y)
    (g : Nat) (xs : List Int) (hx : a.eval x = .pointer (some ⟨g, 0, none⟩)) (hy : a.eval y = .agg (iv xs).toArray) (hA : ARow T W g xs) (hi : (Try.prog.info? T).map (·.size) = some (iv xs).toArray.size) (h : K (a.put o.dst undef) W) : if Region.wanted o (yielded ops a.tmps) = true then Oper.wp Try.prog o a W K Q else E := by
  have e : Region.wanted o (yielded ops a.tmps) = true := by unfold Region.wanted; rw [hgd]
  rw [if_pos e]
  refine wp_store_row T x y ho g _ hx hy T _ hA hi rfl (iv_all_one xs) ?_
  rw [setRow_self W g _ T (0, 0) hA]
  exact h
theorem ARow.load {T : TypeId} {w : World} {g : Nat} {xs : List Int} (h : ARow T w g xs) {d : TypeDesc} (hu : Try.prog.underlying T = some d) (hd : (match d with | .struct _ | .array _ _ => true | _ => false) = true) (hi : (Try.prog.info? T).map (·.size) = some (iv xs).toArray.size) : (loadVar T ⟨g, 0, none⟩).run Try.prog w = .ok (.agg (iv xs).toArray) w :=
  run_loadVar_row w g T T _ (0, 0) d h hu (by cases d <;> first | rfl | exact hd) hi
end Go.Proofs.Ytfoaaamcpknjnah
