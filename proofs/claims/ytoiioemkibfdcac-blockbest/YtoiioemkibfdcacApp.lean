/-
  Appends to a row of numbers that the call itself has made.
-/
import Derived.Test.YtoiioemkibfdcacIn0
import Derived.Deep.RegionHeld3
import Derived.Deep.AppendLies
namespace Go.Proofs.Ytoiioemkibfdcac
open Go.RowKit
set_option linter.unusedVariables false

/-- what an append of one number leaves: of r the world ahead, W the world at the append, w' behind it -/
structure App (r W w' : World) (B : Nat) (v : Value) (k : Nat) (xs : List Value) (y : Int) (g cap : Nat) : Prop where
  own : w'.ownsRow B 3 1 (.slice (some ⟨g, 0, none⟩) (k + 1) cap) (k + 1) (xs ++ [.int .i64 y])
  grow : W.grownBy w' v.ownBlock
  spot : v.ownBlock = some g ∨ g = W.heap.size
  lt : g < w'.heap.size
  base : r.grownBy W none
  was : r.ownsRow B 3 1 v k xs

theorem step_app {ops : Array Oper} {o : Oper} {a : Act} {W : World} {K : Act → World → Prop} {Q : Exit → Act → World → Prop} {E : Prop} (hgd : o.guard = none) (s x : Operand)
    (ho : o.op = .call { callee := .builtin .append, args := #[s, x], argTypes := #[36, 36] })
    (r : World) (B : Nat) (v : Value) (k : Nat) (xs : List Value) (hs : a.eval s = v) (hown : r.ownsRow B 3 1 v k xs) (hk : k ≤ 3000) (hB : B ≤ r.heap.size)
    (blk : Nat) (hx : a.eval x = .slice (some ⟨blk, 0, none⟩) 1 1) (y : Int) (hW : r.grownBy W none) (hy : W.cell? ⟨blk, 0, none⟩ = some (.int .i64 y))
    (h : ∀ g cap w', App r W w' B v k xs y g cap → K (a.put o.dst (.slice (some ⟨g, 0, none⟩) (k + 1) cap)) w') :
    if Region.wanted o (yielded ops a.tmps) = true then Oper.wp Try.prog o a W K Q else E := by
  obtain ⟨i0, hi, hz0, hz1, hz2⟩ := info_parts info_int
  refine step_append_lies _ hgd s x 36 ho B 3 i0 (.int .i64 0) 1 8 Try.underlying36 hi hz0 hz1 hz2 rfl (by decide) v k xs hs (own_kept hown hW) ⟨blk, 0, none⟩ 1 1 [.int .i64 y] hx rfl (fun j u hj => new_cell hy hj) (one_cell rfl) (by omega) (by unfold maxLen; omega) (by omega) (Nat.le_trans hB hW.size) _ rfl ?_
  intro g cap w' h1 h2 h3 h4
  exact h g cap w' ⟨h1, h2, h3, h4, hW, hown⟩

theorem App.cell {r W w' : World} {B k g cap : Nat} {v : Value} {xs : List Value} {y : Int} (h : App r W w' B v k xs y g cap) {b i : Nat} {u : Value} (hb : ∀ j, v.ownBlock = some j → j ≠ b) (hc : W.cell? ⟨b, i, none⟩ = some u) : w'.cell? ⟨b, i, none⟩ = some u :=
  h.grow.cell hc (fun e => hb b e.symm rfl)
theorem App.size {r W w' : World} {B k g cap : Nat} {v : Value} {xs : List Value} {y : Int} (h : App r W w' B v k xs y g cap) : r.heap.size ≤ w'.heap.size := Nat.le_trans h.base.size h.grow.size
/-- a row that lies apart is as it was -/
theorem App.other {r W w' : World} {B k g cap : Nat} {v : Value} {xs : List Value} {y : Int} (h : App r W w' B v k xs y g cap) {n : Nat} {v2 : Value} {ys : List Value} (ho : r.ownsRow B 3 1 v2 n ys) (ha : v2.ownBlock = none ∨ v2.ownBlock ≠ v.ownBlock) : w'.ownsRow B 3 1 v2 n ys :=
  (own_kept ho h.base).kept h.grow ha
theorem App.apart {r W w' : World} {B k g cap : Nat} {v : Value} {xs : List Value} {y : Int} (h : App r W w' B v k xs y g cap) {n : Nat} {v2 : Value} {ys : List Value} (ho : r.ownsRow B 3 1 v2 n ys) (ha : v2.ownBlock = none ∨ v2.ownBlock ≠ v.ownBlock) : some g ≠ v2.ownBlock :=
  apart_at ho ha h.spot h.base.size
theorem App.below {r W w' : World} {B k g cap : Nat} {v : Value} {xs : List Value} {y : Int} (h : App r W w' B v k xs y g cap) {a : World} (hb : Below B a r) (hB : B ≤ r.heap.size) : Below B a w' :=
  below_own (below_none hb h.base hB) (own_kept h.was h.base) h.grow (Nat.le_trans hB h.base.size)

end Go.Proofs.Ytoiioemkibfdcac
