/-
  Small facts on memory that all walks of this seat share: what a new row of numbers holds, and that what is older than a call stays as it was.
-/
import Derived.Test.YtfojmdbpjkkpbaeDoorRows
import Derived.WalkKit
import Derived.ProofKit
import Derived.OpenShut
import Derived.ShutString
import Derived.ChangeOld
import Derived.Below
import Derived.BigQuiet
import Derived.BigRegion
import Derived.Deep.QuietTactic
import Derived.WalkSpells
import Derived.WalkLawsBesides
namespace Go.Proofs.YtfojmdbpjkkpbaeDoor
open Go.RowKit

theorem own : ownKnob Tryd.prog.godebug = none := by kernel_rfl
theorem laidOut : laidOutB Tryd.prog = true := by kernel_rfl

/-- block b holds the numbers xs, one behind the other, from place o on -/
def Row (k : IntKind) (w : World) (b o : Nat) (xs : List Int) : Prop := ∀ j, j < xs.length → w.cell? ⟨b, o + j, none⟩ = some (.int k (xs.getD j 0))

theorem Row.new (k : IntKind) (w : World) (xs : List Int) (t : TypeId) (A : Array Value) (b : Nat) (hb : b = w.heap.size) (hA : A = (xs.map (Value.int k)).toArray) : Row k (w.alloc (.cells A t)) b 0 xs := by
  intro j hj
  rw [World.cell?_alloc_at _ _ _ _ hb, hA]
  simp [List.getD, hj]
theorem Row.alloc {k : IntKind} {w : World} {b o : Nat} {xs : List Int} (h : Row k w b o xs) (hb : b < w.heap.size) (x : Obj) : Row k (w.alloc x) b o xs := by
  intro j hj
  rw [World.cell?_alloc_past _ _ _ hb]; exact h j hj
theorem Row.below {k : IntKind} {w w' : World} {B b o : Nat} {xs : List Int} (h : Row k w b o xs) (hB : Below B w w') (hb : b < B) : Row k w' b o xs := by
  intro j hj
  rw [hB.cell (p := ⟨b, o + j, none⟩) hb]; exact h j hj
theorem Row.drewN {k : IntKind} {w : World} {b o : Nat} {xs : List Int} (h : Row k w b o xs) (n : Nat) : Row k (w.drewN n) b o xs := h
theorem Row.at {k : IntKind} {w : World} {b o : Nat} {xs : List Int} (h : Row k w b o xs) {j : Nat} (hj : j < xs.length) : w.cell? ⟨b, o + j, none⟩ = some (.int k (xs.getD j 0)) := h j hj
theorem Row.nil (k : IntKind) (w : World) (b o : Nat) : Row k w b o [] := fun j hj => by simp at hj

theorem bcell {W w1 : World} {B : Nat} (hb : Below B W w1) : (∀ b o, b < B → w1.cell? ⟨b, o, none⟩ = W.cell? ⟨b, o, none⟩) ∧ (∀ b o, b < B → w1.frozen? ⟨b, o, none⟩ = W.frozen? ⟨b, o, none⟩) :=
  ⟨fun b o h => hb.cell (p := ⟨b, o, none⟩) h, fun b o h => hb.frozen (p := ⟨b, o, none⟩) h⟩

theorem below_drewN {B : Nat} {a w : World} (h : Below B a w) (n : Nat) : Below B a (w.drewN n) := ⟨h.os, h.tape, h.output, h.size, h.block⟩

theorem hide {p : Prop} (h : p) : Hid p := h
theorem unhide {p : Prop} (h : Hid p) : p := h

theorem ret_bool {a b : Bool} (h : a = b) : Ending.returned (.bool a) = .returned (.bool b) := by rw [h]
theorem ret_int {k : IntKind} {a b : Int} (h : a = b) : Ending.returned (.int k a) = .returned (.int k b) := by rw [h]
end Go.Proofs.YtfojmdbpjkkpbaeDoor
