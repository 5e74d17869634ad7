/-
  Files, of lists alone: how texts stand, which of two files is newer, what is wrong with files.
-/
import Derived.Test.YtmgmganbamjnmaaDoorQ0
import Derived.Lib.Bytealg
import GoSem.Op.String
import Derived.Test.YtmgmganbamjnmaaDoorRows
import Derived.WalkKit
import Derived.ProofKit
import Derived.OpenShut
import Derived.ShutString
import Derived.ChangeOld
import Derived.Below
import Derived.BigQuiet
import Derived.BigRegion
import Derived.Deep.QuietTactic
import Derived.WalkSpells
import Derived.WalkLawsBesides
namespace Go.Proofs.YtmgmganbamjnmaaDoor
open Go
set_option linter.unusedVariables false

/-- a file: its name, its bytes, its stamp, its node, gone or not -/
structure Fl where
  name : List UInt8
  bytes : List UInt8
  stamp : Int
  node : Int
  gone : Bool
deriving DecidableEq

/-- how two texts stand -/
abbrev cmpB (a b : List UInt8) : Int := Lib.compareBytes a b
theorem cmpB_cons (a b : UInt8) (x y : List UInt8) : cmpB (a :: x) (b :: y) = if a < b then -1 else if b < a then 1 else cmpB x y := rfl
theorem u8_lt (a b : UInt8) : (a < b) = (a.toNat < b.toNat) := by rw [UInt8.lt_iff_toNat_lt]
theorem u8_ne {a b : UInt8} (h1 : ¬ a < b) (h2 : ¬ b < a) : a = b := by
  rw [u8_lt] at h1 h2
  exact UInt8.toNat_inj.1 (by omega)
theorem cmpB_self : ∀ a : List UInt8, cmpB a a = 0
  | [] => rfl
  | a :: x => by
    rw [cmpB_cons, if_neg (by rw [u8_lt]; omega), if_neg (by rw [u8_lt]; omega)]
    exact cmpB_self x
theorem cmpB_eq : ∀ {a b : List UInt8}, cmpB a b = 0 → a = b
  | [], [], _ => rfl
  | [], _ :: _, h => by cases h
  | _ :: _, [], h => by cases h
  | a :: x, b :: y, h => by
    rw [cmpB_cons] at h
    split at h
    · cases h
    · split at h
      · cases h
      · rename_i h1 h2
        rw [u8_ne h1 h2, cmpB_eq h]
theorem cmpB_zero {a b : List UInt8} : cmpB a b = 0 ↔ a = b := ⟨cmpB_eq, fun h => by rw [h, cmpB_self]⟩
theorem cmpB_three : ∀ a b : List UInt8, cmpB a b = -1 ∨ cmpB a b = 0 ∨ cmpB a b = 1
  | [], [] => .inr (.inl rfl)
  | [], _ :: _ => .inl rfl
  | _ :: _, [] => .inr (.inr rfl)
  | a :: x, b :: y => by
    rw [cmpB_cons]
    split
    · exact .inl rfl
    · split
      · exact .inr (.inr rfl)
      · exact cmpB_three x y
theorem cmpB_anti : ∀ a b : List UInt8, cmpB b a = - cmpB a b
  | [], [] => rfl
  | [], _ :: _ => rfl
  | _ :: _, [] => rfl
  | a :: x, b :: y => by
    rw [cmpB_cons, cmpB_cons]
    by_cases h1 : a < b
    · have h2 : ¬ b < a := by rw [u8_lt] at h1 ⊢; omega
      rw [if_neg h2, if_pos h1, if_pos h1]; rfl
    · by_cases h2 : b < a
      · rw [if_pos h2, if_neg h1, if_pos h2]
      · rw [if_neg h2, if_neg h1, if_neg h1, if_neg h2]
        exact cmpB_anti x y
theorem cmpB_trans : ∀ {a b c : List UInt8}, cmpB a b < 0 → cmpB b c < 0 → cmpB a c < 0
  | [], [], _, h, _ => by cases h
  | [], _ :: _, [], _, h => by cases h
  | [], _ :: _, _ :: _, _, _ => by show (-1 : Int) < 0; decide
  | _ :: _, [], _, h, _ => by cases h
  | _ :: _, _ :: _, [], _, h => by cases h
  | a :: x, b :: y, c :: z, h, k => by
    rw [cmpB_cons] at h k ⊢
    by_cases h1 : a < b
    · by_cases k1 : b < c
      · have : a < c := by rw [u8_lt] at h1 k1 ⊢; omega
        rw [if_pos this]; decide
      · rw [if_neg k1] at k
        by_cases k2 : c < b
        · rw [if_pos k2] at k; cases k
        · have := u8_ne k1 k2
          subst this
          rw [if_pos h1]; decide
    · rw [if_neg h1] at h
      by_cases h2 : b < a
      · rw [if_pos h2] at h; cases h
      · rw [if_neg h2] at h
        have := u8_ne h1 h2
        subst this
        by_cases k1 : a < c
        · rw [if_pos k1]; decide
        · rw [if_neg k1] at k ⊢
          by_cases k2 : c < a
          · rw [if_pos k2] at k; cases k
          · rw [if_neg k2] at k ⊢
            exact cmpB_trans h k
theorem less_cmp : ∀ a b : List UInt8, Op.bytesLess a b = decide (cmpB a b < 0)
  | [], [] => rfl
  | [], _ :: _ => rfl
  | _ :: _, [] => rfl
  | a :: x, b :: y => by
    show (decide (a < b) || (a == b && Op.bytesLess x y)) = _
    rw [cmpB_cons, less_cmp x y]
    by_cases h1 : a < b
    · simp [h1]
    · rw [if_neg h1]
      by_cases h2 : b < a
      · have : (a == b) = false := by
          rw [beq_eq_false_iff_ne]
          rintro rfl
          exact h1 h2
        rw [if_pos h2, this]
        simp [h1]
      · have := u8_ne h1 h2
        subst this
        rw [if_neg h2]
        simp [h1]

/-- how two numbers stand, how two bools -/
def cmpI (a b : Int) : Int := if a < b then -1 else if b < a then 1 else 0
def cmpG (a b : Bool) : Int := if a = b then 0 else if a then 1 else -1
/-- the first that is no nought -/
def nz (a b : Int) : Int := if a ≠ 0 then a else b
/-- 1 if the first one is newer, -1 if the second one is -/
def nwr (a b : Fl) : Int := nz (cmpI a.stamp b.stamp) (nz (cmpI a.node b.node) (nz (cmpG a.gone b.gone) (cmpB a.bytes b.bytes)))

/-- what an order must be: P a b how they stand -/
structure Ord3 {α : Type} (P : α → α → Int) : Prop where
  three : ∀ a b, P a b = -1 ∨ P a b = 0 ∨ P a b = 1
  anti : ∀ a b, P b a = - P a b
  trans : ∀ {a b c}, P a b ≤ 0 → P b c ≤ 0 → P a c ≤ 0
  zero : ∀ {a b c}, P a b = 0 → P a c = P b c
theorem nz_ord {α : Type} {P Q : α → α → Int} (hP : Ord3 P) (hQ : Ord3 Q) : Ord3 (fun a b => nz (P a b) (Q a b)) where
  three a b := by
    unfold nz; split
    · exact hP.three a b
    · exact hQ.three a b
  anti a b := by
    show nz (P b a) (Q b a) = - nz (P a b) (Q a b)
    rw [hP.anti a b, hQ.anti a b]
    unfold nz; split <;> split <;> omega
  trans {a b c} h k := by
    show nz (P a c) (Q a c) ≤ 0
    have h : nz (P a b) (Q a b) ≤ 0 := h
    have k : nz (P b c) (Q b c) ≤ 0 := k
    have h1 : P a b ≤ 0 := by unfold nz at h; split at h <;> omega
    have k1 : P b c ≤ 0 := by unfold nz at k; split at k <;> omega
    have t := hP.trans h1 k1
    by_cases e : P a c = 0
    · have h0 : P a b = 0 := by
        have := hP.anti a c
        have k3 := hP.trans k1 (by omega : P c a ≤ 0)
        have := hP.anti a b
        omega
      have k0 : P b c = 0 := by rw [← hP.zero h0]; exact e
      unfold nz at h k ⊢
      rw [if_neg (by omega)] at h k ⊢
      exact hQ.trans h k
    · unfold nz; rw [if_pos e]; exact t
  zero {a b c} h := by
    show nz (P a c) (Q a c) = nz (P b c) (Q b c)
    have h : nz (P a b) (Q a b) = 0 := h
    have h1 : P a b = 0 := by unfold nz at h; split at h <;> omega
    have h2 : Q a b = 0 := by unfold nz at h; rw [if_neg (by omega)] at h; exact h
    rw [hP.zero h1, hQ.zero h2]
theorem cmpI_ord : Ord3 cmpI where
  three a b := by
    unfold cmpI
    split
    · exact .inl rfl
    · split
      · exact .inr (.inr rfl)
      · exact .inr (.inl rfl)
  anti a b := by unfold cmpI; repeat (first | omega | split)
  trans {a b c} h k := by unfold cmpI at *; repeat (first | omega | split at h | split at k | split)
  zero {a b c} h := by unfold cmpI at *; repeat (first | omega | split at h | split)
theorem cmpG_ord : Ord3 cmpG where
  three a b := by cases a <;> cases b <;> decide
  anti a b := by cases a <;> cases b <;> decide
  trans {a b c} h k := by revert h k; cases a <;> cases b <;> cases c <;> decide
  zero {a b c} h := by revert h; cases a <;> cases b <;> cases c <;> decide
theorem cmpB_ord : Ord3 cmpB where
  three := cmpB_three
  anti := cmpB_anti
  trans {a b c} h k := by
    rcases cmpB_three a b with h1 | h1 | h1
    · rcases cmpB_three b c with k1 | k1 | k1
      · have := @cmpB_trans a b c (by omega) (by omega); omega
      · rw [← cmpB_eq k1]; omega
      · omega
    · rw [cmpB_eq h1]; exact k
    · omega
  zero {a b c} h := by rw [cmpB_eq h]
theorem pull_ord {α β : Type} {P : β → β → Int} (h : Ord3 P) (f : α → β) : Ord3 (fun a b => P (f a) (f b)) where
  three a b := h.three _ _
  anti a b := h.anti _ _
  trans {a b c} x y := h.trans (b := f b) x y
  zero {a b c} x := h.zero x
theorem nwr_ord : Ord3 nwr := nz_ord (pull_ord cmpI_ord Fl.stamp) (nz_ord (pull_ord cmpI_ord Fl.node) (nz_ord (pull_ord cmpG_ord Fl.gone) (pull_ord cmpB_ord Fl.bytes)))
theorem nz_zero {a b : Int} (h : nz a b = 0) : a = 0 ∧ b = 0 := by
  unfold nz at h
  split at h
  · omega
  · exact ⟨by omega, h⟩
theorem cmpI_zero {a b : Int} (h : cmpI a b = 0) : a = b := by
  unfold cmpI at h
  split at h
  · cases h
  · split at h
    · cases h
    · omega
theorem cmpG_zero {a b : Bool} (h : cmpG a b = 0) : a = b := by revert h; cases a <;> cases b <;> decide
/-- nothing parts them, and their names are alike: they are alike -/
theorem nwr_zero {a b : Fl} (h : nwr a b = 0) (hn : a.name = b.name) : a = b := by
  obtain ⟨h1, h2⟩ := nz_zero h
  obtain ⟨h2, h3⟩ := nz_zero h2
  obtain ⟨h3, h4⟩ := nz_zero h3
  cases a; cases b
  simp only at *
  rw [cmpI_zero h1, cmpI_zero h2, cmpG_zero h3, cmpB_eq h4, hn]
theorem nwr_self (a : Fl) : nwr a a = 0 := by have := nwr_ord.anti a a; omega

/-- what is wrong with one file -/
def errV (f : Fl) : Nat :=
  if errN f.name ≠ 0 then errN f.name else if 3000 < f.bytes.length then 2 else if f.stamp < 0 ∨ 1000000 < f.stamp ∨ f.node < 0 ∨ 3 < f.node then 3
  else if f.gone = true ∧ 0 < f.bytes.length then 4 else 0
/-- what is wrong with files, file by file; p: the one ahead -/
def behind : Option Fl → Fl → Bool
  | none, _ => true
  | some x, f => decide (cmpB x.name f.name < 0)
def errR : Option Fl → List Fl → Nat
  | _, [] => 0
  | p, f :: r => if errV f ≠ 0 then errV f else if behind p f = false then 4 else errR (some f) r
def errM (l : List Fl) : Nat := if 12 < l.length then 2 else errR none l
/-- the newer one of two, the first one of those alike -/
def pickF (x y : Fl) : Fl := if 0 < nwr y x then y else x
/-- the files of two lists whose names rise, rising -/
def tog : List Fl → List Fl → List Fl
  | [], b => b
  | x :: a, [] => x :: a
  | x :: a, y :: b => if cmpB x.name y.name < 0 then x :: tog a (y :: b) else if 0 < cmpB x.name y.name then y :: tog (x :: a) b else pickF x y :: tog a b
termination_by a b => a.length + b.length
theorem tog_nil (b : List Fl) : tog [] b = b := by unfold tog; rfl
theorem tog_nil' (a : List Fl) : tog a [] = a := by
  cases a with
  | nil => exact tog_nil []
  | cons x a => unfold tog; rfl
theorem tog_lt {x y : Fl} {a b : List Fl} (h : cmpB x.name y.name < 0) : tog (x :: a) (y :: b) = x :: tog a (y :: b) := by rw [tog, if_pos h]
theorem tog_gt {x y : Fl} {a b : List Fl} (h : 0 < cmpB x.name y.name) : tog (x :: a) (y :: b) = y :: tog (x :: a) b := by rw [tog, if_neg (by omega), if_pos h]
theorem tog_eq {x y : Fl} {a b : List Fl} (h : cmpB x.name y.name = 0) : tog (x :: a) (y :: b) = pickF x y :: tog a b := by rw [tog, if_neg (by omega), if_neg (by omega)]
end Go.Proofs.YtmgmganbamjnmaaDoor

/-
  Small facts on memory that all walks of this seat share: what a new row of numbers holds, and that what is older than a call stays as it was.
-/
namespace Go.Proofs.YtmgmganbamjnmaaDoor
open Go.RowKit

theorem own : ownKnob Tryd.prog.godebug = none := by kernel_rfl
theorem laidOut : laidOutB Tryd.prog = true := by kernel_rfl

/-- block b holds the numbers xs, one behind the other, from place o on -/
def Row (k : IntKind) (w : World) (b o : Nat) (xs : List Int) : Prop := ∀ j, j < xs.length → w.cell? ⟨b, o + j, none⟩ = some (.int k (xs.getD j 0))

theorem Row.new (k : IntKind) (w : World) (xs : List Int) (t : TypeId) (A : Array Value) (b : Nat) (hb : b = w.heap.size) (hA : A = (xs.map (Value.int k)).toArray) : Row k (w.alloc (.cells A t)) b 0 xs := by
  intro j hj
  rw [World.cell?_alloc_at _ _ _ _ hb, hA]
  simp [List.getD, hj]
theorem Row.alloc {k : IntKind} {w : World} {b o : Nat} {xs : List Int} (h : Row k w b o xs) (hb : b < w.heap.size) (x : Obj) : Row k (w.alloc x) b o xs := by
  intro j hj
  rw [World.cell?_alloc_past _ _ _ hb]; exact h j hj
theorem Row.below {k : IntKind} {w w' : World} {B b o : Nat} {xs : List Int} (h : Row k w b o xs) (hB : Below B w w') (hb : b < B) : Row k w' b o xs := by
  intro j hj
  rw [hB.cell (p := ⟨b, o + j, none⟩) hb]; exact h j hj
theorem Row.drewN {k : IntKind} {w : World} {b o : Nat} {xs : List Int} (h : Row k w b o xs) (n : Nat) : Row k (w.drewN n) b o xs := h
theorem Row.at {k : IntKind} {w : World} {b o : Nat} {xs : List Int} (h : Row k w b o xs) {j : Nat} (hj : j < xs.length) : w.cell? ⟨b, o + j, none⟩ = some (.int k (xs.getD j 0)) := h j hj
theorem Row.nil (k : IntKind) (w : World) (b o : Nat) : Row k w b o [] := fun j hj => by simp at hj

theorem bcell {W w1 : World} {B : Nat} (hb : Below B W w1) : (∀ b o, b < B → w1.cell? ⟨b, o, none⟩ = W.cell? ⟨b, o, none⟩) ∧ (∀ b o, b < B → w1.frozen? ⟨b, o, none⟩ = W.frozen? ⟨b, o, none⟩) :=
  ⟨fun b o h => hb.cell (p := ⟨b, o, none⟩) h, fun b o h => hb.frozen (p := ⟨b, o, none⟩) h⟩

theorem below_drewN {B : Nat} {a w : World} (h : Below B a w) (n : Nat) : Below B a (w.drewN n) := ⟨h.os, h.tape, h.output, h.size, h.block⟩

theorem hide {p : Prop} (h : p) : Hid p := h
theorem unhide {p : Prop} (h : Hid p) : p := h

theorem ret_bool {a b : Bool} (h : a = b) : Ending.returned (.bool a) = .returned (.bool b) := by rw [h]
theorem ret_int {k : IntKind} {a b : Int} (h : a = b) : Ending.returned (.int k a) = .returned (.int k b) := by rw [h]
end Go.Proofs.YtmgmganbamjnmaaDoor
