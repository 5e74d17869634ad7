/-
  Files, of lists alone: how texts stand, which of two files is newer, what is wrong with files.
-/
import Derived.Test.YtmgmganbamjnmaaGreatDoorQ0
import Derived.Lib.Bytealg
import GoSem.Op.String
import Derived.Test.YtmgmganbamjnmaaGreatDoorRows
import Derived.WalkKit
import Derived.ProofKit
import Derived.OpenShut
import Derived.ShutString
import Derived.ChangeOld
import Derived.Below
import Derived.BigQuiet
import Derived.BigRegion
import Derived.Deep.QuietTactic
import Derived.WalkSpells
import Derived.WalkLawsBesides
import Derived.Laws.BytesArg
import Derived.Laws.Externs
import Derived.Lib.BytesEntry
import Derived.Laws.ResultCell
namespace Go.Proofs.YtmgmganbamjnmaaGreatDoor
open Go
set_option linter.unusedVariables false

/-- a file: its name, its bytes, its stamp, its node, gone or not -/
structure Fl where
  name : List UInt8
  bytes : List UInt8
  stamp : Int
  node : Int
  gone : Bool
deriving DecidableEq

/-- how two texts stand -/
abbrev cmpB (a b : List UInt8) : Int := Lib.compareBytes a b
theorem cmpB_cons (a b : UInt8) (x y : List UInt8) : cmpB (a :: x) (b :: y) = if a < b then -1 else if b < a then 1 else cmpB x y := rfl
theorem u8_lt (a b : UInt8) : (a < b) = (a.toNat < b.toNat) := by rw [UInt8.lt_iff_toNat_lt]
theorem u8_ne {a b : UInt8} (h1 : ¬ a < b) (h2 : ¬ b < a) : a = b := by
  rw [u8_lt] at h1 h2
  exact UInt8.toNat_inj.1 (by omega)
theorem cmpB_self : ∀ a : List UInt8, cmpB a a = 0
  | [] => rfl
  | a :: x => by
    rw [cmpB_cons, if_neg (by rw [u8_lt]; omega), if_neg (by rw [u8_lt]; omega)]
    exact cmpB_self x
theorem cmpB_eq : ∀ {a b : List UInt8}, cmpB a b = 0 → a = b
  | [], [], _ => rfl
  | [], _ :: _, h => by cases h
  | _ :: _, [], h => by cases h
  | a :: x, b :: y, h => by
    rw [cmpB_cons] at h
    split at h
    · cases h
    · split at h
      · cases h
      · rename_i h1 h2
        rw [u8_ne h1 h2, cmpB_eq h]
theorem cmpB_zero {a b : List UInt8} : cmpB a b = 0 ↔ a = b := ⟨cmpB_eq, fun h => by rw [h, cmpB_self]⟩
theorem cmpB_three : ∀ a b : List UInt8, cmpB a b = -1 ∨ cmpB a b = 0 ∨ cmpB a b = 1
  | [], [] => .inr (.inl rfl)
  | [], _ :: _ => .inl rfl
  | _ :: _, [] => .inr (.inr rfl)
  | a :: x, b :: y => by
    rw [cmpB_cons]
    split
    · exact .inl rfl
    · split
      · exact .inr (.inr rfl)
      · exact cmpB_three x y
theorem cmpB_anti : ∀ a b : List UInt8, cmpB b a = - cmpB a b
  | [], [] => rfl
  | [], _ :: _ => rfl
  | _ :: _, [] => rfl
  | a :: x, b :: y => by
    rw [cmpB_cons, cmpB_cons]
    by_cases h1 : a < b
    · have h2 : ¬ b < a := by rw [u8_lt] at h1 ⊢; omega
      rw [if_neg h2, if_pos h1, if_pos h1]; rfl
    · by_cases h2 : b < a
      · rw [if_pos h2, if_neg h1, if_pos h2]
      · rw [if_neg h2, if_neg h1, if_neg h1, if_neg h2]
        exact cmpB_anti x y
theorem cmpB_trans : ∀ {a b c : List UInt8}, cmpB a b < 0 → cmpB b c < 0 → cmpB a c < 0
  | [], [], _, h, _ => by cases h
  | [], _ :: _, [], _, h => by cases h
  | [], _ :: _, _ :: _, _, _ => by show (-1 : Int) < 0; decide
  | _ :: _, [], _, h, _ => by cases h
  | _ :: _, _ :: _, [], _, h => by cases h
  | a :: x, b :: y, c :: z, h, k => by
    rw [cmpB_cons] at h k ⊢
    by_cases h1 : a < b
    · by_cases k1 : b < c
      · have : a < c := by rw [u8_lt] at h1 k1 ⊢; omega
        rw [if_pos this]; decide
      · rw [if_neg k1] at k
        by_cases k2 : c < b
        · rw [if_pos k2] at k; cases k
        · have := u8_ne k1 k2
          subst this
          rw [if_pos h1]; decide
    · rw [if_neg h1] at h
      by_cases h2 : b < a
      · rw [if_pos h2] at h; cases h
      · rw [if_neg h2] at h
        have := u8_ne h1 h2
        subst this
        by_cases k1 : a < c
        · rw [if_pos k1]; decide
        · rw [if_neg k1] at k ⊢
          by_cases k2 : c < a
          · rw [if_pos k2] at k; cases k
          · rw [if_neg k2] at k ⊢
            exact cmpB_trans h k
theorem less_cmp : ∀ a b : List UInt8, Op.bytesLess a b = decide (cmpB a b < 0)
  | [], [] => rfl
  | [], _ :: _ => rfl
  | _ :: _, [] => rfl
  | a :: x, b :: y => by
    show (decide (a < b) || (a == b && Op.bytesLess x y)) = _
    rw [cmpB_cons, less_cmp x y]
    by_cases h1 : a < b
    · simp [h1]
    · rw [if_neg h1]
      by_cases h2 : b < a
      · have : (a == b) = false := by
          rw [beq_eq_false_iff_ne]
          rintro rfl
          exact h1 h2
        rw [if_pos h2, this]
        simp [h1]
      · have := u8_ne h1 h2
        subst this
        rw [if_neg h2]
        simp [h1]

/-- how two numbers stand, how two bools -/
def cmpI (a b : Int) : Int := if a < b then -1 else if b < a then 1 else 0
def cmpG (a b : Bool) : Int := if a = b then 0 else if a then 1 else -1
/-- the first that is no nought -/
def nz (a b : Int) : Int := if a ≠ 0 then a else b
/-- 1 if the first one is newer, -1 if the second one is -/
def nwr (a b : Fl) : Int := nz (cmpI a.stamp b.stamp) (nz (cmpI a.node b.node) (nz (cmpG a.gone b.gone) (cmpB a.bytes b.bytes)))

/-- what an order must be: P a b how they stand -/
structure Ord3 {α : Type} (P : α → α → Int) : Prop where
  three : ∀ a b, P a b = -1 ∨ P a b = 0 ∨ P a b = 1
  anti : ∀ a b, P b a = - P a b
  trans : ∀ {a b c}, P a b ≤ 0 → P b c ≤ 0 → P a c ≤ 0
  zero : ∀ {a b c}, P a b = 0 → P a c = P b c
theorem nz_ord {α : Type} {P Q : α → α → Int} (hP : Ord3 P) (hQ : Ord3 Q) : Ord3 (fun a b => nz (P a b) (Q a b)) where
  three a b := by
    unfold nz; split
    · exact hP.three a b
    · exact hQ.three a b
  anti a b := by
    show nz (P b a) (Q b a) = - nz (P a b) (Q a b)
    rw [hP.anti a b, hQ.anti a b]
    unfold nz; split <;> split <;> omega
  trans {a b c} h k := by
    show nz (P a c) (Q a c) ≤ 0
    have h : nz (P a b) (Q a b) ≤ 0 := h
    have k : nz (P b c) (Q b c) ≤ 0 := k
    have h1 : P a b ≤ 0 := by unfold nz at h; split at h <;> omega
    have k1 : P b c ≤ 0 := by unfold nz at k; split at k <;> omega
    have t := hP.trans h1 k1
    by_cases e : P a c = 0
    · have h0 : P a b = 0 := by
        have := hP.anti a c
        have k3 := hP.trans k1 (by omega : P c a ≤ 0)
        have := hP.anti a b
        omega
      have k0 : P b c = 0 := by rw [← hP.zero h0]; exact e
      unfold nz at h k ⊢
      rw [if_neg (by omega)] at h k ⊢
      exact hQ.trans h k
    · unfold nz; rw [if_pos e]; exact t
  zero {a b c} h := by
    show nz (P a c) (Q a c) = nz (P b c) (Q b c)
    have h : nz (P a b) (Q a b) = 0 := h
    have h1 : P a b = 0 := by unfold nz at h; split at h <;> omega
    have h2 : Q a b = 0 := by unfold nz at h; rw [if_neg (by omega)] at h; exact h
    rw [hP.zero h1, hQ.zero h2]
theorem cmpI_ord : Ord3 cmpI where
  three a b := by
    unfold cmpI
    split
    · exact .inl rfl
    · split
      · exact .inr (.inr rfl)
      · exact .inr (.inl rfl)
  anti a b := by unfold cmpI; repeat (first | omega | split)
  trans {a b c} h k := by unfold cmpI at *; repeat (first | omega | split at h | split at k | split)
  zero {a b c} h := by unfold cmpI at *; repeat (first | omega | split at h | split)
theorem cmpG_ord : Ord3 cmpG where
  three a b := by cases a <;> cases b <;> decide
  anti a b := by cases a <;> cases b <;> decide
  trans {a b c} h k := by revert h k; cases a <;> cases b <;> cases c <;> decide
  zero {a b c} h := by revert h; cases a <;> cases b <;> cases c <;> decide
theorem cmpB_ord : Ord3 cmpB where
  three := cmpB_three
  anti := cmpB_anti
  trans {a b c} h k := by
    rcases cmpB_three a b with h1 | h1 | h1
    · rcases cmpB_three b c with k1 | k1 | k1
      · have := @cmpB_trans a b c (by omega) (by omega); omega
      · rw [← cmpB_eq k1]; omega
      · omega
    · rw [cmpB_eq h1]; exact k
    · omega
  zero {a b c} h := by rw [cmpB_eq h]
theorem pull_ord {α β : Type} {P : β → β → Int} (h : Ord3 P) (f : α → β) : Ord3 (fun a b => P (f a) (f b)) where
  three a b := h.three _ _
  anti a b := h.anti _ _
  trans {a b c} x y := h.trans (b := f b) x y
  zero {a b c} x := h.zero x
theorem nwr_ord : Ord3 nwr := nz_ord (pull_ord cmpI_ord Fl.stamp) (nz_ord (pull_ord cmpI_ord Fl.node) (nz_ord (pull_ord cmpG_ord Fl.gone) (pull_ord cmpB_ord Fl.bytes)))
theorem nz_zero {a b : Int} (h : nz a b = 0) : a = 0 ∧ b = 0 := by
  unfold nz at h
  split at h
  · omega
  · exact ⟨by omega, h⟩
theorem cmpI_zero {a b : Int} (h : cmpI a b = 0) : a = b := by
  unfold cmpI at h
  split at h
  · cases h
  · split at h
    · cases h
    · omega
theorem cmpG_zero {a b : Bool} (h : cmpG a b = 0) : a = b := by revert h; cases a <;> cases b <;> decide
/-- nothing parts them, and their names are alike: they are alike -/
theorem nwr_zero {a b : Fl} (h : nwr a b = 0) (hn : a.name = b.name) : a = b := by
  obtain ⟨h1, h2⟩ := nz_zero h
  obtain ⟨h2, h3⟩ := nz_zero h2
  obtain ⟨h3, h4⟩ := nz_zero h3
  cases a; cases b
  simp only at *
  rw [cmpI_zero h1, cmpI_zero h2, cmpG_zero h3, cmpB_eq h4, hn]
theorem nwr_self (a : Fl) : nwr a a = 0 := by have := nwr_ord.anti a a; omega

/-- what is wrong with one file -/
def errV (f : Fl) : Nat :=
  if errN f.name ≠ 0 then errN f.name else if 3000 < f.bytes.length then 2 else if f.stamp < 0 ∨ 1000000 < f.stamp ∨ f.node < 0 ∨ 3 < f.node then 3
  else if f.gone = true ∧ 0 < f.bytes.length then 4 else 0
/-- what is wrong with files, file by file; p: the one ahead -/
def behind : Option Fl → Fl → Bool
  | none, _ => true
  | some x, f => decide (cmpB x.name f.name < 0)
def errR : Option Fl → List Fl → Nat
  | _, [] => 0
  | p, f :: r => if errV f ≠ 0 then errV f else if behind p f = false then 4 else errR (some f) r
def errM (l : List Fl) : Nat := if 12 < l.length then 2 else errR none l
/-- the newer one of two, the first one of those alike -/
def pickF (x y : Fl) : Fl := if 0 < nwr y x then y else x
/-- the files of two lists whose names rise, rising -/
def tog : List Fl → List Fl → List Fl
  | [], b => b
  | x :: a, [] => x :: a
  | x :: a, y :: b => if cmpB x.name y.name < 0 then x :: tog a (y :: b) else if 0 < cmpB x.name y.name then y :: tog (x :: a) b else pickF x y :: tog a b
termination_by a b => a.length + b.length
theorem tog_nil (b : List Fl) : tog [] b = b := by unfold tog; rfl
theorem tog_nil' (a : List Fl) : tog a [] = a := by
  cases a with
  | nil => exact tog_nil []
  | cons x a => unfold tog; rfl
theorem tog_lt {x y : Fl} {a b : List Fl} (h : cmpB x.name y.name < 0) : tog (x :: a) (y :: b) = x :: tog a (y :: b) := by rw [tog, if_pos h]
theorem tog_gt {x y : Fl} {a b : List Fl} (h : 0 < cmpB x.name y.name) : tog (x :: a) (y :: b) = y :: tog (x :: a) b := by rw [tog, if_neg (by omega), if_pos h]
theorem tog_eq {x y : Fl} {a b : List Fl} (h : cmpB x.name y.name = 0) : tog (x :: a) (y :: b) = pickF x y :: tog a b := by rw [tog, if_neg (by omega), if_neg (by omega)]
end Go.Proofs.YtmgmganbamjnmaaGreatDoor

/-
  Small facts on memory that all walks of this seat share: what a new row of numbers holds, and that what is older than a call stays as it was.
-/
namespace Go.Proofs.YtmgmganbamjnmaaGreatDoor
open Go.RowKit

theorem own : ownKnob Tryz.prog.godebug = none := by kernel_rfl
theorem laidOut : laidOutB Tryz.prog = true := by kernel_rfl

/-- block b holds the numbers xs, one behind the other, from place o on -/
def Row (k : IntKind) (w : World) (b o : Nat) (xs : List Int) : Prop := ∀ j, j < xs.length → w.cell? ⟨b, o + j, none⟩ = some (.int k (xs.getD j 0))

theorem Row.new (k : IntKind) (w : World) (xs : List Int) (t : TypeId) (A : Array Value) (b : Nat) (hb : b = w.heap.size) (hA : A = (xs.map (Value.int k)).toArray) : Row k (w.alloc (.cells A t)) b 0 xs := by
  intro j hj
  rw [World.cell?_alloc_at _ _ _ _ hb, hA]
  simp [List.getD, hj]
theorem Row.alloc {k : IntKind} {w : World} {b o : Nat} {xs : List Int} (h : Row k w b o xs) (hb : b < w.heap.size) (x : Obj) : Row k (w.alloc x) b o xs := by
  intro j hj
  rw [World.cell?_alloc_past _ _ _ hb]; exact h j hj
theorem Row.below {k : IntKind} {w w' : World} {B b o : Nat} {xs : List Int} (h : Row k w b o xs) (hB : Below B w w') (hb : b < B) : Row k w' b o xs := by
  intro j hj
  rw [hB.cell (p := ⟨b, o + j, none⟩) hb]; exact h j hj
theorem Row.drewN {k : IntKind} {w : World} {b o : Nat} {xs : List Int} (h : Row k w b o xs) (n : Nat) : Row k (w.drewN n) b o xs := h
theorem Row.at {k : IntKind} {w : World} {b o : Nat} {xs : List Int} (h : Row k w b o xs) {j : Nat} (hj : j < xs.length) : w.cell? ⟨b, o + j, none⟩ = some (.int k (xs.getD j 0)) := h j hj
theorem Row.nil (k : IntKind) (w : World) (b o : Nat) : Row k w b o [] := fun j hj => by simp at hj

theorem bcell {W w1 : World} {B : Nat} (hb : Below B W w1) : (∀ b o, b < B → w1.cell? ⟨b, o, none⟩ = W.cell? ⟨b, o, none⟩) ∧ (∀ b o, b < B → w1.frozen? ⟨b, o, none⟩ = W.frozen? ⟨b, o, none⟩) :=
  ⟨fun b o h => hb.cell (p := ⟨b, o, none⟩) h, fun b o h => hb.frozen (p := ⟨b, o, none⟩) h⟩

theorem below_drewN {B : Nat} {a w : World} (h : Below B a w) (n : Nat) : Below B a (w.drewN n) := ⟨h.os, h.tape, h.output, h.size, h.block⟩

theorem hide {p : Prop} (h : p) : Hid p := h
theorem unhide {p : Prop} (h : Hid p) : p := h

theorem ret_bool {a b : Bool} (h : a = b) : Ending.returned (.bool a) = .returned (.bool b) := by rw [h]
theorem ret_int {k : IntKind} {a b : Int} (h : a = b) : Ending.returned (.int k a) = .returned (.int k b) := by rw [h]
end Go.Proofs.YtmgmganbamjnmaaGreatDoor

/-
  A row of the call's own stays where nothing but new blocks came.
-/
namespace Go.Proofs.YtmgmganbamjnmaaGreatDoor
open Go.RowKit
set_option linter.unusedVariables false
theorem below_grown {w w' : World} (h : Below w.heap.size w w') : w.grownBy w' none := ⟨h.os, h.tape, h.output, h.size, fun k hk _ => h.block k hk⟩
theorem own_below {w w' : World} {B e size n : Nat} {v : Value} {xs : List Value} (h : w.ownsRow B e size v n xs) (hg : Below w.heap.size w w') : w'.ownsRow B e size v n xs :=
  h.kept (below_grown hg) (by cases hv : v.ownBlock with
    | none => exact .inl rfl
    | some k => exact .inr (by simp))
end Go.Proofs.YtmgmganbamjnmaaGreatDoor

/-
  Files in memory; bytes held against each other.
-/
namespace Go.Proofs.YtmgmganbamjnmaaGreatDoor
open Go.RowKit
set_option linter.unusedVariables false
set_option maxRecDepth 100000
/-- the bytes bs lie behind address a, room for c -/
def BsIn (w : World) (a : Option Addr) (c : Nat) (bs : List UInt8) : Prop :=
  (a = none ∧ bs = [] ∧ c = 0) ∨ (bs = [] ∧ ∃ ad, a = some ad) ∨ ∃ b o, a = some ⟨b, o, none⟩ ∧ b < w.heap.size ∧ bs.length ≤ c ∧ ∀ j, j < bs.length → w.cell? ⟨b, o + j, none⟩ = some (.int .u8 (((bs.getD j 0).toNat : Nat) : Int))
/-- it is as it was where nothing but new blocks came -/
theorem BsIn.below {w w' : World} {B : Nat} {a : Option Addr} {c : Nat} {bs : List UInt8} (h : BsIn w a c bs) (hB : Below B w w') (hb : w.heap.size ≤ B) : BsIn w' a c bs := by
  rcases h with h | h | ⟨b, o, h1, h2, h3, h4⟩
  · exact .inl h
  · exact .inr (.inl h)
  · refine .inr (.inr ?_)
    exact ⟨b, o, h1, Nat.lt_of_lt_of_le h2 hB.size, h3, fun j hj => (hB.cell (p := ⟨b, o + j, none⟩) (by simp; omega)).trans (h4 j hj)⟩
theorem BsIn.grown {w w' : World} {r : Option Nat} {a : Option Addr} {c : Nat} {bs : List UInt8} (h : BsIn w a c bs) (hg : w.grownBy w' r) (hr : ∀ b o, a = some ⟨b, o, none⟩ → some b ≠ r) : BsIn w' a c bs := by
  rcases h with h | h | ⟨b, o, h1, h2, h3, h4⟩
  · exact .inl h
  · exact .inr (.inl h)
  · refine .inr (.inr ?_)
    exact ⟨b, o, h1, Nat.lt_of_lt_of_le h2 hg.size, h3, fun j hj => hg.cell (h4 j hj) (hr b o h1)⟩

abbrev nums (bs : List UInt8) : List Int := bs.map fun x : UInt8 => ((x.toNat : Nat) : Int)
theorem nums_getD (bs : List UInt8) (j : Nat) : (nums bs).getD j 0 = (((bs.getD j 0).toNat : Nat) : Int) := by
  unfold nums
  by_cases h : j < bs.length
  · simp [List.getD, h]
  · simp [List.getD, h]
theorem ofNums (bs : List UInt8) : (nums bs).map (fun n => UInt8.ofNat n.toNat) = bs := by
  unfold nums
  rw [List.map_map]
  have : ((fun n : Int => UInt8.ofNat n.toNat) ∘ fun x : UInt8 => ((x.toNat : Nat) : Int)) = id := by funext x; simp
  rw [this, List.map_id]
theorem strOfNums_B (bs : List UInt8) : strOfNums (nums bs) = B bs := by
  unfold strOfNums B
  rw [ofNums]

/-- bytes as a text -/
theorem conv_any {w : World} {a : Option Addr} {c : Nat} {bs : List UInt8} (h : BsIn w a c bs) : (convert 27 9 (.slice a bs.length c)).run Tryz.prog w = .ok (.string (B bs)) w := by
  rcases h with ⟨rfl, rfl, rfl⟩ | ⟨rfl, ad, rfl⟩ | ⟨b, o, rfl, h2, h3, h4⟩
  · exact run_convert_bytes_nil w _ _ Tryz.underlying27 Tryz.underlying5 0 0 _ Tryz.underlying9
  · show (convert 27 9 (.slice (some ad) 0 c)).run Tryz.prog w = .ok (.string (B [])) w
    rw [run_convert_bytes_string w _ _ _ (some ad) 0 c Tryz.underlying27 Tryz.underlying5 Tryz.underlying9]
    exact (run_bytesToString (P := Tryz.prog) w ad 0 c [] (by rfl)).trans rfl
  · have := run_convert_bytes_arg (P := Tryz.prog) w _ _ Tryz.underlying27 Tryz.underlying5 b o bs.length c (nums bs) (by simp [nums]) (fun i hi => by rw [h4 i hi, nums_getD]) _ Tryz.underlying9
    rw [this, strOfNums_B]

/-- a file as it lies: where its bytes lie, their room -/
structure Fv where
  f : Fl
  a : Option Addr
  c : Nat
def Fv.sl (x : Fv) : Value := .slice x.a x.f.bytes.length x.c
def Fv.val (x : Fv) : Value := .agg #[.string (B x.f.name), x.sl, .int .i64 x.f.stamp, .int .i64 x.f.node, .bool x.f.gone]
def Fv.cells (x : Fv) : List Value := [.string (B x.f.name), x.sl, .int .i64 x.f.stamp, .int .i64 x.f.node, .bool x.f.gone]
structure FvIn (w : World) (x : Fv) : Prop where
  bs : BsIn w x.a x.c x.f.bytes
  big : x.f.bytes.length ≤ 140737488355328
  txt : x.f.name.length ≤ 140737488355328
theorem FvIn.below {w w' : World} {B : Nat} {x : Fv} (h : FvIn w x) (hB : Below B w w') (hb : w.heap.size ≤ B) : FvIn w' x := ⟨h.bs.below hB hb, h.big, h.txt⟩
theorem FvIn.grown {w w' : World} {r : Option Nat} {x : Fv} (h : FvIn w x) (hg : w.grownBy w' r) (hr : ∀ b o, x.a = some ⟨b, o, none⟩ → some b ≠ r) : FvIn w' x := ⟨h.bs.grown hg hr, h.big, h.txt⟩
theorem FvIn.alloc {w : World} {x : Fv} (h : FvIn w x) (o : Obj) : FvIn (w.alloc o) x := h.below ((Below.refl w.heap.size w).alloc (Nat.le_refl _) o) (Nat.le_refl _)

/-- files behind one another, from place o of block b on -/
def Fs (w : World) (b o : Nat) (xs : List Fv) : Prop := ∀ j x, xs[j]? = some x → w.cell? ⟨b, o + j * 5, none⟩ = some (.string (B x.f.name)) ∧ w.cell? ⟨b, o + j * 5 + 1, none⟩ = some x.sl ∧ w.cell? ⟨b, o + j * 5 + 2, none⟩ = some (.int .i64 x.f.stamp) ∧ w.cell? ⟨b, o + j * 5 + 3, none⟩ = some (.int .i64 x.f.node) ∧ w.cell? ⟨b, o + j * 5 + 4, none⟩ = some (.bool x.f.gone)
/-- the files xs in a slice at ad, room for c -/
structure FsIn (w : World) (ad : Option Addr) (c : Nat) (xs : List Fv) : Prop where
  at_ : xs = [] ∨ ∃ b o, ad = some ⟨b, o, none⟩ ∧ b < w.heap.size ∧ Fs w b o xs
  cap : xs.length ≤ c
  capm : c ≤ 9223372036854775807
  lim : xs.length ≤ 2199023255552
  all : ∀ x ∈ xs, FvIn w x
theorem FsIn.below {w w' : World} {B : Nat} {ad : Option Addr} {c : Nat} {xs : List Fv} (h : FsIn w ad c xs) (hB : Below B w w') (hb : w.heap.size ≤ B) : FsIn w' ad c xs := by
  refine ⟨?_, h.cap, h.capm, h.lim, fun x hx => (h.all x hx).below hB hb⟩
  rcases h.at_ with h1 | ⟨b, o, h1, h2, h3⟩
  · exact .inl h1
  · refine .inr ⟨b, o, h1, Nat.lt_of_lt_of_le h2 hB.size, ?_⟩
    intro j x hj
    obtain ⟨k1, k2, k3, k4, k5⟩ := h3 j x hj
    have hbB : b < B := by omega
    exact ⟨(hB.cell (p := ⟨b, _, none⟩) hbB).trans k1, (hB.cell (p := ⟨b, _, none⟩) hbB).trans k2, (hB.cell (p := ⟨b, _, none⟩) hbB).trans k3, (hB.cell (p := ⟨b, _, none⟩) hbB).trans k4, (hB.cell (p := ⟨b, _, none⟩) hbB).trans k5⟩
theorem FsIn.alloc {w : World} {ad : Option Addr} {c : Nat} {xs : List Fv} (h : FsIn w ad c xs) (o : Obj) : FsIn (w.alloc o) ad c xs := h.below ((Below.refl w.heap.size w).alloc (Nat.le_refl _) o) (Nat.le_refl _)
theorem FsIn.nil (w : World) : FsIn w none 0 [] := ⟨.inl rfl, Nat.le_refl _, by omega, by simp, fun x hx => by cases hx⟩
/-- the k-th file, in a world that holds the old blocks as they were -/
theorem FsIn.get {w w' : World} {ad : Option Addr} {c k : Nat} {xs : List Fv} {x : Fv} (h : FsIn w ad c xs) (hB : Below w.heap.size w w') (hk : xs[k]? = some x) :
    ∃ b o, ad = some ⟨b, o, none⟩ ∧ b < w.heap.size ∧ w'.cell? ⟨b, o + k * 5, none⟩ = some (.string (B x.f.name)) ∧ w'.cell? ⟨b, o + k * 5 + 1, none⟩ = some x.sl ∧ w'.cell? ⟨b, o + k * 5 + 2, none⟩ = some (.int .i64 x.f.stamp) ∧ w'.cell? ⟨b, o + k * 5 + 3, none⟩ = some (.int .i64 x.f.node) ∧ w'.cell? ⟨b, o + k * 5 + 4, none⟩ = some (.bool x.f.gone) := by
  rcases (h.below hB (Nat.le_refl _)).at_ with rfl | ⟨b, o, h1, h2, h3⟩
  · simp at hk
  · rcases h.at_ with rfl | ⟨b', o', h1', h2', _⟩
    · simp at hk
    · rw [h1] at h1'
      cases h1'
      obtain ⟨k1, k2, k3, k4, k5⟩ := h3 k x hk
      exact ⟨b, o, h1, h2', k1, k2, k3, k4, k5⟩
theorem get_of {xs : List Fv} {k : Nat} (h : k < xs.length) : ∃ x, xs[k]? = some x ∧ x ∈ xs := ⟨xs[k], List.getElem?_eq_getElem h, List.getElem_mem h⟩
abbrev fls (xs : List Fv) : List Fl := xs.map Fv.f

def fileV (x : Fv) : Value := x.val
theorem val_is (x : Fv) : x.val = .agg #[.string (B x.f.name), .slice x.a x.f.bytes.length x.c, .int .i64 x.f.stamp, .int .i64 x.f.node, .bool x.f.gone] := rfl

theorem toList_B (l : List UInt8) : (B l).toList = l := by rw [ByteArray.toList_eq]; rfl
theorem bytesOf_is {w : World} {a : Option Addr} {c : Nat} {bs : List UInt8} (h : BsIn w a c bs) : (Extern.Bytes.bytesOf (.slice a bs.length c)).run Tryz.prog w = .ok (B bs) w := by
  rcases h with ⟨rfl, rfl, rfl⟩ | ⟨rfl, ad, rfl⟩ | ⟨b, o, rfl, h2, h3, h4⟩
  · rfl
  · rfl
  · have := Lib.run_loadBytesX (P := Tryz.prog) w (nums bs) ⟨b, o, none⟩ .empty (fun j x hj => by
      have hj2 : j < bs.length := by
        by_cases k : j < bs.length
        · exact k
        · rw [List.getElem?_eq_none (by simp [nums]; omega)] at hj; cases hj
      have e2 : (⟨b, o, none⟩ : Addr).add j = ⟨b, o + j, none⟩ := by unfold Addr.add; split <;> simp_all
      rw [e2, h4 j hj2]
      simp [nums, hj2] at hj
      subst hj
      simp [List.getD, hj2])
    have hl : (nums bs).length = bs.length := by simp [nums]
    rw [hl] at this
    show (Extern.Bytes.loadBytes ⟨b, o, none⟩ bs.length .empty).run Tryz.prog w = _
    rw [this]
    congr 1
    have e3 : Lib.bytesOf (nums bs) = bs := by
      unfold Lib.bytesOf
      first | exact ofNums bs | (simp [nums])
    rw [e3]
    simp [B, ByteArray.empty, ByteArray.emptyWithCapacity]
    rfl
theorem eq_bytes {w : World} {a a2 : Option Addr} {c c2 : Nat} {x y : List UInt8} (h : BsIn w a c x) (h2 : BsIn w a2 c2 y) :
    Calls Tryz.prog 53 #[.slice a x.length c, .slice a2 y.length c2] w fun e w' => e = .returned (.bool (decide (x = y))) ∧ w' = w := by
  have e1 := conv_any h
  have e2 := conv_any h2
  have e3 : ((B x).toList == (B y).toList) = decide (x = y) := by rw [toList_B, toList_B, Bool.eq_iff_iff, beq_iff_eq, decide_eq_true_iff]
  clear h h2
  generalize B x = s at *
  generalize B y = t at *
  go_enter Tryz.func53, Tryz.ntmps53
  go_wp2
  go_ret
  exact ⟨rfl, rfl⟩
end Go.Proofs.YtmgmganbamjnmaaGreatDoor
