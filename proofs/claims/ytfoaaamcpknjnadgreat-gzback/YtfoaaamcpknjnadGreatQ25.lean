/-
  Packing, of lists alone: what the tokens of a block are told by, how often each symbol is wanted, the lengths of the shortest codes, how they are told; the bits of a row of blocks.
-/
import Derived.Test.YtfoaaamcpknjnadGreatQ5
import Derived.Test.YtfoaaamcpknjnadGreatQ24
import Derived.Test.YtfoaaamcpknjnadGreatQ0
import Derived.Deep.RegionHeld3
import Derived.Deep.AppendLies
namespace Go.Proofs.YtfoaaamcpknjnadGreat
set_option linter.unusedVariables false

/-- what a token is told by: a symbol, a symbol of how far, a number of so many bits -/
inductive It where
  | sym (k : Nat)
  | far (k : Nat)
  | rest (n s : Nat)
deriving DecidableEq

/-- how often n halves till it is one of the second group -/
def stepZ (g n : Nat) : Nat → Nat → Nat
  | 0, s => s
  | f + 1, s => if n / 2 ^ s < 2 * g then s else stepZ g n f (s + 1)
def stepS (g n : Nat) : Nat := stepZ g n 12 0
def stepK (g n : Nat) : Nat := g * stepS g n + n / 2 ^ stepS g n
def stepR (g n : Nat) : Nat := n % 2 ^ stepS g n
def manyI (n : Nat) : Nat × Nat × Nat := if n = 258 then (285, 0, 0) else (257 + stepK 4 (n - 3), stepR 4 (n - 3), stepS 4 (n - 3))
def farI (d : Nat) : Nat × Nat × Nat := (stepK 2 (d - 1), stepR 2 (d - 1), stepS 2 (d - 1))
def itOf (t : Tk) : List It :=
  if t.2.1 = 0 then [.sym t.1] else [.sym (manyI t.2.1.toNat).1, .rest (manyI t.2.1.toNat).2.1 (manyI t.2.1.toNat).2.2, .far (farI t.2.2.toNat).1, .rest (farI t.2.2.toNat).2.1 (farI t.2.2.toNat).2.2]
def itsF (ts : List Tk) : List It := ts.flatMap itOf
def itsOf (ts : List Tk) : List It := itsF ts ++ [.sym 256]

/-- their bits, by codes of these lengths -/
def putI (a b : List Int) : It → List Bool
  | .sym k => codeT a k
  | .far k => codeT b k
  | .rest n s => numBits n s
def putIs (a b : List Int) (is : List It) : List Bool := is.flatMap (putI a b)

/-- how often each is wanted -/
def symK (is : List It) : List Nat := is.filterMap (fun i => match i with | .sym k => some k | _ => none)
def farK (is : List It) : List Nat := is.filterMap (fun i => match i with | .far k => some k | _ => none)
def restN (is : List It) : List Nat := is.filterMap (fun i => match i with | .rest _ s => some s | _ => none)
def symC (is : List It) : List Int := bumps (List.replicate 286 0) (symK is)
def farC (is : List It) : List Int := bumps (List.replicate 30 0) (farK is)

/-- the shortest lengths -/
noncomputable def lensD (l : List Int) (m : Nat) : List Int := @Classical.epsilon (List Int) ⟨[]⟩ (fun s => IsLens l m s)
def trimF (l : List Int) (least : Nat) : Nat → Nat
  | 0 => 0
  | n + 1 => if least < n + 1 ∧ l.getD n 0 = 0 then trimF l least n else n + 1
def trimL (l : List Int) (least : Nat) : List Int := l.take (trimF l least l.length)

/-- by which symbols, with which rests, one length is told that stands so often -/
def runZ (x : Nat) : Nat → Nat → List (Nat × Nat × Nat)
  | 0, _ => []
  | f + 1, m => if m = 0 then [] else if m < 3 then (x, 0, 0) :: runZ x f (m - 1) else if 0 < x then (16, min m 6 - 3, 2) :: runZ x f (m - min m 6) else if m < 11 then (17, m - 3, 3) :: runZ x f 0 else (18, min m 138 - 11, 7) :: runZ x f (m - min m 138)
def runI (x m : Nat) : List (Nat × Nat × Nat) := if 0 < x then (x, 0, 0) :: runZ x m (m - 1) else runZ x m m
/-- how many at the front are x -/
def headN (x : Int) : List Int → Nat
  | [] => 0
  | y :: r => if y = x then headN x r + 1 else 0
def lenI : Nat → List Int → List (Nat × Nat × Nat)
  | 0, _ => []
  | f + 1, l => match l with
    | [] => []
    | x :: r => runI x.toNat (headN x r + 1) ++ lenI f (r.drop (headN x r))
def lenIs (l : List Int) : List (Nat × Nat × Nat) := lenI l.length l
def runC (is : List (Nat × Nat × Nat)) : List Int := bumps (List.replicate 19 0) (is.map Prod.fst)
def putR (own : List Int) (i : Nat × Nat × Nat) : List Bool := codeT own i.1 ++ numBits i.2.1 i.2.2
def putRs (own : List Int) (is : List (Nat × Nat × Nat)) : List Bool := is.flatMap (putR own)
/-- how many lengths of the code of lengths are told -/
def ownN (own : List Int) : Nat → Nat
  | 0 => 0
  | n + 1 => if 4 < n + 1 ∧ own.getD (ord19.getD n 0) 0 = 0 then ownN own n else n + 1
noncomputable def ownD (all : List Int) : List Int := lensD (runC (lenIs all)) 7
def headB (a b own : List Int) : List Bool :=
  numBits (a.length - 257) 5 ++ (numBits (b.length - 1) 5 ++ (numBits (ownN own 19 - 4) 4 ++ ((ord19.take (ownN own 19)).flatMap (fun k => numBits (own.getD k 0).toNat 3) ++ putRs own (lenIs (a ++ b)))))
noncomputable def symD (ts : List Tk) : List Int := trimL (lensD (symC (itsOf ts)) 15) 257
noncomputable def farD (ts : List Tk) : List Int := trimL (lensD (farC (itsOf ts)) 15) 1
/-- tokens, and the codes by which they are told, told ahead -/
noncomputable def planB (a b : List Int) (ts : List Tk) : List Bool := headB a b (ownD (a ++ b)) ++ putIs a b (itsOf ts)
/-- a code in which all bytes but one have 8 bits -/
def evenA : List Int := List.replicate 255 8 ++ [9, 9]
def evenB : List Int := [0]
def evenT (bs : List Nat) : List Tk := bs.map (fun b => (b, 0, 0))
open Classical in
noncomputable def dynB (bs : List Nat) : List Bool :=
  if (planB evenA evenB (evenT bs)).length < (planB (symD (toks bs)) (farD (toks bs)) (toks bs)).length then planB evenA evenB (evenT bs) else planB (symD (toks bs)) (farD (toks bs)) (toks bs)
def fixBits (ts : List Tk) : List Bool := putIs fixA fixB (itsOf ts)
/-- how many bits are free in the last byte -/
def freeN (n : Nat) : Nat := (8 - n % 8) % 8
def storB (S : List Bool) (bs : List Nat) : List Bool :=
  S ++ List.replicate (freeN S.length) false ++ numBits bs.length 16 ++ numBits (65535 - bs.length) 16 ++ rowB bs bs.length
/-- the row S, and a block behind it -/
noncomputable def blkB (S : List Bool) (bs : List Nat) (kind : Nat) (last : Bool) : List Bool :=
  if kind = 0 then storB (S ++ [last] ++ numBits kind 2) bs
  else if kind = 1 then S ++ [last] ++ numBits kind 2 ++ fixBits (toks bs)
  else S ++ [last] ++ numBits kind 2 ++ dynB bs
noncomputable def packF : List (List Nat × Nat) → List Bool → List Bool
  | [], S => S
  | (bs, k) :: r, S => packF r (blkB S bs k (decide (r = [])))
def padB (S : List Bool) : List Bool := S ++ List.replicate (freeN S.length) false
end Go.Proofs.YtfoaaamcpknjnadGreat

/-
  Appends to a row of numbers that the call itself has made.
-/
namespace Go.Proofs.YtfoaaamcpknjnadGreat
open Go.RowKit
set_option linter.unusedVariables false

/-- what an append of one number leaves: of r the world ahead, W the world at the append, w' behind it -/
structure App (r W w' : World) (B : Nat) (v : Value) (k : Nat) (xs : List Value) (y : Int) (g cap : Nat) : Prop where
  own : w'.ownsRow B 3 1 (.slice (some ⟨g, 0, none⟩) (k + 1) cap) (k + 1) (xs ++ [.int .i64 y])
  grow : W.grownBy w' v.ownBlock
  spot : v.ownBlock = some g ∨ g = W.heap.size
  lt : g < w'.heap.size
  base : r.grownBy W none
  was : r.ownsRow B 3 1 v k xs

theorem step_app {ops : Array Oper} {o : Oper} {a : Act} {W : World} {K : Act → World → Prop} {Q : Exit → Act → World → Prop} {E : Prop} (hgd : o.guard = none) (s x : Operand)
    (ho : o.op = .call { callee := .builtin .append, args := #[s, x], argTypes := #[37, 37] })
    (r : World) (B : Nat) (v : Value) (k : Nat) (xs : List Value) (hs : a.eval s = v) (hown : r.ownsRow B 3 1 v k xs) (hk : k ≤ 3000) (hB : B ≤ r.heap.size)
    (blk : Nat) (hx : a.eval x = .slice (some ⟨blk, 0, none⟩) 1 1) (y : Int) (hW : r.grownBy W none) (hy : W.cell? ⟨blk, 0, none⟩ = some (.int .i64 y))
    (h : ∀ g cap w', App r W w' B v k xs y g cap → K (a.put o.dst (.slice (some ⟨g, 0, none⟩) (k + 1) cap)) w') :
    if Region.wanted o (yielded ops a.tmps) = true then Oper.wp Tryz.prog o a W K Q else E := by
  obtain ⟨i0, hi, hz0, hz1, hz2⟩ := info_parts info_int
  refine step_append_lies _ hgd s x 37 ho B 3 i0 (.int .i64 0) 1 8 Tryz.underlying37 hi hz0 hz1 hz2 rfl (by decide) v k xs hs (own_kept hown hW) ⟨blk, 0, none⟩ 1 1 [.int .i64 y] hx rfl (fun j u hj => new_cell hy hj) (one_cell rfl) (by omega) (by unfold maxLen; omega) (by omega) (Nat.le_trans hB hW.size) _ rfl ?_
  intro g cap w' h1 h2 h3 h4
  exact h g cap w' ⟨h1, h2, h3, h4, hW, hown⟩

theorem App.cell {r W w' : World} {B k g cap : Nat} {v : Value} {xs : List Value} {y : Int} (h : App r W w' B v k xs y g cap) {b i : Nat} {u : Value} (hb : ∀ j, v.ownBlock = some j → j ≠ b) (hc : W.cell? ⟨b, i, none⟩ = some u) : w'.cell? ⟨b, i, none⟩ = some u :=
  h.grow.cell hc (fun e => hb b e.symm rfl)
theorem App.size {r W w' : World} {B k g cap : Nat} {v : Value} {xs : List Value} {y : Int} (h : App r W w' B v k xs y g cap) : r.heap.size ≤ w'.heap.size := Nat.le_trans h.base.size h.grow.size
/-- a row that lies apart is as it was -/
theorem App.other {r W w' : World} {B k g cap : Nat} {v : Value} {xs : List Value} {y : Int} (h : App r W w' B v k xs y g cap) {n : Nat} {v2 : Value} {ys : List Value} (ho : r.ownsRow B 3 1 v2 n ys) (ha : v2.ownBlock = none ∨ v2.ownBlock ≠ v.ownBlock) : w'.ownsRow B 3 1 v2 n ys :=
  (own_kept ho h.base).kept h.grow ha
theorem App.apart {r W w' : World} {B k g cap : Nat} {v : Value} {xs : List Value} {y : Int} (h : App r W w' B v k xs y g cap) {n : Nat} {v2 : Value} {ys : List Value} (ho : r.ownsRow B 3 1 v2 n ys) (ha : v2.ownBlock = none ∨ v2.ownBlock ≠ v.ownBlock) : some g ≠ v2.ownBlock :=
  apart_at ho ha h.spot h.base.size
theorem App.below {r W w' : World} {B k g cap : Nat} {v : Value} {xs : List Value} {y : Int} (h : App r W w' B v k xs y g cap) {a : World} (hb : Below B a r) (hB : B ≤ r.heap.size) : Below B a w' :=
  below_own (below_none hb h.base hB) (own_kept h.was h.base) h.grow (Nat.le_trans hB h.base.size)

end Go.Proofs.YtfoaaamcpknjnadGreat

/-
  Rows of bits, of lists alone: what stands at a place is read.
-/
namespace Go.Proofs.YtfoaaamcpknjnadGreat
set_option linter.unusedVariables false
set_option maxRecDepth 100000

theorem rowB_take (xs ys : List Nat) : ∀ q, q ≤ xs.length → rowB (xs ++ ys) q = rowB xs q
  | 0, _ => rfl
  | q + 1, h => by
    rw [rowB, rowB, rowB_take xs ys q (by omega)]
    congr 2
    simp only [List.getD]
    rw [List.getElem?_append_left (by omega)]
theorem rowB_app (xs ys : List Nat) : ∀ q, rowB (xs ++ ys) (xs.length + q) = rowB xs xs.length ++ rowB ys q
  | 0 => by rw [Nat.add_zero, rowB_take xs ys _ (Nat.le_refl _)]; simp [rowB]
  | q + 1 => by
    rw [← Nat.add_assoc, rowB, rowB_app xs ys q, rowB, List.append_assoc]
    congr 3
    simp only [List.getD]
    rw [List.getElem?_append_right (by omega)]
    congr 2
    omega
theorem drop_more {row X R : List Bool} {p : Nat} (h : row.drop p = X ++ R) : row.drop (p + X.length) = R := by
  rw [← List.drop_drop, h, List.drop_left]
theorem drop_len {row X R : List Bool} {p : Nat} (h : row.drop p = X ++ R) (hX : 0 < X.length) : p + X.length ≤ row.length := by
  have := congrArg List.length h
  rw [List.length_drop, List.length_append] at this
  omega
/-- a number that stands there is read -/
theorem uget_at (row : List Bool) (n x : Nat) (u : US) (R : List Bool) (he : u.e = 0) (hp : u.p ≤ row.length) (hx : x < 2 ^ n) (h : row.drop u.p = numBits x n ++ R) : uget row n u = (x, { u with p := u.p + n }) := by
  have hl := numBits_length x n
  have hlen := congrArg List.length h
  rw [List.length_drop, List.length_append, hl] at hlen
  refine uget_ok row n x u he (by omega) hx ?_
  rw [h, List.take_append_of_le_length (by omega), List.take_of_length_le (by omega)]
theorem rowB_cons (x : Nat) (xs : List Nat) : ∀ q, rowB (x :: xs) (q + 1) = numBits x 8 ++ rowB xs q
  | 0 => by simp [rowB]
  | q + 1 => by
    rw [rowB, rowB_cons x xs q, rowB, List.append_assoc]
    rfl
theorem ustore_ok (row : List Bool) : ∀ (bs : List Nat) (u : US) (R : List Bool), u.e = 0 → u.p ≤ row.length → (∀ j, bs.getD j 0 < 256) → u.out.length + bs.length ≤ 3000 → row.drop u.p = rowB bs bs.length ++ R →
    ustore row bs.length u = { u with p := u.p + 8 * bs.length, out := u.out ++ bs }
  | [], u, R, he, hp, hb, hl, h => by
    rw [List.length_nil, ustore]
    simp
  | b :: bs, u, R, he, hp, hb, hl, h => by
    rw [List.length_cons] at hl h ⊢
    rw [rowB_cons, List.append_assoc] at h
    have h0 : b < 2 ^ 8 := by have := hb 0; simpa using this
    have hR := congrArg List.length h
    rw [List.length_drop, List.length_append, numBits_length] at hR
    have c1 := uget_at row 8 b u _ he hp h0 h
    have d1 := drop_more h
    rw [numBits_length] at d1
    have e : usay b { u with p := u.p + 8 } = { u with p := u.p + 8, out := u.out ++ [b] } := by
      unfold usay
      simp only
      rw [if_pos he, if_neg (by omega)]
    rw [ustore, if_pos he, c1]
    simp only
    rw [e, ustore_ok row bs { u with p := u.p + 8, out := u.out ++ [b] } R he (by simp only; omega) (fun j => by have := hb (j + 1); simpa using this) (by simp; omega) d1]
    simp only [List.append_assoc, List.singleton_append]
    congr 1
    omega

/-! a block -/
end Go.Proofs.YtfoaaamcpknjnadGreat
