/-
  Packing, of lists alone: what the tokens of a block are told by, how often each symbol is wanted, the lengths of the shortest codes, how they are told; the bits of a row of blocks.
-/
import Derived.Test.YtfoaaamcpknjnacQ2
import Derived.Test.YtfoaaamcpknjnacQ3
import Derived.Test.YtfoaaamcpknjnacQ0
import Derived.Deep.RegionHeld3
import Derived.Deep.AppendLies
namespace Go.Proofs.Ytfoaaamcpknjnac
set_option linter.unusedVariables false

/-- what a token is told by: a symbol, a symbol of how far, a number of so many bits -/
inductive It where
  | sym (k : Nat)
  | far (k : Nat)
  | rest (n s : Nat)
deriving DecidableEq

/-- how often n halves till it is one of the second group -/
def stepZ (g n : Nat) : Nat → Nat → Nat
  | 0, s => s
  | f + 1, s => if n / 2 ^ s < 2 * g then s else stepZ g n f (s + 1)
def stepS (g n : Nat) : Nat := stepZ g n 12 0
def stepK (g n : Nat) : Nat := g * stepS g n + n / 2 ^ stepS g n
def stepR (g n : Nat) : Nat := n % 2 ^ stepS g n
def manyI (n : Nat) : Nat × Nat × Nat := if n = 258 then (285, 0, 0) else (257 + stepK 4 (n - 3), stepR 4 (n - 3), stepS 4 (n - 3))
def farI (d : Nat) : Nat × Nat × Nat := (stepK 2 (d - 1), stepR 2 (d - 1), stepS 2 (d - 1))
def itOf (t : Tk) : List It :=
  if t.2.1 = 0 then [.sym t.1] else [.sym (manyI t.2.1.toNat).1, .rest (manyI t.2.1.toNat).2.1 (manyI t.2.1.toNat).2.2, .far (farI t.2.2.toNat).1, .rest (farI t.2.2.toNat).2.1 (farI t.2.2.toNat).2.2]
def itsF (ts : List Tk) : List It := ts.flatMap itOf
def itsOf (ts : List Tk) : List It := itsF ts ++ [.sym 256]

/-- their bits, by codes of these lengths -/
def putI (a b : List Int) : It → List Bool
  | .sym k => codeT a k
  | .far k => codeT b k
  | .rest n s => numBits n s
def putIs (a b : List Int) (is : List It) : List Bool := is.flatMap (putI a b)

/-- how often each is wanted -/
def symK (is : List It) : List Nat := is.filterMap (fun i => match i with | .sym k => some k | _ => none)
def farK (is : List It) : List Nat := is.filterMap (fun i => match i with | .far k => some k | _ => none)
def restN (is : List It) : List Nat := is.filterMap (fun i => match i with | .rest _ s => some s | _ => none)
def symC (is : List It) : List Int := bumps (List.replicate 286 0) (symK is)
def farC (is : List It) : List Int := bumps (List.replicate 30 0) (farK is)

/-- the shortest lengths -/
noncomputable def lensD (l : List Int) (m : Nat) : List Int := @Classical.epsilon (List Int) ⟨[]⟩ (fun s => IsLens l m s)
def trimF (l : List Int) (least : Nat) : Nat → Nat
  | 0 => 0
  | n + 1 => if least < n + 1 ∧ l.getD n 0 = 0 then trimF l least n else n + 1
def trimL (l : List Int) (least : Nat) : List Int := l.take (trimF l least l.length)

/-- by which symbols, with which rests, one length is told that stands so often -/
def runZ (x : Nat) : Nat → Nat → List (Nat × Nat × Nat)
  | 0, _ => []
  | f + 1, m => if m = 0 then [] else if m < 3 then (x, 0, 0) :: runZ x f (m - 1) else if 0 < x then (16, min m 6 - 3, 2) :: runZ x f (m - min m 6) else if m < 11 then (17, m - 3, 3) :: runZ x f 0 else (18, min m 138 - 11, 7) :: runZ x f (m - min m 138)
def runI (x m : Nat) : List (Nat × Nat × Nat) := if 0 < x then (x, 0, 0) :: runZ x m (m - 1) else runZ x m m
/-- how many at the front are x -/
def headN (x : Int) : List Int → Nat
  | [] => 0
  | y :: r => if y = x then headN x r + 1 else 0
def lenI : Nat → List Int → List (Nat × Nat × Nat)
  | 0, _ => []
  | f + 1, l => match l with
    | [] => []
    | x :: r => runI x.toNat (headN x r + 1) ++ lenI f (r.drop (headN x r))
def lenIs (l : List Int) : List (Nat × Nat × Nat) := lenI l.length l
def runC (is : List (Nat × Nat × Nat)) : List Int := bumps (List.replicate 19 0) (is.map Prod.fst)
def putR (own : List Int) (i : Nat × Nat × Nat) : List Bool := codeT own i.1 ++ numBits i.2.1 i.2.2
def putRs (own : List Int) (is : List (Nat × Nat × Nat)) : List Bool := is.flatMap (putR own)
/-- how many lengths of the code of lengths are told -/
def ownN (own : List Int) : Nat → Nat
  | 0 => 0
  | n + 1 => if 4 < n + 1 ∧ own.getD (ord19.getD n 0) 0 = 0 then ownN own n else n + 1
noncomputable def ownD (all : List Int) : List Int := lensD (runC (lenIs all)) 7
def headB (a b own : List Int) : List Bool :=
  numBits (a.length - 257) 5 ++ (numBits (b.length - 1) 5 ++ (numBits (ownN own 19 - 4) 4 ++ ((ord19.take (ownN own 19)).flatMap (fun k => numBits (own.getD k 0).toNat 3) ++ putRs own (lenIs (a ++ b)))))
noncomputable def symD (ts : List Tk) : List Int := trimL (lensD (symC (itsOf ts)) 15) 257
noncomputable def farD (ts : List Tk) : List Int := trimL (lensD (farC (itsOf ts)) 15) 1
/-- tokens, and the codes by which they are told, told ahead -/
noncomputable def planB (a b : List Int) (ts : List Tk) : List Bool := headB a b (ownD (a ++ b)) ++ putIs a b (itsOf ts)
/-- a code in which all bytes but one have 8 bits -/
def evenA : List Int := List.replicate 255 8 ++ [9, 9]
def evenB : List Int := [0]
def evenT (bs : List Nat) : List Tk := bs.map (fun b => (b, 0, 0))
open Classical in
noncomputable def dynB (bs : List Nat) : List Bool :=
  if (planB evenA evenB (evenT bs)).length < (planB (symD (toks bs)) (farD (toks bs)) (toks bs)).length then planB evenA evenB (evenT bs) else planB (symD (toks bs)) (farD (toks bs)) (toks bs)
def fixBits (ts : List Tk) : List Bool := putIs fixA fixB (itsOf ts)
/-- how many bits are free in the last byte -/
def freeN (n : Nat) : Nat := (8 - n % 8) % 8
def storB (S : List Bool) (bs : List Nat) : List Bool :=
  S ++ List.replicate (freeN S.length) false ++ numBits bs.length 16 ++ numBits (65535 - bs.length) 16 ++ rowB bs bs.length
/-- the row S, and a block behind it -/
noncomputable def blkB (S : List Bool) (bs : List Nat) (kind : Nat) (last : Bool) : List Bool :=
  if kind = 0 then storB (S ++ [last] ++ numBits kind 2) bs
  else if kind = 1 then S ++ [last] ++ numBits kind 2 ++ fixBits (toks bs)
  else S ++ [last] ++ numBits kind 2 ++ dynB bs
noncomputable def packF : List (List Nat × Nat) → List Bool → List Bool
  | [], S => S
  | (bs, k) :: r, S => packF r (blkB S bs k (decide (r = [])))
def padB (S : List Bool) : List Bool := S ++ List.replicate (freeN S.length) false
end Go.Proofs.Ytfoaaamcpknjnac

/-
  Rows of numbers and of bytes in memory, rows of a call's own, appends to them.
-/
namespace Go.Proofs.Ytfoaaamcpknjnac
open Go.RowKit
set_option linter.unusedVariables false

/-- a row of bytes in memory -/
def Bytes (w : World) (b o : Nat) (xs : List Nat) : Prop := ∀ j, j < xs.length → w.cell? ⟨b, o + j, none⟩ = some (.int .u8 ((xs.getD j 0 : Nat) : Int))

/-- the bytes xs as values -/
abbrev u8s (xs : List Nat) : List Value := xs.map fun x : Nat => Value.int .u8 (x : Int)

theorem grown_refl (w : World) (r : Option Nat) : w.grownBy w r := ⟨rfl, rfl, rfl, Nat.le_refl _, fun _ _ _ => rfl⟩
theorem grown_trans {a b c : World} {r : Option Nat} (h : a.grownBy b r) (k : b.grownBy c r) : a.grownBy c r :=
  ⟨k.os.trans h.os, k.tape.trans h.tape, k.output.trans h.output, Nat.le_trans h.size k.size, fun i hi hr => (k.block i (Nat.lt_of_lt_of_le hi h.size) hr).trans (h.block i hi hr)⟩
theorem grown_setCell (w : World) (b j : Nat) (v : Value) : w.grownBy (w.setCell ⟨b, j, none⟩ v) (some b) := ⟨rfl, rfl, rfl, by simp, fun i hi hr => Below.heap_setCell w _ v i (fun e => hr (by rw [e]))⟩
theorem grown_drew {a b : World} {r : Option Nat} (h : a.grownBy b r) : a.grownBy b.drew r := ⟨h.os, h.tape, h.output, h.size, h.block⟩

theorem info_u8 : (Try.prog.info? 5).map (fun i => (i.zero, i.size, i.bytes)) = some (some (.int .u8 0), 1, 1) := by kernel_rfl
theorem info_int : (Try.prog.info? 3).map (fun i => (i.zero, i.size, i.bytes)) = some (some (.int .i64 0), 1, 8) := by kernel_rfl

theorem made_u8 (n : Nat) : (madeCells (Value.int .u8 0).cells (n * 1)).toList = u8s (List.replicate n 0) := by
  rw [Nat.mul_one]
  show (madeCells #[Value.int .u8 0] n).toList = _
  rw [toList_madeCells_one]
  simp [u8s]

theorem quo8 (t : Nat) : ((t : Int) + 7) / 8 = (((t + 7) / 8 : Nat) : Int) := by omega

theorem first_bad (p : Nat → Bool) : ∀ n, (∀ j, j < n → p j = true) ∨ ∃ j, j < n ∧ p j = false ∧ ∀ i, i < j → p i = true
  | 0 => .inl (fun j h => by omega)
  | n + 1 => by
    rcases first_bad p n with h | ⟨j, h1, h2, h3⟩
    · cases hp : p n with
      | true => exact .inl (fun j hj => by
          by_cases e : j = n
          · rw [e]; exact hp
          · exact h j (by omega))
      | false => exact .inr ⟨n, by omega, hp, h⟩
    · exact .inr ⟨j, by omega, h2, h3⟩

def RowIn (k : IntKind) (w : World) (a : Option Addr) (xs : List Int) : Prop := xs = [] ∨ ∃ b o, a = some ⟨b, o, none⟩ ∧ b < w.heap.size ∧ Row k w b o xs
def BytesIn (w : World) (a : Option Addr) (xs : List Nat) : Prop := xs = [] ∨ ∃ b o, a = some ⟨b, o, none⟩ ∧ b < w.heap.size ∧ Bytes w b o xs

theorem Bytes.below {w w' : World} {B b o : Nat} {xs : List Nat} (h : Bytes w b o xs) (hB : Below B w w') (hb : b < B) : Bytes w' b o xs := by
  intro j hj
  rw [hB.cell (p := ⟨b, o + j, none⟩) hb]; exact h j hj
theorem BytesIn.below {w w' : World} {B : Nat} {a : Option Addr} {xs : List Nat} (h : BytesIn w a xs) (hB : Below B w w') (hb : w.heap.size ≤ B) : BytesIn w' a xs := by
  rcases h with h | ⟨b, o, h1, h2, h3⟩
  · exact .inl h
  · exact .inr ⟨b, o, h1, Nat.lt_of_lt_of_le h2 hB.size, h3.below hB (by omega)⟩

/-- a row of the call's own is a row of bytes -/
theorem BytesIn.own {w : World} {B g n cap : Nat} {xs : List Nat} (h : w.ownsRow B 5 1 (.slice (some ⟨g, 0, none⟩) n cap) n (u8s xs)) : BytesIn w (some ⟨g, 0, none⟩) xs := by
  refine .inr ⟨g, 0, rfl, (h.lt g rfl).2, ?_⟩
  intro j hj
  have hn : xs.length = n := by have := h.1; simpa using this
  rw [Nat.zero_add, h.cellAt j (by omega)]
  simp [u8s, List.getD, hj]
/-- the numbers xs as values -/
abbrev i64s (xs : List Nat) : List Value := xs.map fun x : Nat => Value.int .i64 (x : Int)
theorem made_i64 (n : Nat) : (madeCells #[Value.int .i64 0] n).toList = i64s (List.replicate n 0) := by
  rw [toList_madeCells_one]
  simp [i64s]

theorem RowIn.own {w : World} {B g n cap : Nat} {xs : List Nat} (h : w.ownsRow B 3 1 (.slice (some ⟨g, 0, none⟩) n cap) n (i64s xs)) : RowIn .i64 w (some ⟨g, 0, none⟩) (xs.map fun x : Nat => (x : Int)) := by
  refine .inr ⟨g, 0, rfl, (h.lt g rfl).2, ?_⟩
  intro j hj
  have hn : xs.length = n := by have := h.1; simpa using this
  have hj' : j < xs.length := by simpa using hj
  rw [Nat.zero_add, h.cellAt j (by omega)]
  simp [i64s, List.getD, hj']
theorem BytesIn.new (w : World) (xs : List Nat) (t : TypeId) (A : Array Value) (b : Nat) (hb : b = w.heap.size) (hA : A = (u8s xs).toArray) : BytesIn (w.alloc (.cells A t)) (some ⟨b, 0, none⟩) xs := by
  refine .inr ⟨b, 0, rfl, by rw [hb]; simp, ?_⟩
  intro j hj
  rw [World.cell?_alloc_at _ _ _ _ hb, hA]
  simp [u8s, List.getD, hj]
theorem BytesIn.alloc {w : World} {a : Option Addr} {xs : List Nat} (h : BytesIn w a xs) (x : Obj) : BytesIn (w.alloc x) a xs :=
  h.below ((Below.refl w.heap.size w).alloc (Nat.le_refl _) x) (Nat.le_refl _)
theorem RowIn.new (k : IntKind) (w : World) (xs : List Int) (t : TypeId) (A : Array Value) (b : Nat) (hb : b = w.heap.size) (hA : A = (xs.map (Value.int k)).toArray) : RowIn k (w.alloc (.cells A t)) (some ⟨b, 0, none⟩) xs :=
  .inr ⟨b, 0, rfl, by rw [hb]; simp, Row.new k w xs t A b hb hA⟩
theorem RowIn.below {k : IntKind} {w w' : World} {B : Nat} {a : Option Addr} {xs : List Int} (h : RowIn k w a xs) (hB : Below B w w') (hb : w.heap.size ≤ B) : RowIn k w' a xs := by
  rcases h with h | ⟨b, o, h1, h2, h3⟩
  · exact .inl h
  · exact .inr ⟨b, o, h1, Nat.lt_of_lt_of_le h2 hB.size, h3.below hB (by omega)⟩
theorem RowIn.alloc {k : IntKind} {w : World} {a : Option Addr} {xs : List Int} (h : RowIn k w a xs) (x : Obj) : RowIn k (w.alloc x) a xs :=
  h.below ((Below.refl w.heap.size w).alloc (Nat.le_refl _) x) (Nat.le_refl _)

abbrev iv (xs : List Int) : List Value := xs.map (Value.int .i64)

theorem ga {a b : World} {r : Option Nat} (h : a.grownBy b r) (o : Obj) : a.grownBy (b.alloc o) r := grown_trans h (World.grownBy_alloc b o r)

theorem own_drew {w : World} {B e size n : Nat} {v : Value} {xs : List Value} (h : w.ownsRow B e size v n xs) : w.drew.ownsRow B e size v n xs := h

theorem own_kept {w w' : World} {B e size n : Nat} {v : Value} {xs : List Value} (h : w.ownsRow B e size v n xs) (hg : w.grownBy w' none) : w'.ownsRow B e size v n xs :=
  h.kept hg (by cases hv : v.ownBlock with
    | none => exact .inl rfl
    | some k => exact .inr (by simp))

theorem own_ne {w : World} {B e size n : Nat} {v : Value} {xs : List Value} (h : w.ownsRow B e size v n xs) {j : Nat} (hj : w.heap.size ≤ j) : some j ≠ v.ownBlock := by
  intro e
  have := (h.lt j e.symm).2
  omega
theorem below_none {B : Nat} {a w w' : World} (h : Below B a w) (hg : w.grownBy w' none) (hB : B ≤ w.heap.size) : Below B a w' := h.grown hg hB (fun k e => by cases e)
theorem below_own {B : Nat} {a w w' : World} {e size n : Nat} {v : Value} {xs : List Value} (h : Below B a w) (ho : w.ownsRow B e size v n xs) (hg : w.grownBy w' v.ownBlock) (hB : B ≤ w.heap.size) : Below B a w' := h.grown hg hB (fun k e => (ho.lt k e).1)
/-- two rows lie apart, also behind one of them was appended to -/
theorem apart_at {w : World} {B e size n : Nat} {v v' : Value} {xs : List Value} (h : w.ownsRow B e size v n xs) (ha : v.ownBlock = none ∨ v.ownBlock ≠ v'.ownBlock) {g H : Nat} (hat : v'.ownBlock = some g ∨ g = H) (hH : w.heap.size ≤ H) : some g ≠ v.ownBlock := by
  rcases hat with e | e
  · rcases ha with h1 | h1
    · rw [h1]; simp
    · rw [← e]; exact fun h => h1 h.symm
  · subst e; exact own_ne h hH
theorem grown_le {w w' : World} {r : Option Nat} (h : w.grownBy w' r) : w.heap.size ≤ w'.heap.size := h.size

theorem new_cell {W : World} {b : Nat} {x u : Value} {j : Nat} (h : W.cell? ⟨b, 0, none⟩ = some x) (hj : [x][j]? = some u) : W.cell? ((⟨b, 0, none⟩ : Addr).add j) = some u := by
  match j, hj with
  | 0, hj => simp at hj; subst hj; simpa [Addr.add] using h

theorem cell_last {w : World} {x : Value} {t : TypeId} {b : Nat} (hb : b = w.heap.size) : (w.alloc (.cells #[x] t)).cell? ⟨b, 0, none⟩ = some x := by
  rw [World.cell?_alloc_at _ _ _ _ hb]; rfl
theorem cell_prev {w : World} {x : Value} {t : TypeId} {o : Obj} {b : Nat} (hb : b = w.heap.size) : ((w.alloc (.cells #[x] t)).alloc o).cell? ⟨b, 0, none⟩ = some x := by
  rw [World.cell?_alloc_past _ _ _ (by rw [hb]; simp), World.cell?_alloc_at _ _ _ _ hb]; rfl
theorem cell_drew {w : World} {b : Nat} {v : Value} (h : w.cell? ⟨b, 0, none⟩ = some v) : w.drew.cell? ⟨b, 0, none⟩ = some v := h

theorem one_cell {x : Value} (h : x.oneCell' = true) : ∀ u ∈ [x], u.oneCell' = true := by
  intro u hu; simp at hu; subst hu; exact h

theorem RowIn.iv {w : World} {B g n cap : Nat} {xs : List Int} (h : w.ownsRow B 3 1 (.slice (some ⟨g, 0, none⟩) n cap) n (iv xs)) : RowIn .i64 w (some ⟨g, 0, none⟩) xs := by
  refine .inr ⟨g, 0, rfl, (h.lt g rfl).2, ?_⟩
  intro j hj
  have hn : xs.length = n := by have := h.1; simpa using this
  rw [Nat.zero_add, h.cellAt j (by omega)]
  simp [List.getD, hj]

end Go.Proofs.Ytfoaaamcpknjnac

/-
  What stays while others are worked upon; rows of a call's own as rows that are read.
-/
namespace Go.Proofs.Ytfoaaamcpknjnac
open Go.RowKit
set_option linter.unusedVariables false

theorem heap_row {w : World} {b i : Nat} {cs : Array Value} {t : TypeId} (h : w.heap[b]? = some (.cells cs t (0, 0))) : w.cell? ⟨b, i, none⟩ = cs[i]? := cell_of_row w b i _ _ _ h
/-- what must stay stays -/
def Kp (No : Nat → Prop) (w w' : World) : Prop := ∀ g, g < w.heap.size → No g → w'.heap[g]? = w.heap[g]?
theorem Kp.refl (No : Nat → Prop) (w : World) : Kp No w w := fun _ _ _ => rfl
theorem Kp.trans {No : Nat → Prop} {a b c : World} (h : Kp No a b) (k : Kp No b c) (hs : a.heap.size ≤ b.heap.size) : Kp No a c := fun g hg hn => (k g (by omega) hn).trans (h g hg hn)
theorem Kp.grown {No : Nat → Prop} {a w w' : World} {r : Option Nat} (h : Kp No a w) (hg : w.grownBy w' r) (hs : a.heap.size ≤ w.heap.size) (hr : ∀ j, r = some j → ¬ No j) : Kp No a w' := by
  intro g h1 h2
  rw [hg.block g (by omega) (fun e => hr g e.symm h2)]
  exact h g h1 h2
theorem Bytes.grown {w w' : World} {b o : Nat} {xs : List Nat} {r : Option Nat} (h : Bytes w b o xs) (hg : w.grownBy w' r) (hr : some b ≠ r) : Bytes w' b o xs := fun j hj => hg.cell (h j hj) hr
theorem Kp.weaken {No No' : Nat → Prop} {w w' : World} (h : Kp No' w w') (hn : ∀ g, No g → No' g) : Kp No w w' := fun g h1 h2 => h g h1 (hn g h2)
theorem own_kp {w w' : World} {B e size n : Nat} {v : Value} {xs : List Value} (h : w.ownsRow B e size v n xs) (hk : ∀ g, v.ownBlock = some g → w'.heap[g]? = w.heap[g]?) : w'.ownsRow B e size v n xs := by
  refine ⟨h.1, ?_⟩
  rcases h.2 with h1 | ⟨g, cap, cur, h1, h2, h3, h4⟩
  · exact .inl h1
  · exact .inr ⟨g, cap, cur, h1, h2, (hk g (by rw [h1]; rfl)).trans h3, h4⟩
theorem own_mono {w : World} {B B' e size n : Nat} {v : Value} {xs : List Value} (h : w.ownsRow B e size v n xs) (hB : B' ≤ B) : w.ownsRow B' e size v n xs := by
  refine ⟨h.1, ?_⟩
  rcases h.2 with h1 | ⟨g, cap, cur, h1, h2, h3⟩
  · exact .inl h1
  · exact .inr ⟨g, cap, cur, h1, Nat.le_trans hB h2, h3⟩
theorem own_shape {w : World} {B e size n : Nat} {v : Value} {xs : List Value} (h : w.ownsRow B e size v n xs) (hn : 0 < n) : ∃ g cap, v = .slice (some ⟨g, 0, none⟩) n cap ∧ B ≤ g ∧ g < w.heap.size := by
  rcases h.2 with ⟨h1, h2⟩ | ⟨g, cap, cur, h1, h2, h3⟩
  · omega
  · exact ⟨g, cap, h1, h2, (h.lt g (by rw [h1]; rfl)).2⟩
theorem u8_snoc (xs : List Nat) (y : Nat) : u8s (xs ++ [y]) = u8s xs ++ [.int .u8 (y : Int)] := by simp [u8s]

theorem bytesIn_some {w : World} {a : Option Addr} {bs : List Nat} (h : BytesIn w a bs) (hp : 0 < bs.length) : ∃ b o, a = some ⟨b, o, none⟩ ∧ b < w.heap.size ∧ Bytes w b o bs := by
  rcases h with rfl | h
  · simp at hp
  · exact h

theorem BytesIn.ofOwn {w : World} {B n : Nat} {v : Value} {xs : List Nat} (h : w.ownsRow B 5 1 v n (u8s xs)) : xs.length = n ∧ ∃ a c, v = .slice a n c ∧ BytesIn w a xs := by
  have hn : xs.length = n := by have := h.1; simpa using this
  refine ⟨hn, ?_⟩
  rcases h.2 with ⟨h1, h2⟩ | ⟨g, cap, cur, h1, _⟩
  · subst h2
    exact ⟨none, 0, h1, .inl (List.eq_nil_of_length_eq_zero hn)⟩
  · subst h1
    exact ⟨_, _, rfl, BytesIn.own h⟩

theorem own_slice' {w : World} {B e size n : Nat} {v : Value} {xs : List Value} (h : w.ownsRow B e size v n xs) : ∃ a c, v = .slice a n c := by
  rcases h.2 with ⟨h1, h2⟩ | ⟨g, cap, cur, h1, _⟩
  · subst h2; exact ⟨none, 0, h1⟩
  · exact ⟨_, _, h1⟩
end Go.Proofs.Ytfoaaamcpknjnac

/-
  Appends to a row of numbers that the call itself has made.
-/
namespace Go.Proofs.Ytfoaaamcpknjnac
open Go.RowKit
set_option linter.unusedVariables false

/-- what an append of one number leaves: of r the world ahead, W the world at the append, w' behind it -/
structure App (r W w' : World) (B : Nat) (v : Value) (k : Nat) (xs : List Value) (y : Int) (g cap : Nat) : Prop where
  own : w'.ownsRow B 3 1 (.slice (some ⟨g, 0, none⟩) (k + 1) cap) (k + 1) (xs ++ [.int .i64 y])
  grow : W.grownBy w' v.ownBlock
  spot : v.ownBlock = some g ∨ g = W.heap.size
  lt : g < w'.heap.size
  base : r.grownBy W none
  was : r.ownsRow B 3 1 v k xs

theorem step_app {ops : Array Oper} {o : Oper} {a : Act} {W : World} {K : Act → World → Prop} {Q : Exit → Act → World → Prop} {E : Prop} (hgd : o.guard = none) (s x : Operand)
    (ho : o.op = .call { callee := .builtin .append, args := #[s, x], argTypes := #[36, 36] })
    (r : World) (B : Nat) (v : Value) (k : Nat) (xs : List Value) (hs : a.eval s = v) (hown : r.ownsRow B 3 1 v k xs) (hk : k ≤ 3000) (hB : B ≤ r.heap.size)
    (blk : Nat) (hx : a.eval x = .slice (some ⟨blk, 0, none⟩) 1 1) (y : Int) (hW : r.grownBy W none) (hy : W.cell? ⟨blk, 0, none⟩ = some (.int .i64 y))
    (h : ∀ g cap w', App r W w' B v k xs y g cap → K (a.put o.dst (.slice (some ⟨g, 0, none⟩) (k + 1) cap)) w') :
    if Region.wanted o (yielded ops a.tmps) = true then Oper.wp Try.prog o a W K Q else E := by
  obtain ⟨i0, hi, hz0, hz1, hz2⟩ := info_parts info_int
  refine step_append_lies _ hgd s x 36 ho B 3 i0 (.int .i64 0) 1 8 Try.underlying36 hi hz0 hz1 hz2 rfl (by decide) v k xs hs (own_kept hown hW) ⟨blk, 0, none⟩ 1 1 [.int .i64 y] hx rfl (fun j u hj => new_cell hy hj) (one_cell rfl) (by omega) (by unfold maxLen; omega) (by omega) (Nat.le_trans hB hW.size) _ rfl ?_
  intro g cap w' h1 h2 h3 h4
  exact h g cap w' ⟨h1, h2, h3, h4, hW, hown⟩

theorem App.cell {r W w' : World} {B k g cap : Nat} {v : Value} {xs : List Value} {y : Int} (h : App r W w' B v k xs y g cap) {b i : Nat} {u : Value} (hb : ∀ j, v.ownBlock = some j → j ≠ b) (hc : W.cell? ⟨b, i, none⟩ = some u) : w'.cell? ⟨b, i, none⟩ = some u :=
  h.grow.cell hc (fun e => hb b e.symm rfl)
theorem App.size {r W w' : World} {B k g cap : Nat} {v : Value} {xs : List Value} {y : Int} (h : App r W w' B v k xs y g cap) : r.heap.size ≤ w'.heap.size := Nat.le_trans h.base.size h.grow.size
/-- a row that lies apart is as it was -/
theorem App.other {r W w' : World} {B k g cap : Nat} {v : Value} {xs : List Value} {y : Int} (h : App r W w' B v k xs y g cap) {n : Nat} {v2 : Value} {ys : List Value} (ho : r.ownsRow B 3 1 v2 n ys) (ha : v2.ownBlock = none ∨ v2.ownBlock ≠ v.ownBlock) : w'.ownsRow B 3 1 v2 n ys :=
  (own_kept ho h.base).kept h.grow ha
theorem App.apart {r W w' : World} {B k g cap : Nat} {v : Value} {xs : List Value} {y : Int} (h : App r W w' B v k xs y g cap) {n : Nat} {v2 : Value} {ys : List Value} (ho : r.ownsRow B 3 1 v2 n ys) (ha : v2.ownBlock = none ∨ v2.ownBlock ≠ v.ownBlock) : some g ≠ v2.ownBlock :=
  apart_at ho ha h.spot h.base.size
theorem App.below {r W w' : World} {B k g cap : Nat} {v : Value} {xs : List Value} {y : Int} (h : App r W w' B v k xs y g cap) {a : World} (hb : Below B a r) (hB : B ≤ r.heap.size) : Below B a w' :=
  below_own (below_none hb h.base hB) (own_kept h.was h.base) h.grow (Nat.le_trans hB h.base.size)

end Go.Proofs.Ytfoaaamcpknjnac

/-
  Codes are told apart; the next place is sought. Of bits alone.
-/
namespace Go.Proofs.Ytfoaaamcpknjnac
set_option linter.unusedVariables false
set_option maxRecDepth 100000

theorem hb_inj : ∀ n c c', c < 2 ^ n → c' < 2 ^ n → hb c n = hb c' n → c = c'
  | 0, c, c', h, h', _ => by simp at h h'; omega
  | n + 1, c, c', h, h', e => by
    rw [Nat.pow_succ] at h h'
    rw [hb, hb] at e
    have e1 := List.append_inj e (by rw [hb_length, hb_length])
    have e2 := hb_inj n (c / 2) (c' / 2) (by omega) (by omega) e1.1
    have e3 : decide (c % 2 = 1) = decide (c' % 2 = 1) := by simpa using e1.2
    have e4 : (c % 2 = 1 ↔ c' % 2 = 1) := by simpa using e3
    omega
theorem codeT_inj (l : List Int) (hG : Good l) (s : List Bool) (hs : s ≠ []) (q q' : Nat) (hq : q < l.length) (hq' : q' < l.length) (e : codeT l q = s) (e' : codeT l q' = s) : q = q' := by
  obtain ⟨m, hm⟩ := Int.eq_ofNat_of_zero_le (hG.ok q hq).1
  obtain ⟨m', hm'⟩ := Int.eq_ofNat_of_zero_le (hG.ok q' hq').1
  have hl := congrArg List.length (e.trans e'.symm)
  have hs0 : 0 < m := by
    by_cases h : m = 0
    · subst h; unfold codeT at e; rw [hm] at e; exact absurd e.symm hs
    · omega
  have ee := e.trans e'.symm
  unfold codeT at hl ee
  rw [hm, hm', Int.toNat_natCast, Int.toNat_natCast] at hl ee
  rw [hb_length, hb_length] at hl
  subst hl
  by_cases h : q = q'
  · exact h
  · have c3 := (code_lt l hG hq hm hs0).2.2
    have c3' := (code_lt l hG hq' hm' hs0).2.2
    have := prefix_free l hG hq hq' hm hm' h hs0 (Nat.le_refl _)
    rw [Nat.sub_self, Nat.pow_zero, Nat.div_one] at this
    exact absurd (hb_inj m _ _ c3' c3 ee.symm) this
theorem nextF_go (l : List Int) (row : List Bool) (p : Nat) : ∀ k f, (∀ j, 1 ≤ j → j ≤ k → ¬ row.length < p + j ∧ findC l ((row.drop p).take j) = none) → ∀ n, n + k = k + 1 → nextF l row p (k + f) n = nextF l row p f (n + k)
  | 0, f, _, n, _ => by simp
  | k + 1, f, h, n, hn => by
    have e := nextF_go l row p k (f + 1) (fun j h1 h2 => h j h1 (by omega)) n (by omega)
    rw [show k + 1 + f = k + (f + 1) by omega, e]
    obtain rfl : n = 1 := by omega
    obtain ⟨a1, a2⟩ := h (k + 1) (by omega) (Nat.le_refl _)
    rw [nextF, show 1 + k = k + 1 by omega, if_neg a1, a2, show 1 + (k + 1) = k + 1 + 1 by omega]
end Go.Proofs.Ytfoaaamcpknjnac

/-
  What was written is read: of bits alone.
-/
namespace Go.Proofs.Ytfoaaamcpknjnac
set_option linter.unusedVariables false

theorem numOf_append (a b : List Bool) : numOf (a ++ b) = numOf a + 2 ^ a.length * numOf b := by
  induction a with
  | nil => simp [numOf]
  | cons x r ih =>
    rw [List.cons_append, numOf, ih, numOf, List.length_cons, Nat.pow_succ, Nat.mul_add, ← Nat.mul_assoc, Nat.mul_comm 2 (2 ^ r.length), Nat.add_assoc]
theorem numOf_numBits (x : Nat) : ∀ n, numOf (numBits x n) = x % 2 ^ n
  | 0 => by simp [numBits, numOf, Nat.mod_one]
  | n + 1 => by
    have h : numBits x (n + 1) = numBits x n ++ [x.testBit n] := rfl
    rw [h, numOf_append, numOf_numBits x n, numBits_length, Nat.pow_succ, Nat.mod_mul]
    congr 2
    have := bit_div x n
    rw [this]
    cases x.testBit n <;> simp [numOf]
/-- a number that stands there is read -/
theorem uget_ok (row : List Bool) (n x : Nat) (u : US) (he : u.e = 0) (hle : u.p + n ≤ row.length) (hx : x < 2 ^ n) (h : (row.drop u.p).take n = numBits x n) : uget row n u = (x, { u with p := u.p + n }) := by
  unfold uget
  rw [if_pos he, if_neg (by omega), h, numOf_numBits, Nat.mod_eq_of_lt hx]
theorem hb_take (c : Nat) : ∀ n j, j ≤ n → (hb c n).take j = hb (c / 2 ^ (n - j)) j := by
  intro n
  induction n generalizing c with
  | zero =>
    intro j hj
    obtain rfl : j = 0 := by omega
    rfl
  | succ n ih =>
    intro j hj
    by_cases e : j = n + 1
    · subst e
      rw [Nat.sub_self, Nat.pow_zero, Nat.div_one, List.take_of_length_le (by rw [hb_length]; exact Nat.le_refl _)]
    · rw [hb, List.take_append_of_le_length (by rw [hb_length]; omega), ih (c / 2) j (by omega), Nat.div_div_eq_div_mul, ← Nat.pow_succ', show n + 1 - j = (n - j) + 1 by omega]
/-- no code begins another one -/
theorem codeT_free (l : List Int) (hG : Good l) (q q' : Nat) (hq : q < l.length) (hq' : q' < l.length) (hpos : codeT l q ≠ []) (h : codeT l q = (codeT l q').take (codeT l q).length) : q = q' := by
  obtain ⟨m, hm⟩ := Int.eq_ofNat_of_zero_le (hG.ok q hq).1
  obtain ⟨m', hm'⟩ := Int.eq_ofNat_of_zero_le (hG.ok q' hq').1
  have hl : (codeT l q).length = m := by unfold codeT; rw [hm, Int.toNat_natCast, hb_length]
  have hl' : (codeT l q').length = m' := by unfold codeT; rw [hm', Int.toNat_natCast, hb_length]
  have hm0 : 0 < m := by
    rw [← hl]
    exact List.length_pos_iff.2 hpos
  have hle : m ≤ m' := by
    have := congrArg List.length h
    rw [List.length_take, hl, hl'] at this
    omega
  by_cases e : q = q'
  · exact e
  · exfalso
    have hp := prefix_free l hG hq hq' hm hm' e hm0 hle
    rw [hl] at h
    unfold codeT at h
    rw [hm, hm', Int.toNat_natCast, Int.toNat_natCast, hb_take _ _ _ hle] at h
    have c3 := (code_lt l hG hq hm hm0).2.2
    have c3' := (code_lt l hG hq' hm' (by omega)).2.2
    have hlt : codeN l q' / 2 ^ (m' - m) < 2 ^ m := by
      rw [Nat.div_lt_iff_lt_mul (Nat.two_pow_pos _), ← Nat.pow_add, show m + (m' - m) = m' by omega]
      exact c3'
    exact hp (hb_inj m _ _ hlt c3 h.symm)
/-- a place whose code stands there is read -/
theorem uplace_ok (l : List Int) (hG : Good l) (row : List Bool) (q : Nat) (u : US) (he : u.e = 0) (hq : q < l.length) (hpos : codeT l q ≠ []) (hle : u.p + (codeT l q).length ≤ row.length) (h : (row.drop u.p).take (codeT l q).length = codeT l q) : uplace l row u = (q, { u with p := u.p + (codeT l q).length }) := by
  obtain ⟨m, hm⟩ := Int.eq_ofNat_of_zero_le (hG.ok q hq).1
  have hm15 := (hG.ok q hq).2
  have hl : (codeT l q).length = m := by unfold codeT; rw [hm, Int.toNat_natCast, hb_length]
  have hm0 : 0 < m := by
    rw [← hl]
    exact List.length_pos_iff.2 hpos
  obtain ⟨k, rfl⟩ : ∃ k, m = k + 1 := ⟨m - 1, by omega⟩
  rw [hm] at hm15
  rw [hl] at hle h ⊢
  have hfree : ∀ j, 1 ≤ j → j ≤ k → findC l ((row.drop u.p).take j) = none := by
    intro j h1 h2
    unfold findC
    rw [List.find?_eq_none]
    intro q2 hq2
    simp only [decide_eq_true_eq]
    intro e
    have hj : (codeT l q2).length = j := by
      rw [e, List.length_take, List.length_drop]
      omega
    have hne : codeT l q2 ≠ [] := fun e0 => by rw [e0] at hj; simp at hj; omega
    have := codeT_free l hG q2 q (by simpa using hq2) hq hne (by
      rw [hj, ← h, List.take_take, show min j (k + 1) = j by omega]
      exact e)
    subst this
    omega
  have hfound : findC l ((row.drop u.p).take (k + 1)) = some q := by
    unfold findC
    cases hf : (List.range l.length).find? (fun q2 => decide (codeT l q2 = (row.drop u.p).take (k + 1))) with
    | none =>
      rw [List.find?_eq_none] at hf
      exact absurd (by simpa using h.symm) (hf q (by simpa using hq))
    | some y =>
      have hy := List.find?_some hf
      have hy2 := List.mem_of_find?_eq_some hf
      simp only [decide_eq_true_eq] at hy
      rw [codeT_inj l hG (codeT l q) hpos y q (by simpa using hy2) hq (hy.trans h) rfl]
  have hn : nextR l row u.p = (q, k + 1, 0) := by
    unfold nextR
    have := nextF_go l row u.p k (15 - k) (fun j h1 h2 => ⟨by omega, hfree j h1 h2⟩) 1 (by omega)
    rw [show k + (15 - k) = 15 by omega] at this
    rw [this, show 15 - k = (14 - k) + 1 by omega, nextF, show 1 + k = k + 1 by omega, if_neg (by omega), hfound]
  unfold uplace
  rw [if_pos he, hn]
  simp [he]
end Go.Proofs.Ytfoaaamcpknjnac
