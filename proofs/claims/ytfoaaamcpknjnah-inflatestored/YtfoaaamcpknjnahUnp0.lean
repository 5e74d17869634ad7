/-
  What the document's own reader of blocks says, of bits alone.
-/
import Derived.Test.YtfoaaamcpknjnahCodesNum
import Derived.Test.YtfoaaamcpknjnahBitL
namespace Go.Proofs.Ytfoaaamcpknjnah
set_option linter.unusedVariables false

/-- where the reader is: its place, the bytes said, the kinds said, what is wrong -/
structure US where
  p : Nat
  out : List Nat
  ks : List Nat
  e : Int

def uget (row : List Bool) (n : Nat) (u : US) : Nat × US :=
  if u.e = 0 then (if row.length < u.p + n then (0, { u with e := 7 }) else (numOf ((row.drop u.p).take n), { u with p := u.p + n })) else (0, u)
def uwrong (x : Int) (u : US) : US := if u.e = 0 then { u with e := x } else u
def usay (c : Nat) (u : US) : US := if u.e = 0 then (if u.out.length = 3000 then { u with e := 2 } else { u with out := u.out ++ [c] }) else u

/-- the place whose code these bits are -/
def findC (l : List Int) (s : List Bool) : Option Nat := (List.range l.length).find? (fun q => decide (codeT l q = s))
def nextF (l : List Int) (row : List Bool) (p : Nat) : Nat → Nat → Nat × Nat × Int
  | 0, _ => (0, 0, 8)
  | f + 1, n => if row.length < p + n then (0, 0, 7) else match findC l ((row.drop p).take n) with
    | some q => (q, n, 0)
    | none => nextF l row p f (n + 1)
def nextR (l : List Int) (row : List Bool) (p : Nat) : Nat × Nat × Int := nextF l row p 15 1
def uplace (l : List Int) (row : List Bool) (u : US) : Nat × US :=
  if u.e = 0 then ((nextR l row u.p).1, { u with e := (nextR l row u.p).2.2, p := u.p + (nextR l row u.p).2.1 }) else (0, u)

/-! the lengths that a block tells -/
def ord19 : List Nat := [16, 17, 18, 0, 8, 7, 9, 6, 10, 5, 11, 4, 12, 3, 13, 2, 14, 1, 15]
def usmall (row : List Bool) : List Nat → List Int → US → List Int × US
  | [], s, u => (s, u)
  | k :: r, s, u => usmall row r (s.set k ((uget row 3 u).1 : Int)) (uget row 3 u).2
/-- what a place k of the code of lengths says behind the lengths l: a length, how many times -/
def ukind (row : List Bool) (l : List Int) (k : Nat) (u : US) : Int × Nat × US :=
  if k = 16 then (if l.length = 0 then (16, 1, uwrong 8 u) else (l.getD (l.length - 1) 0, 3 + (uget row 2 u).1, (uget row 2 u).2))
  else if k = 17 then (0, 3 + (uget row 3 u).1, (uget row 3 u).2)
  else if k = 18 then (0, 11 + (uget row 7 u).1, (uget row 7 u).2)
  else ((k : Int), 1, u)
def umore (tot : Nat) (l : List Int) (r : Int × Nat × US) : List Int × US :=
  (l ++ List.replicate r.2.1 r.1, if r.2.2.e = 0 ∧ tot < l.length + r.2.1 then uwrong 8 r.2.2 else r.2.2)
def ustep (row : List Bool) (small : List Int) (tot : Nat) (l : List Int) (u : US) : List Int × US := umore tot l (ukind row l (uplace small row u).1 (uplace small row u).2)
def ulens (row : List Bool) (small : List Int) (tot : Nat) : Nat → List Int → US → List Int × US
  | 0, l, u => (l, u)
  | f + 1, l, u => if l.length < tot ∧ u.e = 0 then ulens row small tot f (ustep row small tot l u).1 (ustep row small tot l u).2 else (l, u)
/-- the lengths of the code of lengths; where the reader is behind them -/
def utoldS (row : List Bool) (m n c : Nat) (u : US) : List Int × US :=
  usmall row (ord19.take c) (List.replicate 19 0) (if 286 < m ∨ 30 < n then uwrong 8 u else u)
def uchk (s : List Int × US) : US := if s.2.e = 0 ∧ errL s.1 ≠ 0 then uwrong 8 s.2 else s.2
def utoldE (m : Nat) (r : List Int × US) : (List Int × List Int) × US :=
  if r.2.e ≠ 0 then (([], []), r.2)
  else if r.1.getD 256 0 = 0 ∨ errL (r.1.take m) ≠ 0 ∨ errL (r.1.drop m) ≠ 0 then (([], []), uwrong 8 r.2)
  else ((r.1.take m, r.1.drop m), r.2)
def utoldL (row : List Bool) (m n : Nat) (s : List Int × US) : (List Int × List Int) × US :=
  if (uchk s).e ≠ 0 then (([], []), uchk s) else utoldE m (ulens row s.1 (m + n) (m + n) [] (uchk s))
def utold (row : List Bool) (u : US) : (List Int × List Int) × US :=
  let r1 := uget row 5 u
  let r2 := uget row 5 r1.2
  let r3 := uget row 4 r2.2
  utoldL row (r1.1 + 257) (r2.1 + 1) (utoldS row (r1.1 + 257) (r2.1 + 1) (r3.1 + 4) r3.2)

/-! a block -/
def ustore (row : List Bool) : Nat → US → US
  | 0, u => u
  | k + 1, u => if u.e = 0 then ustore row k (usay (uget row 8 u).1 (uget row 8 u).2) else u
def ucopy (d : Nat) : Nat → US → US
  | 0, u => u
  | j + 1, u => if u.e = 0 then ucopy d j (usay (u.out.getD (u.out.length - d) 0) u) else u
def samesL : List (Nat × Nat) := [(3, 0), (4, 0), (5, 0), (6, 0), (7, 0), (8, 0), (9, 0), (10, 0), (11, 1), (13, 1), (15, 1), (17, 1), (19, 2), (23, 2), (27, 2), (31, 2), (35, 3), (43, 3), (51, 3), (59, 3), (67, 4), (83, 4), (99, 4), (115, 4), (131, 5), (163, 5), (195, 5), (227, 5), (258, 0)]
def farsL : List (Nat × Nat) := [(1, 0), (2, 0), (3, 0), (4, 0), (5, 1), (7, 1), (9, 2), (13, 2), (17, 3), (25, 3), (33, 4), (49, 4), (65, 5), (97, 5), (129, 6), (193, 6), (257, 7), (385, 7), (513, 8), (769, 8), (1025, 9), (1537, 9), (2049, 10), (3073, 10), (4097, 11), (6145, 11), (8193, 12), (12289, 12), (16385, 13), (24577, 13)]
def fixA : List Int := List.replicate 144 8 ++ List.replicate 112 9 ++ List.replicate 24 7 ++ List.replicate 8 8
def fixB : List Int := List.replicate 32 5
/-- how far, behind its place -/
def ufar (row : List Bool) (n f : Nat) (u : US) : US :=
  let q := uget row (farsL.getD f (0, 0)).2 u
  let d := (farsL.getD f (0, 0)).1 + q.1
  ucopy d n (if q.2.e = 0 ∧ q.2.out.length < d then uwrong 9 q.2 else q.2)
/-- how many, behind its place: whether the reading goes on -/
def usame (row : List Bool) (b : List Int) (k : Nat) (u : US) : Bool × US :=
  let g := uget row (samesL.getD (k - 257) (0, 0)).2 u
  let h := uplace b row g.2
  let u3 := if h.2.e = 0 ∧ 29 < h.1 then uwrong 8 h.2 else h.2
  if u3.e ≠ 0 then (false, u3) else (true, ufar row ((samesL.getD (k - 257) (0, 0)).1 + g.1) h.1 u3)
/-- one token: whether the reading goes on -/
def utok1 (row : List Bool) (a b : List Int) (u : US) : Bool × US :=
  let r := uplace a row u
  if r.2.e ≠ 0 ∨ r.1 = 256 then (false, r.2)
  else if r.1 < 256 then (true, usay r.1 r.2)
  else if 285 < r.1 then (false, uwrong 8 r.2)
  else usame row b r.1 r.2
def utok (row : List Bool) (a b : List Int) : Nat → US → US
  | 0, u => u
  | f + 1, u => if u.e = 0 then (if (utok1 row a b u).1 then utok row a b f (utok1 row a b u).2 else (utok1 row a b u).2) else u
def ukept (k : Nat) (u : US) : US := { u with ks := u.ks ++ [k] }
def uopen (row : List Bool) (kind : Nat) (u : US) : (List Int × List Int) × US :=
  if kind = 1 then ((fixA, fixB), u) else if kind = 2 then utold row u else (([], []), uwrong 4 u)
def ustored (row : List Bool) (u : US) : US :=
  let n := uget row 16 { u with p := (u.p + 7) / 8 * 8 }
  let t := uget row 16 n.2
  ustore row n.1 (if t.2.e = 0 ∧ n.1 + t.1 ≠ 65535 then uwrong 4 t.2 else t.2)
/-- a block: whether it is the last one -/
def ublock (row : List Bool) (u : US) : Bool × US :=
  let l := uget row 1 u
  let k := uget row 2 l.2
  if k.2.e ≠ 0 then (true, k.2)
  else if k.1 = 0 then (decide (l.1 = 1), ukept 0 (ustored row k.2))
  else
    let o := uopen row k.1 k.2
    if o.2.e ≠ 0 then (true, o.2) else (decide (l.1 = 1), ukept k.1 (utok row o.1.1 o.1.2 row.length o.2))
def ublocks (row : List Bool) : Nat → US → US
  | 0, u => u
  | f + 1, u => if (ublock row u).1 = false ∧ (ublock row u).2.e = 0 then ublocks row f (ublock row u).2 else (ublock row u).2
def unpk (row : List Bool) : US := ublocks row (row.length + 1) ⟨0, [], [], 0⟩
end Go.Proofs.Ytfoaaamcpknjnah
