/-
  What the document's own reader of blocks says, of bits alone.
-/
import Derived.Test.YtfoaaamcpknjnadGreatQ4
import Derived.Test.YtfoaaamcpknjnadGreatQ1
import Derived.Maps.Own
import Derived.Maps.OwnSet
import Derived.WideKeyPair
namespace Go.Proofs.YtfoaaamcpknjnadGreat
set_option linter.unusedVariables false

/-- where the reader is: its place, the bytes said, the kinds said, what is wrong -/
structure US where
  p : Nat
  out : List Nat
  ks : List Nat
  e : Int

def uget (row : List Bool) (n : Nat) (u : US) : Nat × US :=
  if u.e = 0 then (if row.length < u.p + n then (0, { u with e := 7 }) else (numOf ((row.drop u.p).take n), { u with p := u.p + n })) else (0, u)
def uwrong (x : Int) (u : US) : US := if u.e = 0 then { u with e := x } else u
def usay (c : Nat) (u : US) : US := if u.e = 0 then (if u.out.length = 3000 then { u with e := 2 } else { u with out := u.out ++ [c] }) else u

/-- the place whose code these bits are -/
def findC (l : List Int) (s : List Bool) : Option Nat := (List.range l.length).find? (fun q => decide (codeT l q = s))
def nextF (l : List Int) (row : List Bool) (p : Nat) : Nat → Nat → Nat × Nat × Int
  | 0, _ => (0, 0, 8)
  | f + 1, n => if row.length < p + n then (0, 0, 7) else match findC l ((row.drop p).take n) with
    | some q => (q, n, 0)
    | none => nextF l row p f (n + 1)
def nextR (l : List Int) (row : List Bool) (p : Nat) : Nat × Nat × Int := nextF l row p 15 1
def uplace (l : List Int) (row : List Bool) (u : US) : Nat × US :=
  if u.e = 0 then ((nextR l row u.p).1, { u with e := (nextR l row u.p).2.2, p := u.p + (nextR l row u.p).2.1 }) else (0, u)

/-! the lengths that a block tells -/
def ord19 : List Nat := [16, 17, 18, 0, 8, 7, 9, 6, 10, 5, 11, 4, 12, 3, 13, 2, 14, 1, 15]
def usmall (row : List Bool) : List Nat → List Int → US → List Int × US
  | [], s, u => (s, u)
  | k :: r, s, u => usmall row r (s.set k ((uget row 3 u).1 : Int)) (uget row 3 u).2
/-- what a place k of the code of lengths says behind the lengths l: a length, how many times -/
def ukind (row : List Bool) (l : List Int) (k : Nat) (u : US) : Int × Nat × US :=
  if k = 16 then (if l.length = 0 then (16, 1, uwrong 8 u) else (l.getD (l.length - 1) 0, 3 + (uget row 2 u).1, (uget row 2 u).2))
  else if k = 17 then (0, 3 + (uget row 3 u).1, (uget row 3 u).2)
  else if k = 18 then (0, 11 + (uget row 7 u).1, (uget row 7 u).2)
  else ((k : Int), 1, u)
def umore (tot : Nat) (l : List Int) (r : Int × Nat × US) : List Int × US :=
  (l ++ List.replicate r.2.1 r.1, if r.2.2.e = 0 ∧ tot < l.length + r.2.1 then uwrong 8 r.2.2 else r.2.2)
def ustep (row : List Bool) (small : List Int) (tot : Nat) (l : List Int) (u : US) : List Int × US := umore tot l (ukind row l (uplace small row u).1 (uplace small row u).2)
def ulens (row : List Bool) (small : List Int) (tot : Nat) : Nat → List Int → US → List Int × US
  | 0, l, u => (l, u)
  | f + 1, l, u => if l.length < tot ∧ u.e = 0 then ulens row small tot f (ustep row small tot l u).1 (ustep row small tot l u).2 else (l, u)
/-- the lengths of the code of lengths; where the reader is behind them -/
def utoldS (row : List Bool) (m n c : Nat) (u : US) : List Int × US :=
  usmall row (ord19.take c) (List.replicate 19 0) (if 286 < m ∨ 30 < n then uwrong 8 u else u)
def uchk (s : List Int × US) : US := if s.2.e = 0 ∧ errL s.1 ≠ 0 then uwrong 8 s.2 else s.2
def utoldE (m : Nat) (r : List Int × US) : (List Int × List Int) × US :=
  if r.2.e ≠ 0 then (([], []), r.2)
  else if r.1.getD 256 0 = 0 ∨ errL (r.1.take m) ≠ 0 ∨ errL (r.1.drop m) ≠ 0 then (([], []), uwrong 8 r.2)
  else ((r.1.take m, r.1.drop m), r.2)
def utoldL (row : List Bool) (m n : Nat) (s : List Int × US) : (List Int × List Int) × US :=
  if (uchk s).e ≠ 0 then (([], []), uchk s) else utoldE m (ulens row s.1 (m + n) (m + n) [] (uchk s))
def utold (row : List Bool) (u : US) : (List Int × List Int) × US :=
  let r1 := uget row 5 u
  let r2 := uget row 5 r1.2
  let r3 := uget row 4 r2.2
  utoldL row (r1.1 + 257) (r2.1 + 1) (utoldS row (r1.1 + 257) (r2.1 + 1) (r3.1 + 4) r3.2)

/-! a block -/
def ustore (row : List Bool) : Nat → US → US
  | 0, u => u
  | k + 1, u => if u.e = 0 then ustore row k (usay (uget row 8 u).1 (uget row 8 u).2) else u
def ucopy (d : Nat) : Nat → US → US
  | 0, u => u
  | j + 1, u => if u.e = 0 then ucopy d j (usay (u.out.getD (u.out.length - d) 0) u) else u
def samesL : List (Nat × Nat) := [(3, 0), (4, 0), (5, 0), (6, 0), (7, 0), (8, 0), (9, 0), (10, 0), (11, 1), (13, 1), (15, 1), (17, 1), (19, 2), (23, 2), (27, 2), (31, 2), (35, 3), (43, 3), (51, 3), (59, 3), (67, 4), (83, 4), (99, 4), (115, 4), (131, 5), (163, 5), (195, 5), (227, 5), (258, 0)]
def farsL : List (Nat × Nat) := [(1, 0), (2, 0), (3, 0), (4, 0), (5, 1), (7, 1), (9, 2), (13, 2), (17, 3), (25, 3), (33, 4), (49, 4), (65, 5), (97, 5), (129, 6), (193, 6), (257, 7), (385, 7), (513, 8), (769, 8), (1025, 9), (1537, 9), (2049, 10), (3073, 10), (4097, 11), (6145, 11), (8193, 12), (12289, 12), (16385, 13), (24577, 13)]
def fixA : List Int := List.replicate 144 8 ++ List.replicate 112 9 ++ List.replicate 24 7 ++ List.replicate 8 8
def fixB : List Int := List.replicate 32 5
/-- how far, behind its place -/
def ufar (row : List Bool) (n f : Nat) (u : US) : US :=
  let q := uget row (farsL.getD f (0, 0)).2 u
  let d := (farsL.getD f (0, 0)).1 + q.1
  ucopy d n (if q.2.e = 0 ∧ q.2.out.length < d then uwrong 9 q.2 else q.2)
/-- how many, behind its place: whether the reading goes on -/
def usame (row : List Bool) (b : List Int) (k : Nat) (u : US) : Bool × US :=
  let g := uget row (samesL.getD (k - 257) (0, 0)).2 u
  let h := uplace b row g.2
  let u3 := if h.2.e = 0 ∧ 29 < h.1 then uwrong 8 h.2 else h.2
  if u3.e ≠ 0 then (false, u3) else (true, ufar row ((samesL.getD (k - 257) (0, 0)).1 + g.1) h.1 u3)
/-- one token: whether the reading goes on -/
def utok1 (row : List Bool) (a b : List Int) (u : US) : Bool × US :=
  let r := uplace a row u
  if r.2.e ≠ 0 ∨ r.1 = 256 then (false, r.2)
  else if r.1 < 256 then (true, usay r.1 r.2)
  else if 285 < r.1 then (false, uwrong 8 r.2)
  else usame row b r.1 r.2
def utok (row : List Bool) (a b : List Int) : Nat → US → US
  | 0, u => u
  | f + 1, u => if u.e = 0 then (if (utok1 row a b u).1 then utok row a b f (utok1 row a b u).2 else (utok1 row a b u).2) else u
def ukept (k : Nat) (u : US) : US := { u with ks := u.ks ++ [k] }
def uopen (row : List Bool) (kind : Nat) (u : US) : (List Int × List Int) × US :=
  if kind = 1 then ((fixA, fixB), u) else if kind = 2 then utold row u else (([], []), uwrong 4 u)
def ustored (row : List Bool) (u : US) : US :=
  let n := uget row 16 { u with p := (u.p + 7) / 8 * 8 }
  let t := uget row 16 n.2
  ustore row n.1 (if t.2.e = 0 ∧ n.1 + t.1 ≠ 65535 then uwrong 4 t.2 else t.2)
/-- a block: whether it is the last one -/
def ublock (row : List Bool) (u : US) : Bool × US :=
  let l := uget row 1 u
  let k := uget row 2 l.2
  if k.2.e ≠ 0 then (true, k.2)
  else if k.1 = 0 then (decide (l.1 = 1), ukept 0 (ustored row k.2))
  else
    let o := uopen row k.1 k.2
    if o.2.e ≠ 0 then (true, o.2) else (decide (l.1 = 1), ukept k.1 (utok row o.1.1 o.1.2 row.length o.2))
def ublocks (row : List Bool) : Nat → US → US
  | 0, u => u
  | f + 1, u => if (ublock row u).1 = false ∧ (ublock row u).2.e = 0 then ublocks row f (ublock row u).2 else (ublock row u).2
def unpk (row : List Bool) : US := ublocks row (row.length + 1) ⟨0, [], [], 0⟩
end Go.Proofs.YtfoaaamcpknjnadGreat

/-
  Codes are told apart; the next place is sought. Of bits alone.
-/
namespace Go.Proofs.YtfoaaamcpknjnadGreat
set_option linter.unusedVariables false
set_option maxRecDepth 100000

theorem hb_inj : ∀ n c c', c < 2 ^ n → c' < 2 ^ n → hb c n = hb c' n → c = c'
  | 0, c, c', h, h', _ => by simp at h h'; omega
  | n + 1, c, c', h, h', e => by
    rw [Nat.pow_succ] at h h'
    rw [hb, hb] at e
    have e1 := List.append_inj e (by rw [hb_length, hb_length])
    have e2 := hb_inj n (c / 2) (c' / 2) (by omega) (by omega) e1.1
    have e3 : decide (c % 2 = 1) = decide (c' % 2 = 1) := by simpa using e1.2
    have e4 : (c % 2 = 1 ↔ c' % 2 = 1) := by simpa using e3
    omega
theorem codeT_inj (l : List Int) (hG : Good l) (s : List Bool) (hs : s ≠ []) (q q' : Nat) (hq : q < l.length) (hq' : q' < l.length) (e : codeT l q = s) (e' : codeT l q' = s) : q = q' := by
  obtain ⟨m, hm⟩ := Int.eq_ofNat_of_zero_le (hG.ok q hq).1
  obtain ⟨m', hm'⟩ := Int.eq_ofNat_of_zero_le (hG.ok q' hq').1
  have hl := congrArg List.length (e.trans e'.symm)
  have hs0 : 0 < m := by
    by_cases h : m = 0
    · subst h; unfold codeT at e; rw [hm] at e; exact absurd e.symm hs
    · omega
  have ee := e.trans e'.symm
  unfold codeT at hl ee
  rw [hm, hm', Int.toNat_natCast, Int.toNat_natCast] at hl ee
  rw [hb_length, hb_length] at hl
  subst hl
  by_cases h : q = q'
  · exact h
  · have c3 := (code_lt l hG hq hm hs0).2.2
    have c3' := (code_lt l hG hq' hm' hs0).2.2
    have := prefix_free l hG hq hq' hm hm' h hs0 (Nat.le_refl _)
    rw [Nat.sub_self, Nat.pow_zero, Nat.div_one] at this
    exact absurd (hb_inj m _ _ c3' c3 ee.symm) this
theorem nextF_go (l : List Int) (row : List Bool) (p : Nat) : ∀ k f, (∀ j, 1 ≤ j → j ≤ k → ¬ row.length < p + j ∧ findC l ((row.drop p).take j) = none) → ∀ n, n + k = k + 1 → nextF l row p (k + f) n = nextF l row p f (n + k)
  | 0, f, _, n, _ => by simp
  | k + 1, f, h, n, hn => by
    have e := nextF_go l row p k (f + 1) (fun j h1 h2 => h j h1 (by omega)) n (by omega)
    rw [show k + 1 + f = k + (f + 1) by omega, e]
    obtain rfl : n = 1 := by omega
    obtain ⟨a1, a2⟩ := h (k + 1) (by omega) (Nat.le_refl _)
    rw [nextF, show 1 + k = k + 1 by omega, if_neg a1, a2, show 1 + (k + 1) = k + 1 + 1 by omega]
end Go.Proofs.YtfoaaamcpknjnadGreat

/-
  What was written is read: of bits alone.
-/
namespace Go.Proofs.YtfoaaamcpknjnadGreat
set_option linter.unusedVariables false

theorem numOf_append (a b : List Bool) : numOf (a ++ b) = numOf a + 2 ^ a.length * numOf b := by
  induction a with
  | nil => simp [numOf]
  | cons x r ih =>
    rw [List.cons_append, numOf, ih, numOf, List.length_cons, Nat.pow_succ, Nat.mul_add, ← Nat.mul_assoc, Nat.mul_comm 2 (2 ^ r.length), Nat.add_assoc]
theorem numOf_numBits (x : Nat) : ∀ n, numOf (numBits x n) = x % 2 ^ n
  | 0 => by simp [numBits, numOf, Nat.mod_one]
  | n + 1 => by
    have h : numBits x (n + 1) = numBits x n ++ [x.testBit n] := rfl
    rw [h, numOf_append, numOf_numBits x n, numBits_length, Nat.pow_succ, Nat.mod_mul]
    congr 2
    have := bit_div x n
    rw [this]
    cases x.testBit n <;> simp [numOf]
/-- a number that stands there is read -/
theorem uget_ok (row : List Bool) (n x : Nat) (u : US) (he : u.e = 0) (hle : u.p + n ≤ row.length) (hx : x < 2 ^ n) (h : (row.drop u.p).take n = numBits x n) : uget row n u = (x, { u with p := u.p + n }) := by
  unfold uget
  rw [if_pos he, if_neg (by omega), h, numOf_numBits, Nat.mod_eq_of_lt hx]
theorem hb_take (c : Nat) : ∀ n j, j ≤ n → (hb c n).take j = hb (c / 2 ^ (n - j)) j := by
  intro n
  induction n generalizing c with
  | zero =>
    intro j hj
    obtain rfl : j = 0 := by omega
    rfl
  | succ n ih =>
    intro j hj
    by_cases e : j = n + 1
    · subst e
      rw [Nat.sub_self, Nat.pow_zero, Nat.div_one, List.take_of_length_le (by rw [hb_length]; exact Nat.le_refl _)]
    · rw [hb, List.take_append_of_le_length (by rw [hb_length]; omega), ih (c / 2) j (by omega), Nat.div_div_eq_div_mul, ← Nat.pow_succ', show n + 1 - j = (n - j) + 1 by omega]
/-- no code begins another one -/
theorem codeT_free (l : List Int) (hG : Good l) (q q' : Nat) (hq : q < l.length) (hq' : q' < l.length) (hpos : codeT l q ≠ []) (h : codeT l q = (codeT l q').take (codeT l q).length) : q = q' := by
  obtain ⟨m, hm⟩ := Int.eq_ofNat_of_zero_le (hG.ok q hq).1
  obtain ⟨m', hm'⟩ := Int.eq_ofNat_of_zero_le (hG.ok q' hq').1
  have hl : (codeT l q).length = m := by unfold codeT; rw [hm, Int.toNat_natCast, hb_length]
  have hl' : (codeT l q').length = m' := by unfold codeT; rw [hm', Int.toNat_natCast, hb_length]
  have hm0 : 0 < m := by
    rw [← hl]
    exact List.length_pos_iff.2 hpos
  have hle : m ≤ m' := by
    have := congrArg List.length h
    rw [List.length_take, hl, hl'] at this
    omega
  by_cases e : q = q'
  · exact e
  · exfalso
    have hp := prefix_free l hG hq hq' hm hm' e hm0 hle
    rw [hl] at h
    unfold codeT at h
    rw [hm, hm', Int.toNat_natCast, Int.toNat_natCast, hb_take _ _ _ hle] at h
    have c3 := (code_lt l hG hq hm hm0).2.2
    have c3' := (code_lt l hG hq' hm' (by omega)).2.2
    have hlt : codeN l q' / 2 ^ (m' - m) < 2 ^ m := by
      rw [Nat.div_lt_iff_lt_mul (Nat.two_pow_pos _), ← Nat.pow_add, show m + (m' - m) = m' by omega]
      exact c3'
    exact hp (hb_inj m _ _ hlt c3 h.symm)
/-- a place whose code stands there is read -/
theorem uplace_ok (l : List Int) (hG : Good l) (row : List Bool) (q : Nat) (u : US) (he : u.e = 0) (hq : q < l.length) (hpos : codeT l q ≠ []) (hle : u.p + (codeT l q).length ≤ row.length) (h : (row.drop u.p).take (codeT l q).length = codeT l q) : uplace l row u = (q, { u with p := u.p + (codeT l q).length }) := by
  obtain ⟨m, hm⟩ := Int.eq_ofNat_of_zero_le (hG.ok q hq).1
  have hm15 := (hG.ok q hq).2
  have hl : (codeT l q).length = m := by unfold codeT; rw [hm, Int.toNat_natCast, hb_length]
  have hm0 : 0 < m := by
    rw [← hl]
    exact List.length_pos_iff.2 hpos
  obtain ⟨k, rfl⟩ : ∃ k, m = k + 1 := ⟨m - 1, by omega⟩
  rw [hm] at hm15
  rw [hl] at hle h ⊢
  have hfree : ∀ j, 1 ≤ j → j ≤ k → findC l ((row.drop u.p).take j) = none := by
    intro j h1 h2
    unfold findC
    rw [List.find?_eq_none]
    intro q2 hq2
    simp only [decide_eq_true_eq]
    intro e
    have hj : (codeT l q2).length = j := by
      rw [e, List.length_take, List.length_drop]
      omega
    have hne : codeT l q2 ≠ [] := fun e0 => by rw [e0] at hj; simp at hj; omega
    have := codeT_free l hG q2 q (by simpa using hq2) hq hne (by
      rw [hj, ← h, List.take_take, show min j (k + 1) = j by omega]
      exact e)
    subst this
    omega
  have hfound : findC l ((row.drop u.p).take (k + 1)) = some q := by
    unfold findC
    cases hf : (List.range l.length).find? (fun q2 => decide (codeT l q2 = (row.drop u.p).take (k + 1))) with
    | none =>
      rw [List.find?_eq_none] at hf
      exact absurd (by simpa using h.symm) (hf q (by simpa using hq))
    | some y =>
      have hy := List.find?_some hf
      have hy2 := List.mem_of_find?_eq_some hf
      simp only [decide_eq_true_eq] at hy
      rw [codeT_inj l hG (codeT l q) hpos y q (by simpa using hy2) hq (hy.trans h) rfl]
  have hn : nextR l row u.p = (q, k + 1, 0) := by
    unfold nextR
    have := nextF_go l row u.p k (15 - k) (fun j h1 h2 => ⟨by omega, hfree j h1 h2⟩) 1 (by omega)
    rw [show k + (15 - k) = 15 by omega] at this
    rw [this, show 15 - k = (14 - k) + 1 by omega, nextF, show 1 + k = k + 1 by omega, if_neg (by omega), hfound]
  unfold uplace
  rw [if_pos he, hn]
  simp [he]
end Go.Proofs.YtfoaaamcpknjnadGreat

/-
  Package inflate: the map of a decoder, codes by how many bits they have and which.
-/
namespace Go.Proofs.YtfoaaamcpknjnadGreat
open Go.RowKit Go.Maps Go.WideMaps Go.ChangeShapes
set_option linter.unusedVariables false
set_option maxRecDepth 100000

theorem arrW : ArrKey Tryz.prog 196 3 2 := ⟨Tryz.underlying196, by kernel_rfl, by kernel_rfl, by kernel_rfl⟩
theorem lawW : Keyed Tryz.prog 196 := Keyed.of_law arrW.law
theorem typesW : ∃ m, Tryz.prog.types.size = m + 1 := ⟨Tryz.prog.types.size - 1, by have : 0 < Tryz.prog.types.size := of_decide_eq_true (by kernel_rfl); omega⟩
def kw (c : Nat × Nat) : Value := .agg #[.int .i64 (c.1 : Int), .int .i64 (c.2 : Int)]
def kwl (c : Nat × Nat) : Lit := .string (keyBytes [.int .i64 (c.1 : Int), .int .i64 (c.2 : Int)])
def OkW (c : Nat × Nat) : Prop := c.1 < 65536 ∧ c.2 < 65536
theorem wf_small {x : Nat} (h : x < 65536) : (Lit.int .i64 (x : Int)).wf = true := by
  simp [Lit.wf, IntKind.min, IntKind.max, IntKind.signed, IntKind.bits]; omega
theorem keyOf_kw {c : Nat × Nat} (h : OkW c) : keyOf Tryz.prog 196 (kw c) = some (kwl c) := by
  have A := arrW
  have hkt := A.keyType typesW
  obtain ⟨m, hm⟩ := typesW
  have he : Tryz.prog.underlying 3 = some (.int .i64) := Tryz.underlying3
  have w1 := wf_small h.1
  have w2 := wf_small h.2
  unfold keyOf kw kwl
  simp only [A.hu]
  rw [if_pos (by simp [hkt, Value.formed, A.hu, A.size]), hm]
  unfold Program.keyLits
  simp only [A.hu, Value.cells]
  rw [if_pos (by rw [A.size]; rfl), show List.range 2 = [0, 1] from rfl, List.mapM_cons, List.mapM_cons, List.mapM_nil]
  simp [A.one, Program.keyLits, he, w1, w2]
theorem kwl_inj {c d : Nat × Nat} (hc : OkW c) (hd : OkW d) (h : kwl c = kwl d) : c = d := by
  have := lawW.inj (keyOf_kw hc) (by rw [h]; exact keyOf_kw hd)
  obtain ⟨c1, c2⟩ := c
  obtain ⟨d1, d2⟩ := d
  simp [kw] at this
  simp only [Prod.mk.injEq]
  omega
/-- bits as a number, the first one highest -/
def vH : List Bool → Nat
  | [] => 0
  | b :: r => (if b then 2 ^ r.length else 0) + vH r
theorem vH_lt : ∀ s, vH s < 2 ^ s.length
  | [] => by simp [vH]
  | b :: r => by
    have := vH_lt r
    rw [vH, List.length_cons, Nat.pow_succ]
    split <;> omega
theorem vH_snoc : ∀ (s : List Bool) (b : Bool), vH (s ++ [b]) = 2 * vH s + (if b then 1 else 0)
  | [], b => by cases b <;> rfl
  | x :: r, b => by
    rw [List.cons_append, vH, vH_snoc r b, vH, List.length_append]
    simp only [List.length_cons, List.length_nil, Nat.zero_add, Nat.pow_succ]
    cases x <;> simp <;> omega
theorem vH_inj : ∀ {s t : List Bool}, s.length = t.length → vH s = vH t → s = t
  | [], [], _, _ => rfl
  | [], _ :: _, h, _ => by simp at h
  | _ :: _, [], h, _ => by simp at h
  | a :: s, b :: t, h, e => by
    have hl : s.length = t.length := by simpa using h
    have h1 := vH_lt s
    have h2 := vH_lt t
    rw [vH, vH, hl] at e
    rw [hl] at h1
    cases a <;> cases b <;> simp at e
    · rw [vH_inj hl e]
    · omega
    · omega
    · rw [vH_inj hl e]
theorem vH_hb : ∀ n c, c < 2 ^ n → vH (hb c n) = c
  | 0, c, h => by simp at h; subst h; rfl
  | n + 1, c, h => by
    rw [hb, vH_snoc, vH_hb n (c / 2) (by rw [Nat.pow_succ] at h; omega)]
    have := Nat.mod_two_eq_zero_or_one c
    rcases this with e | e <;> simp [e] <;> omega
def kb (s : List Bool) : Lit := kwl (s.length, vH s)
theorem okb {s : List Bool} (h : s.length ≤ 15) : OkW (s.length, vH s) := by
  have h1 := vH_lt s
  have h2 : 2 ^ s.length ≤ 2 ^ 15 := Nat.pow_le_pow_right (by decide) h
  exact ⟨by simp only; omega, by simp only; omega⟩
theorem kb_inj {s t : List Bool} (hs : s.length ≤ 15) (ht : t.length ≤ 15) (h : kb s = kb t) : s = t := by
  have := kwl_inj (okb hs) (okb ht) h
  exact vH_inj (Prod.mk.inj this).1 (Prod.mk.inj this).2
theorem kb_key (s : List Bool) : WideAt.IsKeyLit (kb s) := by
  first | trivial | exact ⟨⟩ | (unfold kb kwl WideAt.IsKeyLit; simp)

/-- the decoder's map behind k places -/
def decD (l : List Int) : Nat → DataW Unit
  | 0 => .map []
  | k + 1 => if codeT l k = [] then decD l k else (decD l k).put (kb (codeT l k)) (.lit (.int .i64 (k : Int)))
theorem decD_map (l : List Int) : ∀ k, IsMap (decD l k)
  | 0 => isMap_empty
  | k + 1 => by
    rw [decD]
    split
    · exact decD_map l k
    · exact (decD_map l k).put _ _
theorem dec_has (l : List Int) (hc : ∀ k, (codeT l k).length ≤ 15) (s : List Bool) (hs : s ≠ []) (hl : s.length ≤ 15) : ∀ k, Maps.has (decD l k) (kb s) = decide (∃ q, q < k ∧ codeT l q = s)
  | 0 => by
    rw [decide_eq_false (by rintro ⟨q, h, _⟩; omega)]; rfl
  | k + 1 => by
    have ih := dec_has l hc s hs hl k
    have e : (∃ q, q < k + 1 ∧ codeT l q = s) ↔ ((∃ q, q < k ∧ codeT l q = s) ∨ codeT l k = s) := by
      constructor
      · rintro ⟨q, h1, h2⟩
        by_cases hq : q = k
        · subst hq; exact .inr h2
        · exact .inl ⟨q, by omega, h2⟩
      · rintro (⟨q, h1, h2⟩ | h)
        · exact ⟨q, by omega, h2⟩
        · exact ⟨k, by omega, h⟩
    rw [decD]
    by_cases h0 : codeT l k = []
    · rw [if_pos h0, ih, Bool.eq_iff_iff]
      simp only [decide_eq_true_eq, e]
      constructor
      · exact .inl
      · rintro (h | h)
        · exact h
        · rw [h0] at h; exact absurd h.symm hs
    · rw [if_neg h0]
      by_cases hk : codeT l k = s
      · rw [hk, has_put_same (decD_map l k) (kb_key s), decide_eq_true (e.2 (.inr hk))]
      · rw [has_put_other (fun h => hk (kb_inj (hc k) hl (by first | exact h | exact h.symm))), ih, Bool.eq_iff_iff]
        simp only [decide_eq_true_eq, e]
        constructor
        · exact .inl
        · rintro (h | h)
          · exact h
          · exact absurd h hk
theorem dec_at (l : List Int) (hc : ∀ k, (codeT l k).length ≤ 15) (s : List Bool) (hs : s ≠ []) (hl : s.length ≤ 15) (hinj : ∀ q q', q < l.length → q' < l.length → codeT l q = s → codeT l q' = s → q = q') (z : DataW Unit) : ∀ k, k ≤ l.length → ∀ q, q < k → codeT l q = s → (decD l k).atKey (kb s) z = .lit (.int .i64 (q : Int))
  | 0, _, q, h, _ => by omega
  | k + 1, hk, q, h, hq => by
    rw [decD]
    by_cases h0 : codeT l k = []
    · rw [if_pos h0]
      have : q ≠ k := fun e => by subst e; rw [h0] at hq; exact hs hq.symm
      exact dec_at l hc s hs hl hinj z k (by omega) q (by omega) hq
    · rw [if_neg h0]
      by_cases e : codeT l k = s
      · have := hinj q k (by omega) (by omega) hq e
        subst this
        rw [e, atKey_put_same (decD_map l _) (kb_key s)]
      · rw [atKey_put_other (fun h => e (kb_inj (hc k) hl (by first | exact h | exact h.symm)))]
        have : q ≠ k := fun e2 => by subst e2; exact e hq
        exact dec_at l hc s hs hl hinj z k (by omega) q (by omega) hq
theorem codeT_short {l : List Int} (hG : Good l) (k : Nat) : (codeT l k).length ≤ 15 := by
  unfold codeT
  rw [hb_length]
  by_cases hk : k < l.length
  · have := (hG.ok k hk).2; omega
  · rw [List.getD, List.getElem?_eq_none (by omega)]; exact (by decide : (0 : Int).toNat ≤ 15)
theorem codeT_key {l : List Int} (hG : Good l) {k n : Nat} (hk : k < l.length) (hn : l.getD k 0 = (n : Int)) (h0 : 0 < n) : kb (codeT l k) = kwl (n, codeN l k) ∧ codeT l k ≠ [] ∧ OkW (n, codeN l k) := by
  have hlt := (code_lt l hG hk hn h0).2.2
  have h15 := (hG.ok k hk).2
  rw [hn] at h15
  have e : codeT l k = hb (codeN l k) n := by unfold codeT; rw [hn]; rfl
  have hp : 2 ^ n ≤ 2 ^ 15 := Nat.pow_le_pow_right (by decide) (by omega)
  have hp15 : (2 : Nat) ^ 15 = 32768 := by decide
  refine ⟨?_, ?_, ⟨by simp only; omega, by simp only; omega⟩⟩
  · rw [e]
    unfold kb
    rw [hb_length, vH_hb n _ hlt]
  · intro h
    have := congrArg List.length h
    rw [e, hb_length] at this
    simp at this
    omega
end Go.Proofs.YtfoaaamcpknjnadGreat
