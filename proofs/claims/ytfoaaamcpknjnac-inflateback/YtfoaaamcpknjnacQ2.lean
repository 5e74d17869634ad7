/-
  Codes as texts of noughts and ones, by adding one: plain facts.
-/
import Derived.Test.YtfoaaamcpknjnacQ0
import Derived.Test.YtfoaaamcpknjnacQ1
namespace Go.Proofs.Ytfoaaamcpknjnac
open Go.RowKit
set_option linter.unusedVariables false

/-- n bits of a number, the highest first -/
def hb (c : Nat) : Nat → List Bool
  | 0 => []
  | n + 1 => hb (c / 2) n ++ [decide (c % 2 = 1)]
theorem hb_length : ∀ n c, (hb c n).length = n
  | 0, _ => rfl
  | n + 1, c => by simp [hb, hb_length n]
theorem hb_zero : ∀ n, hb 0 n = List.replicate n false
  | 0 => rfl
  | n + 1 => by rw [hb, Nat.zero_div, hb_zero n, List.replicate_succ']; rfl
theorem hb_pad (c n : Nat) : ∀ d, hb (c * 2 ^ d) (n + d) = hb c n ++ List.replicate d false
  | 0 => by simp
  | d + 1 => by
    have e : c * 2 ^ (d + 1) = 2 * (c * 2 ^ d) := by rw [Nat.pow_succ]; rw [← Nat.mul_assoc, Nat.mul_comm]
    rw [show n + (d + 1) = (n + d) + 1 by omega, hb, e]
    have e1 : 2 * (c * 2 ^ d) / 2 = c * 2 ^ d := by omega
    have e2 : 2 * (c * 2 ^ d) % 2 = 0 := by omega
    rw [e1, e2, hb_pad c n d, List.replicate_succ', List.append_assoc]
    rfl
/-- one more: the last nought becomes a one, and all behind it noughts -/
theorem hb_inc : ∀ n c, c + 1 < 2 ^ n → ∃ a t, hb c n = a ++ false :: List.replicate t true ∧ hb (c + 1) n = a ++ true :: List.replicate t false
  | 0, c, h => by simp at h
  | n + 1, c, h => by
    rw [Nat.pow_succ] at h
    by_cases hc : c % 2 = 0
    · refine ⟨hb (c / 2) n, 0, ?_, ?_⟩
      · rw [hb, hc]; rfl
      · rw [hb, show (c + 1) / 2 = c / 2 by omega, show (c + 1) % 2 = 1 by omega]; rfl
    · obtain ⟨a, t, h1, h2⟩ := hb_inc n (c / 2) (by omega)
      refine ⟨a, t + 1, ?_, ?_⟩
      · rw [hb, h1, show c % 2 = 1 by omega, List.replicate_succ', List.append_assoc]; rfl
      · rw [hb, show (c + 1) / 2 = c / 2 + 1 by omega, h2, show (c + 1) % 2 = 0 by omega, List.replicate_succ', List.append_assoc]; rfl

/-- the places that have a length, with it, among the first k -/
def usedP (l : List Int) : Nat → List (Int × Int)
  | 0 => []
  | k + 1 => usedP l k ++ (if 0 < l.getD k 0 then [(l.getD k 0, (k : Int))] else [])
def wt (x : Int × Int) : Nat := 2 ^ (15 - x.1.toNat)
instance (x y : Int × Int) : Decidable (Stab.lx x y) := by unfold Stab.lx; infer_instance
/-- what those take together that stand ahead of p -/
def bsum (p : Int × Int) : List (Int × Int) → Nat
  | [] => 0
  | x :: r => (if Stab.lx x p then wt x else 0) + bsum p r
theorem bsum_append (p : Int × Int) : ∀ xs ys, bsum p (xs ++ ys) = bsum p xs + bsum p ys
  | [], ys => by simp [bsum]
  | x :: r, ys => by simp only [List.cons_append, bsum, bsum_append p r ys]; omega
theorem bsum_perm (p : Int × Int) {xs ys : List (Int × Int)} (h : xs.Perm ys) : bsum p xs = bsum p ys := by
  induction h with
  | nil => rfl
  | cons x _ ih => simp only [bsum, ih]
  | swap x y l => simp only [bsum]; omega
  | trans _ _ h1 h2 => exact h1.trans h2

theorem taken_upd (c : Nat → Nat) (m : Nat) (hm : 1 ≤ m) (h15 : m ≤ 15) : ∀ j, j ≤ 15 → takenN (upd c m (c m + 1)) j = takenN c j + (if m ≤ j then 2 ^ (15 - m) else 0)
  | 0, _ => by simp [takenN]; omega
  | j + 1, h => by
    have ih := taken_upd c m hm h15 j (by omega)
    rw [takenN, takenN, ih]
    by_cases e : j + 1 = m
    · subst e
      have h1 : ¬ (j + 1 ≤ j) := by omega
      have h2 : 15 - (j + 1) = 14 - j := by omega
      simp only [upd, if_pos, h1, if_false, Nat.le_refl, h2, Nat.add_mul, Nat.one_mul]
      omega
    · simp only [upd, if_neg e]
      by_cases h1 : m ≤ j
      · have h2 : m ≤ j + 1 := by omega
        simp [h1, h2]; omega
      · have h2 : ¬ m ≤ j + 1 := by omega
        simp [h1, h2]
theorem taken_upd0 (c : Nat → Nat) (x : Nat) : ∀ j, takenN (upd c 0 x) j = takenN c j
  | 0 => rfl
  | j + 1 => by rw [takenN, takenN, taken_upd0 c x j]; simp [upd]

theorem bsum_used (l : List Int) (hG : Good l) (n q : Nat) (hn : 1 ≤ n) (hn15 : n ≤ 15) : ∀ k, k ≤ l.length → bsum ((n : Int), (q : Int)) (usedP l k) = takenN (cnt (l.take k)) (n - 1) + cnt (l.take (min k q)) n * 2 ^ (15 - n)
  | 0, _ => by
    have e : ∀ j, takenN (cnt []) j = 0 := fun j => by
      induction j with
      | zero => rfl
      | succ j ih => rw [takenN, ih]; simp [cnt]
    simp [usedP, bsum, e, cnt]
  | k + 1, hk => by
    have ih := bsum_used l hG n q hn hn15 k (by omega)
    have hkl : k < l.length := by omega
    have hok := hG.ok k hkl
    obtain ⟨m, hm⟩ := Int.eq_ofNat_of_zero_le hok.1
    have hc := cnt_next l hkl hm
    have hcm : cnt (l.take (k + 1)) n = cnt (l.take k) n + (if n = m then 1 else 0) := by
      rw [← hc]; simp only [upd]
      by_cases e : n = m
      · subst e; simp
      · simp [e]
    have hmin : cnt (l.take (min (k + 1) q)) n = cnt (l.take (min k q)) n + (if k < q ∧ n = m then 1 else 0) := by
      by_cases hkq : k < q
      · rw [Nat.min_eq_left (by omega), Nat.min_eq_left (by omega), hcm]
        simp [hkq]
      · rw [Nat.min_eq_right (by omega), Nat.min_eq_right (by omega)]
        simp [hkq]
    rw [usedP, bsum_append, ih, hmin, ← hc, hm]
    have h15 : m ≤ 15 := by rw [hm] at hok; omega
    by_cases h0 : m = 0
    · subst h0
      rw [taken_upd0]
      have : ¬ n = 0 := by omega
      simp [bsum, this]
    · rw [taken_upd _ m (by omega) h15 (n - 1) (by omega)]
      have hpos : (0 : Int) < (m : Int) := by omega
      rw [if_pos hpos]
      simp only [bsum, wt, Int.toNat_natCast, Nat.add_zero]
      have hlx : Stab.lx ((m : Int), (k : Int)) ((n : Int), (q : Int)) ↔ (m ≤ n - 1 ∨ (n = m ∧ k < q)) := by unfold Stab.lx; constructor <;> intro h <;> omega
      by_cases h1 : m ≤ n - 1
      · have h2 : ¬ (k < q ∧ n = m) := by omega
        rw [if_pos (hlx.2 (.inl h1)), if_pos h1, if_neg h2, Nat.add_zero]
        omega
      · by_cases h2 : k < q ∧ n = m
        · rw [if_pos (hlx.2 (.inr ⟨h2.2, h2.1⟩)), if_neg h1, if_pos h2, Nat.add_mul, Nat.one_mul, h2.2]
          omega
        · rw [if_neg (fun h => by have := hlx.1 h; omega), if_neg h1, if_neg h2, Nat.add_zero, Nat.add_zero, Nat.add_zero]

/-- a place's code tells what stands ahead of it -/
theorem bsum_code (l : List Int) (hG : Good l) {n q : Nat} (hq : q < l.length) (hx : l.getD q 0 = (n : Int)) (hn : 0 < n) : bsum ((n : Int), (q : Int)) (usedP l l.length) = codeN l q * 2 ^ (15 - n) := by
  have hn15 : n ≤ 15 := by have := (hG.ok q hq).2; omega
  rw [bsum_used l hG n q (by omega) hn15 l.length (Nat.le_refl _), List.take_length, Nat.min_eq_right (by omega)]
  have h := first_taken (cnt l) (n - 1) (by omega)
  have e := codeN_nxt l hx
  unfold nxt at e
  rw [if_neg (by omega)] at e
  rw [e, Nat.add_mul, ← h, show n - 1 + 1 = n by omega, show 14 - (n - 1) = 15 - n by omega]

/-- the sum of the first i -/
def vsum (d : Nat → Int × Int) : Nat → Nat
  | 0 => 0
  | i + 1 => vsum d i + wt (d i)
theorem bsum_seg (d : Nat → Int × Int) (p : Int × Int) : ∀ a b, bsum p (Stab.seg d a (a + b)) = (List.range b).foldl (fun s i => s + if Stab.lx (d (a + i)) p then wt (d (a + i)) else 0) 0
  | a, 0 => by simp [Stab.seg, bsum]
  | a, b + 1 => by
    rw [Stab.seg_split d a (a + b) (a + (b + 1)) (by omega) (by omega), bsum_append, bsum_seg d p a b, List.range_succ, List.foldl_append]
    have : Stab.seg d (a + b) (a + (b + 1)) = [d (a + b)] := by
      unfold Stab.seg
      rw [show a + (b + 1) - (a + b) = 1 by omega]
      simp
    rw [this]
    simp [bsum]
theorem bsum_below (d : Nat → Int × Int) (p : Int × Int) : ∀ i, (∀ j, j < i → Stab.lx (d j) p) → bsum p (Stab.seg d 0 i) = vsum d i
  | 0, _ => by simp [Stab.seg, bsum, vsum]
  | i + 1, h => by
    rw [Stab.seg_split d 0 i (i + 1) (by omega) (by omega), bsum_append, bsum_below d p i (fun j hj => h j (by omega)), vsum]
    have : Stab.seg d i (i + 1) = [d i] := by
      unfold Stab.seg
      rw [show i + 1 - i = 1 by omega]
      simp
    rw [this]
    simp [bsum, h i (by omega)]
theorem bsum_above (d : Nat → Int × Int) (p : Int × Int) (a : Nat) : ∀ b, (∀ j, a ≤ j → j < a + b → ¬ Stab.lx (d j) p) → bsum p (Stab.seg d a (a + b)) = 0
  | 0, _ => by simp [Stab.seg, bsum]
  | b + 1, h => by
    rw [Stab.seg_split d a (a + b) (a + (b + 1)) (by omega) (by omega), bsum_append, bsum_above d p a b (fun j h1 h2 => h j h1 (by omega))]
    have : Stab.seg d (a + b) (a + (b + 1)) = [d (a + b)] := by
      unfold Stab.seg
      rw [show a + (b + 1) - (a + b) = 1 by omega]
      simp
    rw [this]
    simp [bsum, h (a + b) (by omega) (by omega)]
theorem lx_irr (x : Int × Int) : ¬ Stab.lx x x := by unfold Stab.lx; omega
theorem lx_asymm {x y : Int × Int} (h : Stab.lx x y) : ¬ Stab.lx y x := by unfold Stab.lx at *; omega
/-- of a sorted row just those ahead stand ahead -/
theorem bsum_sorted (d : Nat → Int × Int) (N : Nat) (hs : Stab.Srt Stab.lx d 0 N) {i : Nat} (hi : i < N) : bsum (d i) (Stab.seg d 0 N) = vsum d i := by
  rw [Stab.seg_split d 0 i N (by omega) (by omega), bsum_append, bsum_below d (d i) i (fun j hj => hs j i (Nat.zero_le _) hj hi)]
  have := bsum_above d (d i) i (N - i) (fun j h1 h2 => by
    by_cases e : j = i
    · subst e; exact lx_irr _
    · exact lx_asymm (hs i j (Nat.zero_le _) (by omega) (by omega)))
  rw [show i + (N - i) = N by omega] at this
  rw [this, Nat.add_zero]
/-- the text of place q's code -/
def codeT (l : List Int) (q : Nat) : List Bool := hb (codeN l q) (l.getD q 0).toNat
end Go.Proofs.Ytfoaaamcpknjnac

/-
  Rows of bits, numbers: of lists alone.
-/
namespace Go.Proofs.Ytfoaaamcpknjnac
open Go.RowKit
set_option linter.unusedVariables false
set_option maxRecDepth 100000

def numBits (n : Nat) : Nat → List Bool
  | 0 => []
  | k + 1 => numBits n k ++ [n.testBit k]

theorem numBits_length (n : Nat) : ∀ k, (numBits n k).length = k
  | 0 => rfl
  | k + 1 => by rw [numBits, List.length_append, numBits_length n k]; rfl
theorem bit_div (n k : Nat) : n / 2 ^ k % 2 = if n.testBit k then 1 else 0 := by
  have h := Nat.testBit_eq_decide_div_mod_eq (x := n) (i := k)
  rw [h]
  rcases Nat.mod_two_eq_zero_or_one (n / 2 ^ k) with e | e <;> simp [e]

theorem numBits_getD (n : Nat) : ∀ s i, (numBits n s).getD i false = (decide (i < s) && n.testBit i)
  | 0, i => by simp [numBits]
  | s + 1, i => by
    rw [numBits, List.getD_eq_getElem?_getD]
    by_cases h : i < s
    · rw [List.getElem?_append_left (by rw [numBits_length]; exact h), ← List.getD_eq_getElem?_getD, numBits_getD n s i]
      simp [h, Nat.lt_succ_of_lt h]
    · rw [List.getElem?_append_right (by rw [numBits_length]; omega), numBits_length]
      by_cases e : i = s
      · subst e; simp
      · have h1 : ¬ i < s + 1 := by omega
        have h2 : [n.testBit s][i - s]? = none := List.getElem?_eq_none (by simp; omega)
        rw [h2]; simp [h1]
/-- the number whose bits these are, the lowest one first -/
def numOf : List Bool → Nat
  | [] => 0
  | b :: r => (if b then 1 else 0) + 2 * numOf r

theorem numOf_lt : ∀ l, numOf l < 2 ^ l.length
  | [] => by simp [numOf]
  | b :: r => by
    have := numOf_lt r
    rw [numOf, List.length_cons, Nat.pow_succ]
    split <;> omega
theorem numOf_lt16 {l : List Bool} (h : l.length ≤ 16) : numOf l < 65536 := Nat.lt_of_lt_of_le (numOf_lt l) (pow_le_16 h)
def rowB (xs : List Nat) : Nat → List Bool
  | 0 => []
  | q + 1 => rowB xs q ++ numBits (xs.getD q 0) 8
theorem rowB_length (xs : List Nat) : ∀ q, (rowB xs q).length = 8 * q
  | 0 => rfl
  | q + 1 => by rw [rowB, List.length_append, rowB_length xs q, numBits_length]; omega
theorem rowB_getD (xs : List Nat) : ∀ q i, i < 8 * q → (rowB xs q).getD i false = bitAt xs i
  | 0, i, h => by omega
  | q + 1, i, h => by
    rw [rowB, List.getD_eq_getElem?_getD]
    by_cases e : i < 8 * q
    · rw [List.getElem?_append_left (by rw [rowB_length]; exact e), ← List.getD_eq_getElem?_getD, rowB_getD xs q i e]
    · rw [List.getElem?_append_right (by rw [rowB_length]; omega), rowB_length, ← List.getD_eq_getElem?_getD, numBits_getD, bitAt]
      have e1 : i / 8 = q := by omega
      have e2 : i % 8 = i - 8 * q := by omega
      rw [e1, e2, decide_eq_true (by omega), Bool.true_and]
end Go.Proofs.Ytfoaaamcpknjnac

/-
  What the document's own reader of blocks says, of bits alone.
-/
namespace Go.Proofs.Ytfoaaamcpknjnac
set_option linter.unusedVariables false

/-- where the reader is: its place, the bytes said, the kinds said, what is wrong -/
structure US where
  p : Nat
  out : List Nat
  ks : List Nat
  e : Int

def uget (row : List Bool) (n : Nat) (u : US) : Nat × US :=
  if u.e = 0 then (if row.length < u.p + n then (0, { u with e := 7 }) else (numOf ((row.drop u.p).take n), { u with p := u.p + n })) else (0, u)
def uwrong (x : Int) (u : US) : US := if u.e = 0 then { u with e := x } else u
def usay (c : Nat) (u : US) : US := if u.e = 0 then (if u.out.length = 3000 then { u with e := 2 } else { u with out := u.out ++ [c] }) else u

/-- the place whose code these bits are -/
def findC (l : List Int) (s : List Bool) : Option Nat := (List.range l.length).find? (fun q => decide (codeT l q = s))
def nextF (l : List Int) (row : List Bool) (p : Nat) : Nat → Nat → Nat × Nat × Int
  | 0, _ => (0, 0, 8)
  | f + 1, n => if row.length < p + n then (0, 0, 7) else match findC l ((row.drop p).take n) with
    | some q => (q, n, 0)
    | none => nextF l row p f (n + 1)
def nextR (l : List Int) (row : List Bool) (p : Nat) : Nat × Nat × Int := nextF l row p 15 1
def uplace (l : List Int) (row : List Bool) (u : US) : Nat × US :=
  if u.e = 0 then ((nextR l row u.p).1, { u with e := (nextR l row u.p).2.2, p := u.p + (nextR l row u.p).2.1 }) else (0, u)

/-! the lengths that a block tells -/
def ord19 : List Nat := [16, 17, 18, 0, 8, 7, 9, 6, 10, 5, 11, 4, 12, 3, 13, 2, 14, 1, 15]
def usmall (row : List Bool) : List Nat → List Int → US → List Int × US
  | [], s, u => (s, u)
  | k :: r, s, u => usmall row r (s.set k ((uget row 3 u).1 : Int)) (uget row 3 u).2
/-- what a place k of the code of lengths says behind the lengths l: a length, how many times -/
def ukind (row : List Bool) (l : List Int) (k : Nat) (u : US) : Int × Nat × US :=
  if k = 16 then (if l.length = 0 then (16, 1, uwrong 8 u) else (l.getD (l.length - 1) 0, 3 + (uget row 2 u).1, (uget row 2 u).2))
  else if k = 17 then (0, 3 + (uget row 3 u).1, (uget row 3 u).2)
  else if k = 18 then (0, 11 + (uget row 7 u).1, (uget row 7 u).2)
  else ((k : Int), 1, u)
def umore (tot : Nat) (l : List Int) (r : Int × Nat × US) : List Int × US :=
  (l ++ List.replicate r.2.1 r.1, if r.2.2.e = 0 ∧ tot < l.length + r.2.1 then uwrong 8 r.2.2 else r.2.2)
def ustep (row : List Bool) (small : List Int) (tot : Nat) (l : List Int) (u : US) : List Int × US := umore tot l (ukind row l (uplace small row u).1 (uplace small row u).2)
def ulens (row : List Bool) (small : List Int) (tot : Nat) : Nat → List Int → US → List Int × US
  | 0, l, u => (l, u)
  | f + 1, l, u => if l.length < tot ∧ u.e = 0 then ulens row small tot f (ustep row small tot l u).1 (ustep row small tot l u).2 else (l, u)
/-- the lengths of the code of lengths; where the reader is behind them -/
def utoldS (row : List Bool) (m n c : Nat) (u : US) : List Int × US :=
  usmall row (ord19.take c) (List.replicate 19 0) (if 286 < m ∨ 30 < n then uwrong 8 u else u)
def uchk (s : List Int × US) : US := if s.2.e = 0 ∧ errL s.1 ≠ 0 then uwrong 8 s.2 else s.2
def utoldE (m : Nat) (r : List Int × US) : (List Int × List Int) × US :=
  if r.2.e ≠ 0 then (([], []), r.2)
  else if r.1.getD 256 0 = 0 ∨ errL (r.1.take m) ≠ 0 ∨ errL (r.1.drop m) ≠ 0 then (([], []), uwrong 8 r.2)
  else ((r.1.take m, r.1.drop m), r.2)
def utoldL (row : List Bool) (m n : Nat) (s : List Int × US) : (List Int × List Int) × US :=
  if (uchk s).e ≠ 0 then (([], []), uchk s) else utoldE m (ulens row s.1 (m + n) (m + n) [] (uchk s))
def utold (row : List Bool) (u : US) : (List Int × List Int) × US :=
  let r1 := uget row 5 u
  let r2 := uget row 5 r1.2
  let r3 := uget row 4 r2.2
  utoldL row (r1.1 + 257) (r2.1 + 1) (utoldS row (r1.1 + 257) (r2.1 + 1) (r3.1 + 4) r3.2)

/-! a block -/
def ustore (row : List Bool) : Nat → US → US
  | 0, u => u
  | k + 1, u => if u.e = 0 then ustore row k (usay (uget row 8 u).1 (uget row 8 u).2) else u
def ucopy (d : Nat) : Nat → US → US
  | 0, u => u
  | j + 1, u => if u.e = 0 then ucopy d j (usay (u.out.getD (u.out.length - d) 0) u) else u
def samesL : List (Nat × Nat) := [(3, 0), (4, 0), (5, 0), (6, 0), (7, 0), (8, 0), (9, 0), (10, 0), (11, 1), (13, 1), (15, 1), (17, 1), (19, 2), (23, 2), (27, 2), (31, 2), (35, 3), (43, 3), (51, 3), (59, 3), (67, 4), (83, 4), (99, 4), (115, 4), (131, 5), (163, 5), (195, 5), (227, 5), (258, 0)]
def farsL : List (Nat × Nat) := [(1, 0), (2, 0), (3, 0), (4, 0), (5, 1), (7, 1), (9, 2), (13, 2), (17, 3), (25, 3), (33, 4), (49, 4), (65, 5), (97, 5), (129, 6), (193, 6), (257, 7), (385, 7), (513, 8), (769, 8), (1025, 9), (1537, 9), (2049, 10), (3073, 10), (4097, 11), (6145, 11), (8193, 12), (12289, 12), (16385, 13), (24577, 13)]
def fixA : List Int := List.replicate 144 8 ++ List.replicate 112 9 ++ List.replicate 24 7 ++ List.replicate 8 8
def fixB : List Int := List.replicate 32 5
/-- how far, behind its place -/
def ufar (row : List Bool) (n f : Nat) (u : US) : US :=
  let q := uget row (farsL.getD f (0, 0)).2 u
  let d := (farsL.getD f (0, 0)).1 + q.1
  ucopy d n (if q.2.e = 0 ∧ q.2.out.length < d then uwrong 9 q.2 else q.2)
/-- how many, behind its place: whether the reading goes on -/
def usame (row : List Bool) (b : List Int) (k : Nat) (u : US) : Bool × US :=
  let g := uget row (samesL.getD (k - 257) (0, 0)).2 u
  let h := uplace b row g.2
  let u3 := if h.2.e = 0 ∧ 29 < h.1 then uwrong 8 h.2 else h.2
  if u3.e ≠ 0 then (false, u3) else (true, ufar row ((samesL.getD (k - 257) (0, 0)).1 + g.1) h.1 u3)
/-- one token: whether the reading goes on -/
def utok1 (row : List Bool) (a b : List Int) (u : US) : Bool × US :=
  let r := uplace a row u
  if r.2.e ≠ 0 ∨ r.1 = 256 then (false, r.2)
  else if r.1 < 256 then (true, usay r.1 r.2)
  else if 285 < r.1 then (false, uwrong 8 r.2)
  else usame row b r.1 r.2
def utok (row : List Bool) (a b : List Int) : Nat → US → US
  | 0, u => u
  | f + 1, u => if u.e = 0 then (if (utok1 row a b u).1 then utok row a b f (utok1 row a b u).2 else (utok1 row a b u).2) else u
def ukept (k : Nat) (u : US) : US := { u with ks := u.ks ++ [k] }
def uopen (row : List Bool) (kind : Nat) (u : US) : (List Int × List Int) × US :=
  if kind = 1 then ((fixA, fixB), u) else if kind = 2 then utold row u else (([], []), uwrong 4 u)
def ustored (row : List Bool) (u : US) : US :=
  let n := uget row 16 { u with p := (u.p + 7) / 8 * 8 }
  let t := uget row 16 n.2
  ustore row n.1 (if t.2.e = 0 ∧ n.1 + t.1 ≠ 65535 then uwrong 4 t.2 else t.2)
/-- a block: whether it is the last one -/
def ublock (row : List Bool) (u : US) : Bool × US :=
  let l := uget row 1 u
  let k := uget row 2 l.2
  if k.2.e ≠ 0 then (true, k.2)
  else if k.1 = 0 then (decide (l.1 = 1), ukept 0 (ustored row k.2))
  else
    let o := uopen row k.1 k.2
    if o.2.e ≠ 0 then (true, o.2) else (decide (l.1 = 1), ukept k.1 (utok row o.1.1 o.1.2 row.length o.2))
def ublocks (row : List Bool) : Nat → US → US
  | 0, u => u
  | f + 1, u => if (ublock row u).1 = false ∧ (ublock row u).2.e = 0 then ublocks row f (ublock row u).2 else (ublock row u).2
def unpk (row : List Bool) : US := ublocks row (row.length + 1) ⟨0, [], [], 0⟩
end Go.Proofs.Ytfoaaamcpknjnac
