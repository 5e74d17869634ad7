/-
  What package weigh's functions are held against: plain lists of numbers. No program is named here.
-/
import Derived.Test.YtmafecagcglaoabKit
namespace Go.Proofs.Ytmafecagcglaoab
open Go.RowKit
set_option linter.unusedVariables false

/-- the places that are wanted, of the first k -/
def wpl (l : List Int) : Nat → List Nat
  | 0 => []
  | k + 1 => wpl l k ++ (if 0 < l.getD k 0 then [k] else [])
theorem wpl_le (l : List Int) : ∀ k, (wpl l k).length ≤ k
  | 0 => by simp [wpl]
  | k + 1 => by
    have := wpl_le l k
    rw [wpl, List.length_append]
    split <;> simp <;> omega
theorem mem_wpl (l : List Int) (p : Nat) : ∀ k, p ∈ wpl l k ↔ p < k ∧ 0 < l.getD p 0
  | 0 => by simp [wpl]
  | k + 1 => by
    rw [wpl, List.mem_append, mem_wpl l p k]
    by_cases h : 0 < l.getD k 0
    · rw [if_pos h, List.mem_singleton]
      constructor
      · rintro (⟨h1, h2⟩ | rfl)
        · exact ⟨by omega, h2⟩
        · exact ⟨by omega, h⟩
      · rintro ⟨h1, h2⟩
        by_cases e : p = k
        · exact .inr e
        · exact .inl ⟨by omega, h2⟩
    · rw [if_neg h]
      constructor
      · rintro (⟨h1, h2⟩ | h1)
        · exact ⟨by omega, h2⟩
        · cases h1
      · rintro ⟨h1, h2⟩
        by_cases e : p = k
        · subst e; exact absurd h2 h
        · exact .inl ⟨by omega, h2⟩
theorem wpl_lt (l : List Int) (k : Nat) : ∀ p ∈ wpl l k, p < k := fun p h => ((mem_wpl l p k).1 h).1
theorem wpl_rise (l : List Int) : ∀ k, (wpl l k).Pairwise (· < ·)
  | 0 => .nil
  | k + 1 => by
    rw [wpl, List.pairwise_append]
    refine ⟨wpl_rise l k, by split <;> simp, fun a ha b hb => ?_⟩
    have := wpl_lt l k a ha
    split at hb
    · rw [List.mem_singleton] at hb; omega
    · cases hb

def okW (n : Int) : Bool := decide (0 ≤ n ∧ n ≤ 1000000)
theorem okW_true {n : Int} (h : okW n = true) : 0 ≤ n ∧ n ≤ 1000000 := of_decide_eq_true h
theorem okW_false {n : Int} (h : okW n = false) : ¬ (0 ≤ n ∧ n ≤ 1000000) := of_decide_eq_false h
/-- Lengths' error -/
def errW (l : List Int) (most : Int) : Int := if 288 < l.length then 2 else if ∃ j, j < l.length ∧ okW (l.getD j 0) = false then 3 else if ¬ (1 ≤ most ∧ most ≤ 15) then 3 else if 2 ^ most.toNat < (wpl l l.length).length then 11 else 0
/-- what no error says -/
structure GoodW (l : List Int) (m : Nat) : Prop where
  len : l.length ≤ 288
  ok : ∀ j, j < l.length → 0 ≤ l.getD j 0 ∧ l.getD j 0 ≤ 1000000
  lo : 1 ≤ m
  hi : m ≤ 15
  room : (wpl l l.length).length ≤ 2 ^ m
theorem errW_good {l : List Int} {most : Int} (h : errW l most = 0) : ∃ m : Nat, most = m ∧ GoodW l m := by
  unfold errW at h
  split at h
  · cases h
  · split at h
    · cases h
    · split at h
      · cases h
      · split at h
        · cases h
        · rename_i h1 h2 h3 h4
          have h3 := Decidable.not_not.1 h3
          obtain ⟨m, rfl⟩ := Int.eq_ofNat_of_zero_le (show 0 ≤ most by omega)
          refine ⟨m, rfl, by omega, fun j hj => ?_, by omega, by omega, by simpa using h4⟩
          cases e : okW (l.getD j 0) with
          | true => exact okW_true e
          | false => exact absurd ⟨j, hj, e⟩ h2
theorem good_errW {l : List Int} {m : Nat} (h : GoodW l m) : errW l m = 0 := by
  unfold errW
  have h1 := h.len
  have h2 := h.lo
  have h3 := h.hi
  have h4 := h.room
  rw [if_neg (by omega), if_neg, if_neg (by omega), if_neg (by simp; omega)]
  rintro ⟨j, hj, e⟩
  exact okW_false e (h.ok j hj)

/-- one step's row: places alone (true) and pairs (false), the lighter ahead, places first -/
def mrgAt (x : Int) (f : List Int → List (Int × Bool)) : List Int → List (Int × Bool)
  | [] => (x, true) :: f []
  | y :: ys => if x ≤ y then (x, true) :: f (y :: ys) else (y, false) :: mrgAt x f ys
def mrg : List Int → List Int → List (Int × Bool)
  | [] => fun ys => ys.map fun y => (y, false)
  | x :: xs => mrgAt x (mrg xs)
theorem mrg_nil (ys : List Int) : mrg [] ys = ys.map fun y => (y, false) := rfl
theorem mrg_one (x : Int) (xs : List Int) : mrg (x :: xs) [] = (x, true) :: mrg xs [] := rfl
theorem mrg_two (x : Int) (xs : List Int) (y : Int) (ys : List Int) : mrg (x :: xs) (y :: ys) = if x ≤ y then (x, true) :: mrg xs (y :: ys) else (y, false) :: mrg (x :: xs) ys := rfl
/-- each two together -/
def prs : List Int → List Int
  | a :: b :: t => (a + b) :: prs t
  | _ => []
def rowAt (W : List Int) : Nat → List (Int × Bool)
  | 0 => mrg W []
  | k + 1 => mrg W (prs ((rowAt W k).map Prod.fst))
/-- how many of the first t are places -/
def alone (r : List (Int × Bool)) (t : Nat) : Nat := ((r.take t).filter Prod.snd).length
/-- how many are taken in round i, of so many at the first -/
def takeAt (W : List Int) (most : Nat) : Nat → Nat
  | 0 => 2 * (W.length - 1)
  | i + 1 => 2 * (takeAt W most i - alone (rowAt W (most - 1 - i)) (takeAt W most i))
def aloneAt (W : List Int) (most i : Nat) : Nat := alone (rowAt W (most - 1 - i)) (takeAt W most i)
/-- one bit more for each of these places -/
def bump (xs : List Int) (p : Nat) : List Int := xs.set p (xs.getD p 0 + 1)
def bumps (xs : List Int) (ps : List Nat) : List Int := ps.foldl bump xs
def lensAt (n : Nat) (P : List Nat) (W : List Int) (most : Nat) : Nat → List Int
  | 0 => List.replicate n 0
  | i + 1 => bumps (lensAt n P W most i) (P.take (aloneAt W most i))
/-- the lengths, by the places that are wanted, the least first -/
def lensOf (l : List Int) (P : List Nat) (most : Nat) : List Int :=
  if P.length < 2 then bumps (List.replicate l.length 0) P else lensAt l.length P (P.map fun p => l.getD p 0) most most
/-- P is all that is wanted, the least first -/
structure RiseOf (l : List Int) (P : List Nat) : Prop where
  perm : P.Perm (wpl l l.length)
  srt : P.Pairwise fun a b => l.getD a 0 < l.getD b 0 ∨ (l.getD a 0 = l.getD b 0 ∧ a < b)
/-- what Lengths answers where there is no error -/
def IsLens (l : List Int) (most : Nat) (s : List Int) : Prop := ∃ P, RiseOf l P ∧ s = lensOf l P most
end Go.Proofs.Ytmafecagcglaoab
