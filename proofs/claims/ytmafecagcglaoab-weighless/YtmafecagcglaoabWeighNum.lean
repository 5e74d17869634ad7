/-
  Plain facts on the rows of places and pairs: how long they are, how many are taken. No program is named here.
-/
import Derived.Test.YtmafecagcglaoabWeigh5
namespace Go.Proofs.Ytmafecagcglaoab
open Go.RowKit
set_option linter.unusedVariables false

theorem mrg_true : ∀ xs ys : List Int, ((mrg xs ys).filter Prod.snd).length = xs.length
  | [], ys => by
    rw [mrg_nil]
    simp
  | x :: xs, [] => by
    rw [mrg_one, List.filter_cons_of_pos (by simp), List.length_cons, mrg_true xs []]
    simp
  | x :: xs, y :: ys => by
    rw [mrg_two]
    split
    · rw [List.filter_cons_of_pos (by simp), List.length_cons, mrg_true xs (y :: ys)]; simp
    · rw [List.filter_cons_of_neg (by simp), mrg_true (x :: xs) ys]
termination_by xs ys => xs.length + ys.length
theorem alone_le_all (r : List (Int × Bool)) (t : Nat) : alone r t ≤ (r.filter Prod.snd).length := by
  unfold alone
  have h := ((List.take_sublist t r).filter Prod.snd).length_le
  exact h
theorem alone_le (r : List (Int × Bool)) (t : Nat) : alone r t ≤ t := by
  unfold alone
  have h := List.length_filter_le Prod.snd (r.take t)
  have h2 : (r.take t).length ≤ t := by simp; omega
  omega
/-- of the first t those that are pairs -/
theorem pairs_le (r : List (Int × Bool)) (t : Nat) (ht : t ≤ r.length) : t - alone r t ≤ r.length - (r.filter Prod.snd).length := by
  have h1 : (r.filter Prod.snd).length = ((r.take t).filter Prod.snd).length + ((r.drop t).filter Prod.snd).length := by
    rw [← List.length_append, ← List.filter_append, List.take_append_drop]
  have h2 := List.length_filter_le Prod.snd (r.drop t)
  have h3 : (r.drop t).length = r.length - t := by simp
  have h4 := alone_le r t
  unfold alone at *
  omega

theorem rowAt_len_succ (W : List Int) (k : Nat) : (rowAt W (k + 1)).length = W.length + (rowAt W k).length / 2 := by
  rw [rowAt, mrg_length, prs_length, List.length_map]
theorem rowAt_true (W : List Int) : ∀ k, ((rowAt W k).filter Prod.snd).length = W.length
  | 0 => by rw [rowAt, mrg_true]
  | k + 1 => by rw [rowAt, mrg_true]
theorem rowAt_long (W : List Int) (hW : 1 ≤ W.length) : ∀ k, 2 * W.length ≤ (rowAt W k).length + 1 + (W.length - 1) / 2 ^ k
  | 0 => by rw [rowAt, mrg_length]; simp; omega
  | k + 1 => by
    have ih := rowAt_long W hW k
    have e : (W.length - 1) / 2 ^ (k + 1) = (W.length - 1) / 2 ^ k / 2 := by rw [Nat.pow_succ, Nat.div_div_eq_div_mul]
    rw [rowAt_len_succ, e]
    generalize (W.length - 1) / 2 ^ k = x at *
    omega
theorem rowAt_room (W : List Int) (m : Nat) (hW : 1 ≤ W.length) (hm : 1 ≤ m) (hr : W.length ≤ 2 ^ m) : 2 * (W.length - 1) ≤ (rowAt W (m - 1)).length := by
  have h := rowAt_long W hW (m - 1)
  have h2 : (W.length - 1) / 2 ^ (m - 1) < 2 := by
    rw [Nat.div_lt_iff_lt_mul (Nat.pow_pos (by decide))]
    have : 2 * 2 ^ (m - 1) = 2 ^ m := by
      obtain ⟨q, rfl⟩ : ∃ q, m = q + 1 := ⟨m - 1, by omega⟩
      rw [Nat.add_sub_cancel, Nat.pow_succ, Nat.mul_comm]
    omega
  omega
/-- what is taken is there -/
theorem takeAt_le (W : List Int) (m : Nat) (hW : 1 ≤ W.length) (hm : 1 ≤ m) (hr : W.length ≤ 2 ^ m) : ∀ i, i < m → takeAt W m i ≤ (rowAt W (m - 1 - i)).length
  | 0, _ => by rw [takeAt]; exact rowAt_room W m hW hm hr
  | i + 1, hi => by
    have ih := takeAt_le W m hW hm hr i (by omega)
    have hp := pairs_le _ _ ih
    obtain ⟨q, hq⟩ : ∃ q, m - 1 - i = q + 1 := ⟨m - 1 - i - 1, by omega⟩
    have hq2 : m - 1 - (i + 1) = q := by omega
    rw [rowAt_true, hq, rowAt_len_succ] at hp
    rw [takeAt, hq2, hq]
    omega
theorem aloneAt_le (W : List Int) (m i : Nat) : aloneAt W m i ≤ W.length := by
  have := alone_le_all (rowAt W (m - 1 - i)) (takeAt W m i)
  rw [rowAt_true] at this
  exact this
theorem aloneAt_take (W : List Int) (m i : Nat) : aloneAt W m i ≤ takeAt W m i := alone_le _ _
theorem takeAt_succ (W : List Int) (m i : Nat) : takeAt W m (i + 1) = 2 * (takeAt W m i - aloneAt W m i) := rfl
theorem takeAt_small (W : List Int) (m i : Nat) (hW : 1 ≤ W.length) (hm : 1 ≤ m) (hr : W.length ≤ 2 ^ m) (hi : i < m) : takeAt W m i ≤ 2 * W.length := Nat.le_trans (takeAt_le W m hW hm hr i hi) (rowAt_length W _)
theorem lensAt_length (n : Nat) (P : List Nat) (W : List Int) (m : Nat) : ∀ i, (lensAt n P W m i).length = n
  | 0 => by simp [lensAt]
  | i + 1 => by rw [lensAt, bumps_length, lensAt_length n P W m i]
theorem lensAt_bound (n : Nat) (P : List Nat) (W : List Int) (m : Nat) (hP : P.length ≤ 288) : ∀ i, ∀ j, 0 ≤ (lensAt n P W m i).getD j 0 ∧ (lensAt n P W m i).getD j 0 ≤ 288 * i
  | 0, j => by
    simp only [lensAt]
    by_cases h : j < n
    · simp [List.getD, h]
    · simp [List.getD, h]
  | i + 1, j => by
    have h := bumps_bound (P.take (aloneAt W m i)) (lensAt_bound n P W m hP i) j
    have h2 : (P.take (aloneAt W m i)).length ≤ 288 := by simp; omega
    rw [lensAt]
    omega
theorem RiseOf.lt {l : List Int} {P : List Nat} (h : RiseOf l P) : ∀ p ∈ P, p < l.length := fun p hp => wpl_lt l _ p (h.perm.mem_iff.1 hp)
theorem RiseOf.length {l : List Int} {P : List Nat} (h : RiseOf l P) : P.length = (wpl l l.length).length := h.perm.length_eq
end Go.Proofs.Ytmafecagcglaoab
