/-
  Plain facts on the rows of places and pairs: how long they are, how many are taken. No program is named here.
-/
import Derived.Test.YtoiioemkibfdcacWeigh5
namespace Go.Proofs.Ytoiioemkibfdcac
open Go.RowKit
set_option linter.unusedVariables false

theorem mrg_true : ∀ xs ys : List Int, ((mrg xs ys).filter Prod.snd).length = xs.length
  | [], ys => by
    rw [mrg_nil]
    simp
  | x :: xs, [] => by
    rw [mrg_one, List.filter_cons_of_pos (by simp), List.length_cons, mrg_true xs []]
    simp
  | x :: xs, y :: ys => by
    rw [mrg_two]
    split
    · rw [List.filter_cons_of_pos (by simp), List.length_cons, mrg_true xs (y :: ys)]; simp
    · rw [List.filter_cons_of_neg (by simp), mrg_true (x :: xs) ys]
termination_by xs ys => xs.length + ys.length
theorem alone_le_all (r : List (Int × Bool)) (t : Nat) : alone r t ≤ (r.filter Prod.snd).length := by
  unfold alone
  have h := ((List.take_sublist t r).filter Prod.snd).length_le
  exact h
theorem alone_le (r : List (Int × Bool)) (t : Nat) : alone r t ≤ t := by
  unfold alone
  have h := List.length_filter_le Prod.snd (r.take t)
  have h2 : (r.take t).length ≤ t := by simp; omega
  omega
/-- of the first t those that are pairs -/
theorem pairs_le (r : List (Int × Bool)) (t : Nat) (ht : t ≤ r.length) : t - alone r t ≤ r.length - (r.filter Prod.snd).length := by
  have h1 : (r.filter Prod.snd).length = ((r.take t).filter Prod.snd).length + ((r.drop t).filter Prod.snd).length := by
    rw [← List.length_append, ← List.filter_append, List.take_append_drop]
  have h2 := List.length_filter_le Prod.snd (r.drop t)
  have h3 : (r.drop t).length = r.length - t := by simp
  have h4 := alone_le r t
  unfold alone at *
  omega

theorem rowAt_len_succ (W : List Int) (k : Nat) : (rowAt W (k + 1)).length = W.length + (rowAt W k).length / 2 := by
  rw [rowAt, mrg_length, prs_length, List.length_map]
theorem rowAt_true (W : List Int) : ∀ k, ((rowAt W k).filter Prod.snd).length = W.length
  | 0 => by rw [rowAt, mrg_true]
  | k + 1 => by rw [rowAt, mrg_true]
theorem rowAt_long (W : List Int) (hW : 1 ≤ W.length) : ∀ k, 2 * W.length ≤ (rowAt W k).length + 1 + (W.length - 1) / 2 ^ k
  | 0 => by rw [rowAt, mrg_length]; simp; omega
  | k + 1 => by
    have ih := rowAt_long W hW k
    have e : (W.length - 1) / 2 ^ (k + 1) = (W.length - 1) / 2 ^ k / 2 := by rw [Nat.pow_succ, Nat.div_div_eq_div_mul]
    rw [rowAt_len_succ, e]
    generalize (W.length - 1) / 2 ^ k = x at *
    omega
theorem rowAt_room (W : List Int) (m : Nat) (hW : 1 ≤ W.length) (hm : 1 ≤ m) (hr : W.length ≤ 2 ^ m) : 2 * (W.length - 1) ≤ (rowAt W (m - 1)).length := by
  have h := rowAt_long W hW (m - 1)
  have h2 : (W.length - 1) / 2 ^ (m - 1) < 2 := by
    rw [Nat.div_lt_iff_lt_mul (Nat.pow_pos (by decide))]
    have : 2 * 2 ^ (m - 1) = 2 ^ m := by
      obtain ⟨q, rfl⟩ : ∃ q, m = q + 1 := ⟨m - 1, by omega⟩
      rw [Nat.add_sub_cancel, Nat.pow_succ, Nat.mul_comm]
    omega
  omega
/-- what is taken is there -/
theorem takeAt_le (W : List Int) (m : Nat) (hW : 1 ≤ W.length) (hm : 1 ≤ m) (hr : W.length ≤ 2 ^ m) : ∀ i, i < m → takeAt W m i ≤ (rowAt W (m - 1 - i)).length
  | 0, _ => by rw [takeAt]; exact rowAt_room W m hW hm hr
  | i + 1, hi => by
    have ih := takeAt_le W m hW hm hr i (by omega)
    have hp := pairs_le _ _ ih
    obtain ⟨q, hq⟩ : ∃ q, m - 1 - i = q + 1 := ⟨m - 1 - i - 1, by omega⟩
    have hq2 : m - 1 - (i + 1) = q := by omega
    rw [rowAt_true, hq, rowAt_len_succ] at hp
    rw [takeAt, hq2, hq]
    omega
theorem aloneAt_le (W : List Int) (m i : Nat) : aloneAt W m i ≤ W.length := by
  have := alone_le_all (rowAt W (m - 1 - i)) (takeAt W m i)
  rw [rowAt_true] at this
  exact this
theorem aloneAt_take (W : List Int) (m i : Nat) : aloneAt W m i ≤ takeAt W m i := alone_le _ _
theorem takeAt_succ (W : List Int) (m i : Nat) : takeAt W m (i + 1) = 2 * (takeAt W m i - aloneAt W m i) := rfl
theorem takeAt_small (W : List Int) (m i : Nat) (hW : 1 ≤ W.length) (hm : 1 ≤ m) (hr : W.length ≤ 2 ^ m) (hi : i < m) : takeAt W m i ≤ 2 * W.length := Nat.le_trans (takeAt_le W m hW hm hr i hi) (rowAt_length W _)
theorem lensAt_length (n : Nat) (P : List Nat) (W : List Int) (m : Nat) : ∀ i, (lensAt n P W m i).length = n
  | 0 => by simp [lensAt]
  | i + 1 => by rw [lensAt, bumps_length, lensAt_length n P W m i]
theorem lensAt_bound (n : Nat) (P : List Nat) (W : List Int) (m : Nat) (hP : P.length ≤ 288) : ∀ i, ∀ j, 0 ≤ (lensAt n P W m i).getD j 0 ∧ (lensAt n P W m i).getD j 0 ≤ 288 * i
  | 0, j => by
    simp only [lensAt]
    by_cases h : j < n
    · simp [List.getD, h]
    · simp [List.getD, h]
  | i + 1, j => by
    have h := bumps_bound (P.take (aloneAt W m i)) (lensAt_bound n P W m hP i) j
    have h2 : (P.take (aloneAt W m i)).length ≤ 288 := by simp; omega
    rw [lensAt]
    omega
theorem RiseOf.lt {l : List Int} {P : List Nat} (h : RiseOf l P) : ∀ p ∈ P, p < l.length := fun p hp => wpl_lt l _ p (h.perm.mem_iff.1 hp)
theorem RiseOf.length {l : List Int} {P : List Nat} (h : RiseOf l P) : P.length = (wpl l l.length).length := h.perm.length_eq
end Go.Proofs.Ytoiioemkibfdcac

/-
  Plain facts on the rows of places and pairs: they rise; what is taken of them; that each wanted place is taken once at the least. No program is named here.
-/
namespace Go.Proofs.Ytoiioemkibfdcac
open Go.RowKit
set_option linter.unusedVariables false

def lsum : List Int → Int
  | [] => 0
  | x :: xs => x + lsum xs
theorem lsum_append : ∀ xs ys : List Int, lsum (xs ++ ys) = lsum xs + lsum ys
  | [], ys => by simp [lsum]
  | x :: xs, ys => by rw [List.cons_append, lsum, lsum, lsum_append xs ys]; omega
theorem lsum_perm {xs ys : List Int} (h : xs.Perm ys) : lsum xs = lsum ys := by
  induction h with
  | nil => rfl
  | cons x _ ih => rw [lsum, lsum, ih]
  | swap x y l => simp only [lsum]; omega
  | trans _ _ h1 h2 => exact h1.trans h2
theorem lsum_nonneg : ∀ xs : List Int, (∀ x ∈ xs, 0 ≤ x) → 0 ≤ lsum xs
  | [], _ => by simp [lsum]
  | x :: xs, h => by
    have h1 := h x List.mem_cons_self
    have h2 := lsum_nonneg xs (fun y hy => h y (List.mem_cons_of_mem _ hy))
    rw [lsum]; omega

theorem alone_zero (r : List (Int × Bool)) : alone r 0 = 0 := by simp [alone]
theorem alone_true (x : Int) (r : List (Int × Bool)) (t : Nat) : alone ((x, true) :: r) (t + 1) = alone r t + 1 := by simp [alone]
theorem alone_false (x : Int) (r : List (Int × Bool)) (t : Nat) : alone ((x, false) :: r) (t + 1) = alone r t := by simp [alone]
theorem alone_pairs (ys : List Int) : ∀ t, alone (ys.map fun y => (y, false)) t = 0 := by
  induction ys with
  | nil => intro t; simp [alone]
  | cons y ys ih =>
    intro t
    cases t with
    | zero => exact alone_zero _
    | succ t => rw [List.map_cons, alone_false, ih]

/-- the first t of a row are the first of the places and the first of the pairs -/
theorem mrg_take : ∀ (xs ys : List Int) (t : Nat), (((mrg xs ys).take t).map Prod.fst).Perm (xs.take (alone (mrg xs ys) t) ++ ys.take (t - alone (mrg xs ys) t))
  | xs, ys, 0 => by rw [alone_zero]; simp
  | [], ys, t + 1 => by
    rw [mrg_nil, alone_pairs]
    simp [Function.comp_def]
  | x :: xs, [], t + 1 => by
    have ih := mrg_take xs [] t
    rw [mrg_one, List.take_succ_cons, List.map_cons, alone_true, List.take_succ_cons]
    simp only [List.take_nil, List.append_nil] at *
    exact List.Perm.cons x ih
  | x :: xs, y :: ys, t + 1 => by
    rw [mrg_two]
    split
    · have ih := mrg_take xs (y :: ys) t
      rw [List.take_succ_cons, List.map_cons, alone_true, List.take_succ_cons, show t + 1 - (alone (mrg xs (y :: ys)) t + 1) = t - alone (mrg xs (y :: ys)) t by omega]
      exact List.Perm.cons x ih
    · have ih := mrg_take (x :: xs) ys t
      have hle := alone_le (mrg (x :: xs) ys) t
      rw [List.take_succ_cons, List.map_cons, alone_false, show t + 1 - alone (mrg (x :: xs) ys) t = (t - alone (mrg (x :: xs) ys) t) + 1 by omega, List.take_succ_cons]
      exact (List.Perm.cons y ih).trans List.perm_middle.symm
termination_by xs ys => xs.length + ys.length

abbrev Up (xs : List Int) : Prop := xs.Pairwise (· ≤ ·)
theorem mrg_up : ∀ xs ys : List Int, Up xs → Up ys → Up ((mrg xs ys).map Prod.fst)
  | [], ys, _, h => by rw [mrg_nil, List.map_map]; simpa [Function.comp_def] using h
  | x :: xs, [], h, h2 => by
    have h := List.pairwise_cons.1 h
    rw [mrg_one, List.map_cons]
    refine List.pairwise_cons.2 ⟨fun z hz => ?_, mrg_up xs [] h.2 h2⟩
    rcases mem_mrg xs [] z hz with hz | hz
    · exact h.1 z hz
    · cases hz
  | x :: xs, y :: ys, h, h2 => by
    have h' := List.pairwise_cons.1 h
    have h2' := List.pairwise_cons.1 h2
    rw [mrg_two]
    split
    · rename_i hxy
      rw [List.map_cons]
      refine List.pairwise_cons.2 ⟨fun z hz => ?_, mrg_up xs (y :: ys) h'.2 h2⟩
      rcases mem_mrg xs (y :: ys) z hz with hz | hz
      · exact h'.1 z hz
      · rcases List.mem_cons.1 hz with rfl | hz
        · exact hxy
        · exact Int.le_trans hxy (h2'.1 z hz)
    · rename_i hxy
      rw [List.map_cons]
      refine List.pairwise_cons.2 ⟨fun z hz => ?_, mrg_up (x :: xs) ys h h2'.2⟩
      show y ≤ z
      rcases mem_mrg (x :: xs) ys z hz with hz | hz
      · rcases List.mem_cons.1 hz with rfl | hz
        · omega
        · have := h'.1 z hz; omega
      · exact h2'.1 z hz
termination_by xs ys => xs.length + ys.length
theorem prs_up : ∀ xs : List Int, Up xs → Up (prs xs)
  | [], _ => by simp [prs]
  | [x], _ => by simp [prs]
  | x :: y :: t, h => by
    have h1 := List.pairwise_cons.1 h
    have h2 := List.pairwise_cons.1 h1.2
    rw [prs]
    refine List.pairwise_cons.2 ⟨fun z hz => ?_, prs_up t h2.2⟩
    obtain ⟨a, b, ha, hb, rfl⟩ := mem_prs t z hz
    have e1 := h1.1 a (by simp [ha])
    have e2 := h2.1 b hb
    show x + y ≤ a + b
    omega
theorem rowAt_up (W : List Int) (h : Up W) : ∀ k, Up ((rowAt W k).map Prod.fst)
  | 0 => by rw [rowAt]; exact mrg_up W [] h .nil
  | k + 1 => by rw [rowAt]; exact mrg_up W _ h (prs_up _ (rowAt_up W h k))
theorem rowAt_pos (W : List Int) (h : ∀ x ∈ W, 0 < x) : ∀ k, ∀ x ∈ (rowAt W k).map Prod.fst, 0 < x
  | 0, x, hx => by
    rw [rowAt] at hx
    rcases mem_mrg W [] x hx with h1 | h1
    · exact h x h1
    · cases h1
  | k + 1, x, hx => by
    rw [rowAt] at hx
    rcases mem_mrg W _ x hx with h1 | h1
    · exact h x h1
    · obtain ⟨a, b, ha, hb, rfl⟩ := mem_prs _ x h1
      have e1 := rowAt_pos W h k a ha
      have e2 := rowAt_pos W h k b hb
      omega

/-- the pairs that come to row k -/
def pairsAt (W : List Int) : Nat → List Int
  | 0 => []
  | k + 1 => prs ((rowAt W k).map Prod.fst)
theorem rowAt_mrg (W : List Int) : ∀ k, rowAt W k = mrg W (pairsAt W k)
  | 0 => rfl
  | k + 1 => rfl
theorem up_get {xs : List Int} (h : Up xs) {i j : Nat} (hij : i ≤ j) (hj : j < xs.length) : xs.getD i 0 ≤ xs.getD j 0 := by
  by_cases e : i = j
  · subst e; exact Int.le_refl _
  · have := (List.pairwise_iff_getElem.1 h) i j (by omega) hj (by omega)
    simpa [List.getD, hj, show i < xs.length by omega] using this
theorem mem_take_getD {xs : List Int} {i t : Nat} (hi : i < t) (hx : i < xs.length) : xs.getD i 0 ∈ xs.take t := by
  have : (xs.take t).getD i 0 = xs.getD i 0 := by simp [List.getD, hi]
  rw [← this]
  have h2 : i < (xs.take t).length := by simp; omega
  simp only [List.getD, List.getElem?_eq_getElem h2, Option.getD_some]
  exact List.getElem_mem _
/-- fewer than one less than there are places of the pairs are below the greatest place -/
theorem few_pairs (W : List Int) (hW : Up W) (hp : ∀ x ∈ W, 0 < x) (hn : 2 ≤ W.length) : ∀ k, W.length - 1 ≤ (pairsAt W k).length → (pairsAt W k).getD (W.length - 2) 0 < W.getD (W.length - 1) 0 → False
  | 0, h, _ => by simp [pairsAt] at h; omega
  | k + 1, h, h2 => by
    have hlen : (pairsAt W (k + 1)).length = (rowAt W k).length / 2 := by rw [pairsAt, prs_length, List.length_map]
    rw [hlen] at h
    have hL : 2 * W.length - 3 < ((rowAt W k).map Prod.fst).length := by rw [List.length_map]; omega
    have hg : (pairsAt W (k + 1)).getD (W.length - 2) 0 = ((rowAt W k).map Prod.fst).getD (2 * (W.length - 2)) 0 + ((rowAt W k).map Prod.fst).getD (2 * (W.length - 2) + 1) 0 := prs_getD _ _ (by rw [List.length_map]; omega)
    have hpos : 0 < ((rowAt W k).map Prod.fst).getD (2 * (W.length - 2)) 0 := rowAt_pos W hp k _ (by
      have h3 : 2 * (W.length - 2) < ((rowAt W k).map Prod.fst).length := by omega
      simp only [List.getD, List.getElem?_eq_getElem h3, Option.getD_some]
      exact List.getElem_mem _)
    have hlast : ((rowAt W k).map Prod.fst).getD (2 * W.length - 3) 0 < W.getD (W.length - 1) 0 := by
      rw [show 2 * W.length - 3 = 2 * (W.length - 2) + 1 by omega]
      omega
    -- all of the first are below the greatest place
    have hall : ∀ z ∈ ((rowAt W k).take (2 * W.length - 2)).map Prod.fst, z < W.getD (W.length - 1) 0 := by
      intro z hz
      rw [List.map_take] at hz
      obtain ⟨i, hi, rfl⟩ := List.getElem_of_mem hz
      have hi2 : i < 2 * W.length - 2 := by simp at hi; omega
      have hi3 : i < ((rowAt W k).map Prod.fst).length := by simp at hi; simp; omega
      have := up_get (rowAt_up W hW k) (i := i) (j := 2 * W.length - 3) (by omega) hL
      have e : ((rowAt W k).map Prod.fst).getD i 0 = (((rowAt W k).map Prod.fst).take (2 * W.length - 2))[i] := by simp only [List.getD, List.getElem?_eq_getElem hi3, Option.getD_some, List.getElem_take]
      rw [e] at this
      omega
    have hperm := mrg_take W (pairsAt W k) (2 * W.length - 2)
    rw [← rowAt_mrg] at hperm
    have hle : alone (rowAt W k) (2 * W.length - 2) ≤ W.length := by have := alone_le_all (rowAt W k) (2 * W.length - 2); rw [rowAt_true] at this; exact this
    have hpl : 2 * W.length - 2 - alone (rowAt W k) (2 * W.length - 2) ≤ (pairsAt W k).length := by
      have h4 := pairs_le (rowAt W k) (2 * W.length - 2) (by rw [List.length_map] at hL; omega)
      have h5 : (rowAt W k).length = W.length + (pairsAt W k).length := by rw [rowAt_mrg, mrg_length]
      rw [rowAt_true] at h4
      omega
    by_cases ha : alone (rowAt W k) (2 * W.length - 2) = W.length
    · have : W.getD (W.length - 1) 0 < W.getD (W.length - 1) 0 := hall _ (hperm.mem_iff.2 (List.mem_append_left _ (by rw [ha]; exact mem_take_getD (by omega) (by omega))))
      omega
    · have hq : W.length - 1 ≤ 2 * W.length - 2 - alone (rowAt W k) (2 * W.length - 2) := by omega
      exact few_pairs W hW hp hn k (by omega) (hall _ (hperm.mem_iff.2 (List.mem_append_right _ (mem_take_getD (by omega) (by omega)))))
/-- a pair that stands among the first t is below a place that doesn't -/
theorem behind : ∀ (xs ys : List Int) (t i j : Nat), Up xs → alone (mrg xs ys) t ≤ i → i < xs.length → j < t - alone (mrg xs ys) t → j < ys.length → ys.getD j 0 < xs.getD i 0
  | xs, ys, 0, i, j, _, _, _, h, _ => by omega
  | [], ys, t + 1, i, j, _, _, h, _, _ => by simp at h
  | x :: xs, [], t + 1, i, j, _, _, _, _, h => by simp at h
  | x :: xs, y :: ys, t + 1, i, j, hu, h1, h2, h3, h4 => by
    have hu' := List.pairwise_cons.1 hu
    rw [mrg_two] at h1 h3
    by_cases hxy : x ≤ y
    · rw [if_pos hxy, alone_true] at h1 h3
      obtain ⟨i', rfl⟩ : ∃ i', i = i' + 1 := ⟨i - 1, by omega⟩
      have := behind xs (y :: ys) t i' j hu'.2 (by omega) (by simpa using h2) (by omega) h4
      simpa using this
    · rw [if_neg hxy, alone_false] at h1 h3
      have hx : x ≤ (x :: xs).getD i 0 := by
        cases i with
        | zero => simp
        | succ i =>
          have hi : i < xs.length := by simpa using h2
          have : (x :: xs).getD (i + 1) 0 = xs[i] := by simp [List.getD, hi]
          rw [this]
          exact hu'.1 _ (List.getElem_mem _)
      cases j with
      | zero =>
        have : (y :: ys).getD 0 0 = y := by simp
        omega
      | succ j =>
        have hle := alone_le (mrg (x :: xs) ys) t
        have := behind (x :: xs) ys t i j hu h1 h2 (by omega) (by simpa using h4)
        simpa using this
termination_by xs ys => xs.length + ys.length

/-- each wanted place is taken at the shortest length -/
theorem alone_all (W : List Int) (hW : Up W) (hp : ∀ x ∈ W, 0 < x) (hn : 2 ≤ W.length) (k : Nat) (hk : 2 * W.length - 2 ≤ (rowAt W k).length) : alone (rowAt W k) (2 * W.length - 2) = W.length := by
  have hle : alone (rowAt W k) (2 * W.length - 2) ≤ W.length := by have := alone_le_all (rowAt W k) (2 * W.length - 2); rw [rowAt_true] at this; exact this
  rcases Nat.lt_or_ge (alone (rowAt W k) (2 * W.length - 2)) W.length with ha | ha
  · exfalso
    have h5 : (rowAt W k).length = W.length + (pairsAt W k).length := by rw [rowAt_mrg, mrg_length]
    have h4 := pairs_le (rowAt W k) (2 * W.length - 2) hk
    rw [rowAt_true] at h4
    have hq : W.length - 1 ≤ 2 * W.length - 2 - alone (rowAt W k) (2 * W.length - 2) := by omega
    exact few_pairs W hW hp hn k (by omega) (behind W (pairsAt W k) (2 * W.length - 2) (W.length - 1) (W.length - 2) hW (by rw [← rowAt_mrg]; omega) (by omega) (by rw [← rowAt_mrg]; omega) (by omega))
  · omega
end Go.Proofs.Ytoiioemkibfdcac

/-
  Plain facts: what is wanted has one order alone; what the closed fact's four places come to. No program is named here.
-/
namespace Go.Proofs.Ytoiioemkibfdcac
open Go.RowKit
set_option linter.unusedVariables false

/-- two rows of the same that rise are one -/
theorem perm_eq {α : Type} {R : α → α → Prop} (asy : ∀ a b, R a b → R b a → False) : ∀ (P Q : List α), P.Perm Q → P.Pairwise R → Q.Pairwise R → P = Q
  | [], Q, h, _, _ => by rw [List.nil_perm] at h; exact h.symm
  | p :: P, [], h, _, _ => by have := h.length_eq; simp at this
  | p :: P, q :: Q, h, hp, hq => by
    rw [List.pairwise_cons] at hp hq
    have e : p = q := by
      have h1 : p ∈ q :: Q := h.mem_iff.1 List.mem_cons_self
      have h2 : q ∈ p :: P := h.mem_iff.2 List.mem_cons_self
      rcases List.mem_cons.1 h1 with h1 | h1
      · exact h1
      · rcases List.mem_cons.1 h2 with h2 | h2
        · exact h2.symm
        · exact absurd (hq.1 p h1) (fun h => asy _ _ h (hp.1 q h2))
    subst e
    rw [perm_eq asy P Q ((List.perm_cons p).1 h) hp.2 hq.2]
theorem RiseOf.one {l : List Int} {P Q : List Nat} (h : RiseOf l P) (k : RiseOf l Q) : P = Q :=
  perm_eq (R := fun a b => l.getD a 0 < l.getD b 0 ∨ (l.getD a 0 = l.getD b 0 ∧ a < b)) (fun a b h1 h2 => by omega) P Q (h.perm.trans k.perm.symm) h.srt k.srt

theorem rise4 : RiseOf [1, 1, 2, 4] [0, 1, 2, 3] := ⟨by decide, by decide⟩
theorem lens4_15 {s : List Int} (h : IsLens [1, 1, 2, 4] 15 s) : s = [3, 3, 2, 1] := by
  obtain ⟨P, hP, rfl⟩ := h
  rw [hP.one rise4]
  decide
theorem lens4_2 {s : List Int} (h : IsLens [1, 1, 2, 4] 2 s) : s = [2, 2, 2, 2] := by
  obtain ⟨P, hP, rfl⟩ := h
  rw [hP.one rise4]
  decide
theorem goodW4 (m : Nat) (h : m = 15 ∨ m = 2) : GoodW [1, 1, 2, 4] m := by
  have hok : ∀ j, j < ([1, 1, 2, 4] : List Int).length → 0 ≤ ([1, 1, 2, 4] : List Int).getD j 0 ∧ ([1, 1, 2, 4] : List Int).getD j 0 ≤ 1000000 := by
    intro j hj
    match j, hj with
    | 0, _ => decide
    | 1, _ => decide
    | 2, _ => decide
    | 3, _ => decide
  rcases h with rfl | rfl
  · exact ⟨by decide, hok, by decide, by decide, by decide⟩
  · exact ⟨by decide, hok, by decide, by decide, by decide⟩
end Go.Proofs.Ytoiioemkibfdcac
