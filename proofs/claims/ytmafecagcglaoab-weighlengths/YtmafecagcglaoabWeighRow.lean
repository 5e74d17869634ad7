/-
  Plain facts on the rows of places and pairs: they rise; what is taken of them; that each wanted place is taken once at the least. No program is named here.
-/
import Derived.Test.YtmafecagcglaoabWeighNum
namespace Go.Proofs.Ytmafecagcglaoab
open Go.RowKit
set_option linter.unusedVariables false

def lsum : List Int → Int
  | [] => 0
  | x :: xs => x + lsum xs
theorem lsum_append : ∀ xs ys : List Int, lsum (xs ++ ys) = lsum xs + lsum ys
  | [], ys => by simp [lsum]
  | x :: xs, ys => by rw [List.cons_append, lsum, lsum, lsum_append xs ys]; omega
theorem lsum_perm {xs ys : List Int} (h : xs.Perm ys) : lsum xs = lsum ys := by
  induction h with
  | nil => rfl
  | cons x _ ih => rw [lsum, lsum, ih]
  | swap x y l => simp only [lsum]; omega
  | trans _ _ h1 h2 => exact h1.trans h2
theorem lsum_nonneg : ∀ xs : List Int, (∀ x ∈ xs, 0 ≤ x) → 0 ≤ lsum xs
  | [], _ => by simp [lsum]
  | x :: xs, h => by
    have h1 := h x List.mem_cons_self
    have h2 := lsum_nonneg xs (fun y hy => h y (List.mem_cons_of_mem _ hy))
    rw [lsum]; omega

theorem alone_zero (r : List (Int × Bool)) : alone r 0 = 0 := by simp [alone]
theorem alone_true (x : Int) (r : List (Int × Bool)) (t : Nat) : alone ((x, true) :: r) (t + 1) = alone r t + 1 := by simp [alone]
theorem alone_false (x : Int) (r : List (Int × Bool)) (t : Nat) : alone ((x, false) :: r) (t + 1) = alone r t := by simp [alone]
theorem alone_pairs (ys : List Int) : ∀ t, alone (ys.map fun y => (y, false)) t = 0 := by
  induction ys with
  | nil => intro t; simp [alone]
  | cons y ys ih =>
    intro t
    cases t with
    | zero => exact alone_zero _
    | succ t => rw [List.map_cons, alone_false, ih]

/-- the first t of a row are the first of the places and the first of the pairs -/
theorem mrg_take : ∀ (xs ys : List Int) (t : Nat), (((mrg xs ys).take t).map Prod.fst).Perm (xs.take (alone (mrg xs ys) t) ++ ys.take (t - alone (mrg xs ys) t))
  | xs, ys, 0 => by rw [alone_zero]; simp
  | [], ys, t + 1 => by
    rw [mrg_nil, alone_pairs]
    simp [Function.comp_def]
  | x :: xs, [], t + 1 => by
    have ih := mrg_take xs [] t
    rw [mrg_one, List.take_succ_cons, List.map_cons, alone_true, List.take_succ_cons]
    simp only [List.take_nil, List.append_nil] at *
    exact List.Perm.cons x ih
  | x :: xs, y :: ys, t + 1 => by
    rw [mrg_two]
    split
    · have ih := mrg_take xs (y :: ys) t
      rw [List.take_succ_cons, List.map_cons, alone_true, List.take_succ_cons, show t + 1 - (alone (mrg xs (y :: ys)) t + 1) = t - alone (mrg xs (y :: ys)) t by omega]
      exact List.Perm.cons x ih
    · have ih := mrg_take (x :: xs) ys t
      have hle := alone_le (mrg (x :: xs) ys) t
      rw [List.take_succ_cons, List.map_cons, alone_false, show t + 1 - alone (mrg (x :: xs) ys) t = (t - alone (mrg (x :: xs) ys) t) + 1 by omega, List.take_succ_cons]
      exact (List.Perm.cons y ih).trans List.perm_middle.symm
termination_by xs ys => xs.length + ys.length

abbrev Up (xs : List Int) : Prop := xs.Pairwise (· ≤ ·)
theorem mrg_up : ∀ xs ys : List Int, Up xs → Up ys → Up ((mrg xs ys).map Prod.fst)
  | [], ys, _, h => by rw [mrg_nil, List.map_map]; simpa [Function.comp_def] using h
  | x :: xs, [], h, h2 => by
    have h := List.pairwise_cons.1 h
    rw [mrg_one, List.map_cons]
    refine List.pairwise_cons.2 ⟨fun z hz => ?_, mrg_up xs [] h.2 h2⟩
    rcases mem_mrg xs [] z hz with hz | hz
    · exact h.1 z hz
    · cases hz
  | x :: xs, y :: ys, h, h2 => by
    have h' := List.pairwise_cons.1 h
    have h2' := List.pairwise_cons.1 h2
    rw [mrg_two]
    split
    · rename_i hxy
      rw [List.map_cons]
      refine List.pairwise_cons.2 ⟨fun z hz => ?_, mrg_up xs (y :: ys) h'.2 h2⟩
      rcases mem_mrg xs (y :: ys) z hz with hz | hz
      · exact h'.1 z hz
      · rcases List.mem_cons.1 hz with rfl | hz
        · exact hxy
        · exact Int.le_trans hxy (h2'.1 z hz)
    · rename_i hxy
      rw [List.map_cons]
      refine List.pairwise_cons.2 ⟨fun z hz => ?_, mrg_up (x :: xs) ys h h2'.2⟩
      show y ≤ z
      rcases mem_mrg (x :: xs) ys z hz with hz | hz
      · rcases List.mem_cons.1 hz with rfl | hz
        · omega
        · have := h'.1 z hz; omega
      · exact h2'.1 z hz
termination_by xs ys => xs.length + ys.length
theorem prs_up : ∀ xs : List Int, Up xs → Up (prs xs)
  | [], _ => by simp [prs]
  | [x], _ => by simp [prs]
  | x :: y :: t, h => by
    have h1 := List.pairwise_cons.1 h
    have h2 := List.pairwise_cons.1 h1.2
    rw [prs]
    refine List.pairwise_cons.2 ⟨fun z hz => ?_, prs_up t h2.2⟩
    obtain ⟨a, b, ha, hb, rfl⟩ := mem_prs t z hz
    have e1 := h1.1 a (by simp [ha])
    have e2 := h2.1 b hb
    show x + y ≤ a + b
    omega
theorem rowAt_up (W : List Int) (h : Up W) : ∀ k, Up ((rowAt W k).map Prod.fst)
  | 0 => by rw [rowAt]; exact mrg_up W [] h .nil
  | k + 1 => by rw [rowAt]; exact mrg_up W _ h (prs_up _ (rowAt_up W h k))
theorem rowAt_pos (W : List Int) (h : ∀ x ∈ W, 0 < x) : ∀ k, ∀ x ∈ (rowAt W k).map Prod.fst, 0 < x
  | 0, x, hx => by
    rw [rowAt] at hx
    rcases mem_mrg W [] x hx with h1 | h1
    · exact h x h1
    · cases h1
  | k + 1, x, hx => by
    rw [rowAt] at hx
    rcases mem_mrg W _ x hx with h1 | h1
    · exact h x h1
    · obtain ⟨a, b, ha, hb, rfl⟩ := mem_prs _ x h1
      have e1 := rowAt_pos W h k a ha
      have e2 := rowAt_pos W h k b hb
      omega

/-- the pairs that come to row k -/
def pairsAt (W : List Int) : Nat → List Int
  | 0 => []
  | k + 1 => prs ((rowAt W k).map Prod.fst)
theorem rowAt_mrg (W : List Int) : ∀ k, rowAt W k = mrg W (pairsAt W k)
  | 0 => rfl
  | k + 1 => rfl
theorem up_get {xs : List Int} (h : Up xs) {i j : Nat} (hij : i ≤ j) (hj : j < xs.length) : xs.getD i 0 ≤ xs.getD j 0 := by
  by_cases e : i = j
  · subst e; exact Int.le_refl _
  · have := (List.pairwise_iff_getElem.1 h) i j (by omega) hj (by omega)
    simpa [List.getD, hj, show i < xs.length by omega] using this
theorem mem_take_getD {xs : List Int} {i t : Nat} (hi : i < t) (hx : i < xs.length) : xs.getD i 0 ∈ xs.take t := by
  have : (xs.take t).getD i 0 = xs.getD i 0 := by simp [List.getD, hi]
  rw [← this]
  have h2 : i < (xs.take t).length := by simp; omega
  simp only [List.getD, List.getElem?_eq_getElem h2, Option.getD_some]
  exact List.getElem_mem _
/-- fewer than one less than there are places of the pairs are below the greatest place -/
theorem few_pairs (W : List Int) (hW : Up W) (hp : ∀ x ∈ W, 0 < x) (hn : 2 ≤ W.length) : ∀ k, W.length - 1 ≤ (pairsAt W k).length → (pairsAt W k).getD (W.length - 2) 0 < W.getD (W.length - 1) 0 → False
  | 0, h, _ => by simp [pairsAt] at h; omega
  | k + 1, h, h2 => by
    have hlen : (pairsAt W (k + 1)).length = (rowAt W k).length / 2 := by rw [pairsAt, prs_length, List.length_map]
    rw [hlen] at h
    have hL : 2 * W.length - 3 < ((rowAt W k).map Prod.fst).length := by rw [List.length_map]; omega
    have hg : (pairsAt W (k + 1)).getD (W.length - 2) 0 = ((rowAt W k).map Prod.fst).getD (2 * (W.length - 2)) 0 + ((rowAt W k).map Prod.fst).getD (2 * (W.length - 2) + 1) 0 := prs_getD _ _ (by rw [List.length_map]; omega)
    have hpos : 0 < ((rowAt W k).map Prod.fst).getD (2 * (W.length - 2)) 0 := rowAt_pos W hp k _ (by
      have h3 : 2 * (W.length - 2) < ((rowAt W k).map Prod.fst).length := by omega
      simp only [List.getD, List.getElem?_eq_getElem h3, Option.getD_some]
      exact List.getElem_mem _)
    have hlast : ((rowAt W k).map Prod.fst).getD (2 * W.length - 3) 0 < W.getD (W.length - 1) 0 := by
      rw [show 2 * W.length - 3 = 2 * (W.length - 2) + 1 by omega]
      omega
    -- all of the first are below the greatest place
    have hall : ∀ z ∈ ((rowAt W k).take (2 * W.length - 2)).map Prod.fst, z < W.getD (W.length - 1) 0 := by
      intro z hz
      rw [List.map_take] at hz
      obtain ⟨i, hi, rfl⟩ := List.getElem_of_mem hz
      have hi2 : i < 2 * W.length - 2 := by simp at hi; omega
      have hi3 : i < ((rowAt W k).map Prod.fst).length := by simp at hi; simp; omega
      have := up_get (rowAt_up W hW k) (i := i) (j := 2 * W.length - 3) (by omega) hL
      have e : ((rowAt W k).map Prod.fst).getD i 0 = (((rowAt W k).map Prod.fst).take (2 * W.length - 2))[i] := by simp only [List.getD, List.getElem?_eq_getElem hi3, Option.getD_some, List.getElem_take]
      rw [e] at this
      omega
    have hperm := mrg_take W (pairsAt W k) (2 * W.length - 2)
    rw [← rowAt_mrg] at hperm
    have hle : alone (rowAt W k) (2 * W.length - 2) ≤ W.length := by have := alone_le_all (rowAt W k) (2 * W.length - 2); rw [rowAt_true] at this; exact this
    have hpl : 2 * W.length - 2 - alone (rowAt W k) (2 * W.length - 2) ≤ (pairsAt W k).length := by
      have h4 := pairs_le (rowAt W k) (2 * W.length - 2) (by rw [List.length_map] at hL; omega)
      have h5 : (rowAt W k).length = W.length + (pairsAt W k).length := by rw [rowAt_mrg, mrg_length]
      rw [rowAt_true] at h4
      omega
    by_cases ha : alone (rowAt W k) (2 * W.length - 2) = W.length
    · have : W.getD (W.length - 1) 0 < W.getD (W.length - 1) 0 := hall _ (hperm.mem_iff.2 (List.mem_append_left _ (by rw [ha]; exact mem_take_getD (by omega) (by omega))))
      omega
    · have hq : W.length - 1 ≤ 2 * W.length - 2 - alone (rowAt W k) (2 * W.length - 2) := by omega
      exact few_pairs W hW hp hn k (by omega) (hall _ (hperm.mem_iff.2 (List.mem_append_right _ (mem_take_getD (by omega) (by omega)))))
/-- a pair that stands among the first t is below a place that doesn't -/
theorem behind : ∀ (xs ys : List Int) (t i j : Nat), Up xs → alone (mrg xs ys) t ≤ i → i < xs.length → j < t - alone (mrg xs ys) t → j < ys.length → ys.getD j 0 < xs.getD i 0
  | xs, ys, 0, i, j, _, _, _, h, _ => by omega
  | [], ys, t + 1, i, j, _, _, h, _, _ => by simp at h
  | x :: xs, [], t + 1, i, j, _, _, _, _, h => by simp at h
  | x :: xs, y :: ys, t + 1, i, j, hu, h1, h2, h3, h4 => by
    have hu' := List.pairwise_cons.1 hu
    rw [mrg_two] at h1 h3
    by_cases hxy : x ≤ y
    · rw [if_pos hxy, alone_true] at h1 h3
      obtain ⟨i', rfl⟩ : ∃ i', i = i' + 1 := ⟨i - 1, by omega⟩
      have := behind xs (y :: ys) t i' j hu'.2 (by omega) (by simpa using h2) (by omega) h4
      simpa using this
    · rw [if_neg hxy, alone_false] at h1 h3
      have hx : x ≤ (x :: xs).getD i 0 := by
        cases i with
        | zero => simp
        | succ i =>
          have hi : i < xs.length := by simpa using h2
          have : (x :: xs).getD (i + 1) 0 = xs[i] := by simp [List.getD, hi]
          rw [this]
          exact hu'.1 _ (List.getElem_mem _)
      cases j with
      | zero =>
        have : (y :: ys).getD 0 0 = y := by simp
        omega
      | succ j =>
        have hle := alone_le (mrg (x :: xs) ys) t
        have := behind (x :: xs) ys t i j hu h1 h2 (by omega) (by simpa using h4)
        simpa using this
termination_by xs ys => xs.length + ys.length

/-- each wanted place is taken at the shortest length -/
theorem alone_all (W : List Int) (hW : Up W) (hp : ∀ x ∈ W, 0 < x) (hn : 2 ≤ W.length) (k : Nat) (hk : 2 * W.length - 2 ≤ (rowAt W k).length) : alone (rowAt W k) (2 * W.length - 2) = W.length := by
  have hle : alone (rowAt W k) (2 * W.length - 2) ≤ W.length := by have := alone_le_all (rowAt W k) (2 * W.length - 2); rw [rowAt_true] at this; exact this
  rcases Nat.lt_or_ge (alone (rowAt W k) (2 * W.length - 2)) W.length with ha | ha
  · exfalso
    have h5 : (rowAt W k).length = W.length + (pairsAt W k).length := by rw [rowAt_mrg, mrg_length]
    have h4 := pairs_le (rowAt W k) (2 * W.length - 2) hk
    rw [rowAt_true] at h4
    have hq : W.length - 1 ≤ 2 * W.length - 2 - alone (rowAt W k) (2 * W.length - 2) := by omega
    exact few_pairs W hW hp hn k (by omega) (behind W (pairsAt W k) (2 * W.length - 2) (W.length - 1) (W.length - 2) hW (by rw [← rowAt_mrg]; omega) (by omega) (by rw [← rowAt_mrg]; omega) (by omega))
  · omega
end Go.Proofs.Ytmafecagcglaoab
