/-
  Plain facts: in whatever order things are wanted, and however many times as often, the cost is the same, and as many times as much. No program is named here.
-/
import Derived.Test.YtmafecagcglaoabWeighCost
import Derived.Test.YtmafecagcglaoabWeighEq
namespace Go.Proofs.Ytmafecagcglaoab
open Go.RowKit
set_option linter.unusedVariables false

theorem wpl_filter (l : List Int) : ∀ k, k ≤ l.length → (wpl l k).map (fun p => l.getD p 0) = (l.take k).filter (fun x => decide (0 < x))
  | 0, _ => by simp [wpl]
  | k + 1, h => by
    have hk : k < l.length := by omega
    have e : l.getD k 0 = l[k] := by simp [List.getD, hk]
    rw [wpl, List.map_append, wpl_filter l k (by omega), List.take_succ_eq_append_getElem hk, List.filter_append]
    congr 1
    rw [e]
    by_cases h0 : 0 < l[k]
    · simp [h0, hk]
    · simp [h0]
theorem RiseOf.filt {l : List Int} {P : List Nat} (h : RiseOf l P) : (P.map fun p => l.getD p 0).Perm (l.filter fun x => decide (0 < x)) := by
  have h1 := h.perm.map (fun p => l.getD p 0)
  rw [wpl_filter l l.length (Nat.le_refl _), List.take_length] at h1
  exact h1
theorem up_eq {xs ys : List Int} (h : xs.Perm ys) (hx : Up xs) (hy : Up ys) : xs = ys := h.eq_of_pairwise (fun a b _ _ h1 h2 => Int.le_antisymm h1 h2) hx hy
theorem wpl_count (l : List Int) : (wpl l l.length).length = (l.filter fun x => decide (0 < x)).length := by
  have := congrArg List.length (wpl_filter l l.length (Nat.le_refl _))
  rw [List.length_map, List.take_length] at this
  exact this
theorem getD_mem {l : List Int} {j : Nat} (h : j < l.length) : l.getD j 0 ∈ l := by
  simp only [List.getD, List.getElem?_eq_getElem h, Option.getD_some]; exact List.getElem_mem _
theorem GoodW.all {l : List Int} {m : Nat} (h : GoodW l m) : ∀ x ∈ l, 0 ≤ x ∧ x ≤ 1000000 := by
  intro x hx
  obtain ⟨i, hi, rfl⟩ := List.getElem_of_mem hx
  have := h.ok i hi
  simpa [List.getD, hi] using this
theorem GoodW.turned {l : List Int} {m : Nat} (h : GoodW l m) : GoodW l.reverse m := by
  refine ⟨by rw [List.length_reverse]; exact h.len, fun j hj => h.all _ (List.mem_reverse.1 (getD_mem hj)), h.lo, h.hi, ?_⟩
  rw [wpl_count, List.filter_reverse, List.length_reverse, ← wpl_count]
  exact h.room
theorem turned_same {l : List Int} {P Q : List Nat} (h : RiseOf l P) (k : RiseOf l.reverse Q) : (P.map fun p => l.getD p 0) = Q.map fun p => l.reverse.getD p 0 := by
  refine up_eq ?_ h.up k.up
  have h2 := k.filt
  rw [List.filter_reverse] at h2
  exact h.filt.trans ((List.reverse_perm _).symm.trans h2.symm)
/-- turned round the cost is the same -/
theorem cost_turned {l s s2 : List Int} {m : Nat} (hG : GoodW l m) (h1 : IsLens l m s) (h2 : IsLens l.reverse m s2) : costK l s l.length = costK l.reverse s2 l.reverse.length := by
  obtain ⟨P, hP, e1⟩ := cost_is hG h1
  obtain ⟨Q, hQ, e2⟩ := cost_is hG.turned h2
  rw [e1, e2, turned_same hP hQ]

/-! ### so many times as often -/
variable (t : Int)
abbrev tms (xs : List Int) : List Int := xs.map fun x => x * t
abbrev tmr (r : List (Int × Bool)) : List (Int × Bool) := r.map fun x => (x.1 * t, x.2)
theorem mrg_tms (ht : 0 < t) : ∀ xs ys : List Int, mrg (tms t xs) (tms t ys) = tmr t (mrg xs ys)
  | [], ys => by simp [tms, mrg_nil]
  | x :: xs, [] => by
    have ih := mrg_tms ht xs []
    simp only [tms, List.map_cons, List.map_nil, mrg_one] at *
    rw [ih]
  | x :: xs, y :: ys => by
    have ih1 := mrg_tms ht xs (y :: ys)
    have ih2 := mrg_tms ht (x :: xs) ys
    simp only [tms, List.map_cons] at *
    rw [mrg_two, mrg_two]
    by_cases h : x ≤ y
    · rw [if_pos h, if_pos (Int.mul_le_mul_of_nonneg_right h (by omega)), ih1]
      rfl
    · rw [if_neg h, if_neg (fun h2 => h (Int.le_of_mul_le_mul_right h2 ht)), ih2]
      rfl
termination_by xs ys => xs.length + ys.length
theorem prs_tms : ∀ xs : List Int, prs (tms t xs) = tms t (prs xs)
  | [] => by simp [tms, prs]
  | [x] => by simp [tms, prs]
  | x :: y :: r => by
    have ih := prs_tms r
    simp only [tms, List.map_cons, prs] at *
    rw [ih, Int.add_mul]
theorem fst_tmr (r : List (Int × Bool)) : (tmr t r).map Prod.fst = tms t (r.map Prod.fst) := by simp [tms, tmr, List.map_map, Function.comp_def]
theorem rowAt_tms (ht : 0 < t) (W : List Int) : ∀ k, rowAt (tms t W) k = tmr t (rowAt W k)
  | 0 => by rw [rowAt, rowAt]; exact mrg_tms t ht W []
  | k + 1 => by rw [rowAt, rowAt, rowAt_tms ht W k, fst_tmr, prs_tms, mrg_tms t ht]
theorem alone_tmr (r : List (Int × Bool)) (n : Nat) : alone (tmr t r) n = alone r n := by
  unfold alone tmr
  rw [← List.map_take, List.filter_map, List.length_map]
  rfl
theorem takeAt_tms (ht : 0 < t) (W : List Int) (m : Nat) : ∀ i, takeAt (tms t W) m i = takeAt W m i
  | 0 => by simp [takeAt, tms]
  | i + 1 => by rw [takeAt, takeAt, takeAt_tms ht W m i, rowAt_tms t ht, alone_tmr]
theorem aloneAt_tms (ht : 0 < t) (W : List Int) (m i : Nat) : aloneAt (tms t W) m i = aloneAt W m i := by
  unfold aloneAt
  rw [takeAt_tms t ht, rowAt_tms t ht, alone_tmr]
theorem lensAt_tms (ht : 0 < t) (n : Nat) (P : List Nat) (W : List Int) (m : Nat) : ∀ i, lensAt n P (tms t W) m i = lensAt n P W m i
  | 0 => rfl
  | i + 1 => by rw [lensAt, lensAt, lensAt_tms ht n P W m i, aloneAt_tms t ht]
theorem getD_tms (l : List Int) (j : Nat) : (tms t l).getD j 0 = l.getD j 0 * t := by
  simp only [tms, List.getD, List.getElem?_map]
  cases l[j]? <;> simp
theorem wpl_tms (ht : 0 < t) (l : List Int) : ∀ k, wpl (tms t l) k = wpl l k
  | 0 => rfl
  | k + 1 => by
    rw [wpl, wpl, wpl_tms ht l k, getD_tms]
    by_cases h : 0 < l.getD k 0
    · rw [if_pos h, if_pos (Int.mul_pos h ht)]
    · rw [if_neg h, if_neg (fun h2 => h (by rcases Int.lt_or_le 0 (l.getD k 0) with h3 | h3; exact h3; have := Int.mul_nonneg (show 0 ≤ - l.getD k 0 by omega) (show 0 ≤ t by omega); rw [Int.neg_mul] at this; omega))]
theorem RiseOf.tms {t : Int} (ht : 0 < t) {l : List Int} {P : List Nat} (h : RiseOf l P) : RiseOf (tms t l) P := by
  refine ⟨by rw [List.length_map, wpl_tms t ht]; exact h.perm, h.srt.imp fun {a b} hab => ?_⟩
  rw [getD_tms, getD_tms]
  rcases hab with h1 | ⟨h1, h2⟩
  · exact .inl (Int.mul_lt_mul_of_pos_right h1 ht)
  · exact .inr ⟨by rw [h1], h2⟩
theorem costK_tms (l s : List Int) : ∀ k, costK (tms t l) s k = t * costK l s k
  | 0 => by simp [costK]
  | k + 1 => by
    rw [costK, costK, costK_tms l s k, getD_tms, Int.mul_add]
    congr 1
    rw [Int.mul_comm (l.getD k 0) t, Int.mul_assoc]
theorem lens_tms {t : Int} (ht : 0 < t) {l s s2 : List Int} {m : Nat} (h1 : IsLens l m s) (h2 : IsLens (tms t l) m s2) : s2 = s := by
  obtain ⟨P, hP, rfl⟩ := h1
  obtain ⟨Q, hQ, rfl⟩ := h2
  rw [hQ.one (hP.tms ht)]
  unfold lensOf
  have e : (P.map fun p => (Go.Proofs.Ytmafecagcglaoab.tms t l).getD p 0) = Go.Proofs.Ytmafecagcglaoab.tms t (P.map fun p => l.getD p 0) := by
    simp only [getD_tms]
    unfold Go.Proofs.Ytmafecagcglaoab.tms
    rw [List.map_map]
    rfl
  rw [e, lensAt_tms t ht, List.length_map]
theorem cost_tms {t : Int} (ht : 0 < t) {l s s2 : List Int} {m : Nat} (h1 : IsLens l m s) (h2 : IsLens (tms t l) m s2) : costK (tms t l) s2 (tms t l).length = t * costK l s l.length := by
  rw [lens_tms ht h1 h2, costK_tms, List.length_map]
/-- the error of so many times as often -/
theorem errW_tms {t : Int} (ht : 0 < t) {l : List Int} {m : Nat} (hG : GoodW l m) : (GoodW (tms t l) m) ∨ (errW (tms t l) m = 3 ∧ ∃ j, j < l.length ∧ 1000000 < (tms t l).getD j 0) := by
  by_cases h : ∃ j, j < l.length ∧ 1000000 < (tms t l).getD j 0
  · refine .inr ⟨?_, h⟩
    obtain ⟨j, hj, hx⟩ := h
    unfold errW
    rw [if_neg (by rw [List.length_map]; have := hG.len; omega), if_pos ⟨j, by rw [List.length_map]; exact hj, decide_eq_false (by omega)⟩]
  · refine .inl ⟨by rw [List.length_map]; exact hG.len, fun j hj => ?_, hG.lo, hG.hi, by rw [List.length_map, wpl_tms t ht]; exact hG.room⟩
    rw [List.length_map] at hj
    refine ⟨?_, ?_⟩
    · rw [getD_tms]; exact Int.mul_nonneg (hG.ok j hj).1 (by omega)
    · rcases Int.lt_or_le 1000000 ((Go.Proofs.Ytmafecagcglaoab.tms t l).getD j 0) with h1 | h1
      · exact absurd ⟨j, hj, h1⟩ h
      · exact h1
end Go.Proofs.Ytmafecagcglaoab
