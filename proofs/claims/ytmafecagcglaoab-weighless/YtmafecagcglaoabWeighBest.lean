/-
  Plain facts: whatever code there is takes no fewer bits. No program is named here.
-/
import Derived.Test.YtmafecagcglaoabWeighCost
namespace Go.Proofs.Ytmafecagcglaoab
open Go.RowKit
set_option linter.unusedVariables false

/-- of a row that rises the first so many are the lightest -/
theorem min_take : ∀ (R B C : List Int), Up R → (B ++ C).Perm R → lsum (R.take B.length) ≤ lsum B
  | [], B, C, _, h => by
    have h1 := h.length_eq
    rw [List.length_append, List.length_nil] at h1
    have : B = [] := List.eq_nil_of_length_eq_zero (by omega)
    subst this; simp [lsum]
  | r :: R, [], C, _, _ => by simp [lsum]
  | r :: R, b :: B, C, hu, h => by
    have hu' := List.pairwise_cons.1 hu
    rw [List.length_cons, List.take_succ_cons, lsum, lsum]
    have hr : r ∈ b :: B ++ C := h.mem_iff.2 List.mem_cons_self
    rcases List.mem_append.1 hr with hr | hr
    · obtain ⟨B', hB'⟩ : ∃ B', (b :: B).Perm (r :: B') := ⟨(b :: B).erase r, List.perm_cons_erase hr⟩
      have h2 : (B' ++ C).Perm R := (List.perm_cons r).1 (((hB'.append_right C).symm).trans h)
      have ih := min_take R B' C hu'.2 h2
      have hl := hB'.length_eq
      simp only [List.length_cons] at hl
      have hs := lsum_perm hB'
      rw [lsum, lsum] at hs
      rw [show B.length = B'.length by omega]
      omega
    · obtain ⟨C', hC'⟩ : ∃ C', C.Perm (r :: C') := ⟨C.erase r, List.perm_cons_erase hr⟩
      have h1 : (r :: (B ++ b :: C')).Perm (r :: R) := by
        refine List.Perm.trans ?_ h
        refine List.Perm.trans ?_ ((hC'.append_left (b :: B)).symm)
        refine List.Perm.trans ?_ List.perm_middle.symm
        exact List.Perm.cons r List.perm_middle
      have h2 := (List.perm_cons r).1 h1
      have ih := min_take R B (b :: C') hu'.2 h2
      have hb : r ≤ b := hu'.1 b (h2.mem_iff.1 (List.mem_append_right _ List.mem_cons_self))
      omega
termination_by R => R.length

theorem mrg_perm (xs ys : List Int) : ((mrg xs ys).map Prod.fst).Perm (xs ++ ys) := by
  have h := mrg_take xs ys (mrg xs ys).length
  have ha : alone (mrg xs ys) (mrg xs ys).length = xs.length := by unfold alone; rw [List.take_length, mrg_true]
  rw [ha, List.take_length, mrg_length] at h
  simpa [List.take_of_length_le] using h
/-- the first so many of a row are no more than any so many places and the first pairs -/
theorem psum_min (W : List Int) (hW : Up W) (k : Nat) (A C : List Int) (hA : (A ++ C).Perm W) (q : Nat) (hq : q ≤ (pairsAt W k).length) : psum W k (A.length + q) ≤ lsum A + lsum ((pairsAt W k).take q) := by
  have h1 : ((A ++ (pairsAt W k).take q) ++ (C ++ (pairsAt W k).drop q)).Perm ((rowAt W k).map Prod.fst) := by
    rw [rowAt_mrg]
    refine List.Perm.trans ?_ (mrg_perm W (pairsAt W k)).symm
    have e : (pairsAt W k).take q ++ (pairsAt W k).drop q = pairsAt W k := List.take_append_drop _ _
    have h2 : ((A ++ (pairsAt W k).take q) ++ (C ++ (pairsAt W k).drop q)).Perm ((A ++ C) ++ ((pairsAt W k).take q ++ (pairsAt W k).drop q)) := by
      rw [List.append_assoc, List.append_assoc]
      refine List.Perm.append_left A ?_
      rw [← List.append_assoc, ← List.append_assoc]
      exact List.perm_append_comm.append_right _
    rw [e] at h2
    exact h2.trans (hA.append_right _)
  have h := min_take _ _ _ (rowAt_up W hW k) h1
  rw [lsum_append, List.length_append, List.length_take, Nat.min_eq_left hq] at h
  unfold psum
  rw [List.map_take]
  exact h
theorem lsum_take_mono (xs : List Int) (h : ∀ x ∈ xs, 0 ≤ x) {i j : Nat} (hij : i ≤ j) : lsum (xs.take i) ≤ lsum (xs.take j) := by
  have e : xs.take j = xs.take i ++ (xs.take j).drop i := by
    have : (xs.take j).take i = xs.take i := by rw [List.take_take, Nat.min_eq_left hij]
    rw [← this, List.take_append_drop]
  rw [e, lsum_append]
  have := lsum_nonneg ((xs.take j).drop i) (fun x hx => h x (List.mem_of_mem_take (List.mem_of_mem_drop hx)))
  omega
theorem psum_mono (W : List Int) (hp : ∀ x ∈ W, 0 < x) (k : Nat) {i j : Nat} (hij : i ≤ j) : psum W k i ≤ psum W k j := by
  unfold psum
  rw [List.map_take, List.map_take]
  exact lsum_take_mono _ (fun x hx => by have := rowAt_pos W hp k x hx; omega) hij

/-! ### any lengths of what is wanted -/
variable (l : List Int) (c : Nat → Nat) (m : Nat)
/-- those whose length is j at the least -/
def deep (P : List Nat) (j : Nat) : List Nat := P.filter fun p => decide (j ≤ c p)
def wof (P : List Nat) : List Int := P.map fun p => l.getD p 0
/-- how many are taken at depth d, and what they cost -/
def tk (P : List Nat) : Nat → Nat
  | 0 => (deep c P m).length
  | d + 1 => (deep c P (m - (d + 1))).length + tk P d / 2
def yk (P : List Nat) : Nat → Int
  | 0 => lsum (wof l (deep c P m))
  | d + 1 => lsum (wof l (deep c P (m - (d + 1)))) + yk P d
theorem deep_parts (P : List Nat) (j : Nat) : (wof l (deep c P j) ++ wof l (P.filter fun p => !decide (j ≤ c p))).Perm (wof l P) := by
  unfold wof deep
  rw [← List.map_append]
  exact (List.filter_append_perm _ P).map _
theorem tk_ok (P : List Nat) (hW : Up (wof l P)) (hp : ∀ x ∈ wof l P, 0 < x) : ∀ d, tk c m P d ≤ (rowAt (wof l P) d).length ∧ psum (wof l P) d (tk c m P d) ≤ yk l c m P d
  | 0 => by
    have hl : (wof l (deep c P m)).length = (deep c P m).length := by simp [wof]
    have hle : (deep c P m).length ≤ P.length := List.length_filter_le _ _
    refine ⟨?_, ?_⟩
    · rw [tk, rowAt_mrg, mrg_length]
      simp [wof]; omega
    · have h := psum_min (wof l P) hW 0 (wof l (deep c P m)) _ (deep_parts l c P m) 0 (Nat.zero_le _)
      rw [hl] at h
      simpa [tk, yk, lsum] using h
  | d + 1 => by
    obtain ⟨ih1, ih2⟩ := tk_ok P hW hp d
    have hl : (wof l (deep c P (m - (d + 1)))).length = (deep c P (m - (d + 1))).length := by simp [wof]
    have hle : (deep c P (m - (d + 1))).length ≤ P.length := List.length_filter_le _ _
    have hq : tk c m P d / 2 ≤ (pairsAt (wof l P) (d + 1)).length := by rw [pairsAt, prs_length, List.length_map]; omega
    refine ⟨?_, ?_⟩
    · rw [tk, rowAt_mrg, mrg_length]
      have : (wof l P).length = P.length := by simp [wof]
      omega
    · have h := psum_min (wof l P) hW (d + 1) (wof l (deep c P (m - (d + 1)))) _ (deep_parts l c P _) (tk c m P d / 2) hq
      rw [hl] at h
      have h2 : lsum ((pairsAt (wof l P) (d + 1)).take (tk c m P d / 2)) ≤ psum (wof l P) d (tk c m P d) := by
        rw [pairsAt, lsum_prs _ _ (by rw [List.length_map]; omega), ← List.map_take]
        exact psum_mono (wof l P) hp d (by omega)
      rw [tk, yk]
      omega
/-- the cost, depth by depth -/
def ysum (P : List Nat) (d : Nat) : Int := lsum (P.map fun p => l.getD p 0 * ((c p + 1 + d - m : Nat) : Int))
theorem lsum_add (P : List Nat) (f g : Nat → Int) : lsum (P.map f) + lsum (P.map g) = lsum (P.map fun p => f p + g p) := by
  induction P with
  | nil => rfl
  | cons p P ih => simp only [List.map_cons, lsum]; omega
theorem lsum_deep (P : List Nat) (j : Nat) : lsum (wof l (deep c P j)) = lsum (P.map fun p => if j ≤ c p then l.getD p 0 else 0) := by
  induction P with
  | nil => rfl
  | cons p P ih =>
    unfold wof deep at *
    by_cases h : j ≤ c p
    · rw [List.filter_cons_of_pos (by simpa using h), List.map_cons, List.map_cons, lsum, lsum, ih, if_pos h]
    · rw [List.filter_cons_of_neg (by simpa using h), List.map_cons, lsum, ih, if_neg h]; omega
theorem yk_sum (P : List Nat) (hc : ∀ p ∈ P, c p ≤ m) : ∀ d, d < m → yk l c m P d = ysum l c m P d
  | 0, hd => by
    rw [yk, lsum_deep, ysum]
    congr 1
    apply List.map_congr_left
    intro p hp
    have := hc p hp
    by_cases h : m ≤ c p
    · rw [if_pos h, show c p + 1 + 0 - m = 1 by omega]; simp
    · rw [if_neg h, show c p + 1 + 0 - m = 0 by omega]; simp
  | d + 1, hd => by
    rw [yk, lsum_deep, yk_sum P hc d (by omega), ysum, ysum, lsum_add]
    congr 1
    apply List.map_congr_left
    intro p hp
    have := hc p hp
    by_cases h : m - (d + 1) ≤ c p
    · rw [if_pos h, show c p + 1 + (d + 1) - m = (c p + 1 + d - m) + 1 by omega]
      push_cast
      rw [Int.mul_add, Int.mul_one]
      omega
    · rw [if_neg h, show c p + 1 + (d + 1) - m = 0 by omega, show c p + 1 + d - m = 0 by omega]; simp

/-! ### what the code's room says -/
def nsum : List Nat → Nat
  | [] => 0
  | x :: xs => x + nsum xs
theorem nsum_perm {xs ys : List Nat} (h : xs.Perm ys) : nsum xs = nsum ys := by
  induction h with
  | nil => rfl
  | cons x _ ih => rw [nsum, nsum, ih]
  | swap x y l => simp only [nsum]; omega
  | trans _ _ h1 h2 => exact h1.trans h2
theorem nsum_add (P : List Nat) (f g : Nat → Nat) : nsum (P.map f) + nsum (P.map g) = nsum (P.map fun p => f p + g p) := by
  induction P with
  | nil => rfl
  | cons p P ih => simp only [List.map_cons, nsum]; omega
theorem nsum_const (P : List Nat) (k : Nat) : nsum (P.map fun _ => k) = P.length * k := by
  induction P with
  | nil => simp [nsum]
  | cons p P ih => rw [List.map_cons, nsum, ih, List.length_cons, Nat.succ_mul]; omega
theorem nsum_mul (P : List Nat) (f : Nat → Nat) (k : Nat) : nsum (P.map fun p => k * f p) = k * nsum (P.map f) := by
  induction P with
  | nil => simp [nsum]
  | cons p P ih => simp only [List.map_cons, nsum]; rw [ih, Nat.mul_add]
theorem len_deep (P : List Nat) (j : Nat) : (deep c P j).length = nsum (P.map fun p => if j ≤ c p then 1 else 0) := by
  induction P with
  | nil => rfl
  | cons p P ih =>
    unfold deep at *
    by_cases h : j ≤ c p
    · rw [List.filter_cons_of_pos (by simpa using h), List.length_cons, List.map_cons, nsum, ih, if_pos h]; omega
    · rw [List.filter_cons_of_neg (by simpa using h), List.map_cons, nsum, ih, if_neg h]; omega
/-- those that are taken, each by its worth -/
def uk (P : List Nat) : Nat → Nat
  | 0 => (deep c P m).length
  | d + 1 => 2 ^ (d + 1) * (deep c P (m - (d + 1))).length + uk P d
theorem uk_tk (P : List Nat) : ∀ d, uk c m P d < 2 ^ d * (tk c m P d + 1)
  | 0 => by rw [uk, tk]; omega
  | d + 1 => by
    have ih := uk_tk P d
    rw [uk, tk]
    generalize (deep c P (m - (d + 1))).length = a
    generalize tk c m P d = t at *
    have h1 : 2 ^ d * (t + 1) ≤ 2 ^ d * (2 * (t / 2 + 1)) := Nat.mul_le_mul_left _ (by omega)
    have h2 : 2 ^ (d + 1) * (a + t / 2 + 1) = 2 ^ (d + 1) * a + 2 ^ d * (2 * (t / 2 + 1)) := by
      rw [Nat.add_assoc, Nat.mul_add, Nat.pow_succ, Nat.mul_assoc (2 ^ d) 2 (t / 2 + 1)]
    omega
/-- of one place -/
def up (d k : Nat) : Nat := if m - d ≤ k then 2 ^ (d + 1) - 2 ^ (m - k) else 0
theorem uk_sum (P : List Nat) (hc : ∀ p ∈ P, c p ≤ m) : ∀ d, d < m → uk c m P d = nsum (P.map fun p => up m d (c p))
  | 0, hd => by
    rw [uk, len_deep]
    congr 1
    apply List.map_congr_left
    intro p hp
    have := hc p hp
    unfold up
    by_cases h : m ≤ c p
    · rw [if_pos h, if_pos (by omega), show m - c p = 0 by omega]
    · rw [if_neg h, if_neg (by omega)]
  | d + 1, hd => by
    rw [uk, len_deep, ← nsum_mul, uk_sum P hc d (by omega), nsum_add]
    congr 1
    apply List.map_congr_left
    intro p hp
    have := hc p hp
    unfold up
    by_cases h1 : m - d ≤ c p
    · rw [if_pos (by omega), if_pos h1, if_pos (by omega)]
      have h2 : 2 ^ (m - c p) ≤ 2 ^ (d + 1) := Nat.pow_le_pow_right (by decide) (by omega)
      rw [Nat.pow_succ 2 (d + 1)]
      omega
    · rw [if_neg h1]
      by_cases h2 : m - (d + 1) ≤ c p
      · rw [if_pos h2, if_pos h2, show m - c p = d + 1 by omega, Nat.pow_succ 2 (d + 1)]
        omega
      · rw [if_neg h2, if_neg h2]; rfl
/-- enough is taken, if the code has room -/
theorem tk_enough (P : List Nat) (hm : 1 ≤ m) (hc : ∀ p ∈ P, 1 ≤ c p ∧ c p ≤ m) (hr : nsum (P.map fun p => 2 ^ (m - c p)) ≤ 2 ^ m) : 2 * (P.length - 1) ≤ tk c m P (m - 1) := by
  have h1 := uk_tk c m P (m - 1)
  have h2 := uk_sum c m P (fun p hp => (hc p hp).2) (m - 1) (by omega)
  have h3 : nsum (P.map fun p => up m (m - 1) (c p)) + nsum (P.map fun p => 2 ^ (m - c p)) = P.length * 2 ^ m := by
    rw [nsum_add, ← nsum_const]
    congr 1
    apply List.map_congr_left
    intro p hp
    have hcp := hc p hp
    unfold up
    rw [if_pos (by omega), show m - 1 + 1 = m by omega]
    have : 2 ^ (m - c p) ≤ 2 ^ m := Nat.pow_le_pow_right (by decide) (by omega)
    omega
  have h4 : 2 ^ m = 2 ^ (m - 1) * 2 := by rw [← Nat.pow_succ]; congr 1; omega
  rcases Nat.lt_or_ge (tk c m P (m - 1)) (2 * (P.length - 1)) with h5 | h5
  · exfalso
    have h6 : 2 ^ (m - 1) * (tk c m P (m - 1) + 1) ≤ 2 ^ (m - 1) * (2 * (P.length - 1)) := Nat.mul_le_mul_left _ (by omega)
    have h7 : 2 ^ (m - 1) * (2 * (P.length - 1)) = (P.length - 1) * 2 ^ m := by rw [h4, ← Nat.mul_assoc, Nat.mul_comm]
    have h8 : P.length * 2 ^ m = (P.length - 1) * 2 ^ m + 2 ^ m := by
      obtain ⟨q, hq⟩ : ∃ q, P.length = q + 1 := ⟨P.length - 1, by omega⟩
      rw [hq, Nat.add_sub_cancel, Nat.succ_mul]
    omega
  · exact h5
/-- whatever code there is takes no fewer -/
theorem least_le (P : List Nat) (hW : Up (wof l P)) (hp : ∀ x ∈ wof l P, 0 < x) (hn : 2 ≤ P.length) (hm : 1 ≤ m) (hc : ∀ p ∈ P, 1 ≤ c p ∧ c p ≤ m) (hr : nsum (P.map fun p => 2 ^ (m - c p)) ≤ 2 ^ m) :
    psum (wof l P) (m - 1) (2 * (P.length - 1)) ≤ lsum (P.map fun p => l.getD p 0 * ((c p : Nat) : Int)) := by
  have h1 := tk_enough c m P hm hc hr
  have h2 := (tk_ok l c m P hW hp (m - 1)).2
  have h3 := psum_mono (wof l P) hp (m - 1) h1
  rw [yk_sum l c m P (fun p hp => (hc p hp).2) (m - 1) (by omega), ysum] at h2
  have e : (P.map fun p => l.getD p 0 * ((c p + 1 + (m - 1) - m : Nat) : Int)) = P.map fun p => l.getD p 0 * ((c p : Nat) : Int) := by
    apply List.map_congr_left
    intro p hp
    rw [show c p + 1 + (m - 1) - m = c p by omega]
  rw [e] at h2
  omega
end Go.Proofs.Ytmafecagcglaoab
