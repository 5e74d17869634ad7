/-
  Plain facts: whatever code there is takes no fewer bits. No program is named here.
-/
import Derived.Test.YtfoaaamcpknjnacQ13
import Derived.Test.YtfoaaamcpknjnacQ12
namespace Go.Proofs.Ytfoaaamcpknjnac
open Go.RowKit
set_option linter.unusedVariables false

/-- of a row that rises the first so many are the lightest -/
theorem min_take : ∀ (R B C : List Int), Up R → (B ++ C).Perm R → lsum (R.take B.length) ≤ lsum B
  | [], B, C, _, h => by
    have h1 := h.length_eq
    rw [List.length_append, List.length_nil] at h1
    have : B = [] := List.eq_nil_of_length_eq_zero (by omega)
    subst this; simp [lsum]
  | r :: R, [], C, _, _ => by simp [lsum]
  | r :: R, b :: B, C, hu, h => by
    have hu' := List.pairwise_cons.1 hu
    rw [List.length_cons, List.take_succ_cons, lsum, lsum]
    have hr : r ∈ b :: B ++ C := h.mem_iff.2 List.mem_cons_self
    rcases List.mem_append.1 hr with hr | hr
    · obtain ⟨B', hB'⟩ : ∃ B', (b :: B).Perm (r :: B') := ⟨(b :: B).erase r, List.perm_cons_erase hr⟩
      have h2 : (B' ++ C).Perm R := (List.perm_cons r).1 (((hB'.append_right C).symm).trans h)
      have ih := min_take R B' C hu'.2 h2
      have hl := hB'.length_eq
      simp only [List.length_cons] at hl
      have hs := lsum_perm hB'
      rw [lsum, lsum] at hs
      rw [show B.length = B'.length by omega]
      omega
    · obtain ⟨C', hC'⟩ : ∃ C', C.Perm (r :: C') := ⟨C.erase r, List.perm_cons_erase hr⟩
      have h1 : (r :: (B ++ b :: C')).Perm (r :: R) := by
        refine List.Perm.trans ?_ h
        refine List.Perm.trans ?_ ((hC'.append_left (b :: B)).symm)
        refine List.Perm.trans ?_ List.perm_middle.symm
        exact List.Perm.cons r List.perm_middle
      have h2 := (List.perm_cons r).1 h1
      have ih := min_take R B (b :: C') hu'.2 h2
      have hb : r ≤ b := hu'.1 b (h2.mem_iff.1 (List.mem_append_right _ List.mem_cons_self))
      omega
termination_by R => R.length

theorem mrg_perm (xs ys : List Int) : ((mrg xs ys).map Prod.fst).Perm (xs ++ ys) := by
  have h := mrg_take xs ys (mrg xs ys).length
  have ha : alone (mrg xs ys) (mrg xs ys).length = xs.length := by unfold alone; rw [List.take_length, mrg_true]
  rw [ha, List.take_length, mrg_length] at h
  simpa [List.take_of_length_le] using h
/-- the first so many of a row are no more than any so many places and the first pairs -/
theorem psum_min (W : List Int) (hW : Up W) (k : Nat) (A C : List Int) (hA : (A ++ C).Perm W) (q : Nat) (hq : q ≤ (pairsAt W k).length) : psum W k (A.length + q) ≤ lsum A + lsum ((pairsAt W k).take q) := by
  have h1 : ((A ++ (pairsAt W k).take q) ++ (C ++ (pairsAt W k).drop q)).Perm ((rowAt W k).map Prod.fst) := by
    rw [rowAt_mrg]
    refine List.Perm.trans ?_ (mrg_perm W (pairsAt W k)).symm
    have e : (pairsAt W k).take q ++ (pairsAt W k).drop q = pairsAt W k := List.take_append_drop _ _
    have h2 : ((A ++ (pairsAt W k).take q) ++ (C ++ (pairsAt W k).drop q)).Perm ((A ++ C) ++ ((pairsAt W k).take q ++ (pairsAt W k).drop q)) := by
      rw [List.append_assoc, List.append_assoc]
      refine List.Perm.append_left A ?_
      rw [← List.append_assoc, ← List.append_assoc]
      exact List.perm_append_comm.append_right _
    rw [e] at h2
    exact h2.trans (hA.append_right _)
  have h := min_take _ _ _ (rowAt_up W hW k) h1
  rw [lsum_append, List.length_append, List.length_take, Nat.min_eq_left hq] at h
  unfold psum
  rw [List.map_take]
  exact h
theorem lsum_take_mono (xs : List Int) (h : ∀ x ∈ xs, 0 ≤ x) {i j : Nat} (hij : i ≤ j) : lsum (xs.take i) ≤ lsum (xs.take j) := by
  have e : xs.take j = xs.take i ++ (xs.take j).drop i := by
    have : (xs.take j).take i = xs.take i := by rw [List.take_take, Nat.min_eq_left hij]
    rw [← this, List.take_append_drop]
  rw [e, lsum_append]
  have := lsum_nonneg ((xs.take j).drop i) (fun x hx => h x (List.mem_of_mem_take (List.mem_of_mem_drop hx)))
  omega
theorem psum_mono (W : List Int) (hp : ∀ x ∈ W, 0 < x) (k : Nat) {i j : Nat} (hij : i ≤ j) : psum W k i ≤ psum W k j := by
  unfold psum
  rw [List.map_take, List.map_take]
  exact lsum_take_mono _ (fun x hx => by have := rowAt_pos W hp k x hx; omega) hij

/-! ### any lengths of what is wanted -/
variable (l : List Int) (c : Nat → Nat) (m : Nat)
/-- those whose length is j at the least -/
def deep (P : List Nat) (j : Nat) : List Nat := P.filter fun p => decide (j ≤ c p)
def wof (P : List Nat) : List Int := P.map fun p => l.getD p 0
/-- how many are taken at depth d, and what they cost -/
def tk (P : List Nat) : Nat → Nat
  | 0 => (deep c P m).length
  | d + 1 => (deep c P (m - (d + 1))).length + tk P d / 2
def yk (P : List Nat) : Nat → Int
  | 0 => lsum (wof l (deep c P m))
  | d + 1 => lsum (wof l (deep c P (m - (d + 1)))) + yk P d
theorem deep_parts (P : List Nat) (j : Nat) : (wof l (deep c P j) ++ wof l (P.filter fun p => !decide (j ≤ c p))).Perm (wof l P) := by
  unfold wof deep
  rw [← List.map_append]
  exact (List.filter_append_perm _ P).map _
theorem tk_ok (P : List Nat) (hW : Up (wof l P)) (hp : ∀ x ∈ wof l P, 0 < x) : ∀ d, tk c m P d ≤ (rowAt (wof l P) d).length ∧ psum (wof l P) d (tk c m P d) ≤ yk l c m P d
  | 0 => by
    have hl : (wof l (deep c P m)).length = (deep c P m).length := by simp [wof]
    have hle : (deep c P m).length ≤ P.length := List.length_filter_le _ _
    refine ⟨?_, ?_⟩
    · rw [tk, rowAt_mrg, mrg_length]
      simp [wof]; omega
    · have h := psum_min (wof l P) hW 0 (wof l (deep c P m)) _ (deep_parts l c P m) 0 (Nat.zero_le _)
      rw [hl] at h
      simpa [tk, yk, lsum] using h
  | d + 1 => by
    obtain ⟨ih1, ih2⟩ := tk_ok P hW hp d
    have hl : (wof l (deep c P (m - (d + 1)))).length = (deep c P (m - (d + 1))).length := by simp [wof]
    have hle : (deep c P (m - (d + 1))).length ≤ P.length := List.length_filter_le _ _
    have hq : tk c m P d / 2 ≤ (pairsAt (wof l P) (d + 1)).length := by rw [pairsAt, prs_length, List.length_map]; omega
    refine ⟨?_, ?_⟩
    · rw [tk, rowAt_mrg, mrg_length]
      have : (wof l P).length = P.length := by simp [wof]
      omega
    · have h := psum_min (wof l P) hW (d + 1) (wof l (deep c P (m - (d + 1)))) _ (deep_parts l c P _) (tk c m P d / 2) hq
      rw [hl] at h
      have h2 : lsum ((pairsAt (wof l P) (d + 1)).take (tk c m P d / 2)) ≤ psum (wof l P) d (tk c m P d) := by
        rw [pairsAt, lsum_prs _ _ (by rw [List.length_map]; omega), ← List.map_take]
        exact psum_mono (wof l P) hp d (by omega)
      rw [tk, yk]
      omega
/-- the cost, depth by depth -/
def ysum (P : List Nat) (d : Nat) : Int := lsum (P.map fun p => l.getD p 0 * ((c p + 1 + d - m : Nat) : Int))
theorem lsum_add (P : List Nat) (f g : Nat → Int) : lsum (P.map f) + lsum (P.map g) = lsum (P.map fun p => f p + g p) := by
  induction P with
  | nil => rfl
  | cons p P ih => simp only [List.map_cons, lsum]; omega
theorem lsum_deep (P : List Nat) (j : Nat) : lsum (wof l (deep c P j)) = lsum (P.map fun p => if j ≤ c p then l.getD p 0 else 0) := by
  induction P with
  | nil => rfl
  | cons p P ih =>
    unfold wof deep at *
    by_cases h : j ≤ c p
    · rw [List.filter_cons_of_pos (by simpa using h), List.map_cons, List.map_cons, lsum, lsum, ih, if_pos h]
    · rw [List.filter_cons_of_neg (by simpa using h), List.map_cons, lsum, ih, if_neg h]; omega
theorem yk_sum (P : List Nat) (hc : ∀ p ∈ P, c p ≤ m) : ∀ d, d < m → yk l c m P d = ysum l c m P d
  | 0, hd => by
    rw [yk, lsum_deep, ysum]
    congr 1
    apply List.map_congr_left
    intro p hp
    have := hc p hp
    by_cases h : m ≤ c p
    · rw [if_pos h, show c p + 1 + 0 - m = 1 by omega]; simp
    · rw [if_neg h, show c p + 1 + 0 - m = 0 by omega]; simp
  | d + 1, hd => by
    rw [yk, lsum_deep, yk_sum P hc d (by omega), ysum, ysum, lsum_add]
    congr 1
    apply List.map_congr_left
    intro p hp
    have := hc p hp
    by_cases h : m - (d + 1) ≤ c p
    · rw [if_pos h, show c p + 1 + (d + 1) - m = (c p + 1 + d - m) + 1 by omega]
      push_cast
      rw [Int.mul_add, Int.mul_one]
      omega
    · rw [if_neg h, show c p + 1 + (d + 1) - m = 0 by omega, show c p + 1 + d - m = 0 by omega]; simp

/-! ### what the code's room says -/
def nsum : List Nat → Nat
  | [] => 0
  | x :: xs => x + nsum xs
theorem nsum_perm {xs ys : List Nat} (h : xs.Perm ys) : nsum xs = nsum ys := by
  induction h with
  | nil => rfl
  | cons x _ ih => rw [nsum, nsum, ih]
  | swap x y l => simp only [nsum]; omega
  | trans _ _ h1 h2 => exact h1.trans h2
theorem nsum_add (P : List Nat) (f g : Nat → Nat) : nsum (P.map f) + nsum (P.map g) = nsum (P.map fun p => f p + g p) := by
  induction P with
  | nil => rfl
  | cons p P ih => simp only [List.map_cons, nsum]; omega
theorem nsum_const (P : List Nat) (k : Nat) : nsum (P.map fun _ => k) = P.length * k := by
  induction P with
  | nil => simp [nsum]
  | cons p P ih => rw [List.map_cons, nsum, ih, List.length_cons, Nat.succ_mul]; omega
theorem nsum_mul (P : List Nat) (f : Nat → Nat) (k : Nat) : nsum (P.map fun p => k * f p) = k * nsum (P.map f) := by
  induction P with
  | nil => simp [nsum]
  | cons p P ih => simp only [List.map_cons, nsum]; rw [ih, Nat.mul_add]
theorem len_deep (P : List Nat) (j : Nat) : (deep c P j).length = nsum (P.map fun p => if j ≤ c p then 1 else 0) := by
  induction P with
  | nil => rfl
  | cons p P ih =>
    unfold deep at *
    by_cases h : j ≤ c p
    · rw [List.filter_cons_of_pos (by simpa using h), List.length_cons, List.map_cons, nsum, ih, if_pos h]; omega
    · rw [List.filter_cons_of_neg (by simpa using h), List.map_cons, nsum, ih, if_neg h]; omega
/-- those that are taken, each by its worth -/
def uk (P : List Nat) : Nat → Nat
  | 0 => (deep c P m).length
  | d + 1 => 2 ^ (d + 1) * (deep c P (m - (d + 1))).length + uk P d
theorem uk_tk (P : List Nat) : ∀ d, uk c m P d < 2 ^ d * (tk c m P d + 1)
  | 0 => by rw [uk, tk]; omega
  | d + 1 => by
    have ih := uk_tk P d
    rw [uk, tk]
    generalize (deep c P (m - (d + 1))).length = a
    generalize tk c m P d = t at *
    have h1 : 2 ^ d * (t + 1) ≤ 2 ^ d * (2 * (t / 2 + 1)) := Nat.mul_le_mul_left _ (by omega)
    have h2 : 2 ^ (d + 1) * (a + t / 2 + 1) = 2 ^ (d + 1) * a + 2 ^ d * (2 * (t / 2 + 1)) := by
      rw [Nat.add_assoc, Nat.mul_add, Nat.pow_succ, Nat.mul_assoc (2 ^ d) 2 (t / 2 + 1)]
    omega
/-- of one place -/
def up (d k : Nat) : Nat := if m - d ≤ k then 2 ^ (d + 1) - 2 ^ (m - k) else 0
theorem uk_sum (P : List Nat) (hc : ∀ p ∈ P, c p ≤ m) : ∀ d, d < m → uk c m P d = nsum (P.map fun p => up m d (c p))
  | 0, hd => by
    rw [uk, len_deep]
    congr 1
    apply List.map_congr_left
    intro p hp
    have := hc p hp
    unfold up
    by_cases h : m ≤ c p
    · rw [if_pos h, if_pos (by omega), show m - c p = 0 by omega]
    · rw [if_neg h, if_neg (by omega)]
  | d + 1, hd => by
    rw [uk, len_deep, ← nsum_mul, uk_sum P hc d (by omega), nsum_add]
    congr 1
    apply List.map_congr_left
    intro p hp
    have := hc p hp
    unfold up
    by_cases h1 : m - d ≤ c p
    · rw [if_pos (by omega), if_pos h1, if_pos (by omega)]
      have h2 : 2 ^ (m - c p) ≤ 2 ^ (d + 1) := Nat.pow_le_pow_right (by decide) (by omega)
      rw [Nat.pow_succ 2 (d + 1)]
      omega
    · rw [if_neg h1]
      by_cases h2 : m - (d + 1) ≤ c p
      · rw [if_pos h2, if_pos h2, show m - c p = d + 1 by omega, Nat.pow_succ 2 (d + 1)]
        omega
      · rw [if_neg h2, if_neg h2]; rfl
/-- enough is taken, if the code has room -/
theorem tk_enough (P : List Nat) (hm : 1 ≤ m) (hc : ∀ p ∈ P, 1 ≤ c p ∧ c p ≤ m) (hr : nsum (P.map fun p => 2 ^ (m - c p)) ≤ 2 ^ m) : 2 * (P.length - 1) ≤ tk c m P (m - 1) := by
  have h1 := uk_tk c m P (m - 1)
  have h2 := uk_sum c m P (fun p hp => (hc p hp).2) (m - 1) (by omega)
  have h3 : nsum (P.map fun p => up m (m - 1) (c p)) + nsum (P.map fun p => 2 ^ (m - c p)) = P.length * 2 ^ m := by
    rw [nsum_add, ← nsum_const]
    congr 1
    apply List.map_congr_left
    intro p hp
    have hcp := hc p hp
    unfold up
    rw [if_pos (by omega), show m - 1 + 1 = m by omega]
    have : 2 ^ (m - c p) ≤ 2 ^ m := Nat.pow_le_pow_right (by decide) (by omega)
    omega
  have h4 : 2 ^ m = 2 ^ (m - 1) * 2 := by rw [← Nat.pow_succ]; congr 1; omega
  rcases Nat.lt_or_ge (tk c m P (m - 1)) (2 * (P.length - 1)) with h5 | h5
  · exfalso
    have h6 : 2 ^ (m - 1) * (tk c m P (m - 1) + 1) ≤ 2 ^ (m - 1) * (2 * (P.length - 1)) := Nat.mul_le_mul_left _ (by omega)
    have h7 : 2 ^ (m - 1) * (2 * (P.length - 1)) = (P.length - 1) * 2 ^ m := by rw [h4, ← Nat.mul_assoc, Nat.mul_comm]
    have h8 : P.length * 2 ^ m = (P.length - 1) * 2 ^ m + 2 ^ m := by
      obtain ⟨q, hq⟩ : ∃ q, P.length = q + 1 := ⟨P.length - 1, by omega⟩
      rw [hq, Nat.add_sub_cancel, Nat.succ_mul]
    omega
  · exact h5
/-- whatever code there is takes no fewer -/
theorem least_le (P : List Nat) (hW : Up (wof l P)) (hp : ∀ x ∈ wof l P, 0 < x) (hn : 2 ≤ P.length) (hm : 1 ≤ m) (hc : ∀ p ∈ P, 1 ≤ c p ∧ c p ≤ m) (hr : nsum (P.map fun p => 2 ^ (m - c p)) ≤ 2 ^ m) :
    psum (wof l P) (m - 1) (2 * (P.length - 1)) ≤ lsum (P.map fun p => l.getD p 0 * ((c p : Nat) : Int)) := by
  have h1 := tk_enough c m P hm hc hr
  have h2 := (tk_ok l c m P hW hp (m - 1)).2
  have h3 := psum_mono (wof l P) hp (m - 1) h1
  rw [yk_sum l c m P (fun p hp => (hc p hp).2) (m - 1) (by omega), ysum] at h2
  have e : (P.map fun p => l.getD p 0 * ((c p + 1 + (m - 1) - m : Nat) : Int)) = P.map fun p => l.getD p 0 * ((c p : Nat) : Int) := by
    apply List.map_congr_left
    intro p hp
    rw [show c p + 1 + (m - 1) - m = c p by omega]
  rw [e] at h2
  omega
end Go.Proofs.Ytfoaaamcpknjnac

/-
  Plain facts: the lengths make a code that leaves no room. No program is named here.
-/
namespace Go.Proofs.Ytfoaaamcpknjnac
open Go.RowKit
set_option linter.unusedVariables false

/-- what is taken at one length is taken at the shorter one -/
theorem alone_nested {W : List Int} (hW : Up W) (hp : ∀ x ∈ W, 0 < x) (q t : Nat) (ht : t ≤ (rowAt W (q + 1)).length) : alone (rowAt W q) (2 * (t - alone (rowAt W (q + 1)) t)) ≤ alone (rowAt W (q + 1)) t := by
  rcases Nat.lt_or_ge (alone (rowAt W (q + 1)) t) (alone (rowAt W q) (2 * (t - alone (rowAt W (q + 1)) t))) with h | h
  · exfalso
    have hb := pairs_le _ _ ht
    rw [rowAt_true, rowAt_len_succ] at hb
    have ha' := alone_le_all (rowAt W q) (2 * (t - alone (rowAt W (q + 1)) t))
    rw [rowAt_true] at ha'
    have hperm := mrg_take W (pairsAt W q) (2 * (t - alone (rowAt W (q + 1)) t))
    rw [← rowAt_mrg] at hperm
    have hle := alone_le (rowAt W q) (2 * (t - alone (rowAt W (q + 1)) t))
    have hbh := behind W (pairsAt W (q + 1)) t (alone (rowAt W (q + 1)) t) (t - alone (rowAt W (q + 1)) t - 1) hW (by rw [← rowAt_mrg]; exact Nat.le_refl _) (by omega) (by rw [← rowAt_mrg]; omega) (by rw [pairsAt, prs_length, List.length_map]; omega)
    generalize alone (rowAt W (q + 1)) t = a at *
    generalize hB : t - a = b at *
    have hmem : W.getD a 0 ∈ ((rowAt W q).take (2 * b)).map Prod.fst := hperm.mem_iff.2 (List.mem_append_left _ (mem_take_getD h (by omega)))
    have hL : 2 * b - 1 < ((rowAt W q).map Prod.fst).length := by rw [List.length_map]; omega
    have hlast : W.getD a 0 ≤ ((rowAt W q).map Prod.fst).getD (2 * b - 1) 0 := by
      rw [List.map_take] at hmem
      obtain ⟨i, hi, e⟩ := List.getElem_of_mem hmem
      have hi2 : i < 2 * b := by simp at hi; omega
      have hi3 : i < ((rowAt W q).map Prod.fst).length := by simp at hi; simp; omega
      have h1 := up_get (rowAt_up W hW q) (i := i) (j := 2 * b - 1) (by omega) hL
      have e2 : ((rowAt W q).map Prod.fst).getD i 0 = (((rowAt W q).map Prod.fst).take (2 * b))[i] := by simp only [List.getD, List.getElem?_eq_getElem hi3, Option.getD_some, List.getElem_take]
      rw [e2, e] at h1
      exact h1
    have hg : (pairsAt W (q + 1)).getD (b - 1) 0 = ((rowAt W q).map Prod.fst).getD (2 * (b - 1)) 0 + ((rowAt W q).map Prod.fst).getD (2 * (b - 1) + 1) 0 := prs_getD _ _ (by rw [List.length_map]; omega)
    have hpos : 0 < ((rowAt W q).map Prod.fst).getD (2 * (b - 1)) 0 := rowAt_pos W hp q _ (by
      have h3 : 2 * (b - 1) < ((rowAt W q).map Prod.fst).length := by omega
      simp only [List.getD, List.getElem?_eq_getElem h3, Option.getD_some]
      exact List.getElem_mem _)
    rw [show 2 * b - 1 = 2 * (b - 1) + 1 by omega] at hlast
    omega
  · exact h
theorem aloneAt_nested {W : List Int} {m : Nat} (hW : Up W) (hp : ∀ x ∈ W, 0 < x) (h1 : 1 ≤ W.length) (hm : 1 ≤ m) (hr : W.length ≤ 2 ^ m) (i : Nat) (hi : i + 1 < m) : aloneAt W m (i + 1) ≤ aloneAt W m i := by
  obtain ⟨q, hq⟩ : ∃ q, m - 1 - i = q + 1 := ⟨m - 1 - i - 1, by omega⟩
  have hq2 : m - 1 - (i + 1) = q := by omega
  have ht := takeAt_le W m h1 hm hr i (by omega)
  have h := alone_nested hW hp q (takeAt W m i) (by rw [← hq]; exact ht)
  unfold aloneAt
  rw [takeAt_succ, hq2, hq]
  unfold aloneAt
  rw [hq]
  exact h
theorem aloneAt_anti {W : List Int} {m : Nat} (hW : Up W) (hp : ∀ x ∈ W, 0 < x) (h1 : 1 ≤ W.length) (hm : 1 ≤ m) (hr : W.length ≤ 2 ^ m) : ∀ (k i : Nat), i + k < m → aloneAt W m (i + k) ≤ aloneAt W m i
  | 0, i, _ => Nat.le_refl _
  | k + 1, i, h => Nat.le_trans (aloneAt_nested hW hp h1 hm hr (i + k) (by omega)) (aloneAt_anti hW hp h1 hm hr k i (by omega))
theorem mem_take_mono {P : List Nat} {p i j : Nat} (h : p ∈ P.take i) (hij : i ≤ j) : p ∈ P.take j := by
  have : P.take i = (P.take j).take i := by rw [List.take_take, Nat.min_eq_left hij]
  rw [this] at h
  exact List.mem_of_mem_take h
/-- who is taken now was always taken -/
theorem hits_all {W : List Int} {m : Nat} (hW : Up W) (hp : ∀ x ∈ W, 0 < x) (h1 : 1 ≤ W.length) (hm : 1 ≤ m) (hr : W.length ≤ 2 ^ m) (P : List Nat) (p : Nat) (i : Nat) (hi : i < m) (h : p ∈ P.take (aloneAt W m i)) : ∀ j, j ≤ i → hits P W m p j = j
  | 0, _ => rfl
  | j + 1, hj => by
    have ha := aloneAt_anti hW hp h1 hm hr (i - j) j (by omega)
    rw [show j + (i - j) = i by omega] at ha
    rw [hits, hits_all hW hp h1 hm hr P p i hi h j (by omega), if_pos (mem_take_mono h ha)]
/-- what the places take of the room, behind i rounds -/
def vk (P : List Nat) (W : List Int) (m i : Nat) : Nat := nsum (P.map fun p => 2 ^ (m - hits P W m p i))
theorem nsum_take (P : List Nat) (hn : P.Nodup) (a k : Nat) (ha : a ≤ P.length) : nsum (P.map fun p => if p ∈ P.take a then k else 0) = a * k := by
  have e : P = P.take a ++ P.drop a := (List.take_append_drop a P).symm
  have hd : ∀ p ∈ P.drop a, p ∉ P.take a := by
    intro p hp h
    have h2 := hn
    rw [e] at h2
    exact (List.nodup_append.1 h2).2.2 p h p hp rfl
  have h1 : ∀ Q : List Nat, (∀ p ∈ Q, p ∈ P.take a) → nsum (Q.map fun p => if p ∈ P.take a then k else 0) = Q.length * k := by
    intro Q
    induction Q with
    | nil => intro _; simp [nsum]
    | cons q Q ih =>
      intro h
      rw [List.map_cons, nsum, if_pos (h q List.mem_cons_self), ih (fun p hp => h p (List.mem_cons_of_mem _ hp)), List.length_cons, Nat.succ_mul]
      omega
  have h2 : ∀ Q : List Nat, (∀ p ∈ Q, p ∉ P.take a) → nsum (Q.map fun p => if p ∈ P.take a then k else 0) = 0 := by
    intro Q
    induction Q with
    | nil => intro _; rfl
    | cons q Q ih =>
      intro h
      rw [List.map_cons, nsum, if_neg (h q List.mem_cons_self), ih (fun p hp => h p (List.mem_cons_of_mem _ hp))]
  have h3 : ∀ A B : List Nat, nsum (A ++ B) = nsum A + nsum B := by
    intro A B
    induction A with
    | nil => simp [nsum]
    | cons x A ih => rw [List.cons_append, nsum, nsum, ih]; omega
  have h4 : nsum (P.map fun p => if p ∈ P.take a then k else 0) = nsum ((P.take a).map fun p => if p ∈ P.take a then k else 0) + nsum ((P.drop a).map fun p => if p ∈ P.take a then k else 0) := by
    rw [← h3, ← List.map_append, List.take_append_drop]
  rw [h4, h1 _ (fun p hp => hp), h2 _ hd, List.length_take, Nat.min_eq_left ha, Nat.add_zero]
theorem vk_step {W : List Int} {m : Nat} (hW : Up W) (hp : ∀ x ∈ W, 0 < x) (h1 : 1 ≤ W.length) (hm : 1 ≤ m) (hr : W.length ≤ 2 ^ m) (P : List Nat) (hn : P.Nodup) (hl : W.length = P.length) (i : Nat) (hi : i < m) : vk P W m (i + 1) + aloneAt W m i * 2 ^ (m - 1 - i) = vk P W m i := by
  unfold vk
  rw [← nsum_take P hn (aloneAt W m i) (2 ^ (m - 1 - i)) (by rw [← hl]; exact aloneAt_le W m i), nsum_add]
  congr 1
  apply List.map_congr_left
  intro p _
  rw [hits]
  by_cases h : p ∈ P.take (aloneAt W m i)
  · rw [if_pos h, if_pos h, hits_all hW hp h1 hm hr P p i hi h i (Nat.le_refl _), show m - i = (m - 1 - i) + 1 by omega, show m - (i + 1) = m - 1 - i by omega, Nat.pow_succ]
    omega
  · rw [if_neg h, if_neg h]; rfl
/-- what was taken so far, by its worth -/
def zk (W : List Int) (m : Nat) : Nat → Nat
  | 0 => 0
  | i + 1 => zk W m i + aloneAt W m i * 2 ^ (m - 1 - i)
theorem vk_zk {W : List Int} {m : Nat} (hW : Up W) (hp : ∀ x ∈ W, 0 < x) (h1 : 1 ≤ W.length) (hm : 1 ≤ m) (hr : W.length ≤ 2 ^ m) (P : List Nat) (hn : P.Nodup) (hl : W.length = P.length) : ∀ i, i ≤ m → vk P W m i + zk W m i = P.length * 2 ^ m
  | 0, _ => by
    rw [zk, vk]
    simp only [hits, Nat.sub_zero]
    rw [nsum_const, Nat.add_zero]
  | i + 1, hi => by
    have ih := vk_zk hW hp h1 hm hr P hn hl i (by omega)
    have hs := vk_step hW hp h1 hm hr P hn hl i (by omega)
    rw [zk]
    omega
theorem zk_take (W : List Int) (m : Nat) (hm : 1 ≤ m) : ∀ i, i ≤ m → 2 * zk W m i + takeAt W m i * 2 ^ (m - i) = takeAt W m 0 * 2 ^ m
  | 0, _ => by simp [zk]
  | i + 1, hi => by
    have ih := zk_take W m hm i (by omega)
    have ha := aloneAt_take W m i
    have e : 2 ^ (m - i) = 2 * 2 ^ (m - 1 - i) := by rw [show m - i = (m - 1 - i) + 1 by omega, Nat.pow_succ, Nat.mul_comm]
    rw [zk, takeAt_succ, show m - (i + 1) = m - 1 - i by omega, ← ih, e]
    obtain ⟨d, hd⟩ : ∃ d, takeAt W m i = aloneAt W m i + d := ⟨takeAt W m i - aloneAt W m i, by omega⟩
    rw [hd, Nat.add_sub_cancel_left]
    generalize aloneAt W m i = a
    generalize 2 ^ (m - 1 - i) = z
    generalize zk W m i = y
    rw [Nat.add_mul, Nat.mul_add, Nat.mul_assoc 2 d z, Nat.mul_left_comm a 2 z, Nat.mul_left_comm d 2 z]
    omega
theorem take_last {W : List Int} {m : Nat} (h1 : 1 ≤ W.length) (hm : 1 ≤ m) (hr : W.length ≤ 2 ^ m) : takeAt W m m = 0 := by
  obtain ⟨q, rfl⟩ : ∃ q, m = q + 1 := ⟨m - 1, by omega⟩
  have h := takeAt_le W (q + 1) h1 hm hr q (by omega)
  rw [show q + 1 - 1 - q = 0 by omega] at h
  have hp := pairs_le _ _ h
  rw [rowAt_true] at hp
  have e : (rowAt W 0).length = W.length := by rw [rowAt, mrg_length]; simp
  rw [e] at hp
  rw [takeAt, show q + 1 - 1 - q = 0 by omega]
  omega
/-- they leave no room -/
theorem kraft {W : List Int} {m : Nat} (hW : Up W) (hp : ∀ x ∈ W, 0 < x) (h2 : 2 ≤ W.length) (hm : 1 ≤ m) (hr : W.length ≤ 2 ^ m) (P : List Nat) (hn : P.Nodup) (hl : W.length = P.length) : vk P W m m = 2 ^ m := by
  have h3 := vk_zk hW hp (by omega) hm hr P hn hl m (Nat.le_refl _)
  have h4 := zk_take W m hm m (Nat.le_refl _)
  rw [take_last (by omega) hm hr, Nat.zero_mul, Nat.add_zero, takeAt, Nat.mul_assoc] at h4
  have h5 : P.length * 2 ^ m = (W.length - 1) * 2 ^ m + 2 ^ m := by
    rw [← hl]
    obtain ⟨q, hq⟩ : ∃ q, W.length = q + 1 := ⟨W.length - 1, by omega⟩
    rw [hq, Nat.add_sub_cancel, Nat.succ_mul]
  omega

/-! ### the lengths themselves -/
theorem lens_kraft {l : List Int} {P : List Nat} {m : Nat} (hG : GoodW l m) (hP : RiseOf l P) (hn : 2 ≤ P.length) : nsum (P.map fun p => 2 ^ (m - ((lensOf l P m).getD p 0).toNat)) = 2 ^ m := by
  have hW : (P.map fun p => l.getD p 0).length = P.length := by simp
  have h := kraft hP.up hP.pos (by omega) hG.lo (by rw [hW, hP.length]; exact hG.room) P hP.nodup hW
  rw [← h]
  unfold vk
  congr 1
  apply List.map_congr_left
  intro p _
  unfold lensOf
  rw [if_neg (by omega), lensAt_getD _ _ _ _ _ hP.nodup hP.lt, Int.toNat_natCast]
/-- the cost over all that is wanted -/
theorem costK_wpl (l s : List Int) (hl : ∀ j, j < l.length → 0 ≤ l.getD j 0) : ∀ k, k ≤ l.length → costK l s k = lsum ((wpl l k).map fun p => l.getD p 0 * s.getD p 0)
  | 0, _ => rfl
  | k + 1, hk => by
    have h0 := hl k (by omega)
    rw [costK, wpl, List.map_append, lsum_append, costK_wpl l s hl k (by omega)]
    by_cases h : 0 < l.getD k 0
    · rw [if_pos h]; simp [lsum]
    · rw [if_neg h, show l.getD k 0 = 0 by omega]; simp [lsum]
theorem costK_rise {l s : List Int} {P : List Nat} (hl : ∀ j, j < l.length → 0 ≤ l.getD j 0) (hP : RiseOf l P) : costK l s l.length = lsum (P.map fun p => l.getD p 0 * s.getD p 0) := by
  rw [costK_wpl l s hl l.length (Nat.le_refl _)]
  exact lsum_perm (hP.perm.map _).symm
/-- whatever lengths there are that have room take no fewer -/
theorem best {l s o : List Int} {m : Nat} (hG : GoodW l m) (hs : IsLens l m s) (ho : ∀ p, p < l.length → 0 < l.getD p 0 → 1 ≤ o.getD p 0 ∧ o.getD p 0 ≤ m) (hr : nsum ((wpl l l.length).map fun p => 2 ^ (m - (o.getD p 0).toNat)) ≤ 2 ^ m) : costK l s l.length ≤ costK l o l.length := by
  obtain ⟨P, hP, rfl⟩ := hs
  have hnn : ∀ j, j < l.length → 0 ≤ l.getD j 0 := fun j hj => (hG.ok j hj).1
  rw [cost_lens hG hP, costK_rise hnn hP]
  have hW : (P.map fun p => l.getD p 0).length = P.length := by simp
  have hc : ∀ p ∈ P, 1 ≤ (o.getD p 0).toNat ∧ (o.getD p 0).toNat ≤ m := by
    intro p hp
    have h := (hP.mem p).1 hp
    have := ho p h.1 h.2
    omega
  have e : (P.map fun p => l.getD p 0 * o.getD p 0) = P.map fun p => l.getD p 0 * (((o.getD p 0).toNat : Nat) : Int) := by
    apply List.map_congr_left
    intro p hp
    have h := (hP.mem p).1 hp
    have := ho p h.1 h.2
    congr 1
    omega
  unfold least
  rw [hW]
  by_cases hn : P.length < 2
  · rw [if_pos hn]
    match P, hn, hP with
    | [], _, _ => simp [lsum]
    | [p], _, hP =>
      have h := (hP.mem p).1 (by simp)
      have h2 := ho p h.1 h.2
      simp only [List.map_cons, List.map_nil, lsum]
      have : l.getD p 0 * 1 ≤ l.getD p 0 * o.getD p 0 := Int.mul_le_mul_of_nonneg_left h2.1 (by omega)
      omega
    | p :: q :: P, hn, _ => simp at hn; omega
  · rw [if_neg hn, e]
    exact least_le l (fun p => (o.getD p 0).toNat) m P hP.up hP.pos (by omega) hG.lo hc (by
      rw [nsum_perm (hP.perm.map _)]; exact hr)
/-- with more room no more bits are taken -/
theorem less_more {l s s2 : List Int} {m : Nat} (hG : GoodW l m) (hs : IsLens l m s) (hG2 : GoodW l (m + 1)) (hs2 : IsLens l (m + 1) s2) : costK l s2 l.length ≤ costK l s l.length := by
  obtain ⟨P, hP, rfl⟩ := hs
  refine best hG2 hs2 (fun p h1 h2 => ?_) ?_
  · have h := lens_ok hG hP p
    have := h.2.2.2 ((hP.mem p).2 ⟨h1, h2⟩)
    omega
  · rw [← nsum_perm (hP.perm.map _)]
    by_cases hn : P.length < 2
    · match P, hn, hP with
      | [], _, _ => simp [nsum]
      | [p], _, hP =>
        simp only [List.map_cons, List.map_nil, nsum, Nat.add_zero]
        exact Nat.pow_le_pow_right (by decide) (by omega)
      | p :: q :: P, hn, _ => simp at hn; omega
    · have h := lens_kraft hG hP (by omega)
      have e : (P.map fun p => 2 ^ (m + 1 - ((lensOf l P m).getD p 0).toNat)) = P.map fun p => 2 * 2 ^ (m - ((lensOf l P m).getD p 0).toNat) := by
        apply List.map_congr_left
        intro p _
        have := (lens_ok hG hP p).2.1
        rw [show m + 1 - ((lensOf l P m).getD p 0).toNat = (m - ((lensOf l P m).getD p 0).toNat) + 1 by omega, Nat.pow_succ, Nat.mul_comm]
      rw [e, nsum_mul, h, Nat.pow_succ, Nat.mul_comm]
      exact Nat.le_refl _
end Go.Proofs.Ytfoaaamcpknjnac

/-
  Plain facts: what is wanted has one order alone; what the closed fact's four places come to. No program is named here.
-/
namespace Go.Proofs.Ytfoaaamcpknjnac
open Go.RowKit
set_option linter.unusedVariables false

/-- two rows of the same that rise are one -/
theorem perm_eq {α : Type} {R : α → α → Prop} (asy : ∀ a b, R a b → R b a → False) : ∀ (P Q : List α), P.Perm Q → P.Pairwise R → Q.Pairwise R → P = Q
  | [], Q, h, _, _ => by rw [List.nil_perm] at h; exact h.symm
  | p :: P, [], h, _, _ => by have := h.length_eq; simp at this
  | p :: P, q :: Q, h, hp, hq => by
    rw [List.pairwise_cons] at hp hq
    have e : p = q := by
      have h1 : p ∈ q :: Q := h.mem_iff.1 List.mem_cons_self
      have h2 : q ∈ p :: P := h.mem_iff.2 List.mem_cons_self
      rcases List.mem_cons.1 h1 with h1 | h1
      · exact h1
      · rcases List.mem_cons.1 h2 with h2 | h2
        · exact h2.symm
        · exact absurd (hq.1 p h1) (fun h => asy _ _ h (hp.1 q h2))
    subst e
    rw [perm_eq asy P Q ((List.perm_cons p).1 h) hp.2 hq.2]
theorem RiseOf.one {l : List Int} {P Q : List Nat} (h : RiseOf l P) (k : RiseOf l Q) : P = Q :=
  perm_eq (R := fun a b => l.getD a 0 < l.getD b 0 ∨ (l.getD a 0 = l.getD b 0 ∧ a < b)) (fun a b h1 h2 => by omega) P Q (h.perm.trans k.perm.symm) h.srt k.srt

theorem rise4 : RiseOf [1, 1, 2, 4] [0, 1, 2, 3] := ⟨by decide, by decide⟩
theorem lens4_15 {s : List Int} (h : IsLens [1, 1, 2, 4] 15 s) : s = [3, 3, 2, 1] := by
  obtain ⟨P, hP, rfl⟩ := h
  rw [hP.one rise4]
  decide
theorem lens4_2 {s : List Int} (h : IsLens [1, 1, 2, 4] 2 s) : s = [2, 2, 2, 2] := by
  obtain ⟨P, hP, rfl⟩ := h
  rw [hP.one rise4]
  decide
theorem goodW4 (m : Nat) (h : m = 15 ∨ m = 2) : GoodW [1, 1, 2, 4] m := by
  have hok : ∀ j, j < ([1, 1, 2, 4] : List Int).length → 0 ≤ ([1, 1, 2, 4] : List Int).getD j 0 ∧ ([1, 1, 2, 4] : List Int).getD j 0 ≤ 1000000 := by
    intro j hj
    match j, hj with
    | 0, _ => decide
    | 1, _ => decide
    | 2, _ => decide
    | 3, _ => decide
  rcases h with rfl | rfl
  · exact ⟨by decide, hok, by decide, by decide, by decide⟩
  · exact ⟨by decide, hok, by decide, by decide, by decide⟩
end Go.Proofs.Ytfoaaamcpknjnac
