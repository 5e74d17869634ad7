/-
  Plain facts: what the lengths cost, and that Cost takes them. No program is named here.
-/
import Derived.Test.YtoiioemkibfdcacPWeigh
import Derived.Test.YtoiioemkibfdcacWeighChk
import Derived.Test.YtoiioemkibfdcacPBase
namespace Go.Proofs.Ytoiioemkibfdcac
open Go.RowKit
set_option linter.unusedVariables false

theorem costK_bump (l xs : List Int) (p : Nat) (hp : p < xs.length) : ∀ k, costK l (bump xs p) k = costK l xs k + (if p < k then l.getD p 0 else 0)
  | 0 => by simp [costK]
  | k + 1 => by
    rw [costK, costK, costK_bump l xs p hp k]
    have e : (bump xs p).getD k 0 = if p = k then xs.getD p 0 + 1 else xs.getD k 0 := by
      unfold bump
      rw [getD_setI]
      by_cases h : p = k
      · rw [if_pos ⟨h, hp⟩, if_pos h]
      · rw [if_neg (fun h2 => h h2.1), if_neg h]
    rw [e]
    by_cases h : p = k
    · subst h
      rw [if_pos rfl, if_neg (by omega), if_pos (by omega), Int.mul_add, Int.mul_one]
      omega
    · rw [if_neg h]
      by_cases h2 : p < k
      · rw [if_pos h2, if_pos (by omega)]; omega
      · rw [if_neg h2, if_neg (by omega)]; omega
theorem costK_bumps (l : List Int) (k : Nat) : ∀ (ps : List Nat) (xs : List Int), (∀ p ∈ ps, p < xs.length ∧ p < k) → costK l (bumps xs ps) k = costK l xs k + lsum (ps.map fun p => l.getD p 0)
  | [], xs, _ => by simp [bumps, lsum]
  | p :: ps, xs, h => by
    have hp := h p List.mem_cons_self
    have ih := costK_bumps l k ps (bump xs p) (fun q hq => by rw [bump_length]; exact h q (List.mem_cons_of_mem _ hq))
    show costK l (bumps (bump xs p) ps) k = _
    rw [ih, costK_bump l xs p hp.1, if_pos hp.2, List.map_cons, lsum]
    omega
theorem costK_zero (l : List Int) (n : Nat) : ∀ k, costK l (List.replicate n 0) k = 0
  | 0 => rfl
  | k + 1 => by
    rw [costK, costK_zero l n k]
    have : (List.replicate n (0 : Int)).getD k 0 = 0 := by by_cases h : k < n <;> simp [List.getD, h]
    rw [this]; simp

/-- what is taken in the first i rounds -/
def takenS (W : List Int) (m : Nat) : Nat → Int
  | 0 => 0
  | i + 1 => takenS W m i + lsum (W.take (aloneAt W m i))
theorem costK_lensAt (l : List Int) (P : List Nat) (m : Nat) (hP : ∀ p ∈ P, p < l.length) : ∀ i, costK l (lensAt l.length P (P.map fun p => l.getD p 0) m i) l.length = takenS (P.map fun p => l.getD p 0) m i
  | 0 => costK_zero _ _ _
  | i + 1 => by
    rw [lensAt, costK_bumps, costK_lensAt l P m hP i, takenS, List.map_take]
    intro p hp
    rw [lensAt_length]
    have := hP p (List.mem_of_mem_take hp)
    exact ⟨this, this⟩
theorem lsum_prs : ∀ (ys : List Int) (c : Nat), 2 * c ≤ ys.length → lsum ((prs ys).take c) = lsum (ys.take (2 * c))
  | ys, 0, _ => by simp [lsum]
  | [], c + 1, h => by simp at h
  | [y], c + 1, h => by simp only [List.length_cons, List.length_nil] at h; omega
  | x :: y :: t, c + 1, h => by
    have ih := lsum_prs t c (by simp only [List.length_cons] at h; omega)
    rw [prs, List.take_succ_cons, lsum, ih, show 2 * (c + 1) = 2 * c + 1 + 1 by omega, List.take_succ_cons, List.take_succ_cons, lsum, lsum]
    omega
/-- the first t of row k -/
def psum (W : List Int) (k t : Nat) : Int := lsum (((rowAt W k).take t).map Prod.fst)
theorem psum_parts (W : List Int) (k t : Nat) : psum W k t = lsum (W.take (alone (rowAt W k) t)) + lsum ((pairsAt W k).take (t - alone (rowAt W k) t)) := by
  have h := mrg_take W (pairsAt W k) t
  rw [← rowAt_mrg] at h
  unfold psum
  rw [lsum_perm h, lsum_append]
theorem psum_taken (W : List Int) (m : Nat) (hW : 1 ≤ W.length) (hm : 1 ≤ m) (hr : W.length ≤ 2 ^ m) : ∀ i, i < m → psum W (m - 1) (takeAt W m 0) = takenS W m i + psum W (m - 1 - i) (takeAt W m i)
  | 0, _ => by simp [takenS]
  | i + 1, hi => by
    rw [psum_taken W m hW hm hr i (by omega), takenS, psum_parts]
    obtain ⟨q, hq⟩ : ∃ q, m - 1 - i = q + 1 := ⟨m - 1 - i - 1, by omega⟩
    have hq2 : m - 1 - (i + 1) = q := by omega
    have ht := takeAt_le W m hW hm hr (i + 1) hi
    rw [takeAt_succ, hq2] at ht
    have e : lsum ((pairsAt W (m - 1 - i)).take (takeAt W m i - alone (rowAt W (m - 1 - i)) (takeAt W m i))) = psum W q (takeAt W m (i + 1)) := by
      rw [hq, pairsAt, lsum_prs _ _ (by rw [List.length_map]; unfold aloneAt at ht; rw [hq] at ht; exact ht), psum, List.map_take, takeAt, hq]
    rw [e, hq2]
    unfold aloneAt
    omega
theorem taken_all (W : List Int) (m : Nat) (hW : 1 ≤ W.length) (hm : 1 ≤ m) (hr : W.length ≤ 2 ^ m) : takenS W m m = psum W (m - 1) (takeAt W m 0) := by
  obtain ⟨q, rfl⟩ : ∃ q, m = q + 1 := ⟨m - 1, by omega⟩
  have h := psum_taken W (q + 1) hW hm hr q (by omega)
  rw [h, takenS, psum_parts]
  have e : q + 1 - 1 - q = 0 := by omega
  unfold aloneAt
  rw [e, pairsAt]
  simp [lsum]

/-- how few bits these can take -/
def least (W : List Int) (m : Nat) : Int := if W.length < 2 then lsum W else psum W (m - 1) (2 * (W.length - 1))
theorem cost_lens {l : List Int} {P : List Nat} {m : Nat} (hG : GoodW l m) (hP : RiseOf l P) : costK l (lensOf l P m) l.length = least (P.map fun p => l.getD p 0) m := by
  have hW : (P.map fun p => l.getD p 0).length = P.length := by simp
  unfold lensOf least
  rw [hW]
  by_cases h : P.length < 2
  · rw [if_pos h, if_pos h, costK_bumps, costK_zero]
    · omega
    · intro p hp
      have := hP.lt p hp
      simp; omega
  · rw [if_neg h, if_neg h, costK_lensAt l P m hP.lt, taken_all _ _ (by rw [hW]; omega) hG.lo (by rw [hW, hP.length]; exact hG.room), takeAt, hW]

theorem bumps_getD (p : Nat) : ∀ (ps : List Nat) (xs : List Int), ps.Nodup → (∀ q ∈ ps, q < xs.length) → (bumps xs ps).getD p 0 = xs.getD p 0 + (if p ∈ ps then 1 else 0)
  | [], xs, _, _ => by simp [bumps]
  | q :: ps, xs, hn, h => by
    have hn' := List.nodup_cons.1 hn
    have ih := bumps_getD p ps (bump xs q) hn'.2 (fun r hr => by rw [bump_length]; exact h r (List.mem_cons_of_mem _ hr))
    show (bumps (bump xs q) ps).getD p 0 = _
    rw [ih]
    unfold bump
    rw [getD_setI]
    have hq := h q List.mem_cons_self
    by_cases e : q = p
    · subst e
      rw [if_pos ⟨rfl, hq⟩, if_neg hn'.1, if_pos List.mem_cons_self]
      omega
    · rw [if_neg (fun h2 => e h2.1)]
      have : (p ∈ q :: ps) ↔ p ∈ ps := by
        rw [List.mem_cons]
        exact ⟨fun h => h.resolve_left (fun h => e h.symm), .inr⟩
      simp only [this]
theorem RiseOf.nodup {l : List Int} {P : List Nat} (h : RiseOf l P) : P.Nodup := by
  refine h.srt.imp ?_
  intro a b hab e
  subst e
  omega
theorem RiseOf.mem {l : List Int} {P : List Nat} (h : RiseOf l P) (p : Nat) : p ∈ P ↔ p < l.length ∧ 0 < l.getD p 0 := by rw [h.perm.mem_iff, mem_wpl]
theorem RiseOf.up {l : List Int} {P : List Nat} (h : RiseOf l P) : Up (P.map fun p => l.getD p 0) := by
  rw [Up, List.pairwise_map]
  exact h.srt.imp (fun {a b} hab => by omega)
theorem RiseOf.pos {l : List Int} {P : List Nat} (h : RiseOf l P) : ∀ x ∈ (P.map fun p => l.getD p 0), 0 < x := by
  intro x hx
  obtain ⟨p, hp, rfl⟩ := List.mem_map.1 hx
  exact ((h.mem p).1 hp).2
/-- how many of the first i rounds take the place -/
def hits (P : List Nat) (W : List Int) (m p : Nat) : Nat → Nat
  | 0 => 0
  | i + 1 => hits P W m p i + (if p ∈ P.take (aloneAt W m i) then 1 else 0)
theorem hits_le (P : List Nat) (W : List Int) (m p : Nat) : ∀ i, hits P W m p i ≤ i
  | 0 => Nat.le_refl _
  | i + 1 => by
    have := hits_le P W m p i
    rw [hits]
    split <;> omega
theorem hits_none (P : List Nat) (W : List Int) (m p : Nat) (h : p ∉ P) : ∀ i, hits P W m p i = 0
  | 0 => rfl
  | i + 1 => by rw [hits, hits_none P W m p h i, if_neg (fun h2 => h (List.mem_of_mem_take h2))]
theorem hits_one (P : List Nat) (W : List Int) (m p : Nat) (h : p ∈ P.take (aloneAt W m 0)) : ∀ i, 1 ≤ i → 1 ≤ hits P W m p i
  | 0, h0 => by omega
  | 1, _ => by rw [hits, hits, if_pos h]; omega
  | i + 2, _ => by
    have := hits_one P W m p h (i + 1) (by omega)
    rw [hits]
    omega
theorem lensAt_getD (n : Nat) (P : List Nat) (W : List Int) (m p : Nat) (hn : P.Nodup) (hP : ∀ q ∈ P, q < n) : ∀ i, (lensAt n P W m i).getD p 0 = (hits P W m p i : Nat)
  | 0 => by
    simp only [lensAt, hits]
    by_cases h : p < n <;> simp [List.getD, h]
  | i + 1 => by
    rw [lensAt, bumps_getD p _ _ (hn.sublist (List.take_sublist _ _)) (fun q hq => by rw [lensAt_length]; exact hP q (List.mem_of_mem_take hq)), lensAt_getD n P W m p hn hP i, hits]
    split <;> simp
theorem aloneAt_zero {W : List Int} {m : Nat} (hW : Up W) (hp : ∀ x ∈ W, 0 < x) (hn : 2 ≤ W.length) (hm : 1 ≤ m) (hr : W.length ≤ 2 ^ m) : aloneAt W m 0 = W.length := by
  have h := rowAt_room W m (by omega) hm hr
  unfold aloneAt
  rw [takeAt, show m - 1 - 0 = m - 1 by omega, show 2 * (W.length - 1) = 2 * W.length - 2 by omega]
  exact alone_all W hW hp hn (m - 1) (by omega)

/-- the lengths lie where they should -/
theorem lens_ok {l : List Int} {P : List Nat} {m : Nat} (hG : GoodW l m) (hP : RiseOf l P) (p : Nat) : 0 ≤ (lensOf l P m).getD p 0 ∧ (lensOf l P m).getD p 0 ≤ m ∧ (0 < (lensOf l P m).getD p 0 ↔ p ∈ P) := by
  have hlo := hG.lo
  have hW : (P.map fun p => l.getD p 0).length = P.length := by simp
  unfold lensOf
  by_cases h : P.length < 2
  · rw [if_pos h, bumps_getD p P _ hP.nodup (fun q hq => by simpa using hP.lt q hq)]
    have e : (List.replicate l.length (0 : Int)).getD p 0 = 0 := by by_cases h : p < l.length <;> simp [List.getD, h]
    rw [e]
    by_cases hp : p ∈ P
    · simp [hp]; omega
    · simp [hp]
  · rw [if_neg h, lensAt_getD _ _ _ _ _ hP.nodup hP.lt]
    have h1 := hits_le P (P.map fun p => l.getD p 0) m p m
    refine ⟨by omega, by omega, ?_⟩
    by_cases hp : p ∈ P
    · have h2 := hits_one P (P.map fun p => l.getD p 0) m p (by rw [aloneAt_zero hP.up hP.pos (by omega) hlo (by rw [hW, hP.length]; exact hG.room), hW, List.take_length]; exact hp) m hlo
      exact ⟨fun _ => hp, fun _ => by omega⟩
    · rw [hits_none P _ m p hp]
      simp [hp]
theorem lensOf_length (l : List Int) (P : List Nat) (m : Nat) : (lensOf l P m).length = l.length := by
  unfold lensOf
  split
  · rw [bumps_length]; simp
  · exact lensAt_length _ _ _ _ _
theorem GoodW.more {l : List Int} {m k : Nat} (h : GoodW l m) (hk : m ≤ k) (hk2 : k ≤ 15) : GoodW l k := ⟨h.len, h.ok, Nat.le_trans h.lo hk, hk2, Nat.le_trans h.room (Nat.pow_le_pow_right (by decide) hk)⟩
theorem errC_lens {l s : List Int} {m : Nat} (hG : GoodW l m) (hs : IsLens l m s) : errC l s = 0 := by
  obtain ⟨P, hP, rfl⟩ := hs
  unfold errC
  have h15 := good_errW (hG.more hG.hi (Nat.le_refl 15))
  have hhi := hG.hi
  rw [if_neg (by rw [lensOf_length]; simp), if_neg (fun h => h h15), if_neg]
  rintro ⟨j, hj, e⟩
  have h := lens_ok hG hP j
  refine of_decide_eq_false e ⟨h.1, by omega, fun h0 hx => ?_⟩
  have := h.2.2.2 ((hP.mem j).2 ⟨hj, hx⟩)
  omega
theorem cost_is {l s : List Int} {m : Nat} (hG : GoodW l m) (hs : IsLens l m s) : ∃ P, RiseOf l P ∧ costK l s l.length = least (P.map fun p => l.getD p 0) m := by
  obtain ⟨P, hP, rfl⟩ := hs
  exact ⟨P, hP, cost_lens hG hP⟩
end Go.Proofs.Ytoiioemkibfdcac

/-
  Plain facts: whatever code there is takes no fewer bits. No program is named here.
-/
namespace Go.Proofs.Ytoiioemkibfdcac
open Go.RowKit
set_option linter.unusedVariables false

/-- of a row that rises the first so many are the lightest -/
theorem min_take : ∀ (R B C : List Int), Up R → (B ++ C).Perm R → lsum (R.take B.length) ≤ lsum B
  | [], B, C, _, h => by
    have h1 := h.length_eq
    rw [List.length_append, List.length_nil] at h1
    have : B = [] := List.eq_nil_of_length_eq_zero (by omega)
    subst this; simp [lsum]
  | r :: R, [], C, _, _ => by simp [lsum]
  | r :: R, b :: B, C, hu, h => by
    have hu' := List.pairwise_cons.1 hu
    rw [List.length_cons, List.take_succ_cons, lsum, lsum]
    have hr : r ∈ b :: B ++ C := h.mem_iff.2 List.mem_cons_self
    rcases List.mem_append.1 hr with hr | hr
    · obtain ⟨B', hB'⟩ : ∃ B', (b :: B).Perm (r :: B') := ⟨(b :: B).erase r, List.perm_cons_erase hr⟩
      have h2 : (B' ++ C).Perm R := (List.perm_cons r).1 (((hB'.append_right C).symm).trans h)
      have ih := min_take R B' C hu'.2 h2
      have hl := hB'.length_eq
      simp only [List.length_cons] at hl
      have hs := lsum_perm hB'
      rw [lsum, lsum] at hs
      rw [show B.length = B'.length by omega]
      omega
    · obtain ⟨C', hC'⟩ : ∃ C', C.Perm (r :: C') := ⟨C.erase r, List.perm_cons_erase hr⟩
      have h1 : (r :: (B ++ b :: C')).Perm (r :: R) := by
        refine List.Perm.trans ?_ h
        refine List.Perm.trans ?_ ((hC'.append_left (b :: B)).symm)
        refine List.Perm.trans ?_ List.perm_middle.symm
        exact List.Perm.cons r List.perm_middle
      have h2 := (List.perm_cons r).1 h1
      have ih := min_take R B (b :: C') hu'.2 h2
      have hb : r ≤ b := hu'.1 b (h2.mem_iff.1 (List.mem_append_right _ List.mem_cons_self))
      omega
termination_by R => R.length

theorem mrg_perm (xs ys : List Int) : ((mrg xs ys).map Prod.fst).Perm (xs ++ ys) := by
  have h := mrg_take xs ys (mrg xs ys).length
  have ha : alone (mrg xs ys) (mrg xs ys).length = xs.length := by unfold alone; rw [List.take_length, mrg_true]
  rw [ha, List.take_length, mrg_length] at h
  simpa [List.take_of_length_le] using h
/-- the first so many of a row are no more than any so many places and the first pairs -/
theorem psum_min (W : List Int) (hW : Up W) (k : Nat) (A C : List Int) (hA : (A ++ C).Perm W) (q : Nat) (hq : q ≤ (pairsAt W k).length) : psum W k (A.length + q) ≤ lsum A + lsum ((pairsAt W k).take q) := by
  have h1 : ((A ++ (pairsAt W k).take q) ++ (C ++ (pairsAt W k).drop q)).Perm ((rowAt W k).map Prod.fst) := by
    rw [rowAt_mrg]
    refine List.Perm.trans ?_ (mrg_perm W (pairsAt W k)).symm
    have e : (pairsAt W k).take q ++ (pairsAt W k).drop q = pairsAt W k := List.take_append_drop _ _
    have h2 : ((A ++ (pairsAt W k).take q) ++ (C ++ (pairsAt W k).drop q)).Perm ((A ++ C) ++ ((pairsAt W k).take q ++ (pairsAt W k).drop q)) := by
      rw [List.append_assoc, List.append_assoc]
      refine List.Perm.append_left A ?_
      rw [← List.append_assoc, ← List.append_assoc]
      exact List.perm_append_comm.append_right _
    rw [e] at h2
    exact h2.trans (hA.append_right _)
  have h := min_take _ _ _ (rowAt_up W hW k) h1
  rw [lsum_append, List.length_append, List.length_take, Nat.min_eq_left hq] at h
  unfold psum
  rw [List.map_take]
  exact h
theorem lsum_take_mono (xs : List Int) (h : ∀ x ∈ xs, 0 ≤ x) {i j : Nat} (hij : i ≤ j) : lsum (xs.take i) ≤ lsum (xs.take j) := by
  have e : xs.take j = xs.take i ++ (xs.take j).drop i := by
    have : (xs.take j).take i = xs.take i := by rw [List.take_take, Nat.min_eq_left hij]
    rw [← this, List.take_append_drop]
  rw [e, lsum_append]
  have := lsum_nonneg ((xs.take j).drop i) (fun x hx => h x (List.mem_of_mem_take (List.mem_of_mem_drop hx)))
  omega
theorem psum_mono (W : List Int) (hp : ∀ x ∈ W, 0 < x) (k : Nat) {i j : Nat} (hij : i ≤ j) : psum W k i ≤ psum W k j := by
  unfold psum
  rw [List.map_take, List.map_take]
  exact lsum_take_mono _ (fun x hx => by have := rowAt_pos W hp k x hx; omega) hij

/-! ### any lengths of what is wanted -/
variable (l : List Int) (c : Nat → Nat) (m : Nat)
/-- those whose length is j at the least -/
def deep (P : List Nat) (j : Nat) : List Nat := P.filter fun p => decide (j ≤ c p)
def wof (P : List Nat) : List Int := P.map fun p => l.getD p 0
/-- how many are taken at depth d, and what they cost -/
def tk (P : List Nat) : Nat → Nat
  | 0 => (deep c P m).length
  | d + 1 => (deep c P (m - (d + 1))).length + tk P d / 2
def yk (P : List Nat) : Nat → Int
  | 0 => lsum (wof l (deep c P m))
  | d + 1 => lsum (wof l (deep c P (m - (d + 1)))) + yk P d
theorem deep_parts (P : List Nat) (j : Nat) : (wof l (deep c P j) ++ wof l (P.filter fun p => !decide (j ≤ c p))).Perm (wof l P) := by
  unfold wof deep
  rw [← List.map_append]
  exact (List.filter_append_perm _ P).map _
theorem tk_ok (P : List Nat) (hW : Up (wof l P)) (hp : ∀ x ∈ wof l P, 0 < x) : ∀ d, tk c m P d ≤ (rowAt (wof l P) d).length ∧ psum (wof l P) d (tk c m P d) ≤ yk l c m P d
  | 0 => by
    have hl : (wof l (deep c P m)).length = (deep c P m).length := by simp [wof]
    have hle : (deep c P m).length ≤ P.length := List.length_filter_le _ _
    refine ⟨?_, ?_⟩
    · rw [tk, rowAt_mrg, mrg_length]
      simp [wof]; omega
    · have h := psum_min (wof l P) hW 0 (wof l (deep c P m)) _ (deep_parts l c P m) 0 (Nat.zero_le _)
      rw [hl] at h
      simpa [tk, yk, lsum] using h
  | d + 1 => by
    obtain ⟨ih1, ih2⟩ := tk_ok P hW hp d
    have hl : (wof l (deep c P (m - (d + 1)))).length = (deep c P (m - (d + 1))).length := by simp [wof]
    have hle : (deep c P (m - (d + 1))).length ≤ P.length := List.length_filter_le _ _
    have hq : tk c m P d / 2 ≤ (pairsAt (wof l P) (d + 1)).length := by rw [pairsAt, prs_length, List.length_map]; omega
    refine ⟨?_, ?_⟩
    · rw [tk, rowAt_mrg, mrg_length]
      have : (wof l P).length = P.length := by simp [wof]
      omega
    · have h := psum_min (wof l P) hW (d + 1) (wof l (deep c P (m - (d + 1)))) _ (deep_parts l c P _) (tk c m P d / 2) hq
      rw [hl] at h
      have h2 : lsum ((pairsAt (wof l P) (d + 1)).take (tk c m P d / 2)) ≤ psum (wof l P) d (tk c m P d) := by
        rw [pairsAt, lsum_prs _ _ (by rw [List.length_map]; omega), ← List.map_take]
        exact psum_mono (wof l P) hp d (by omega)
      rw [tk, yk]
      omega
/-- the cost, depth by depth -/
def ysum (P : List Nat) (d : Nat) : Int := lsum (P.map fun p => l.getD p 0 * ((c p + 1 + d - m : Nat) : Int))
theorem lsum_add (P : List Nat) (f g : Nat → Int) : lsum (P.map f) + lsum (P.map g) = lsum (P.map fun p => f p + g p) := by
  induction P with
  | nil => rfl
  | cons p P ih => simp only [List.map_cons, lsum]; omega
theorem lsum_deep (P : List Nat) (j : Nat) : lsum (wof l (deep c P j)) = lsum (P.map fun p => if j ≤ c p then l.getD p 0 else 0) := by
  induction P with
  | nil => rfl
  | cons p P ih =>
    unfold wof deep at *
    by_cases h : j ≤ c p
    · rw [List.filter_cons_of_pos (by simpa using h), List.map_cons, List.map_cons, lsum, lsum, ih, if_pos h]
    · rw [List.filter_cons_of_neg (by simpa using h), List.map_cons, lsum, ih, if_neg h]; omega
theorem yk_sum (P : List Nat) (hc : ∀ p ∈ P, c p ≤ m) : ∀ d, d < m → yk l c m P d = ysum l c m P d
  | 0, hd => by
    rw [yk, lsum_deep, ysum]
    congr 1
    apply List.map_congr_left
    intro p hp
    have := hc p hp
    by_cases h : m ≤ c p
    · rw [if_pos h, show c p + 1 + 0 - m = 1 by omega]; simp
    · rw [if_neg h, show c p + 1 + 0 - m = 0 by omega]; simp
  | d + 1, hd => by
    rw [yk, lsum_deep, yk_sum P hc d (by omega), ysum, ysum, lsum_add]
    congr 1
    apply List.map_congr_left
    intro p hp
    have := hc p hp
    by_cases h : m - (d + 1) ≤ c p
    · rw [if_pos h, show c p + 1 + (d + 1) - m = (c p + 1 + d - m) + 1 by omega]
      push_cast
      rw [Int.mul_add, Int.mul_one]
      omega
    · rw [if_neg h, show c p + 1 + (d + 1) - m = 0 by omega, show c p + 1 + d - m = 0 by omega]; simp

/-! ### what the code's room says -/
def nsum : List Nat → Nat
  | [] => 0
  | x :: xs => x + nsum xs
theorem nsum_perm {xs ys : List Nat} (h : xs.Perm ys) : nsum xs = nsum ys := by
  induction h with
  | nil => rfl
  | cons x _ ih => rw [nsum, nsum, ih]
  | swap x y l => simp only [nsum]; omega
  | trans _ _ h1 h2 => exact h1.trans h2
theorem nsum_add (P : List Nat) (f g : Nat → Nat) : nsum (P.map f) + nsum (P.map g) = nsum (P.map fun p => f p + g p) := by
  induction P with
  | nil => rfl
  | cons p P ih => simp only [List.map_cons, nsum]; omega
theorem nsum_const (P : List Nat) (k : Nat) : nsum (P.map fun _ => k) = P.length * k := by
  induction P with
  | nil => simp [nsum]
  | cons p P ih => rw [List.map_cons, nsum, ih, List.length_cons, Nat.succ_mul]; omega
theorem nsum_mul (P : List Nat) (f : Nat → Nat) (k : Nat) : nsum (P.map fun p => k * f p) = k * nsum (P.map f) := by
  induction P with
  | nil => simp [nsum]
  | cons p P ih => simp only [List.map_cons, nsum]; rw [ih, Nat.mul_add]
theorem len_deep (P : List Nat) (j : Nat) : (deep c P j).length = nsum (P.map fun p => if j ≤ c p then 1 else 0) := by
  induction P with
  | nil => rfl
  | cons p P ih =>
    unfold deep at *
    by_cases h : j ≤ c p
    · rw [List.filter_cons_of_pos (by simpa using h), List.length_cons, List.map_cons, nsum, ih, if_pos h]; omega
    · rw [List.filter_cons_of_neg (by simpa using h), List.map_cons, nsum, ih, if_neg h]; omega
/-- those that are taken, each by its worth -/
def uk (P : List Nat) : Nat → Nat
  | 0 => (deep c P m).length
  | d + 1 => 2 ^ (d + 1) * (deep c P (m - (d + 1))).length + uk P d
theorem uk_tk (P : List Nat) : ∀ d, uk c m P d < 2 ^ d * (tk c m P d + 1)
  | 0 => by rw [uk, tk]; omega
  | d + 1 => by
    have ih := uk_tk P d
    rw [uk, tk]
    generalize (deep c P (m - (d + 1))).length = a
    generalize tk c m P d = t at *
    have h1 : 2 ^ d * (t + 1) ≤ 2 ^ d * (2 * (t / 2 + 1)) := Nat.mul_le_mul_left _ (by omega)
    have h2 : 2 ^ (d + 1) * (a + t / 2 + 1) = 2 ^ (d + 1) * a + 2 ^ d * (2 * (t / 2 + 1)) := by
      rw [Nat.add_assoc, Nat.mul_add, Nat.pow_succ, Nat.mul_assoc (2 ^ d) 2 (t / 2 + 1)]
    omega
/-- of one place -/
def up (d k : Nat) : Nat := if m - d ≤ k then 2 ^ (d + 1) - 2 ^ (m - k) else 0
theorem uk_sum (P : List Nat) (hc : ∀ p ∈ P, c p ≤ m) : ∀ d, d < m → uk c m P d = nsum (P.map fun p => up m d (c p))
  | 0, hd => by
    rw [uk, len_deep]
    congr 1
    apply List.map_congr_left
    intro p hp
    have := hc p hp
    unfold up
    by_cases h : m ≤ c p
    · rw [if_pos h, if_pos (by omega), show m - c p = 0 by omega]
    · rw [if_neg h, if_neg (by omega)]
  | d + 1, hd => by
    rw [uk, len_deep, ← nsum_mul, uk_sum P hc d (by omega), nsum_add]
    congr 1
    apply List.map_congr_left
    intro p hp
    have := hc p hp
    unfold up
    by_cases h1 : m - d ≤ c p
    · rw [if_pos (by omega), if_pos h1, if_pos (by omega)]
      have h2 : 2 ^ (m - c p) ≤ 2 ^ (d + 1) := Nat.pow_le_pow_right (by decide) (by omega)
      rw [Nat.pow_succ 2 (d + 1)]
      omega
    · rw [if_neg h1]
      by_cases h2 : m - (d + 1) ≤ c p
      · rw [if_pos h2, if_pos h2, show m - c p = d + 1 by omega, Nat.pow_succ 2 (d + 1)]
        omega
      · rw [if_neg h2, if_neg h2]; rfl
/-- enough is taken, if the code has room -/
theorem tk_enough (P : List Nat) (hm : 1 ≤ m) (hc : ∀ p ∈ P, 1 ≤ c p ∧ c p ≤ m) (hr : nsum (P.map fun p => 2 ^ (m - c p)) ≤ 2 ^ m) : 2 * (P.length - 1) ≤ tk c m P (m - 1) := by
  have h1 := uk_tk c m P (m - 1)
  have h2 := uk_sum c m P (fun p hp => (hc p hp).2) (m - 1) (by omega)
  have h3 : nsum (P.map fun p => up m (m - 1) (c p)) + nsum (P.map fun p => 2 ^ (m - c p)) = P.length * 2 ^ m := by
    rw [nsum_add, ← nsum_const]
    congr 1
    apply List.map_congr_left
    intro p hp
    have hcp := hc p hp
    unfold up
    rw [if_pos (by omega), show m - 1 + 1 = m by omega]
    have : 2 ^ (m - c p) ≤ 2 ^ m := Nat.pow_le_pow_right (by decide) (by omega)
    omega
  have h4 : 2 ^ m = 2 ^ (m - 1) * 2 := by rw [← Nat.pow_succ]; congr 1; omega
  rcases Nat.lt_or_ge (tk c m P (m - 1)) (2 * (P.length - 1)) with h5 | h5
  · exfalso
    have h6 : 2 ^ (m - 1) * (tk c m P (m - 1) + 1) ≤ 2 ^ (m - 1) * (2 * (P.length - 1)) := Nat.mul_le_mul_left _ (by omega)
    have h7 : 2 ^ (m - 1) * (2 * (P.length - 1)) = (P.length - 1) * 2 ^ m := by rw [h4, ← Nat.mul_assoc, Nat.mul_comm]
    have h8 : P.length * 2 ^ m = (P.length - 1) * 2 ^ m + 2 ^ m := by
      obtain ⟨q, hq⟩ : ∃ q, P.length = q + 1 := ⟨P.length - 1, by omega⟩
      rw [hq, Nat.add_sub_cancel, Nat.succ_mul]
    omega
  · exact h5
/-- whatever code there is takes no fewer -/
theorem least_le (P : List Nat) (hW : Up (wof l P)) (hp : ∀ x ∈ wof l P, 0 < x) (hn : 2 ≤ P.length) (hm : 1 ≤ m) (hc : ∀ p ∈ P, 1 ≤ c p ∧ c p ≤ m) (hr : nsum (P.map fun p => 2 ^ (m - c p)) ≤ 2 ^ m) :
    psum (wof l P) (m - 1) (2 * (P.length - 1)) ≤ lsum (P.map fun p => l.getD p 0 * ((c p : Nat) : Int)) := by
  have h1 := tk_enough c m P hm hc hr
  have h2 := (tk_ok l c m P hW hp (m - 1)).2
  have h3 := psum_mono (wof l P) hp (m - 1) h1
  rw [yk_sum l c m P (fun p hp => (hc p hp).2) (m - 1) (by omega), ysum] at h2
  have e : (P.map fun p => l.getD p 0 * ((c p + 1 + (m - 1) - m : Nat) : Int)) = P.map fun p => l.getD p 0 * ((c p : Nat) : Int) := by
    apply List.map_congr_left
    intro p hp
    rw [show c p + 1 + (m - 1) - m = c p by omega]
  rw [e] at h2
  omega
end Go.Proofs.Ytoiioemkibfdcac

/-
  Plain facts: the lengths make a code that leaves no room. No program is named here.
-/
namespace Go.Proofs.Ytoiioemkibfdcac
open Go.RowKit
set_option linter.unusedVariables false

/-- what is taken at one length is taken at the shorter one -/
theorem alone_nested {W : List Int} (hW : Up W) (hp : ∀ x ∈ W, 0 < x) (q t : Nat) (ht : t ≤ (rowAt W (q + 1)).length) : alone (rowAt W q) (2 * (t - alone (rowAt W (q + 1)) t)) ≤ alone (rowAt W (q + 1)) t := by
  rcases Nat.lt_or_ge (alone (rowAt W (q + 1)) t) (alone (rowAt W q) (2 * (t - alone (rowAt W (q + 1)) t))) with h | h
  · exfalso
    have hb := pairs_le _ _ ht
    rw [rowAt_true, rowAt_len_succ] at hb
    have ha' := alone_le_all (rowAt W q) (2 * (t - alone (rowAt W (q + 1)) t))
    rw [rowAt_true] at ha'
    have hperm := mrg_take W (pairsAt W q) (2 * (t - alone (rowAt W (q + 1)) t))
    rw [← rowAt_mrg] at hperm
    have hle := alone_le (rowAt W q) (2 * (t - alone (rowAt W (q + 1)) t))
    have hbh := behind W (pairsAt W (q + 1)) t (alone (rowAt W (q + 1)) t) (t - alone (rowAt W (q + 1)) t - 1) hW (by rw [← rowAt_mrg]; exact Nat.le_refl _) (by omega) (by rw [← rowAt_mrg]; omega) (by rw [pairsAt, prs_length, List.length_map]; omega)
    generalize alone (rowAt W (q + 1)) t = a at *
    generalize hB : t - a = b at *
    have hmem : W.getD a 0 ∈ ((rowAt W q).take (2 * b)).map Prod.fst := hperm.mem_iff.2 (List.mem_append_left _ (mem_take_getD h (by omega)))
    have hL : 2 * b - 1 < ((rowAt W q).map Prod.fst).length := by rw [List.length_map]; omega
    have hlast : W.getD a 0 ≤ ((rowAt W q).map Prod.fst).getD (2 * b - 1) 0 := by
      rw [List.map_take] at hmem
      obtain ⟨i, hi, e⟩ := List.getElem_of_mem hmem
      have hi2 : i < 2 * b := by simp at hi; omega
      have hi3 : i < ((rowAt W q).map Prod.fst).length := by simp at hi; simp; omega
      have h1 := up_get (rowAt_up W hW q) (i := i) (j := 2 * b - 1) (by omega) hL
      have e2 : ((rowAt W q).map Prod.fst).getD i 0 = (((rowAt W q).map Prod.fst).take (2 * b))[i] := by simp only [List.getD, List.getElem?_eq_getElem hi3, Option.getD_some, List.getElem_take]
      rw [e2, e] at h1
      exact h1
    have hg : (pairsAt W (q + 1)).getD (b - 1) 0 = ((rowAt W q).map Prod.fst).getD (2 * (b - 1)) 0 + ((rowAt W q).map Prod.fst).getD (2 * (b - 1) + 1) 0 := prs_getD _ _ (by rw [List.length_map]; omega)
    have hpos : 0 < ((rowAt W q).map Prod.fst).getD (2 * (b - 1)) 0 := rowAt_pos W hp q _ (by
      have h3 : 2 * (b - 1) < ((rowAt W q).map Prod.fst).length := by omega
      simp only [List.getD, List.getElem?_eq_getElem h3, Option.getD_some]
      exact List.getElem_mem _)
    rw [show 2 * b - 1 = 2 * (b - 1) + 1 by omega] at hlast
    omega
  · exact h
theorem aloneAt_nested {W : List Int} {m : Nat} (hW : Up W) (hp : ∀ x ∈ W, 0 < x) (h1 : 1 ≤ W.length) (hm : 1 ≤ m) (hr : W.length ≤ 2 ^ m) (i : Nat) (hi : i + 1 < m) : aloneAt W m (i + 1) ≤ aloneAt W m i := by
  obtain ⟨q, hq⟩ : ∃ q, m - 1 - i = q + 1 := ⟨m - 1 - i - 1, by omega⟩
  have hq2 : m - 1 - (i + 1) = q := by omega
  have ht := takeAt_le W m h1 hm hr i (by omega)
  have h := alone_nested hW hp q (takeAt W m i) (by rw [← hq]; exact ht)
  unfold aloneAt
  rw [takeAt_succ, hq2, hq]
  unfold aloneAt
  rw [hq]
  exact h
theorem aloneAt_anti {W : List Int} {m : Nat} (hW : Up W) (hp : ∀ x ∈ W, 0 < x) (h1 : 1 ≤ W.length) (hm : 1 ≤ m) (hr : W.length ≤ 2 ^ m) : ∀ (k i : Nat), i + k < m → aloneAt W m (i + k) ≤ aloneAt W m i
  | 0, i, _ => Nat.le_refl _
  | k + 1, i, h => Nat.le_trans (aloneAt_nested hW hp h1 hm hr (i + k) (by omega)) (aloneAt_anti hW hp h1 hm hr k i (by omega))
theorem mem_take_mono {P : List Nat} {p i j : Nat} (h : p ∈ P.take i) (hij : i ≤ j) : p ∈ P.take j := by
  have : P.take i = (P.take j).take i := by rw [List.take_take, Nat.min_eq_left hij]
  rw [this] at h
  exact List.mem_of_mem_take h
/-- who is taken now was always taken -/
theorem hits_all {W : List Int} {m : Nat} (hW : Up W) (hp : ∀ x ∈ W, 0 < x) (h1 : 1 ≤ W.length) (hm : 1 ≤ m) (hr : W.length ≤ 2 ^ m) (P : List Nat) (p : Nat) (i : Nat) (hi : i < m) (h : p ∈ P.take (aloneAt W m i)) : ∀ j, j ≤ i → hits P W m p j = j
  | 0, _ => rfl
  | j + 1, hj => by
    have ha := aloneAt_anti hW hp h1 hm hr (i - j) j (by omega)
    rw [show j + (i - j) = i by omega] at ha
    rw [hits, hits_all hW hp h1 hm hr P p i hi h j (by omega), if_pos (mem_take_mono h ha)]
/-- what the places take of the room, behind i rounds -/
def vk (P : List Nat) (W : List Int) (m i : Nat) : Nat := nsum (P.map fun p => 2 ^ (m - hits P W m p i))
theorem nsum_take (P : List Nat) (hn : P.Nodup) (a k : Nat) (ha : a ≤ P.length) : nsum (P.map fun p => if p ∈ P.take a then k else 0) = a * k := by
  have e : P = P.take a ++ P.drop a := (List.take_append_drop a P).symm
  have hd : ∀ p ∈ P.drop a, p ∉ P.take a := by
    intro p hp h
    have h2 := hn
    rw [e] at h2
    exact (List.nodup_append.1 h2).2.2 p h p hp rfl
  have h1 : ∀ Q : List Nat, (∀ p ∈ Q, p ∈ P.take a) → nsum (Q.map fun p => if p ∈ P.take a then k else 0) = Q.length * k := by
    intro Q
    induction Q with
    | nil => intro _; simp [nsum]
    | cons q Q ih =>
      intro h
      rw [List.map_cons, nsum, if_pos (h q List.mem_cons_self), ih (fun p hp => h p (List.mem_cons_of_mem _ hp)), List.length_cons, Nat.succ_mul]
      omega
  have h2 : ∀ Q : List Nat, (∀ p ∈ Q, p ∉ P.take a) → nsum (Q.map fun p => if p ∈ P.take a then k else 0) = 0 := by
    intro Q
    induction Q with
    | nil => intro _; rfl
    | cons q Q ih =>
      intro h
      rw [List.map_cons, nsum, if_neg (h q List.mem_cons_self), ih (fun p hp => h p (List.mem_cons_of_mem _ hp))]
  have h3 : ∀ A B : List Nat, nsum (A ++ B) = nsum A + nsum B := by
    intro A B
    induction A with
    | nil => simp [nsum]
    | cons x A ih => rw [List.cons_append, nsum, nsum, ih]; omega
  have h4 : nsum (P.map fun p => if p ∈ P.take a then k else 0) = nsum ((P.take a).map fun p => if p ∈ P.take a then k else 0) + nsum ((P.drop a).map fun p => if p ∈ P.take a then k else 0) := by
    rw [← h3, ← List.map_append, List.take_append_drop]
  rw [h4, h1 _ (fun p hp => hp), h2 _ hd, List.length_take, Nat.min_eq_left ha, Nat.add_zero]
theorem vk_step {W : List Int} {m : Nat} (hW : Up W) (hp : ∀ x ∈ W, 0 < x) (h1 : 1 ≤ W.length) (hm : 1 ≤ m) (hr : W.length ≤ 2 ^ m) (P : List Nat) (hn : P.Nodup) (hl : W.length = P.length) (i : Nat) (hi : i < m) : vk P W m (i + 1) + aloneAt W m i * 2 ^ (m - 1 - i) = vk P W m i := by
  unfold vk
  rw [← nsum_take P hn (aloneAt W m i) (2 ^ (m - 1 - i)) (by rw [← hl]; exact aloneAt_le W m i), nsum_add]
  congr 1
  apply List.map_congr_left
  intro p _
  rw [hits]
  by_cases h : p ∈ P.take (aloneAt W m i)
  · rw [if_pos h, if_pos h, hits_all hW hp h1 hm hr P p i hi h i (Nat.le_refl _), show m - i = (m - 1 - i) + 1 by omega, show m - (i + 1) = m - 1 - i by omega, Nat.pow_succ]
    omega
  · rw [if_neg h, if_neg h]; rfl
/-- what was taken so far, by its worth -/
def zk (W : List Int) (m : Nat) : Nat → Nat
  | 0 => 0
  | i + 1 => zk W m i + aloneAt W m i * 2 ^ (m - 1 - i)
theorem vk_zk {W : List Int} {m : Nat} (hW : Up W) (hp : ∀ x ∈ W, 0 < x) (h1 : 1 ≤ W.length) (hm : 1 ≤ m) (hr : W.length ≤ 2 ^ m) (P : List Nat) (hn : P.Nodup) (hl : W.length = P.length) : ∀ i, i ≤ m → vk P W m i + zk W m i = P.length * 2 ^ m
  | 0, _ => by
    rw [zk, vk]
    simp only [hits, Nat.sub_zero]
    rw [nsum_const, Nat.add_zero]
  | i + 1, hi => by
    have ih := vk_zk hW hp h1 hm hr P hn hl i (by omega)
    have hs := vk_step hW hp h1 hm hr P hn hl i (by omega)
    rw [zk]
    omega
theorem zk_take (W : List Int) (m : Nat) (hm : 1 ≤ m) : ∀ i, i ≤ m → 2 * zk W m i + takeAt W m i * 2 ^ (m - i) = takeAt W m 0 * 2 ^ m
  | 0, _ => by simp [zk]
  | i + 1, hi => by
    have ih := zk_take W m hm i (by omega)
    have ha := aloneAt_take W m i
    have e : 2 ^ (m - i) = 2 * 2 ^ (m - 1 - i) := by rw [show m - i = (m - 1 - i) + 1 by omega, Nat.pow_succ, Nat.mul_comm]
    rw [zk, takeAt_succ, show m - (i + 1) = m - 1 - i by omega, ← ih, e]
    obtain ⟨d, hd⟩ : ∃ d, takeAt W m i = aloneAt W m i + d := ⟨takeAt W m i - aloneAt W m i, by omega⟩
    rw [hd, Nat.add_sub_cancel_left]
    generalize aloneAt W m i = a
    generalize 2 ^ (m - 1 - i) = z
    generalize zk W m i = y
    rw [Nat.add_mul, Nat.mul_add, Nat.mul_assoc 2 d z, Nat.mul_left_comm a 2 z, Nat.mul_left_comm d 2 z]
    omega
theorem take_last {W : List Int} {m : Nat} (h1 : 1 ≤ W.length) (hm : 1 ≤ m) (hr : W.length ≤ 2 ^ m) : takeAt W m m = 0 := by
  obtain ⟨q, rfl⟩ : ∃ q, m = q + 1 := ⟨m - 1, by omega⟩
  have h := takeAt_le W (q + 1) h1 hm hr q (by omega)
  rw [show q + 1 - 1 - q = 0 by omega] at h
  have hp := pairs_le _ _ h
  rw [rowAt_true] at hp
  have e : (rowAt W 0).length = W.length := by rw [rowAt, mrg_length]; simp
  rw [e] at hp
  rw [takeAt, show q + 1 - 1 - q = 0 by omega]
  omega
/-- they leave no room -/
theorem kraft {W : List Int} {m : Nat} (hW : Up W) (hp : ∀ x ∈ W, 0 < x) (h2 : 2 ≤ W.length) (hm : 1 ≤ m) (hr : W.length ≤ 2 ^ m) (P : List Nat) (hn : P.Nodup) (hl : W.length = P.length) : vk P W m m = 2 ^ m := by
  have h3 := vk_zk hW hp (by omega) hm hr P hn hl m (Nat.le_refl _)
  have h4 := zk_take W m hm m (Nat.le_refl _)
  rw [take_last (by omega) hm hr, Nat.zero_mul, Nat.add_zero, takeAt, Nat.mul_assoc] at h4
  have h5 : P.length * 2 ^ m = (W.length - 1) * 2 ^ m + 2 ^ m := by
    rw [← hl]
    obtain ⟨q, hq⟩ : ∃ q, W.length = q + 1 := ⟨W.length - 1, by omega⟩
    rw [hq, Nat.add_sub_cancel, Nat.succ_mul]
  omega

/-! ### the lengths themselves -/
theorem lens_kraft {l : List Int} {P : List Nat} {m : Nat} (hG : GoodW l m) (hP : RiseOf l P) (hn : 2 ≤ P.length) : nsum (P.map fun p => 2 ^ (m - ((lensOf l P m).getD p 0).toNat)) = 2 ^ m := by
  have hW : (P.map fun p => l.getD p 0).length = P.length := by simp
  have h := kraft hP.up hP.pos (by omega) hG.lo (by rw [hW, hP.length]; exact hG.room) P hP.nodup hW
  rw [← h]
  unfold vk
  congr 1
  apply List.map_congr_left
  intro p _
  unfold lensOf
  rw [if_neg (by omega), lensAt_getD _ _ _ _ _ hP.nodup hP.lt, Int.toNat_natCast]
/-- the cost over all that is wanted -/
theorem costK_wpl (l s : List Int) (hl : ∀ j, j < l.length → 0 ≤ l.getD j 0) : ∀ k, k ≤ l.length → costK l s k = lsum ((wpl l k).map fun p => l.getD p 0 * s.getD p 0)
  | 0, _ => rfl
  | k + 1, hk => by
    have h0 := hl k (by omega)
    rw [costK, wpl, List.map_append, lsum_append, costK_wpl l s hl k (by omega)]
    by_cases h : 0 < l.getD k 0
    · rw [if_pos h]; simp [lsum]
    · rw [if_neg h, show l.getD k 0 = 0 by omega]; simp [lsum]
theorem costK_rise {l s : List Int} {P : List Nat} (hl : ∀ j, j < l.length → 0 ≤ l.getD j 0) (hP : RiseOf l P) : costK l s l.length = lsum (P.map fun p => l.getD p 0 * s.getD p 0) := by
  rw [costK_wpl l s hl l.length (Nat.le_refl _)]
  exact lsum_perm (hP.perm.map _).symm
/-- whatever lengths there are that have room take no fewer -/
theorem best {l s o : List Int} {m : Nat} (hG : GoodW l m) (hs : IsLens l m s) (ho : ∀ p, p < l.length → 0 < l.getD p 0 → 1 ≤ o.getD p 0 ∧ o.getD p 0 ≤ m) (hr : nsum ((wpl l l.length).map fun p => 2 ^ (m - (o.getD p 0).toNat)) ≤ 2 ^ m) : costK l s l.length ≤ costK l o l.length := by
  obtain ⟨P, hP, rfl⟩ := hs
  have hnn : ∀ j, j < l.length → 0 ≤ l.getD j 0 := fun j hj => (hG.ok j hj).1
  rw [cost_lens hG hP, costK_rise hnn hP]
  have hW : (P.map fun p => l.getD p 0).length = P.length := by simp
  have hc : ∀ p ∈ P, 1 ≤ (o.getD p 0).toNat ∧ (o.getD p 0).toNat ≤ m := by
    intro p hp
    have h := (hP.mem p).1 hp
    have := ho p h.1 h.2
    omega
  have e : (P.map fun p => l.getD p 0 * o.getD p 0) = P.map fun p => l.getD p 0 * (((o.getD p 0).toNat : Nat) : Int) := by
    apply List.map_congr_left
    intro p hp
    have h := (hP.mem p).1 hp
    have := ho p h.1 h.2
    congr 1
    omega
  unfold least
  rw [hW]
  by_cases hn : P.length < 2
  · rw [if_pos hn]
    match P, hn, hP with
    | [], _, _ => simp [lsum]
    | [p], _, hP =>
      have h := (hP.mem p).1 (by simp)
      have h2 := ho p h.1 h.2
      simp only [List.map_cons, List.map_nil, lsum]
      have : l.getD p 0 * 1 ≤ l.getD p 0 * o.getD p 0 := Int.mul_le_mul_of_nonneg_left h2.1 (by omega)
      omega
    | p :: q :: P, hn, _ => simp at hn; omega
  · rw [if_neg hn, e]
    exact least_le l (fun p => (o.getD p 0).toNat) m P hP.up hP.pos (by omega) hG.lo hc (by
      rw [nsum_perm (hP.perm.map _)]; exact hr)
/-- with more room no more bits are taken -/
theorem less_more {l s s2 : List Int} {m : Nat} (hG : GoodW l m) (hs : IsLens l m s) (hG2 : GoodW l (m + 1)) (hs2 : IsLens l (m + 1) s2) : costK l s2 l.length ≤ costK l s l.length := by
  obtain ⟨P, hP, rfl⟩ := hs
  refine best hG2 hs2 (fun p h1 h2 => ?_) ?_
  · have h := lens_ok hG hP p
    have := h.2.2.2 ((hP.mem p).2 ⟨h1, h2⟩)
    omega
  · rw [← nsum_perm (hP.perm.map _)]
    by_cases hn : P.length < 2
    · match P, hn, hP with
      | [], _, _ => simp [nsum]
      | [p], _, hP =>
        simp only [List.map_cons, List.map_nil, nsum, Nat.add_zero]
        exact Nat.pow_le_pow_right (by decide) (by omega)
      | p :: q :: P, hn, _ => simp at hn; omega
    · have h := lens_kraft hG hP (by omega)
      have e : (P.map fun p => 2 ^ (m + 1 - ((lensOf l P m).getD p 0).toNat)) = P.map fun p => 2 * 2 ^ (m - ((lensOf l P m).getD p 0).toNat) := by
        apply List.map_congr_left
        intro p _
        have := (lens_ok hG hP p).2.1
        rw [show m + 1 - ((lensOf l P m).getD p 0).toNat = (m - ((lensOf l P m).getD p 0).toNat) + 1 by omega, Nat.pow_succ, Nat.mul_comm]
      rw [e, nsum_mul, h, Nat.pow_succ, Nat.mul_comm]
      exact Nat.le_refl _
end Go.Proofs.Ytoiioemkibfdcac

/-
  The lengths leave no room; whatever code there is takes no fewer bits.
-/
namespace Go.Proofs.Ytoiioemkibfdcac
open Go.RowKit
set_option linter.unusedVariables false

theorem room_lens {l : List Int} {P : List Nat} {m : Nat} (hG : GoodW l m) (hP : RiseOf l P) (hn : 2 ≤ P.length) : takenN (cnt (lensOf l P m)) 15 = 32768 := by
  have hm15 := hG.hi
  have hle : ∀ j, 0 ≤ (lensOf l P m).getD j 0 ∧ (lensOf l P m).getD j 0 ≤ 15 := fun j => by have := lens_ok hG hP j; omega
  have h2 := roomN_taken (lensOf l P m) (fun j _ => hle j) (lensOf l P m).length (Nat.le_refl _)
  rw [List.take_length, lensOf_length] at h2
  rw [← h2]
  have hk := lens_kraft hG hP hn
  have h3 : ∀ A B : List Nat, nsum (A ++ B) = nsum A + nsum B := by
    intro A B
    induction A with
    | nil => simp [nsum]
    | cons x A ih => rw [List.cons_append, nsum, nsum, ih]; omega
  have h4 : ∀ k, k ≤ l.length → roomN (lensOf l P m) k = nsum ((wpl l k).map fun p => 2 ^ (15 - ((lensOf l P m).getD p 0).toNat)) := by
    intro k
    induction k with
    | zero => intro _; rfl
    | succ k ih =>
      intro hk
      rw [wpl, List.map_append, h3, roomN, ih (by omega)]
      have hx := lens_ok hG hP k
      by_cases h : 0 < l.getD k 0
      · rw [if_pos h, if_pos (hx.2.2.2 ((hP.mem k).2 ⟨by omega, h⟩))]
        simp [nsum]
      · rw [if_neg h, if_neg (fun h5 => h ((hP.mem k).1 (hx.2.2.1 h5)).2)]
        simp [nsum]
  rw [h4 l.length (Nat.le_refl _), ← nsum_perm (hP.perm.map _)]
  have e : (P.map fun p => 2 ^ (15 - ((lensOf l P m).getD p 0).toNat)) = P.map fun p => 2 ^ (15 - m) * 2 ^ (m - ((lensOf l P m).getD p 0).toNat) := by
    apply List.map_congr_left
    intro p hp
    have := lens_ok hG hP p
    rw [← Nat.pow_add]
    congr 1
    omega
  rw [e, nsum_mul, hk, ← Nat.pow_add, show 15 - m + m = 15 by omega]
theorem lens_one {l : List Int} {P : List Nat} {m : Nat} (hP : RiseOf l P) (hn : P.length = 1) : (∀ j, (lensOf l P m).getD j 0 ≤ 1) ∧ ∃ p, p < l.length ∧ (lensOf l P m).getD p 0 = 1 := by
  have e : ∀ j, (lensOf l P m).getD j 0 = if j ∈ P then 1 else 0 := by
    intro j
    unfold lensOf
    rw [if_pos (by omega), bumps_getD j P _ hP.nodup (fun q hq => by simpa using hP.lt q hq)]
    have e : (List.replicate l.length (0 : Int)).getD j 0 = 0 := by by_cases h : j < l.length <;> simp [List.getD, h]
    rw [e]; omega
  refine ⟨fun j => by rw [e]; split <;> omega, ?_⟩
  match P, hn, hP with
  | [p], _, hP => exact ⟨p, hP.lt p (by simp), by rw [e]; simp⟩
/-- a code that has room leaves it to what is wanted -/
theorem room_wpl (l o : List Int) (ho : ∀ p, p < l.length → 0 < l.getD p 0 → 0 < o.getD p 0) : ∀ k, k ≤ l.length → nsum ((wpl l k).map fun p => 2 ^ (15 - (o.getD p 0).toNat)) ≤ roomN o k
  | 0, _ => Nat.zero_le _
  | k + 1, hk => by
    have ih := room_wpl l o ho k (by omega)
    have h3 : ∀ A B : List Nat, nsum (A ++ B) = nsum A + nsum B := by
      intro A B
      induction A with
      | nil => simp [nsum]
      | cons x A ih => rw [List.cons_append, nsum, nsum, ih]; omega
    rw [wpl, List.map_append, h3, roomN]
    by_cases h : 0 < l.getD k 0
    · rw [if_pos h, if_pos (ho k (by omega) h)]
      simp only [List.map_cons, List.map_nil, nsum]
      omega
    · rw [if_neg h]
      simp only [List.map_nil, nsum]
      omega
/-- whatever code there is takes no fewer -/
theorem any_code {l s o : List Int} {m : Nat} (hG : GoodW l m) (hs : IsLens l m s) (hl : o.length = l.length) (hO : Good o) (hmx : ∀ j, j < l.length → o.getD j 0 ≤ m) (he : errC l o = 0) : costK l s l.length ≤ costK l o l.length := by
  have hok : ∀ j, j < l.length → okC (l.getD j 0) (o.getD j 0) = true := by
    intro j hj
    cases e : okC (l.getD j 0) (o.getD j 0) with
    | true => rfl
    | false =>
      exfalso
      unfold errC at he
      have h15 := good_errW (hG.more hG.hi (Nat.le_refl 15))
      rw [if_neg (by omega), if_neg (fun h => h h15), if_pos ⟨j, hj, e⟩] at he
      cases he
  have hw : ∀ p, p < l.length → 0 < l.getD p 0 → 1 ≤ o.getD p 0 ∧ o.getD p 0 ≤ m := by
    intro p h1 h2
    have h3 := of_decide_eq_true (hok p h1)
    refine ⟨?_, hmx p h1⟩
    rcases Int.lt_or_le 0 (o.getD p 0) with h4 | h4
    · omega
    · exact absurd h2 (h3.2.2 (by omega))
  refine best hG hs hw ?_
  have h1 := room_wpl l o (fun p a b => by have := hw p a b; omega) l.length (Nat.le_refl _)
  have h2 := roomN_taken o hO.ok o.length (Nat.le_refl _)
  rw [List.take_length] at h2
  have h3 := hO.room
  rw [hl] at h2
  have hm15 := hG.hi
  have e : ((wpl l l.length).map fun p => 2 ^ (15 - (o.getD p 0).toNat)) = (wpl l l.length).map fun p => 2 ^ (15 - m) * 2 ^ (m - (o.getD p 0).toNat) := by
    apply List.map_congr_left
    intro p hp
    have hp' := (mem_wpl l p l.length).1 hp
    have := hw p hp'.1 hp'.2
    rw [← Nat.pow_add]
    congr 1
    omega
  rw [e, nsum_mul] at h1
  have h4 : 2 ^ (15 - m) * nsum ((wpl l l.length).map fun p => 2 ^ (m - (o.getD p 0).toNat)) ≤ 2 ^ (15 - m) * 2 ^ m := by
    rw [← Nat.pow_add, show 15 - m + m = 15 by omega]
    omega
  exact Nat.le_of_mul_le_mul_left h4 (Nat.pow_pos (by decide))

end Go.Proofs.Ytoiioemkibfdcac

/-
  The lengths of the shortest codes are right ones; how many bits a block has. Of lists alone.
-/
namespace Go.Proofs.Ytoiioemkibfdcac
set_option linter.unusedVariables false
set_option maxRecDepth 100000

theorem code_len (l : List Int) (hG : Good l) (q : Nat) : (codeT l q).length = (l.getD q 0).toNat := by unfold codeT; rw [hb_length]
def manyOk (n : Nat) : Bool := decide (257 ≤ (manyI n).1 ∧ (manyI n).1 ≤ 285 ∧ (samesL.getD ((manyI n).1 - 257) (0, 0)).2 = (manyI n).2.2 ∧ (samesL.getD ((manyI n).1 - 257) (0, 0)).1 + (manyI n).2.1 = n ∧ (manyI n).2.1 < 2 ^ (manyI n).2.2 ∧ (manyI n).2.2 ≤ 5 ∧ (n ≤ 10 → (manyI n).2.2 = 0))
def farOk (d : Nat) : Bool := decide ((farI d).1 ≤ 29 ∧ (farsL.getD (farI d).1 (0, 0)).2 = (farI d).2.2 ∧ (farsL.getD (farI d).1 (0, 0)).1 + (farI d).2.1 = d ∧ (farI d).2.1 < 2 ^ (farI d).2.2 ∧ (farI d).2.2 ≤ 10)
theorem many_all : (List.range 256).all (fun n => manyOk (n + 3)) = true := by decide +kernel
theorem far_all : (List.range 3000).all (fun d => farOk (d + 1)) = true := by decide +kernel
theorem many_is {n : Nat} (h3 : 3 ≤ n) (h : n ≤ 258) : 257 ≤ (manyI n).1 ∧ (manyI n).1 ≤ 285 ∧ (samesL.getD ((manyI n).1 - 257) (0, 0)).2 = (manyI n).2.2 ∧ (samesL.getD ((manyI n).1 - 257) (0, 0)).1 + (manyI n).2.1 = n ∧ (manyI n).2.1 < 2 ^ (manyI n).2.2 ∧ (manyI n).2.2 ≤ 5 ∧ (n ≤ 10 → (manyI n).2.2 = 0) := by
  have := List.all_eq_true.1 many_all (n - 3) (by simp; omega)
  rw [show n - 3 + 3 = n by omega] at this
  exact of_decide_eq_true this
theorem far_is {d : Nat} (h1 : 1 ≤ d) (h : d ≤ 3000) : (farI d).1 ≤ 29 ∧ (farsL.getD (farI d).1 (0, 0)).2 = (farI d).2.2 ∧ (farsL.getD (farI d).1 (0, 0)).1 + (farI d).2.1 = d ∧ (farI d).2.1 < 2 ^ (farI d).2.2 ∧ (farI d).2.2 ≤ 10 := by
  have := List.all_eq_true.1 far_all (d - 1) (by simp; omega)
  rw [show d - 1 + 1 = d by omega] at this
  exact of_decide_eq_true this

/-- which symbols are wanted, and have a code -/
def Has (a b : List Int) (is : List It) : Prop := (∀ k, It.sym k ∈ is → k < a.length ∧ 0 < a.getD k 0) ∧ (∀ k, It.far k ∈ is → k < b.length ∧ 0 < b.getD k 0)
theorem Has.app {a b : List Int} {x y : List It} (h : Has a b (x ++ y)) : Has a b x ∧ Has a b y :=
  ⟨⟨fun k hk => h.1 k (by simp [hk]), fun k hk => h.2 k (by simp [hk])⟩, ⟨fun k hk => h.1 k (by simp [hk]), fun k hk => h.2 k (by simp [hk])⟩⟩
theorem putIs_app (a b : List Int) (x y : List It) : putIs a b (x ++ y) = putIs a b x ++ putIs a b y := by simp [putIs]
def HasR (own : List Int) (is : List (Nat × Nat × Nat)) : Prop := ∀ i ∈ is, i.1 < own.length ∧ 0 < own.getD i.1 0
theorem putR_len (own : List Int) (hG : Good own) (i : Nat × Nat × Nat) : (putR own i).length = (codeT own i.1).length + i.2.2 := by unfold putR; rw [List.length_append, numBits_length]

theorem putRs_cons (own : List Int) (i : Nat × Nat × Nat) (is : List (Nat × Nat × Nat)) : putRs own (i :: is) = putR own i ++ putRs own is := by simp [putRs]
theorem putRs_app (own : List Int) (x y : List (Nat × Nat × Nat)) : putRs own (x ++ y) = putRs own x ++ putRs own y := by simp [putRs]
theorem HasR.app {own : List Int} {x y : List (Nat × Nat × Nat)} (h : HasR own (x ++ y)) : HasR own x ∧ HasR own y := ⟨fun i hi => h i (by simp [hi]), fun i hi => h i (by simp [hi])⟩

theorem headN_le (x : Int) : ∀ r : List Int, headN x r ≤ r.length
  | [] => Nat.le_refl _
  | y :: r => by
    rw [headN]
    have := headN_le x r
    split <;> simp <;> omega
theorem headN_rep (x : Int) : ∀ r : List Int, r = List.replicate (headN x r) x ++ r.drop (headN x r)
  | [] => rfl
  | y :: r => by
    rw [headN]
    by_cases e : y = x
    · subst e
      rw [if_pos rfl, List.replicate_succ, List.drop_succ_cons, List.cons_append, ← headN_rep y r]
    · rw [if_neg e]; rfl
/-! counting -/
theorem bump_at (xs : List Int) (p j : Nat) : (bump xs p).getD j 0 = xs.getD j 0 + (if j = p ∧ p < xs.length then 1 else 0) := by
  unfold bump
  by_cases e : j = p
  · subst e
    by_cases h : j < xs.length
    · simp [List.getD, h]
    · simp [List.getD, h]
  · simp only [List.getD]
    rw [List.getElem?_set_ne (Ne.symm e), if_neg (fun h => e h.1)]
    omega
theorem bumps_at : ∀ (ps : List Nat) (xs : List Int) (j : Nat), j < xs.length → (bumps xs ps).getD j 0 = xs.getD j 0 + (ps.count j : Nat)
  | [], xs, j, h => by simp [bumps]
  | p :: ps, xs, j, h => by
    show (bumps (bump xs p) ps).getD j 0 = _
    rw [bumps_at ps _ j (by rw [bump_length]; exact h), bump_at, List.count_cons]
    by_cases e : j = p
    · subst e
      simp [h]
      omega
    · have e2 : ¬ p = j := fun h => e h.symm
      simp [e, e2]
theorem zero_at (n j : Nat) : (List.replicate n (0 : Int)).getD j 0 = 0 := by by_cases h : j < n <;> simp [List.getD, h]
theorem bumps_good (n m : Nat) (ps : List Nat) (hn : n ≤ 288) (hp : ps.length ≤ 1000000) (hm : 1 ≤ m) (hm2 : m ≤ 15) (hr : n ≤ 2 ^ m) : GoodW (bumps (List.replicate n 0) ps) m := by
  have hl : (bumps (List.replicate n (0 : Int)) ps).length = n := by rw [bumps_length]; simp
  refine ⟨by omega, ?_, hm, hm2, ?_⟩
  · intro j hj
    rw [bumps_at ps _ j (by simp; omega), zero_at]
    have := List.count_le_length (a := j) (l := ps)
    omega
  · have := wpl_le (bumps (List.replicate n 0) ps) (bumps (List.replicate n (0 : Int)) ps).length
    omega

/-! the shortest lengths -/
theorem lensD_eq {l : List Int} {m : Nat} {s : List Int} (h : IsLens l m s) : lensD l m = s := by
  have h2 : IsLens l m (lensD l m) := Classical.epsilon_spec (p := fun s => IsLens l m s) ⟨s, h⟩
  obtain ⟨P, hP, e⟩ := h
  obtain ⟨Q, hQ, e2⟩ := h2
  rw [e2, e, hP.one hQ]
theorem lens_good {l : List Int} {m : Nat} {s : List Int} (hG : GoodW l m) (hs : IsLens l m s) : Good s ∧ s.length = l.length ∧ (∀ p, 0 ≤ s.getD p 0 ∧ s.getD p 0 ≤ m) ∧ ∀ p, p < l.length → 0 < l.getD p 0 → 0 < s.getD p 0 := by
  obtain ⟨P, hP, rfl⟩ := hs
  have hlen := lensOf_length l P m
  have hl := hG.len
  have hm15 := hG.hi
  have hok := lens_ok hG hP
  refine ⟨⟨by omega, fun j hj => by have := hok j; omega, ?_⟩, hlen, fun p => ⟨(hok p).1, (hok p).2.1⟩, fun p h1 h2 => (hok p).2.2.2 ((hP.mem p).2 ⟨h1, h2⟩)⟩
  by_cases hn : 2 ≤ P.length
  · rw [room_lens hG hP hn]
    exact Nat.le_refl _
  · have h2 := roomN_taken (lensOf l P m) (fun j _ => by have := hok j; omega) (lensOf l P m).length (Nat.le_refl _)
    rw [List.take_length, lensOf_length] at h2
    rw [← h2]
    have h4 : ∀ k, k ≤ l.length → roomN (lensOf l P m) k ≤ (wpl l k).length * 16384 := by
      intro k
      induction k with
      | zero => intro _; exact Nat.le_refl _
      | succ k ih =>
        intro hk
        have := ih (by omega)
        rw [wpl, List.length_append, roomN]
        have hx := hok k
        by_cases h : 0 < l.getD k 0
        · have h1 := hx.2.2.2 ((hP.mem k).2 ⟨by omega, h⟩)
          rw [if_pos h, if_pos h1]
          have : 2 ^ (15 - ((lensOf l P m).getD k 0).toNat) ≤ 2 ^ 14 := Nat.pow_le_pow_right (by decide) (by omega)
          simp only [List.length_cons, List.length_nil]
          omega
        · rw [if_neg h, if_neg (fun h5 => h ((hP.mem k).1 (hx.2.2.1 h5)).2)]
          simp only [List.length_nil]
          omega
    have h5 := h4 l.length (Nat.le_refl _)
    rw [← hP.length] at h5
    omega

/-! without the zeros at the end -/
theorem trimF_le (l : List Int) (least : Nat) : ∀ n, trimF l least n ≤ n
  | 0 => Nat.le_refl _
  | n + 1 => by
    rw [trimF]
    have := trimF_le l least n
    split <;> omega
theorem trimF_ge (l : List Int) (least : Nat) : ∀ n, least ≤ n → least ≤ trimF l least n
  | 0, h => h
  | n + 1, h => by
    rw [trimF]
    by_cases e : least < n + 1 ∧ l.getD n 0 = 0
    · rw [if_pos e]; exact trimF_ge l least n (by omega)
    · rw [if_neg e]; exact h
theorem trimF_zero (l : List Int) (least : Nat) : ∀ n j, trimF l least n ≤ j → j < n → l.getD j 0 = 0
  | 0, j, h1, h2 => by omega
  | n + 1, j, h1, h2 => by
    rw [trimF] at h1
    by_cases e : least < n + 1 ∧ l.getD n 0 = 0
    · rw [if_pos e] at h1
      by_cases e2 : j = n
      · subst e2; exact e.2
      · exact trimF_zero l least n j h1 (by omega)
    · rw [if_neg e] at h1; omega
theorem trimL_length (l : List Int) (least : Nat) : (trimL l least).length = trimF l least l.length := by
  have := trimF_le l least l.length
  simp [trimL]; omega
theorem trimL_at (l : List Int) (least k : Nat) : (trimL l least).getD k 0 = l.getD k 0 := by
  have hl := trimL_length l least
  by_cases h : k < trimF l least l.length
  · simp only [trimL, List.getD]
    rw [List.getElem?_take_of_lt h]
  · have e1 : (trimL l least).getD k 0 = 0 := by
      simp only [List.getD]
      rw [List.getElem?_eq_none (by omega)]
      rfl
    rw [e1]
    by_cases h2 : k < l.length
    · exact (trimF_zero l least l.length k (by omega) h2).symm
    · simp only [List.getD]
      rw [List.getElem?_eq_none (by omega)]
      rfl
theorem takenN_mono {c d : Nat → Nat} (h : ∀ n, c n ≤ d n) : ∀ k, takenN c k ≤ takenN d k
  | 0 => Nat.le_refl _
  | k + 1 => by
    rw [takenN, takenN]
    have h1 := takenN_mono h k
    have h2 := Nat.mul_le_mul_right (2 ^ (14 - k)) (h (k + 1))
    omega
theorem trim_good {l : List Int} (hG : Good l) (least : Nat) : Good (trimL l least) := by
  have hl := trimL_length l least
  have hle := trimF_le l least l.length
  refine ⟨by have := hG.len; omega, fun j hj => by rw [trimL_at]; exact hG.ok j (by omega), ?_⟩
  refine Nat.le_trans (takenN_mono (fun n => ?_) 15) hG.room
  unfold cnt trimL
  exact (List.take_sublist _ _).count_le _

/-! the tokens of bytes -/
def VT (t : Tk) : Prop := t.1 < 256 ∧ (t.2.1 = 0 ∨ (3 ≤ t.2.1 ∧ t.2.1 ≤ 258 ∧ 1 ≤ t.2.2 ∧ t.2.2 ≤ 3000))
theorem chkF_mem : ∀ (ts : List Tk) (n : Nat), chkF ts n = 0 → ∀ t ∈ ts, ∃ k, k ≤ 3000 ∧ errOne t k = 0
  | [], n, h, t, ht => by cases ht
  | t0 :: ts, n, h, t, ht => by
    have he : errOne t0 n = 0 := by
      rw [chkF] at h
      by_cases e : errOne t0 n = 0
      · exact e
      · rw [if_neg e] at h; exact absurd h e
    rw [chkF, if_pos he] at h
    have hz := chkF_zero h
    rcases List.mem_cons.1 ht with rfl | ht
    · exact ⟨n, by omega, he⟩
    · exact chkF_mem ts _ h t ht
theorem tks_mem (bs : List Nat) : ∀ m k, ∀ t ∈ tks bs m k, ∃ j, t = tkAt bs j
  | 0, k, t, ht => by cases ht
  | m + 1, k, t, ht => by
    rw [tks] at ht
    by_cases h : k < bs.length
    · rw [if_pos h] at ht
      rcases List.mem_cons.1 ht with rfl | ht
      · exact ⟨k, rfl⟩
      · exact tks_mem bs m _ t ht
    · rw [if_neg h] at ht; cases ht
theorem toks_chk (bs : List Nat) (h : bs.length ≤ 3000) : chkF (toks bs) 0 = 0 := tks_chk bs h bs.length 0 (Nat.zero_le _)
theorem toks_vt {bs : List Nat} (hb : ∀ j, bs.getD j 0 < 256) (h : bs.length ≤ 3000) : ∀ t ∈ toks bs, VT t := by
  intro t ht
  obtain ⟨j, rfl⟩ := tks_mem bs _ _ t ht
  obtain ⟨k, h1, h2⟩ := chkF_mem _ _ (toks_chk bs h) _ ht
  refine ⟨tkAt_lt hb j, ?_⟩
  rcases errOne_right h2 with ⟨e1, _⟩ | ⟨_, e2, e3, e4, e5⟩
  · exact .inl e1
  · exact .inr ⟨e2, e3, e4, by omega⟩
/-- what an item may be -/
def VI : It → Prop
  | .sym k => k < 286
  | .far k => k < 30
  | .rest n s => n < 2 ^ s ∧ s ≤ 10
theorem itOf_vi {t : Tk} (h : VT t) : ∀ i ∈ itOf t, VI i := by
  obtain ⟨h0, h1⟩ := h
  intro i hi
  unfold itOf at hi
  rcases h1 with e | ⟨e1, e2, e3, e4⟩
  · rw [if_pos e] at hi
    simp only [List.mem_cons, List.not_mem_nil, or_false] at hi
    subst hi
    show t.1 < 286
    omega
  · rw [if_neg (by omega)] at hi
    obtain ⟨m1, m2, m3, m4, m5, m6, _⟩ := many_is (n := t.2.1.toNat) (by omega) (by omega)
    obtain ⟨f1, f2, f3, f4, f5⟩ := far_is (d := t.2.2.toNat) (by omega) (by omega)
    simp only [List.mem_cons, List.not_mem_nil, or_false] at hi
    rcases hi with rfl | rfl | rfl | rfl
    · show _ < 286; omega
    · exact ⟨m5, by omega⟩
    · show _ < 30; omega
    · exact ⟨f4, f5⟩
theorem itsOf_vi {ts : List Tk} (h : ∀ t ∈ ts, VT t) : ∀ i ∈ itsOf ts, VI i := by
  intro i hi
  unfold itsOf itsF at hi
  rcases List.mem_append.1 hi with hi | hi
  · obtain ⟨t, ht, hi⟩ := List.mem_flatMap.1 hi
    exact itOf_vi (h t ht) i hi
  · simp only [List.mem_cons, List.not_mem_nil, or_false] at hi
    subst hi
    show 256 < 286
    decide
theorem itOf_len (t : Tk) : (itOf t).length ≤ 4 := by unfold itOf; split <;> simp
theorem itsOf_len : ∀ ts : List Tk, (itsOf ts).length ≤ 4 * ts.length + 1
  | [] => by simp [itsOf, itsF]
  | t :: ts => by
    have e : itsOf (t :: ts) = itOf t ++ itsOf ts := by simp [itsOf, itsF]
    have := itsOf_len ts
    have := itOf_len t
    rw [e, List.length_append, List.length_cons]
    omega
theorem mem_symK {is : List It} {k : Nat} : k ∈ symK is ↔ It.sym k ∈ is := by
  unfold symK
  rw [List.mem_filterMap]
  constructor
  · rintro ⟨i, h1, h2⟩
    cases i with
    | sym q => simp at h2; subst h2; exact h1
    | far q => simp at h2
    | rest a b => simp at h2
  · intro h
    exact ⟨_, h, rfl⟩
theorem mem_farK {is : List It} {k : Nat} : k ∈ farK is ↔ It.far k ∈ is := by
  unfold farK
  rw [List.mem_filterMap]
  constructor
  · rintro ⟨i, h1, h2⟩
    cases i with
    | far q => simp at h2; subst h2; exact h1
    | sym q => simp at h2
    | rest a b => simp at h2
  · intro h
    exact ⟨_, h, rfl⟩

/-- the codes of a Dynamic block -/
structure Dyn (ts : List Tk) (a b : List Int) : Prop where
  ga : Good a
  gb : Good b
  la : 257 ≤ a.length
  la2 : a.length ≤ 286
  lb : 1 ≤ b.length
  lb2 : b.length ≤ 30
  has : Has a b (itsOf ts)
  end' : 0 < a.getD 256 0
theorem getD_pos_lt {l : List Int} {k : Nat} (h : 0 < l.getD k 0) : k < l.length := by
  rcases Nat.lt_or_ge k l.length with e | e
  · exact e
  · simp only [List.getD] at h
    rw [List.getElem?_eq_none e] at h
    simp at h
theorem symC_good {ts : List Tk} (hl : ts.length ≤ 3000) : GoodW (symC (itsOf ts)) 15 := by
  refine bumps_good 286 15 _ (by decide) ?_ (by decide) (by decide) (by decide)
  have h2 := itsOf_len ts
  unfold symK
  exact Nat.le_trans (List.length_filterMap_le _ _) (by omega)
theorem farC_good {ts : List Tk} (hl : ts.length ≤ 3000) : GoodW (farC (itsOf ts)) 15 := by
  refine bumps_good 30 15 _ (by decide) ?_ (by decide) (by decide) (by decide)
  have h2 := itsOf_len ts
  unfold farK
  exact Nat.le_trans (List.length_filterMap_le _ _) (by omega)
theorem symC_len (is : List It) : (symC is).length = 286 := by unfold symC; rw [bumps_length]; simp
theorem farC_len (is : List It) : (farC is).length = 30 := by unfold farC; rw [bumps_length]; simp
theorem symC_pos {is : List It} {k : Nat} (hk : k < 286) (h : It.sym k ∈ is) : 0 < (symC is).getD k 0 := by
  unfold symC
  rw [bumps_at _ _ k (by simpa using hk), zero_at]
  have := List.count_pos_iff.2 (mem_symK.2 h)
  omega
theorem farC_pos {is : List It} {k : Nat} (hk : k < 30) (h : It.far k ∈ is) : 0 < (farC is).getD k 0 := by
  unfold farC
  rw [bumps_at _ _ k (by simpa using hk), zero_at]
  have := List.count_pos_iff.2 (mem_farK.2 h)
  omega
theorem dyn_ok {ts : List Tk} {s f : List Int} (hv : ∀ t ∈ ts, VT t) (hl : ts.length ≤ 3000) (hs : IsLens (symC (itsOf ts)) 15 s) (hf : IsLens (farC (itsOf ts)) 15 f) : Dyn ts (trimL s 257) (trimL f 1) := by
  obtain ⟨g1, l1, v1, p1⟩ := lens_good (symC_good hl) hs
  obtain ⟨g2, l2, v2, p2⟩ := lens_good (farC_good hl) hf
  rw [symC_len] at l1 p1
  rw [farC_len] at l2 p2
  have hi := itsOf_vi hv
  have hA : ∀ k, It.sym k ∈ itsOf ts → k < (trimL s 257).length ∧ 0 < (trimL s 257).getD k 0 := by
    intro k hk
    have h286 : k < 286 := hi _ hk
    have hpos : 0 < (trimL s 257).getD k 0 := by rw [trimL_at]; exact p1 k h286 (symC_pos h286 hk)
    exact ⟨getD_pos_lt hpos, hpos⟩
  have hB : ∀ k, It.far k ∈ itsOf ts → k < (trimL f 1).length ∧ 0 < (trimL f 1).getD k 0 := by
    intro k hk
    have h30 : k < 30 := hi _ hk
    have hpos : 0 < (trimL f 1).getD k 0 := by rw [trimL_at]; exact p2 k h30 (farC_pos h30 hk)
    exact ⟨getD_pos_lt hpos, hpos⟩
  have t1 := trimF_ge s 257 s.length (by omega)
  have t2 := trimF_le s 257 s.length
  have t3 := trimF_ge f 1 f.length (by omega)
  have t4 := trimF_le f 1 f.length
  refine ⟨trim_good g1 257, trim_good g2 1, ?_, ?_, ?_, ?_, ⟨hA, hB⟩, (hA 256 (by simp [itsOf])).2⟩
  · rw [trimL_length]; exact t1
  · rw [trimL_length]; omega
  · rw [trimL_length]; exact t3
  · rw [trimL_length]; omega

/-! the code of lengths -/
theorem runZ_sym (x : Nat) (hx : x ≤ 15) : ∀ f m, ∀ i ∈ runZ x f m, i.1 < 19
  | 0, m, i, h => by cases h
  | f + 1, m, i, h => by
    rw [runZ] at h
    have ih := runZ_sym x hx f
    split at h
    · cases h
    · split at h
      · rcases List.mem_cons.1 h with rfl | h
        · simp only; omega
        · exact ih _ i h
      · split at h
        · rcases List.mem_cons.1 h with rfl | h
          · show 16 < 19; decide
          · exact ih _ i h
        · split at h
          · rcases List.mem_cons.1 h with rfl | h
            · show 17 < 19; decide
            · exact ih _ i h
          · rcases List.mem_cons.1 h with rfl | h
            · show 18 < 19; decide
            · exact ih _ i h
theorem runI_sym (x m : Nat) (hx : x ≤ 15) : ∀ i ∈ runI x m, i.1 < 19 := by
  intro i h
  unfold runI at h
  split at h
  · rcases List.mem_cons.1 h with rfl | h
    · simp only; omega
    · exact runZ_sym x hx _ _ i h
  · exact runZ_sym x hx _ _ i h
theorem lenI_sym : ∀ (f : Nat) (l : List Int), (∀ x ∈ l, 0 ≤ x ∧ x ≤ 15) → ∀ i ∈ lenI f l, i.1 < 19
  | 0, l, h, i, hi => by cases hi
  | f + 1, [], h, i, hi => by cases hi
  | f + 1, x :: r, h, i, hi => by
    have e : lenI (f + 1) (x :: r) = runI x.toNat (headN x r + 1) ++ lenI f (r.drop (headN x r)) := rfl
    rw [e] at hi
    rcases List.mem_append.1 hi with hi | hi
    · exact runI_sym _ _ (by have := h x (by simp); omega) i hi
    · exact lenI_sym f _ (fun y hy => h y (by simp [List.mem_of_mem_drop hy])) i hi
/-- how many lengths the items say, and how many bits these are -/
theorem runZ_bits (own : List Int) (hG : Good own) (h7 : ∀ k, own.getD k 0 ≤ 7) (x : Nat) : ∀ f m, (putRs own (runZ x f m)).length ≤ 7 * m ∧ (runZ x f m).length ≤ m
  | 0, m => by rw [runZ]; exact ⟨Nat.zero_le _, Nat.zero_le _⟩
  | f + 1, m => by
    have hc : ∀ k, (codeT own k).length ≤ 7 := fun k => by rw [code_len own hG]; have := h7 k; omega
    have ih := runZ_bits own hG h7 x f
    rw [runZ]
    split
    · exact ⟨Nat.zero_le _, Nat.zero_le _⟩
    · split
      · have := ih (m - 1); have := hc x; rw [putRs_cons, List.length_append, putR_len own hG, List.length_cons]; simp only; omega
      · split
        · have := ih (m - min m 6); have := hc 16; rw [putRs_cons, List.length_append, putR_len own hG, List.length_cons]; simp only; omega
        · split
          · have := ih 0; have := hc 17; rw [putRs_cons, List.length_append, putR_len own hG, List.length_cons]; simp only; omega
          · have := ih (m - min m 138); have := hc 18; rw [putRs_cons, List.length_append, putR_len own hG, List.length_cons]; simp only; omega
theorem runI_bits (own : List Int) (hG : Good own) (h7 : ∀ k, own.getD k 0 ≤ 7) (x m : Nat) (hm : 1 ≤ m) : (putRs own (runI x m)).length ≤ 7 * m ∧ (runI x m).length ≤ m := by
  have hc : ∀ k, (codeT own k).length ≤ 7 := fun k => by rw [code_len own hG]; have := h7 k; omega
  unfold runI
  split
  · have := runZ_bits own hG h7 x m (m - 1)
    have := hc x
    rw [putRs_cons, List.length_append, putR_len own hG, List.length_cons]
    simp only
    omega
  · exact runZ_bits own hG h7 x m m
theorem lenI_bits (own : List Int) (hG : Good own) (h7 : ∀ k, own.getD k 0 ≤ 7) : ∀ (f : Nat) (l : List Int), (putRs own (lenI f l)).length ≤ 7 * l.length ∧ (lenI f l).length ≤ l.length
  | 0, l => by rw [lenI]; exact ⟨Nat.zero_le _, Nat.zero_le _⟩
  | f + 1, [] => ⟨Nat.zero_le _, Nat.zero_le _⟩
  | f + 1, x :: r => by
    have e : lenI (f + 1) (x :: r) = runI x.toNat (headN x r + 1) ++ lenI f (r.drop (headN x r)) := rfl
    have h1 := runI_bits own hG h7 x.toNat (headN x r + 1) (by omega)
    have h2 := lenI_bits own hG h7 f (r.drop (headN x r))
    have h3 := headN_le x r
    rw [List.length_drop] at h2
    rw [e, putRs_app, List.length_append, List.length_append, List.length_cons]
    omega
theorem good_zero : Good (List.replicate 19 0) := by
  refine errL_good ?_
  decide +kernel
theorem lenIs_len (all : List Int) : (lenIs all).length ≤ all.length := (lenI_bits (List.replicate 19 0) good_zero (fun k => by rw [zero_at]; decide) _ all).2
structure Own (all own : List Int) : Prop where
  go : Good own
  lo : own.length = 19
  vo : ∀ k, 0 ≤ own.getD k 0 ∧ own.getD k 0 ≤ 7
  has : HasR own (lenIs all)
theorem runC_good {all : List Int} (hl : all.length ≤ 1000) : GoodW (runC (lenIs all)) 7 := by
  refine bumps_good 19 7 _ (by decide) ?_ (by decide) (by decide) (by decide)
  have := lenIs_len all
  simp
  omega
theorem runC_len (is : List (Nat × Nat × Nat)) : (runC is).length = 19 := by unfold runC; rw [bumps_length]; simp
theorem own_ok {all own : List Int} (hl : all.length ≤ 1000) (hx : ∀ x ∈ all, 0 ≤ x ∧ x ≤ 15) (hs : IsLens (runC (lenIs all)) 7 own) : Own all own := by
  obtain ⟨g1, l1, v1, p1⟩ := lens_good (runC_good hl) hs
  rw [runC_len] at l1 p1
  refine ⟨g1, l1, fun k => ?_, ?_⟩
  · have := v1 k
    simpa using this
  · intro i hi
    have h19 := lenI_sym _ all hx i hi
    refine ⟨by omega, p1 i.1 h19 ?_⟩
    unfold runC
    rw [bumps_at _ _ i.1 (by simpa using h19), zero_at]
    have := List.count_pos_iff.2 (List.mem_map.2 ⟨i, hi, rfl⟩ : i.1 ∈ (lenIs all).map Prod.fst)
    omega
theorem good_mem {l : List Int} (hG : Good l) : ∀ x ∈ l, 0 ≤ x ∧ x ≤ 15 := by
  intro x hm
  obtain ⟨j, hj, rfl⟩ := List.getElem_of_mem hm
  have := hG.ok j hj
  simpa [List.getD, hj] using this
end Go.Proofs.Ytoiioemkibfdcac

/-
  The even code; how many bits a plan takes at most; steps of the runs of lengths. Of lists alone.
-/
namespace Go.Proofs.Ytoiioemkibfdcac
set_option linter.unusedVariables false
set_option maxRecDepth 100000

theorem evenA_len : evenA.length = 257 := by decide
theorem evenB_len : evenB.length = 1 := rfl
theorem evenA_good : Good evenA := errL_good (by decide +kernel)
theorem evenB_good : Good evenB := errL_good (by decide +kernel)
theorem evenA_pos_all : (List.range 257).all (fun k => decide (0 < evenA.getD k 0)) = true := by decide +kernel
theorem evenA_pos {k : Nat} (h : k < 257) : 0 < evenA.getD k 0 := by
  have := List.all_eq_true.1 evenA_pos_all k (by simpa using h)
  exact of_decide_eq_true this
theorem evenT_length (bs : List Nat) : (evenT bs).length = bs.length := by simp [evenT]
theorem evenT_vt {bs : List Nat} (hb : ∀ j, bs.getD j 0 < 256) : ∀ t ∈ evenT bs, VT t := by
  intro t ht
  unfold evenT at ht
  obtain ⟨b, h1, rfl⟩ := List.mem_map.1 ht
  obtain ⟨j, hj, rfl⟩ := List.getElem_of_mem h1
  refine ⟨?_, .inl rfl⟩
  have := hb j
  simpa [List.getD, hj] using this
theorem evenT_its (bs : List Nat) : itsOf (evenT bs) = bs.map (fun b => It.sym b) ++ [.sym 256] := by
  unfold itsOf itsF evenT
  congr 1
  induction bs with
  | nil => rfl
  | cons b bs ih =>
    rw [List.map_cons, List.map_cons, List.flatMap_cons, ih]
    rfl
theorem even_dyn {bs : List Nat} (hb : ∀ j, bs.getD j 0 < 256) : Dyn (evenT bs) evenA evenB := by
  refine ⟨evenA_good, evenB_good, by rw [evenA_len]; decide, by rw [evenA_len]; decide, by rw [evenB_len]; decide, by rw [evenB_len]; decide, ⟨fun k hk => ?_, fun k hk => ?_⟩, evenA_pos (by decide)⟩
  · rw [evenT_its] at hk
    have h : k < 257 := by
      rcases List.mem_append.1 hk with h | h
      · obtain ⟨b, h1, h2⟩ := List.mem_map.1 h
        cases h2
        obtain ⟨j, hj, rfl⟩ := List.getElem_of_mem h1
        have := hb j
        simp [List.getD, hj] at this
        omega
      · simp at h; omega
    exact ⟨by rw [evenA_len]; exact h, evenA_pos h⟩
  · rw [evenT_its] at hk
    rcases List.mem_append.1 hk with h | h
    · obtain ⟨b, h1, h2⟩ := List.mem_map.1 h
      cases h2
    · simp at h

theorem ownN_le (own : List Int) : ∀ n, ownN own n ≤ n
  | 0 => Nat.le_refl _
  | n + 1 => by
    rw [ownN]
    have := ownN_le own n
    split <;> omega
theorem ownN_ge (own : List Int) : ∀ n, 4 ≤ n → 4 ≤ ownN own n
  | 0, h => h
  | n + 1, h => by
    rw [ownN]
    by_cases e : 4 < n + 1 ∧ own.getD (ord19.getD n 0) 0 = 0
    · rw [if_pos e]; exact ownN_ge own n (by omega)
    · rw [if_neg e]; exact h
theorem own3_len (own : List Int) : ∀ ks : List Nat, (ks.flatMap (fun k => numBits (own.getD k 0).toNat 3)).length = 3 * ks.length
  | [] => rfl
  | k :: ks => by
    rw [List.flatMap_cons, List.length_append, numBits_length, own3_len own ks, List.length_cons]
    omega
theorem headB_len {a b own : List Int} (h : Own (a ++ b) own) : (headB a b own).length ≤ 71 + 7 * (a.length + b.length) := by
  have h1 := lenI_bits own h.go (fun k => (h.vo k).2) (a ++ b).length (a ++ b)
  have h2 := ownN_le own 19
  unfold headB
  rw [List.length_append, List.length_append, List.length_append, List.length_append, numBits_length, numBits_length, numBits_length, own3_len]
  have h3 : (putRs own (lenIs (a ++ b))).length ≤ 7 * (a ++ b).length := h1.1
  rw [List.length_append] at h3
  have h4 : (ord19.take (ownN own 19)).length ≤ 19 := by rw [List.length_take]; omega
  omega

theorem lenI_fuel : ∀ (f : Nat) (l : List Int), l.length ≤ f → lenI f l = lenIs l := by
  intro f
  induction f using Nat.strongRecOn with
  | ind f ih =>
    intro l hl
    cases l with
    | nil => cases f <;> rfl
    | cons x r =>
      obtain ⟨f', rfl⟩ : ∃ f', f = f' + 1 := ⟨f - 1, by simp at hl; omega⟩
      have hh := headN_le x r
      have hl' : r.length ≤ f' := by simp at hl; omega
      have hd : (r.drop (headN x r)).length ≤ f' := by rw [List.length_drop]; omega
      have e1 : lenI (f' + 1) (x :: r) = runI x.toNat (headN x r + 1) ++ lenI f' (r.drop (headN x r)) := rfl
      have e2 : lenIs (x :: r) = runI x.toNat (headN x r + 1) ++ lenI r.length (r.drop (headN x r)) := rfl
      rw [e1, e2, ih f' (by omega) _ hd]
      by_cases e : r.length = f'
      · rw [e, ih f' (by omega) _ hd]
      · rw [ih r.length (by omega) _ (by rw [List.length_drop]; omega)]
theorem lenIs_cons (x : Int) (r : List Int) : lenIs (x :: r) = runI x.toNat (headN x r + 1) ++ lenIs (r.drop (headN x r)) := by
  have e2 : lenIs (x :: r) = runI x.toNat (headN x r + 1) ++ lenI r.length (r.drop (headN x r)) := rfl
  rw [e2, lenI_fuel _ _ (by rw [List.length_drop]; omega)]
theorem drop_int {r : List Int} {k : Nat} (hk : k < r.length) : r.drop k = r.getD k 0 :: r.drop (k + 1) := by
  rw [List.drop_eq_getElem_cons hk]
  simp [List.getD, hk]
theorem headN_next {x : Int} : ∀ (r : List Int) (k : Nat), k < r.length → r.getD k 0 = x → headN x r = k + headN x (r.drop k) → headN x r = (k + 1) + headN x (r.drop (k + 1)) := by
  intro r k hk hx h
  rw [h, drop_int hk, headN, if_pos hx]
  omega
theorem headN_stop {x : Int} (r : List Int) (k : Nat) (hk : k < r.length) (hx : r.getD k 0 ≠ x) (h : headN x r = k + headN x (r.drop k)) : headN x r = k := by
  rw [h, drop_int hk, headN, if_neg hx]
  omega
theorem headN_all {x : Int} (r : List Int) (k : Nat) (hk : r.length ≤ k) (h : headN x r = k + headN x (r.drop k)) : headN x r = k := by
  rw [h, List.drop_eq_nil_of_le hk, headN]
  omega
end Go.Proofs.Ytoiioemkibfdcac
