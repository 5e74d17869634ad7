/-
  Plain facts: the lengths make a code that leaves no room. No program is named here.
-/
import Derived.Test.YtfoaaamcpknjnadGreatQ33
import Derived.Test.YtfoaaamcpknjnadGreatQ32
import Derived.Test.YtfoaaamcpknjnadGreatQ4
namespace Go.Proofs.YtfoaaamcpknjnadGreat
open Go.RowKit
set_option linter.unusedVariables false

/-- what is taken at one length is taken at the shorter one -/
theorem alone_nested {W : List Int} (hW : Up W) (hp : ∀ x ∈ W, 0 < x) (q t : Nat) (ht : t ≤ (rowAt W (q + 1)).length) : alone (rowAt W q) (2 * (t - alone (rowAt W (q + 1)) t)) ≤ alone (rowAt W (q + 1)) t := by
  rcases Nat.lt_or_ge (alone (rowAt W (q + 1)) t) (alone (rowAt W q) (2 * (t - alone (rowAt W (q + 1)) t))) with h | h
  · exfalso
    have hb := pairs_le _ _ ht
    rw [rowAt_true, rowAt_len_succ] at hb
    have ha' := alone_le_all (rowAt W q) (2 * (t - alone (rowAt W (q + 1)) t))
    rw [rowAt_true] at ha'
    have hperm := mrg_take W (pairsAt W q) (2 * (t - alone (rowAt W (q + 1)) t))
    rw [← rowAt_mrg] at hperm
    have hle := alone_le (rowAt W q) (2 * (t - alone (rowAt W (q + 1)) t))
    have hbh := behind W (pairsAt W (q + 1)) t (alone (rowAt W (q + 1)) t) (t - alone (rowAt W (q + 1)) t - 1) hW (by rw [← rowAt_mrg]; exact Nat.le_refl _) (by omega) (by rw [← rowAt_mrg]; omega) (by rw [pairsAt, prs_length, List.length_map]; omega)
    generalize alone (rowAt W (q + 1)) t = a at *
    generalize hB : t - a = b at *
    have hmem : W.getD a 0 ∈ ((rowAt W q).take (2 * b)).map Prod.fst := hperm.mem_iff.2 (List.mem_append_left _ (mem_take_getD h (by omega)))
    have hL : 2 * b - 1 < ((rowAt W q).map Prod.fst).length := by rw [List.length_map]; omega
    have hlast : W.getD a 0 ≤ ((rowAt W q).map Prod.fst).getD (2 * b - 1) 0 := by
      rw [List.map_take] at hmem
      obtain ⟨i, hi, e⟩ := List.getElem_of_mem hmem
      have hi2 : i < 2 * b := by simp at hi; omega
      have hi3 : i < ((rowAt W q).map Prod.fst).length := by simp at hi; simp; omega
      have h1 := up_get (rowAt_up W hW q) (i := i) (j := 2 * b - 1) (by omega) hL
      have e2 : ((rowAt W q).map Prod.fst).getD i 0 = (((rowAt W q).map Prod.fst).take (2 * b))[i] := by simp only [List.getD, List.getElem?_eq_getElem hi3, Option.getD_some, List.getElem_take]
      rw [e2, e] at h1
      exact h1
    have hg : (pairsAt W (q + 1)).getD (b - 1) 0 = ((rowAt W q).map Prod.fst).getD (2 * (b - 1)) 0 + ((rowAt W q).map Prod.fst).getD (2 * (b - 1) + 1) 0 := prs_getD _ _ (by rw [List.length_map]; omega)
    have hpos : 0 < ((rowAt W q).map Prod.fst).getD (2 * (b - 1)) 0 := rowAt_pos W hp q _ (by
      have h3 : 2 * (b - 1) < ((rowAt W q).map Prod.fst).length := by omega
      simp only [List.getD, List.getElem?_eq_getElem h3, Option.getD_some]
      exact List.getElem_mem _)
    rw [show 2 * b - 1 = 2 * (b - 1) + 1 by omega] at hlast
    omega
  · exact h
theorem aloneAt_nested {W : List Int} {m : Nat} (hW : Up W) (hp : ∀ x ∈ W, 0 < x) (h1 : 1 ≤ W.length) (hm : 1 ≤ m) (hr : W.length ≤ 2 ^ m) (i : Nat) (hi : i + 1 < m) : aloneAt W m (i + 1) ≤ aloneAt W m i := by
  obtain ⟨q, hq⟩ : ∃ q, m - 1 - i = q + 1 := ⟨m - 1 - i - 1, by omega⟩
  have hq2 : m - 1 - (i + 1) = q := by omega
  have ht := takeAt_le W m h1 hm hr i (by omega)
  have h := alone_nested hW hp q (takeAt W m i) (by rw [← hq]; exact ht)
  unfold aloneAt
  rw [takeAt_succ, hq2, hq]
  unfold aloneAt
  rw [hq]
  exact h
theorem aloneAt_anti {W : List Int} {m : Nat} (hW : Up W) (hp : ∀ x ∈ W, 0 < x) (h1 : 1 ≤ W.length) (hm : 1 ≤ m) (hr : W.length ≤ 2 ^ m) : ∀ (k i : Nat), i + k < m → aloneAt W m (i + k) ≤ aloneAt W m i
  | 0, i, _ => Nat.le_refl _
  | k + 1, i, h => Nat.le_trans (aloneAt_nested hW hp h1 hm hr (i + k) (by omega)) (aloneAt_anti hW hp h1 hm hr k i (by omega))
theorem mem_take_mono {P : List Nat} {p i j : Nat} (h : p ∈ P.take i) (hij : i ≤ j) : p ∈ P.take j := by
  have : P.take i = (P.take j).take i := by rw [List.take_take, Nat.min_eq_left hij]
  rw [this] at h
  exact List.mem_of_mem_take h
/-- who is taken now was always taken -/
theorem hits_all {W : List Int} {m : Nat} (hW : Up W) (hp : ∀ x ∈ W, 0 < x) (h1 : 1 ≤ W.length) (hm : 1 ≤ m) (hr : W.length ≤ 2 ^ m) (P : List Nat) (p : Nat) (i : Nat) (hi : i < m) (h : p ∈ P.take (aloneAt W m i)) : ∀ j, j ≤ i → hits P W m p j = j
  | 0, _ => rfl
  | j + 1, hj => by
    have ha := aloneAt_anti hW hp h1 hm hr (i - j) j (by omega)
    rw [show j + (i - j) = i by omega] at ha
    rw [hits, hits_all hW hp h1 hm hr P p i hi h j (by omega), if_pos (mem_take_mono h ha)]
/-- what the places take of the room, behind i rounds -/
def vk (P : List Nat) (W : List Int) (m i : Nat) : Nat := nsum (P.map fun p => 2 ^ (m - hits P W m p i))
theorem nsum_take (P : List Nat) (hn : P.Nodup) (a k : Nat) (ha : a ≤ P.length) : nsum (P.map fun p => if p ∈ P.take a then k else 0) = a * k := by
  have e : P = P.take a ++ P.drop a := (List.take_append_drop a P).symm
  have hd : ∀ p ∈ P.drop a, p ∉ P.take a := by
    intro p hp h
    have h2 := hn
    rw [e] at h2
    exact (List.nodup_append.1 h2).2.2 p h p hp rfl
  have h1 : ∀ Q : List Nat, (∀ p ∈ Q, p ∈ P.take a) → nsum (Q.map fun p => if p ∈ P.take a then k else 0) = Q.length * k := by
    intro Q
    induction Q with
    | nil => intro _; simp [nsum]
    | cons q Q ih =>
      intro h
      rw [List.map_cons, nsum, if_pos (h q List.mem_cons_self), ih (fun p hp => h p (List.mem_cons_of_mem _ hp)), List.length_cons, Nat.succ_mul]
      omega
  have h2 : ∀ Q : List Nat, (∀ p ∈ Q, p ∉ P.take a) → nsum (Q.map fun p => if p ∈ P.take a then k else 0) = 0 := by
    intro Q
    induction Q with
    | nil => intro _; rfl
    | cons q Q ih =>
      intro h
      rw [List.map_cons, nsum, if_neg (h q List.mem_cons_self), ih (fun p hp => h p (List.mem_cons_of_mem _ hp))]
  have h3 : ∀ A B : List Nat, nsum (A ++ B) = nsum A + nsum B := by
    intro A B
    induction A with
    | nil => simp [nsum]
    | cons x A ih => rw [List.cons_append, nsum, nsum, ih]; omega
  have h4 : nsum (P.map fun p => if p ∈ P.take a then k else 0) = nsum ((P.take a).map fun p => if p ∈ P.take a then k else 0) + nsum ((P.drop a).map fun p => if p ∈ P.take a then k else 0) := by
    rw [← h3, ← List.map_append, List.take_append_drop]
  rw [h4, h1 _ (fun p hp => hp), h2 _ hd, List.length_take, Nat.min_eq_left ha, Nat.add_zero]
theorem vk_step {W : List Int} {m : Nat} (hW : Up W) (hp : ∀ x ∈ W, 0 < x) (h1 : 1 ≤ W.length) (hm : 1 ≤ m) (hr : W.length ≤ 2 ^ m) (P : List Nat) (hn : P.Nodup) (hl : W.length = P.length) (i : Nat) (hi : i < m) : vk P W m (i + 1) + aloneAt W m i * 2 ^ (m - 1 - i) = vk P W m i := by
  unfold vk
  rw [← nsum_take P hn (aloneAt W m i) (2 ^ (m - 1 - i)) (by rw [← hl]; exact aloneAt_le W m i), nsum_add]
  congr 1
  apply List.map_congr_left
  intro p _
  rw [hits]
  by_cases h : p ∈ P.take (aloneAt W m i)
  · rw [if_pos h, if_pos h, hits_all hW hp h1 hm hr P p i hi h i (Nat.le_refl _), show m - i = (m - 1 - i) + 1 by omega, show m - (i + 1) = m - 1 - i by omega, Nat.pow_succ]
    omega
  · rw [if_neg h, if_neg h]; rfl
/-- what was taken so far, by its worth -/
def zk (W : List Int) (m : Nat) : Nat → Nat
  | 0 => 0
  | i + 1 => zk W m i + aloneAt W m i * 2 ^ (m - 1 - i)
theorem vk_zk {W : List Int} {m : Nat} (hW : Up W) (hp : ∀ x ∈ W, 0 < x) (h1 : 1 ≤ W.length) (hm : 1 ≤ m) (hr : W.length ≤ 2 ^ m) (P : List Nat) (hn : P.Nodup) (hl : W.length = P.length) : ∀ i, i ≤ m → vk P W m i + zk W m i = P.length * 2 ^ m
  | 0, _ => by
    rw [zk, vk]
    simp only [hits, Nat.sub_zero]
    rw [nsum_const, Nat.add_zero]
  | i + 1, hi => by
    have ih := vk_zk hW hp h1 hm hr P hn hl i (by omega)
    have hs := vk_step hW hp h1 hm hr P hn hl i (by omega)
    rw [zk]
    omega
theorem zk_take (W : List Int) (m : Nat) (hm : 1 ≤ m) : ∀ i, i ≤ m → 2 * zk W m i + takeAt W m i * 2 ^ (m - i) = takeAt W m 0 * 2 ^ m
  | 0, _ => by simp [zk]
  | i + 1, hi => by
    have ih := zk_take W m hm i (by omega)
    have ha := aloneAt_take W m i
    have e : 2 ^ (m - i) = 2 * 2 ^ (m - 1 - i) := by rw [show m - i = (m - 1 - i) + 1 by omega, Nat.pow_succ, Nat.mul_comm]
    rw [zk, takeAt_succ, show m - (i + 1) = m - 1 - i by omega, ← ih, e]
    obtain ⟨d, hd⟩ : ∃ d, takeAt W m i = aloneAt W m i + d := ⟨takeAt W m i - aloneAt W m i, by omega⟩
    rw [hd, Nat.add_sub_cancel_left]
    generalize aloneAt W m i = a
    generalize 2 ^ (m - 1 - i) = z
    generalize zk W m i = y
    rw [Nat.add_mul, Nat.mul_add, Nat.mul_assoc 2 d z, Nat.mul_left_comm a 2 z, Nat.mul_left_comm d 2 z]
    omega
theorem take_last {W : List Int} {m : Nat} (h1 : 1 ≤ W.length) (hm : 1 ≤ m) (hr : W.length ≤ 2 ^ m) : takeAt W m m = 0 := by
  obtain ⟨q, rfl⟩ : ∃ q, m = q + 1 := ⟨m - 1, by omega⟩
  have h := takeAt_le W (q + 1) h1 hm hr q (by omega)
  rw [show q + 1 - 1 - q = 0 by omega] at h
  have hp := pairs_le _ _ h
  rw [rowAt_true] at hp
  have e : (rowAt W 0).length = W.length := by rw [rowAt, mrg_length]; simp
  rw [e] at hp
  rw [takeAt, show q + 1 - 1 - q = 0 by omega]
  omega
/-- they leave no room -/
theorem kraft {W : List Int} {m : Nat} (hW : Up W) (hp : ∀ x ∈ W, 0 < x) (h2 : 2 ≤ W.length) (hm : 1 ≤ m) (hr : W.length ≤ 2 ^ m) (P : List Nat) (hn : P.Nodup) (hl : W.length = P.length) : vk P W m m = 2 ^ m := by
  have h3 := vk_zk hW hp (by omega) hm hr P hn hl m (Nat.le_refl _)
  have h4 := zk_take W m hm m (Nat.le_refl _)
  rw [take_last (by omega) hm hr, Nat.zero_mul, Nat.add_zero, takeAt, Nat.mul_assoc] at h4
  have h5 : P.length * 2 ^ m = (W.length - 1) * 2 ^ m + 2 ^ m := by
    rw [← hl]
    obtain ⟨q, hq⟩ : ∃ q, W.length = q + 1 := ⟨W.length - 1, by omega⟩
    rw [hq, Nat.add_sub_cancel, Nat.succ_mul]
  omega

/-! ### the lengths themselves -/
theorem lens_kraft {l : List Int} {P : List Nat} {m : Nat} (hG : GoodW l m) (hP : RiseOf l P) (hn : 2 ≤ P.length) : nsum (P.map fun p => 2 ^ (m - ((lensOf l P m).getD p 0).toNat)) = 2 ^ m := by
  have hW : (P.map fun p => l.getD p 0).length = P.length := by simp
  have h := kraft hP.up hP.pos (by omega) hG.lo (by rw [hW, hP.length]; exact hG.room) P hP.nodup hW
  rw [← h]
  unfold vk
  congr 1
  apply List.map_congr_left
  intro p _
  unfold lensOf
  rw [if_neg (by omega), lensAt_getD _ _ _ _ _ hP.nodup hP.lt, Int.toNat_natCast]
/-- the cost over all that is wanted -/
theorem costK_wpl (l s : List Int) (hl : ∀ j, j < l.length → 0 ≤ l.getD j 0) : ∀ k, k ≤ l.length → costK l s k = lsum ((wpl l k).map fun p => l.getD p 0 * s.getD p 0)
  | 0, _ => rfl
  | k + 1, hk => by
    have h0 := hl k (by omega)
    rw [costK, wpl, List.map_append, lsum_append, costK_wpl l s hl k (by omega)]
    by_cases h : 0 < l.getD k 0
    · rw [if_pos h]; simp [lsum]
    · rw [if_neg h, show l.getD k 0 = 0 by omega]; simp [lsum]
theorem costK_rise {l s : List Int} {P : List Nat} (hl : ∀ j, j < l.length → 0 ≤ l.getD j 0) (hP : RiseOf l P) : costK l s l.length = lsum (P.map fun p => l.getD p 0 * s.getD p 0) := by
  rw [costK_wpl l s hl l.length (Nat.le_refl _)]
  exact lsum_perm (hP.perm.map _).symm
/-- whatever lengths there are that have room take no fewer -/
theorem best {l s o : List Int} {m : Nat} (hG : GoodW l m) (hs : IsLens l m s) (ho : ∀ p, p < l.length → 0 < l.getD p 0 → 1 ≤ o.getD p 0 ∧ o.getD p 0 ≤ m) (hr : nsum ((wpl l l.length).map fun p => 2 ^ (m - (o.getD p 0).toNat)) ≤ 2 ^ m) : costK l s l.length ≤ costK l o l.length := by
  obtain ⟨P, hP, rfl⟩ := hs
  have hnn : ∀ j, j < l.length → 0 ≤ l.getD j 0 := fun j hj => (hG.ok j hj).1
  rw [cost_lens hG hP, costK_rise hnn hP]
  have hW : (P.map fun p => l.getD p 0).length = P.length := by simp
  have hc : ∀ p ∈ P, 1 ≤ (o.getD p 0).toNat ∧ (o.getD p 0).toNat ≤ m := by
    intro p hp
    have h := (hP.mem p).1 hp
    have := ho p h.1 h.2
    omega
  have e : (P.map fun p => l.getD p 0 * o.getD p 0) = P.map fun p => l.getD p 0 * (((o.getD p 0).toNat : Nat) : Int) := by
    apply List.map_congr_left
    intro p hp
    have h := (hP.mem p).1 hp
    have := ho p h.1 h.2
    congr 1
    omega
  unfold least
  rw [hW]
  by_cases hn : P.length < 2
  · rw [if_pos hn]
    match P, hn, hP with
    | [], _, _ => simp [lsum]
    | [p], _, hP =>
      have h := (hP.mem p).1 (by simp)
      have h2 := ho p h.1 h.2
      simp only [List.map_cons, List.map_nil, lsum]
      have : l.getD p 0 * 1 ≤ l.getD p 0 * o.getD p 0 := Int.mul_le_mul_of_nonneg_left h2.1 (by omega)
      omega
    | p :: q :: P, hn, _ => simp at hn; omega
  · rw [if_neg hn, e]
    exact least_le l (fun p => (o.getD p 0).toNat) m P hP.up hP.pos (by omega) hG.lo hc (by
      rw [nsum_perm (hP.perm.map _)]; exact hr)
/-- with more room no more bits are taken -/
theorem less_more {l s s2 : List Int} {m : Nat} (hG : GoodW l m) (hs : IsLens l m s) (hG2 : GoodW l (m + 1)) (hs2 : IsLens l (m + 1) s2) : costK l s2 l.length ≤ costK l s l.length := by
  obtain ⟨P, hP, rfl⟩ := hs
  refine best hG2 hs2 (fun p h1 h2 => ?_) ?_
  · have h := lens_ok hG hP p
    have := h.2.2.2 ((hP.mem p).2 ⟨h1, h2⟩)
    omega
  · rw [← nsum_perm (hP.perm.map _)]
    by_cases hn : P.length < 2
    · match P, hn, hP with
      | [], _, _ => simp [nsum]
      | [p], _, hP =>
        simp only [List.map_cons, List.map_nil, nsum, Nat.add_zero]
        exact Nat.pow_le_pow_right (by decide) (by omega)
      | p :: q :: P, hn, _ => simp at hn; omega
    · have h := lens_kraft hG hP (by omega)
      have e : (P.map fun p => 2 ^ (m + 1 - ((lensOf l P m).getD p 0).toNat)) = P.map fun p => 2 * 2 ^ (m - ((lensOf l P m).getD p 0).toNat) := by
        apply List.map_congr_left
        intro p _
        have := (lens_ok hG hP p).2.1
        rw [show m + 1 - ((lensOf l P m).getD p 0).toNat = (m - ((lensOf l P m).getD p 0).toNat) + 1 by omega, Nat.pow_succ, Nat.mul_comm]
      rw [e, nsum_mul, h, Nat.pow_succ, Nat.mul_comm]
      exact Nat.le_refl _
end Go.Proofs.YtfoaaamcpknjnadGreat

/-
  Plain facts: what is wanted has one order alone; what the closed fact's four places come to. No program is named here.
-/
namespace Go.Proofs.YtfoaaamcpknjnadGreat
open Go.RowKit
set_option linter.unusedVariables false

/-- two rows of the same that rise are one -/
theorem perm_eq {α : Type} {R : α → α → Prop} (asy : ∀ a b, R a b → R b a → False) : ∀ (P Q : List α), P.Perm Q → P.Pairwise R → Q.Pairwise R → P = Q
  | [], Q, h, _, _ => by rw [List.nil_perm] at h; exact h.symm
  | p :: P, [], h, _, _ => by have := h.length_eq; simp at this
  | p :: P, q :: Q, h, hp, hq => by
    rw [List.pairwise_cons] at hp hq
    have e : p = q := by
      have h1 : p ∈ q :: Q := h.mem_iff.1 List.mem_cons_self
      have h2 : q ∈ p :: P := h.mem_iff.2 List.mem_cons_self
      rcases List.mem_cons.1 h1 with h1 | h1
      · exact h1
      · rcases List.mem_cons.1 h2 with h2 | h2
        · exact h2.symm
        · exact absurd (hq.1 p h1) (fun h => asy _ _ h (hp.1 q h2))
    subst e
    rw [perm_eq asy P Q ((List.perm_cons p).1 h) hp.2 hq.2]
theorem RiseOf.one {l : List Int} {P Q : List Nat} (h : RiseOf l P) (k : RiseOf l Q) : P = Q :=
  perm_eq (R := fun a b => l.getD a 0 < l.getD b 0 ∨ (l.getD a 0 = l.getD b 0 ∧ a < b)) (fun a b h1 h2 => by omega) P Q (h.perm.trans k.perm.symm) h.srt k.srt

theorem rise4 : RiseOf [1, 1, 2, 4] [0, 1, 2, 3] := ⟨by decide, by decide⟩
theorem lens4_15 {s : List Int} (h : IsLens [1, 1, 2, 4] 15 s) : s = [3, 3, 2, 1] := by
  obtain ⟨P, hP, rfl⟩ := h
  rw [hP.one rise4]
  decide
theorem lens4_2 {s : List Int} (h : IsLens [1, 1, 2, 4] 2 s) : s = [2, 2, 2, 2] := by
  obtain ⟨P, hP, rfl⟩ := h
  rw [hP.one rise4]
  decide
theorem goodW4 (m : Nat) (h : m = 15 ∨ m = 2) : GoodW [1, 1, 2, 4] m := by
  have hok : ∀ j, j < ([1, 1, 2, 4] : List Int).length → 0 ≤ ([1, 1, 2, 4] : List Int).getD j 0 ∧ ([1, 1, 2, 4] : List Int).getD j 0 ≤ 1000000 := by
    intro j hj
    match j, hj with
    | 0, _ => decide
    | 1, _ => decide
    | 2, _ => decide
    | 3, _ => decide
  rcases h with rfl | rfl
  · exact ⟨by decide, hok, by decide, by decide, by decide⟩
  · exact ⟨by decide, hok, by decide, by decide, by decide⟩
end Go.Proofs.YtfoaaamcpknjnadGreat

/-
  What lengths take: of lists alone.
-/
namespace Go.Proofs.YtfoaaamcpknjnadGreat
open Go.RowKit
set_option linter.unusedVariables false
set_option maxRecDepth 100000

/-- what the first k lengths take -/
def roomN (l : List Int) : Nat → Nat
  | 0 => 0
  | k + 1 => roomN l k + (if 0 < l.getD k 0 then 2 ^ (15 - (l.getD k 0).toNat) else 0)
theorem roomN_le (l : List Int) : ∀ k, roomN l k ≤ 32768 * k
  | 0 => by simp [roomN]
  | k + 1 => by
    have ih := roomN_le l k
    have : 2 ^ (15 - (l.getD k 0).toNat) ≤ 32768 := by
      have := Nat.pow_le_pow_right (n := 2) (by decide) (show 15 - (l.getD k 0).toNat ≤ 15 by omega)
      omega
    rw [roomN]
    split <;> omega
theorem roomN_taken (l : List Int) (hok : ∀ j, j < l.length → 0 ≤ l.getD j 0 ∧ l.getD j 0 ≤ 15) : ∀ k, k ≤ l.length → roomN l k = takenN (cnt (l.take k)) 15
  | 0, _ => by
    show 0 = takenN (cnt []) 15
    decide
  | k + 1, hk => by
    have ih := roomN_taken l hok k (by omega)
    have hkl : k < l.length := by omega
    obtain ⟨m, hm⟩ := Int.eq_ofNat_of_zero_le (hok k hkl).1
    have h15 := (hok k hkl).2
    rw [roomN, ih, ← cnt_next l hkl hm, hm]
    rw [hm] at h15
    by_cases h0 : m = 0
    · subst h0
      rw [taken_upd0]; simp
    · rw [taken_upd _ m (by omega) (by omega) 15 (by omega), if_pos (show (0 : Int) < (m : Int) by omega), if_pos (by omega), Int.toNat_natCast]
end Go.Proofs.YtfoaaamcpknjnadGreat

/-
  The lengths leave no room; whatever code there is takes no fewer bits.
-/
namespace Go.Proofs.YtfoaaamcpknjnadGreat
open Go.RowKit
set_option linter.unusedVariables false

theorem room_lens {l : List Int} {P : List Nat} {m : Nat} (hG : GoodW l m) (hP : RiseOf l P) (hn : 2 ≤ P.length) : takenN (cnt (lensOf l P m)) 15 = 32768 := by
  have hm15 := hG.hi
  have hle : ∀ j, 0 ≤ (lensOf l P m).getD j 0 ∧ (lensOf l P m).getD j 0 ≤ 15 := fun j => by have := lens_ok hG hP j; omega
  have h2 := roomN_taken (lensOf l P m) (fun j _ => hle j) (lensOf l P m).length (Nat.le_refl _)
  rw [List.take_length, lensOf_length] at h2
  rw [← h2]
  have hk := lens_kraft hG hP hn
  have h3 : ∀ A B : List Nat, nsum (A ++ B) = nsum A + nsum B := by
    intro A B
    induction A with
    | nil => simp [nsum]
    | cons x A ih => rw [List.cons_append, nsum, nsum, ih]; omega
  have h4 : ∀ k, k ≤ l.length → roomN (lensOf l P m) k = nsum ((wpl l k).map fun p => 2 ^ (15 - ((lensOf l P m).getD p 0).toNat)) := by
    intro k
    induction k with
    | zero => intro _; rfl
    | succ k ih =>
      intro hk
      rw [wpl, List.map_append, h3, roomN, ih (by omega)]
      have hx := lens_ok hG hP k
      by_cases h : 0 < l.getD k 0
      · rw [if_pos h, if_pos (hx.2.2.2 ((hP.mem k).2 ⟨by omega, h⟩))]
        simp [nsum]
      · rw [if_neg h, if_neg (fun h5 => h ((hP.mem k).1 (hx.2.2.1 h5)).2)]
        simp [nsum]
  rw [h4 l.length (Nat.le_refl _), ← nsum_perm (hP.perm.map _)]
  have e : (P.map fun p => 2 ^ (15 - ((lensOf l P m).getD p 0).toNat)) = P.map fun p => 2 ^ (15 - m) * 2 ^ (m - ((lensOf l P m).getD p 0).toNat) := by
    apply List.map_congr_left
    intro p hp
    have := lens_ok hG hP p
    rw [← Nat.pow_add]
    congr 1
    omega
  rw [e, nsum_mul, hk, ← Nat.pow_add, show 15 - m + m = 15 by omega]
theorem lens_one {l : List Int} {P : List Nat} {m : Nat} (hP : RiseOf l P) (hn : P.length = 1) : (∀ j, (lensOf l P m).getD j 0 ≤ 1) ∧ ∃ p, p < l.length ∧ (lensOf l P m).getD p 0 = 1 := by
  have e : ∀ j, (lensOf l P m).getD j 0 = if j ∈ P then 1 else 0 := by
    intro j
    unfold lensOf
    rw [if_pos (by omega), bumps_getD j P _ hP.nodup (fun q hq => by simpa using hP.lt q hq)]
    have e : (List.replicate l.length (0 : Int)).getD j 0 = 0 := by by_cases h : j < l.length <;> simp [List.getD, h]
    rw [e]; omega
  refine ⟨fun j => by rw [e]; split <;> omega, ?_⟩
  match P, hn, hP with
  | [p], _, hP => exact ⟨p, hP.lt p (by simp), by rw [e]; simp⟩
/-- a code that has room leaves it to what is wanted -/
theorem room_wpl (l o : List Int) (ho : ∀ p, p < l.length → 0 < l.getD p 0 → 0 < o.getD p 0) : ∀ k, k ≤ l.length → nsum ((wpl l k).map fun p => 2 ^ (15 - (o.getD p 0).toNat)) ≤ roomN o k
  | 0, _ => Nat.zero_le _
  | k + 1, hk => by
    have ih := room_wpl l o ho k (by omega)
    have h3 : ∀ A B : List Nat, nsum (A ++ B) = nsum A + nsum B := by
      intro A B
      induction A with
      | nil => simp [nsum]
      | cons x A ih => rw [List.cons_append, nsum, nsum, ih]; omega
    rw [wpl, List.map_append, h3, roomN]
    by_cases h : 0 < l.getD k 0
    · rw [if_pos h, if_pos (ho k (by omega) h)]
      simp only [List.map_cons, List.map_nil, nsum]
      omega
    · rw [if_neg h]
      simp only [List.map_nil, nsum]
      omega
/-- whatever code there is takes no fewer -/
theorem any_code {l s o : List Int} {m : Nat} (hG : GoodW l m) (hs : IsLens l m s) (hl : o.length = l.length) (hO : Good o) (hmx : ∀ j, j < l.length → o.getD j 0 ≤ m) (he : errC l o = 0) : costK l s l.length ≤ costK l o l.length := by
  have hok : ∀ j, j < l.length → okC (l.getD j 0) (o.getD j 0) = true := by
    intro j hj
    cases e : okC (l.getD j 0) (o.getD j 0) with
    | true => rfl
    | false =>
      exfalso
      unfold errC at he
      have h15 := good_errW (hG.more hG.hi (Nat.le_refl 15))
      rw [if_neg (by omega), if_neg (fun h => h h15), if_pos ⟨j, hj, e⟩] at he
      cases he
  have hw : ∀ p, p < l.length → 0 < l.getD p 0 → 1 ≤ o.getD p 0 ∧ o.getD p 0 ≤ m := by
    intro p h1 h2
    have h3 := of_decide_eq_true (hok p h1)
    refine ⟨?_, hmx p h1⟩
    rcases Int.lt_or_le 0 (o.getD p 0) with h4 | h4
    · omega
    · exact absurd h2 (h3.2.2 (by omega))
  refine best hG hs hw ?_
  have h1 := room_wpl l o (fun p a b => by have := hw p a b; omega) l.length (Nat.le_refl _)
  have h2 := roomN_taken o hO.ok o.length (Nat.le_refl _)
  rw [List.take_length] at h2
  have h3 := hO.room
  rw [hl] at h2
  have hm15 := hG.hi
  have e : ((wpl l l.length).map fun p => 2 ^ (15 - (o.getD p 0).toNat)) = (wpl l l.length).map fun p => 2 ^ (15 - m) * 2 ^ (m - (o.getD p 0).toNat) := by
    apply List.map_congr_left
    intro p hp
    have hp' := (mem_wpl l p l.length).1 hp
    have := hw p hp'.1 hp'.2
    rw [← Nat.pow_add]
    congr 1
    omega
  rw [e, nsum_mul] at h1
  have h4 : 2 ^ (15 - m) * nsum ((wpl l l.length).map fun p => 2 ^ (m - (o.getD p 0).toNat)) ≤ 2 ^ (15 - m) * 2 ^ m := by
    rw [← Nat.pow_add, show 15 - m + m = 15 by omega]
    omega
  exact Nat.le_of_mul_le_mul_left h4 (Nat.pow_pos (by decide))

end Go.Proofs.YtfoaaamcpknjnadGreat
