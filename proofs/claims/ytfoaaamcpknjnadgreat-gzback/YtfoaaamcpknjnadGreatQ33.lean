/-
  check; what Cost answers, of lists alone.
-/
import Derived.Test.YtfoaaamcpknjnadGreatQ24
import Derived.Test.YtfoaaamcpknjnadGreatQ0
import Derived.Test.YtfoaaamcpknjnadGreatQ32
namespace Go.Proofs.YtfoaaamcpknjnadGreat
open Go.RowKit
set_option linter.unusedVariables false

theorem check_many (a : Option Addr) (len cap : Nat) (most : Int) (w : World) (hm : 288 < len) (hM : len ≤ 9223372036854775807) :
    Calls Tryz.prog 142 #[.slice a len cap, .int .i64 most] w fun e w' => e = .returned (.int .i64 2) ∧ w' = w := by
  have h : (288 : Int) < (len : Int) := by omega
  go_enter Tryz.func142, Tryz.ntmps142
  go_wp2
  go_ret
  exact ⟨rfl, rfl⟩

theorem check_bad (a : Option Addr) (len cap : Nat) (l : List Int) (most : Int) (w : World) (hl : l.length = len) (hm : len ≤ 288) (hR : RowIn .i64 w a l) (j0 : Nat) (hj0 : j0 < len) (hbad : okW (l.getD j0 0) = false) (hf : ∀ j, j < j0 → okW (l.getD j 0) = true) :
    Calls Tryz.prog 142 #[.slice a len cap, .int .i64 most] w fun e w' => e = .returned (.int .i64 3) ∧ w' = w := by
  obtain ⟨b, o, rfl, hb, hR⟩ : ∃ b o, a = some ⟨b, o, none⟩ ∧ b < w.heap.size ∧ Row .i64 w b o l := by
    rcases hR with rfl | h
    · simp at hl; omega
    · exact h
  have HR := hide hR
  have HF := hide hf
  clear hR hf
  go_enter Tryz.func142, Tryz.ntmps142
  go_wp2
  go_loop [5, 7, 13] (fun u y i => ∃ k : Nat, k ≤ j0 ∧ i = .int .i64 (k : Int) ∧ u = .int .i64 (((wpl l k).length : Nat) : Int)) (fun _ _ i => len - (intOf i).toNat)
  case atStart => exact ⟨0, Nat.zero_le _, rfl, rfl⟩
  case round =>
    obtain ⟨k, hk, rfl, rfl⟩ := hrel
    have hle := wpl_le l k
    have c1 := unhide HR k (by omega)
    by_cases hlt : k < j0
    · have hx := okW_true (unhide HF k hlt)
      have HU : Hid ((wpl l (k + 1)).length = (wpl l k).length + (if 0 < l.getD k 0 then 1 else 0)) := by rw [wpl, List.length_append]; unfold Hid; split <;> simp
      generalize l.getD k 0 = x at *
      generalize (wpl l k).length = u at *
      obtain ⟨hx1, hx2⟩ := hx
      by_cases h0 : 0 < x
      · rw [if_pos h0] at HU
        go_wp2
        go_round
        case rel => exact ⟨k + 1, by omega, by go_num, by rw [unhide HU]; go_num⟩
        case measure => simp [intOf]; omega
      · rw [if_neg h0] at HU
        go_wp2
        go_round
        case rel => exact ⟨k + 1, by omega, by go_num, by rw [unhide HU]; rfl⟩
        case measure => simp [intOf]; omega
    · obtain rfl : k = j0 := by omega
      generalize l.getD k 0 = x at *
      generalize (wpl l k).length = u at *
      have hno := okW_false hbad
      have hg : x < 0 ∨ 1000000 < x := by omega
      clear hno hbad
      rcases hg with hg | hg
      · go_wp2
        go_ret
        exact ⟨rfl, rfl⟩
      · have hg0 : ¬ (x < 0) := by omega
        go_wp2
        go_ret
        exact ⟨rfl, rfl⟩

set_option maxHeartbeats 1000000 in
theorem check_good (a : Option Addr) (len cap : Nat) (l : List Int) (most : Int) (w : World) (hl : l.length = len) (hm : len ≤ 288) (hR : RowIn .i64 w a l) (hf : ∀ j, j < len → okW (l.getD j 0) = true) (r : Int) (hr : Hid (r = if ¬ (1 ≤ most ∧ most ≤ 15) then 3 else if 2 ^ most.toNat < (wpl l len).length then 11 else 0)) :
    Calls Tryz.prog 142 #[.slice a len cap, .int .i64 most] w fun e w' => e = .returned (.int .i64 r) ∧ w' = w := by
  have HR := hide hR
  have HF := hide hf
  clear hR hf
  go_enter Tryz.func142, Tryz.ntmps142
  go_wp2
  go_loop [5, 7, 13] (fun u y i => ∃ k : Nat, k ≤ len ∧ i = .int .i64 (k : Int) ∧ u = .int .i64 (((wpl l k).length : Nat) : Int)) (fun _ _ i => len - (intOf i).toNat)
  case atStart => exact ⟨0, Nat.zero_le _, rfl, rfl⟩
  case round =>
    obtain ⟨k, hk, rfl, rfl⟩ := hrel
    have hle := wpl_le l k
    by_cases hlt : k < len
    · have hlk : k < l.length := by omega
      obtain ⟨b, o, rfl, hb, hRw⟩ : ∃ b o, a = some ⟨b, o, none⟩ ∧ b < w.heap.size ∧ Row .i64 w b o l := by
        rcases unhide HR with rfl | h
        · simp at hlk
        · exact h
      have c1 := hRw k hlk
      have hx := okW_true (unhide HF k hlt)
      have HU : Hid ((wpl l (k + 1)).length = (wpl l k).length + (if 0 < l.getD k 0 then 1 else 0)) := by rw [wpl, List.length_append]; unfold Hid; split <;> simp
      clear hRw
      generalize l.getD k 0 = x at *
      generalize (wpl l k).length = u at *
      obtain ⟨hx1, hx2⟩ := hx
      by_cases h0 : 0 < x
      · rw [if_pos h0] at HU
        go_wp2
        go_round
        case rel => exact ⟨k + 1, by omega, by go_num, by rw [unhide HU]; go_num⟩
        case measure => simp [intOf]; omega
      · rw [if_neg h0] at HU
        go_wp2
        go_round
        case rel => exact ⟨k + 1, by omega, by go_num, by rw [unhide HU]; rfl⟩
        case measure => simp [intOf]; omega
    · obtain rfl : k = len := by omega
      generalize (wpl l k).length = u at *
      by_cases hlo : most < 1
      · have HE : Hid (r = 3) := by rw [unhide hr, if_pos (by omega)]; exact rfl
        go_wp2
        go_ret
        exact ⟨by rw [unhide HE]; rfl, rfl⟩
      · by_cases hhi : 15 < most
        · have HE : Hid (r = 3) := by rw [unhide hr, if_pos (by omega)]; exact rfl
          go_wp2
          go_ret
          exact ⟨by rw [unhide HE]; rfl, rfl⟩
        · obtain ⟨m, rfl⟩ := Int.eq_ofNat_of_zero_le (show 0 ≤ most by omega)
          rw [if_neg (by omega)] at hr
          have HW : Hid (wrap64 (2 ^ m) = ((2 ^ m : Nat) : Int)) := by
            have h1 : 2 ^ m ≤ 2 ^ 15 := Nat.pow_le_pow_right (by decide) (by omega)
            have h2 : ((2 : Int) ^ m) = ((2 ^ m : Nat) : Int) := by push_cast; rfl
            unfold Hid
            rw [h2]
            generalize 2 ^ m = q at *
            unfold wrap64
            omega
          go_wp2
          · have h5 : wrap64 (2 ^ m) < (u : Int) := by assumption
            rw [unhide HW] at h5
            have HE : r = 11 := by rw [unhide hr, if_pos (by simp; omega)]
            go_ret
            exact ⟨by rw [HE]; rfl, rfl⟩
          · have h5 : (u : Int) ≤ wrap64 (2 ^ m) := by assumption
            rw [unhide HW] at h5
            have HE : r = 0 := by rw [unhide hr, if_neg (by simp; omega)]
            go_ret
            exact ⟨by rw [HE]; rfl, rfl⟩

theorem check_any (a : Option Addr) (len cap : Nat) (l : List Int) (most : Int) (w : World) (hl : l.length = len) (hM : len ≤ 9223372036854775807) (hR : RowIn .i64 w a l) :
    Calls Tryz.prog 142 #[.slice a len cap, .int .i64 most] w fun e w' => e = .returned (.int .i64 (errW l most)) ∧ w' = w := by
  by_cases hm : 288 < len
  · have e : errW l most = 2 := by unfold errW; rw [if_pos (by omega)]
    rw [e]
    exact check_many a len cap most w hm hM
  · rcases first_bad (fun j => okW (l.getD j 0)) len with hf | ⟨j0, hj0, hbad, hf⟩
    · have hn : ¬ ∃ j, j < l.length ∧ okW (l.getD j 0) = false := by
        rintro ⟨j, hj, e⟩
        have := hf j (by omega)
        simp only [e] at this
        cases this
      exact check_good a len cap l most w hl (by omega) hR hf _ (by unfold errW; rw [if_neg (by omega), if_neg hn, hl]; exact rfl)
    · have e : errW l most = 3 := by unfold errW; rw [if_neg (by omega), if_pos ⟨j0, by omega, hbad⟩]
      rw [e]
      exact check_bad a len cap l most w hl (by omega) hR j0 hj0 hbad hf

/-- how many bits all that is wanted takes, of the first k places -/
def costK (l s : List Int) : Nat → Int
  | 0 => 0
  | k + 1 => costK l s k + l.getD k 0 * s.getD k 0
/-- a length that Cost takes -/
def okC (x n : Int) : Bool := decide (0 ≤ n ∧ n ≤ 15 ∧ (n = 0 → ¬ 0 < x))
/-- Cost's error -/
def errC (l s : List Int) : Int := if l.length ≠ s.length then 4 else if errW l 15 ≠ 0 then errW l 15 else if ∃ j, j < l.length ∧ okC (l.getD j 0) (s.getD j 0) = false then 3 else 0

theorem costK_le (l s : List Int) (hl : ∀ j, j < l.length → 0 ≤ l.getD j 0 ∧ l.getD j 0 ≤ 1000000) (hs : ∀ j, j < l.length → 0 ≤ s.getD j 0 ∧ s.getD j 0 ≤ 15) : ∀ k, k ≤ l.length → 0 ≤ costK l s k ∧ costK l s k ≤ 15000000 * k
  | 0, _ => by simp [costK]
  | k + 1, hk => by
    have ih := costK_le l s hl hs k (by omega)
    have h1 := hl k (by omega)
    have h2 := hs k (by omega)
    have h3 : 0 ≤ l.getD k 0 * s.getD k 0 := Int.mul_nonneg h1.1 h2.1
    have h4 : l.getD k 0 * s.getD k 0 ≤ 1000000 * 15 := Int.le_trans (Int.mul_le_mul_of_nonneg_right h1.2 h2.1) (Int.mul_le_mul_of_nonneg_left h2.2 (by decide))
    rw [costK]
    omega
end Go.Proofs.YtfoaaamcpknjnadGreat

/-
  Plain facts: what the lengths cost, and that Cost takes them. No program is named here.
-/
namespace Go.Proofs.YtfoaaamcpknjnadGreat
open Go.RowKit
set_option linter.unusedVariables false

theorem costK_bump (l xs : List Int) (p : Nat) (hp : p < xs.length) : ∀ k, costK l (bump xs p) k = costK l xs k + (if p < k then l.getD p 0 else 0)
  | 0 => by simp [costK]
  | k + 1 => by
    rw [costK, costK, costK_bump l xs p hp k]
    have e : (bump xs p).getD k 0 = if p = k then xs.getD p 0 + 1 else xs.getD k 0 := by
      unfold bump
      rw [getD_setI]
      by_cases h : p = k
      · rw [if_pos ⟨h, hp⟩, if_pos h]
      · rw [if_neg (fun h2 => h h2.1), if_neg h]
    rw [e]
    by_cases h : p = k
    · subst h
      rw [if_pos rfl, if_neg (by omega), if_pos (by omega), Int.mul_add, Int.mul_one]
      omega
    · rw [if_neg h]
      by_cases h2 : p < k
      · rw [if_pos h2, if_pos (by omega)]; omega
      · rw [if_neg h2, if_neg (by omega)]; omega
theorem costK_bumps (l : List Int) (k : Nat) : ∀ (ps : List Nat) (xs : List Int), (∀ p ∈ ps, p < xs.length ∧ p < k) → costK l (bumps xs ps) k = costK l xs k + lsum (ps.map fun p => l.getD p 0)
  | [], xs, _ => by simp [bumps, lsum]
  | p :: ps, xs, h => by
    have hp := h p List.mem_cons_self
    have ih := costK_bumps l k ps (bump xs p) (fun q hq => by rw [bump_length]; exact h q (List.mem_cons_of_mem _ hq))
    show costK l (bumps (bump xs p) ps) k = _
    rw [ih, costK_bump l xs p hp.1, if_pos hp.2, List.map_cons, lsum]
    omega
theorem costK_zero (l : List Int) (n : Nat) : ∀ k, costK l (List.replicate n 0) k = 0
  | 0 => rfl
  | k + 1 => by
    rw [costK, costK_zero l n k]
    have : (List.replicate n (0 : Int)).getD k 0 = 0 := by by_cases h : k < n <;> simp [List.getD, h]
    rw [this]; simp

/-- what is taken in the first i rounds -/
def takenS (W : List Int) (m : Nat) : Nat → Int
  | 0 => 0
  | i + 1 => takenS W m i + lsum (W.take (aloneAt W m i))
theorem costK_lensAt (l : List Int) (P : List Nat) (m : Nat) (hP : ∀ p ∈ P, p < l.length) : ∀ i, costK l (lensAt l.length P (P.map fun p => l.getD p 0) m i) l.length = takenS (P.map fun p => l.getD p 0) m i
  | 0 => costK_zero _ _ _
  | i + 1 => by
    rw [lensAt, costK_bumps, costK_lensAt l P m hP i, takenS, List.map_take]
    intro p hp
    rw [lensAt_length]
    have := hP p (List.mem_of_mem_take hp)
    exact ⟨this, this⟩
theorem lsum_prs : ∀ (ys : List Int) (c : Nat), 2 * c ≤ ys.length → lsum ((prs ys).take c) = lsum (ys.take (2 * c))
  | ys, 0, _ => by simp [lsum]
  | [], c + 1, h => by simp at h
  | [y], c + 1, h => by simp only [List.length_cons, List.length_nil] at h; omega
  | x :: y :: t, c + 1, h => by
    have ih := lsum_prs t c (by simp only [List.length_cons] at h; omega)
    rw [prs, List.take_succ_cons, lsum, ih, show 2 * (c + 1) = 2 * c + 1 + 1 by omega, List.take_succ_cons, List.take_succ_cons, lsum, lsum]
    omega
/-- the first t of row k -/
def psum (W : List Int) (k t : Nat) : Int := lsum (((rowAt W k).take t).map Prod.fst)
theorem psum_parts (W : List Int) (k t : Nat) : psum W k t = lsum (W.take (alone (rowAt W k) t)) + lsum ((pairsAt W k).take (t - alone (rowAt W k) t)) := by
  have h := mrg_take W (pairsAt W k) t
  rw [← rowAt_mrg] at h
  unfold psum
  rw [lsum_perm h, lsum_append]
theorem psum_taken (W : List Int) (m : Nat) (hW : 1 ≤ W.length) (hm : 1 ≤ m) (hr : W.length ≤ 2 ^ m) : ∀ i, i < m → psum W (m - 1) (takeAt W m 0) = takenS W m i + psum W (m - 1 - i) (takeAt W m i)
  | 0, _ => by simp [takenS]
  | i + 1, hi => by
    rw [psum_taken W m hW hm hr i (by omega), takenS, psum_parts]
    obtain ⟨q, hq⟩ : ∃ q, m - 1 - i = q + 1 := ⟨m - 1 - i - 1, by omega⟩
    have hq2 : m - 1 - (i + 1) = q := by omega
    have ht := takeAt_le W m hW hm hr (i + 1) hi
    rw [takeAt_succ, hq2] at ht
    have e : lsum ((pairsAt W (m - 1 - i)).take (takeAt W m i - alone (rowAt W (m - 1 - i)) (takeAt W m i))) = psum W q (takeAt W m (i + 1)) := by
      rw [hq, pairsAt, lsum_prs _ _ (by rw [List.length_map]; unfold aloneAt at ht; rw [hq] at ht; exact ht), psum, List.map_take, takeAt, hq]
    rw [e, hq2]
    unfold aloneAt
    omega
theorem taken_all (W : List Int) (m : Nat) (hW : 1 ≤ W.length) (hm : 1 ≤ m) (hr : W.length ≤ 2 ^ m) : takenS W m m = psum W (m - 1) (takeAt W m 0) := by
  obtain ⟨q, rfl⟩ : ∃ q, m = q + 1 := ⟨m - 1, by omega⟩
  have h := psum_taken W (q + 1) hW hm hr q (by omega)
  rw [h, takenS, psum_parts]
  have e : q + 1 - 1 - q = 0 := by omega
  unfold aloneAt
  rw [e, pairsAt]
  simp [lsum]

/-- how few bits these can take -/
def least (W : List Int) (m : Nat) : Int := if W.length < 2 then lsum W else psum W (m - 1) (2 * (W.length - 1))
theorem cost_lens {l : List Int} {P : List Nat} {m : Nat} (hG : GoodW l m) (hP : RiseOf l P) : costK l (lensOf l P m) l.length = least (P.map fun p => l.getD p 0) m := by
  have hW : (P.map fun p => l.getD p 0).length = P.length := by simp
  unfold lensOf least
  rw [hW]
  by_cases h : P.length < 2
  · rw [if_pos h, if_pos h, costK_bumps, costK_zero]
    · omega
    · intro p hp
      have := hP.lt p hp
      simp; omega
  · rw [if_neg h, if_neg h, costK_lensAt l P m hP.lt, taken_all _ _ (by rw [hW]; omega) hG.lo (by rw [hW, hP.length]; exact hG.room), takeAt, hW]

theorem bumps_getD (p : Nat) : ∀ (ps : List Nat) (xs : List Int), ps.Nodup → (∀ q ∈ ps, q < xs.length) → (bumps xs ps).getD p 0 = xs.getD p 0 + (if p ∈ ps then 1 else 0)
  | [], xs, _, _ => by simp [bumps]
  | q :: ps, xs, hn, h => by
    have hn' := List.nodup_cons.1 hn
    have ih := bumps_getD p ps (bump xs q) hn'.2 (fun r hr => by rw [bump_length]; exact h r (List.mem_cons_of_mem _ hr))
    show (bumps (bump xs q) ps).getD p 0 = _
    rw [ih]
    unfold bump
    rw [getD_setI]
    have hq := h q List.mem_cons_self
    by_cases e : q = p
    · subst e
      rw [if_pos ⟨rfl, hq⟩, if_neg hn'.1, if_pos List.mem_cons_self]
      omega
    · rw [if_neg (fun h2 => e h2.1)]
      have : (p ∈ q :: ps) ↔ p ∈ ps := by
        rw [List.mem_cons]
        exact ⟨fun h => h.resolve_left (fun h => e h.symm), .inr⟩
      simp only [this]
theorem RiseOf.nodup {l : List Int} {P : List Nat} (h : RiseOf l P) : P.Nodup := by
  refine h.srt.imp ?_
  intro a b hab e
  subst e
  omega
theorem RiseOf.mem {l : List Int} {P : List Nat} (h : RiseOf l P) (p : Nat) : p ∈ P ↔ p < l.length ∧ 0 < l.getD p 0 := by rw [h.perm.mem_iff, mem_wpl]
theorem RiseOf.up {l : List Int} {P : List Nat} (h : RiseOf l P) : Up (P.map fun p => l.getD p 0) := by
  rw [Up, List.pairwise_map]
  exact h.srt.imp (fun {a b} hab => by omega)
theorem RiseOf.pos {l : List Int} {P : List Nat} (h : RiseOf l P) : ∀ x ∈ (P.map fun p => l.getD p 0), 0 < x := by
  intro x hx
  obtain ⟨p, hp, rfl⟩ := List.mem_map.1 hx
  exact ((h.mem p).1 hp).2
/-- how many of the first i rounds take the place -/
def hits (P : List Nat) (W : List Int) (m p : Nat) : Nat → Nat
  | 0 => 0
  | i + 1 => hits P W m p i + (if p ∈ P.take (aloneAt W m i) then 1 else 0)
theorem hits_le (P : List Nat) (W : List Int) (m p : Nat) : ∀ i, hits P W m p i ≤ i
  | 0 => Nat.le_refl _
  | i + 1 => by
    have := hits_le P W m p i
    rw [hits]
    split <;> omega
theorem hits_none (P : List Nat) (W : List Int) (m p : Nat) (h : p ∉ P) : ∀ i, hits P W m p i = 0
  | 0 => rfl
  | i + 1 => by rw [hits, hits_none P W m p h i, if_neg (fun h2 => h (List.mem_of_mem_take h2))]
theorem hits_one (P : List Nat) (W : List Int) (m p : Nat) (h : p ∈ P.take (aloneAt W m 0)) : ∀ i, 1 ≤ i → 1 ≤ hits P W m p i
  | 0, h0 => by omega
  | 1, _ => by rw [hits, hits, if_pos h]; omega
  | i + 2, _ => by
    have := hits_one P W m p h (i + 1) (by omega)
    rw [hits]
    omega
theorem lensAt_getD (n : Nat) (P : List Nat) (W : List Int) (m p : Nat) (hn : P.Nodup) (hP : ∀ q ∈ P, q < n) : ∀ i, (lensAt n P W m i).getD p 0 = (hits P W m p i : Nat)
  | 0 => by
    simp only [lensAt, hits]
    by_cases h : p < n <;> simp [List.getD, h]
  | i + 1 => by
    rw [lensAt, bumps_getD p _ _ (hn.sublist (List.take_sublist _ _)) (fun q hq => by rw [lensAt_length]; exact hP q (List.mem_of_mem_take hq)), lensAt_getD n P W m p hn hP i, hits]
    split <;> simp
theorem aloneAt_zero {W : List Int} {m : Nat} (hW : Up W) (hp : ∀ x ∈ W, 0 < x) (hn : 2 ≤ W.length) (hm : 1 ≤ m) (hr : W.length ≤ 2 ^ m) : aloneAt W m 0 = W.length := by
  have h := rowAt_room W m (by omega) hm hr
  unfold aloneAt
  rw [takeAt, show m - 1 - 0 = m - 1 by omega, show 2 * (W.length - 1) = 2 * W.length - 2 by omega]
  exact alone_all W hW hp hn (m - 1) (by omega)

/-- the lengths lie where they should -/
theorem lens_ok {l : List Int} {P : List Nat} {m : Nat} (hG : GoodW l m) (hP : RiseOf l P) (p : Nat) : 0 ≤ (lensOf l P m).getD p 0 ∧ (lensOf l P m).getD p 0 ≤ m ∧ (0 < (lensOf l P m).getD p 0 ↔ p ∈ P) := by
  have hlo := hG.lo
  have hW : (P.map fun p => l.getD p 0).length = P.length := by simp
  unfold lensOf
  by_cases h : P.length < 2
  · rw [if_pos h, bumps_getD p P _ hP.nodup (fun q hq => by simpa using hP.lt q hq)]
    have e : (List.replicate l.length (0 : Int)).getD p 0 = 0 := by by_cases h : p < l.length <;> simp [List.getD, h]
    rw [e]
    by_cases hp : p ∈ P
    · simp [hp]; omega
    · simp [hp]
  · rw [if_neg h, lensAt_getD _ _ _ _ _ hP.nodup hP.lt]
    have h1 := hits_le P (P.map fun p => l.getD p 0) m p m
    refine ⟨by omega, by omega, ?_⟩
    by_cases hp : p ∈ P
    · have h2 := hits_one P (P.map fun p => l.getD p 0) m p (by rw [aloneAt_zero hP.up hP.pos (by omega) hlo (by rw [hW, hP.length]; exact hG.room), hW, List.take_length]; exact hp) m hlo
      exact ⟨fun _ => hp, fun _ => by omega⟩
    · rw [hits_none P _ m p hp]
      simp [hp]
theorem lensOf_length (l : List Int) (P : List Nat) (m : Nat) : (lensOf l P m).length = l.length := by
  unfold lensOf
  split
  · rw [bumps_length]; simp
  · exact lensAt_length _ _ _ _ _
theorem GoodW.more {l : List Int} {m k : Nat} (h : GoodW l m) (hk : m ≤ k) (hk2 : k ≤ 15) : GoodW l k := ⟨h.len, h.ok, Nat.le_trans h.lo hk, hk2, Nat.le_trans h.room (Nat.pow_le_pow_right (by decide) hk)⟩
theorem errC_lens {l s : List Int} {m : Nat} (hG : GoodW l m) (hs : IsLens l m s) : errC l s = 0 := by
  obtain ⟨P, hP, rfl⟩ := hs
  unfold errC
  have h15 := good_errW (hG.more hG.hi (Nat.le_refl 15))
  have hhi := hG.hi
  rw [if_neg (by rw [lensOf_length]; simp), if_neg (fun h => h h15), if_neg]
  rintro ⟨j, hj, e⟩
  have h := lens_ok hG hP j
  refine of_decide_eq_false e ⟨h.1, by omega, fun h0 hx => ?_⟩
  have := h.2.2.2 ((hP.mem j).2 ⟨hj, hx⟩)
  omega
theorem cost_is {l s : List Int} {m : Nat} (hG : GoodW l m) (hs : IsLens l m s) : ∃ P, RiseOf l P ∧ costK l s l.length = least (P.map fun p => l.getD p 0) m := by
  obtain ⟨P, hP, rfl⟩ := hs
  exact ⟨P, hP, cost_lens hG hP⟩
end Go.Proofs.YtfoaaamcpknjnadGreat

/-
  Plain facts: whatever code there is takes no fewer bits. No program is named here.
-/
namespace Go.Proofs.YtfoaaamcpknjnadGreat
open Go.RowKit
set_option linter.unusedVariables false

/-- of a row that rises the first so many are the lightest -/
theorem min_take : ∀ (R B C : List Int), Up R → (B ++ C).Perm R → lsum (R.take B.length) ≤ lsum B
  | [], B, C, _, h => by
    have h1 := h.length_eq
    rw [List.length_append, List.length_nil] at h1
    have : B = [] := List.eq_nil_of_length_eq_zero (by omega)
    subst this; simp [lsum]
  | r :: R, [], C, _, _ => by simp [lsum]
  | r :: R, b :: B, C, hu, h => by
    have hu' := List.pairwise_cons.1 hu
    rw [List.length_cons, List.take_succ_cons, lsum, lsum]
    have hr : r ∈ b :: B ++ C := h.mem_iff.2 List.mem_cons_self
    rcases List.mem_append.1 hr with hr | hr
    · obtain ⟨B', hB'⟩ : ∃ B', (b :: B).Perm (r :: B') := ⟨(b :: B).erase r, List.perm_cons_erase hr⟩
      have h2 : (B' ++ C).Perm R := (List.perm_cons r).1 (((hB'.append_right C).symm).trans h)
      have ih := min_take R B' C hu'.2 h2
      have hl := hB'.length_eq
      simp only [List.length_cons] at hl
      have hs := lsum_perm hB'
      rw [lsum, lsum] at hs
      rw [show B.length = B'.length by omega]
      omega
    · obtain ⟨C', hC'⟩ : ∃ C', C.Perm (r :: C') := ⟨C.erase r, List.perm_cons_erase hr⟩
      have h1 : (r :: (B ++ b :: C')).Perm (r :: R) := by
        refine List.Perm.trans ?_ h
        refine List.Perm.trans ?_ ((hC'.append_left (b :: B)).symm)
        refine List.Perm.trans ?_ List.perm_middle.symm
        exact List.Perm.cons r List.perm_middle
      have h2 := (List.perm_cons r).1 h1
      have ih := min_take R B (b :: C') hu'.2 h2
      have hb : r ≤ b := hu'.1 b (h2.mem_iff.1 (List.mem_append_right _ List.mem_cons_self))
      omega
termination_by R => R.length

theorem mrg_perm (xs ys : List Int) : ((mrg xs ys).map Prod.fst).Perm (xs ++ ys) := by
  have h := mrg_take xs ys (mrg xs ys).length
  have ha : alone (mrg xs ys) (mrg xs ys).length = xs.length := by unfold alone; rw [List.take_length, mrg_true]
  rw [ha, List.take_length, mrg_length] at h
  simpa [List.take_of_length_le] using h
/-- the first so many of a row are no more than any so many places and the first pairs -/
theorem psum_min (W : List Int) (hW : Up W) (k : Nat) (A C : List Int) (hA : (A ++ C).Perm W) (q : Nat) (hq : q ≤ (pairsAt W k).length) : psum W k (A.length + q) ≤ lsum A + lsum ((pairsAt W k).take q) := by
  have h1 : ((A ++ (pairsAt W k).take q) ++ (C ++ (pairsAt W k).drop q)).Perm ((rowAt W k).map Prod.fst) := by
    rw [rowAt_mrg]
    refine List.Perm.trans ?_ (mrg_perm W (pairsAt W k)).symm
    have e : (pairsAt W k).take q ++ (pairsAt W k).drop q = pairsAt W k := List.take_append_drop _ _
    have h2 : ((A ++ (pairsAt W k).take q) ++ (C ++ (pairsAt W k).drop q)).Perm ((A ++ C) ++ ((pairsAt W k).take q ++ (pairsAt W k).drop q)) := by
      rw [List.append_assoc, List.append_assoc]
      refine List.Perm.append_left A ?_
      rw [← List.append_assoc, ← List.append_assoc]
      exact List.perm_append_comm.append_right _
    rw [e] at h2
    exact h2.trans (hA.append_right _)
  have h := min_take _ _ _ (rowAt_up W hW k) h1
  rw [lsum_append, List.length_append, List.length_take, Nat.min_eq_left hq] at h
  unfold psum
  rw [List.map_take]
  exact h
theorem lsum_take_mono (xs : List Int) (h : ∀ x ∈ xs, 0 ≤ x) {i j : Nat} (hij : i ≤ j) : lsum (xs.take i) ≤ lsum (xs.take j) := by
  have e : xs.take j = xs.take i ++ (xs.take j).drop i := by
    have : (xs.take j).take i = xs.take i := by rw [List.take_take, Nat.min_eq_left hij]
    rw [← this, List.take_append_drop]
  rw [e, lsum_append]
  have := lsum_nonneg ((xs.take j).drop i) (fun x hx => h x (List.mem_of_mem_take (List.mem_of_mem_drop hx)))
  omega
theorem psum_mono (W : List Int) (hp : ∀ x ∈ W, 0 < x) (k : Nat) {i j : Nat} (hij : i ≤ j) : psum W k i ≤ psum W k j := by
  unfold psum
  rw [List.map_take, List.map_take]
  exact lsum_take_mono _ (fun x hx => by have := rowAt_pos W hp k x hx; omega) hij

/-! ### any lengths of what is wanted -/
variable (l : List Int) (c : Nat → Nat) (m : Nat)
/-- those whose length is j at the least -/
def deep (P : List Nat) (j : Nat) : List Nat := P.filter fun p => decide (j ≤ c p)
def wof (P : List Nat) : List Int := P.map fun p => l.getD p 0
/-- how many are taken at depth d, and what they cost -/
def tk (P : List Nat) : Nat → Nat
  | 0 => (deep c P m).length
  | d + 1 => (deep c P (m - (d + 1))).length + tk P d / 2
def yk (P : List Nat) : Nat → Int
  | 0 => lsum (wof l (deep c P m))
  | d + 1 => lsum (wof l (deep c P (m - (d + 1)))) + yk P d
theorem deep_parts (P : List Nat) (j : Nat) : (wof l (deep c P j) ++ wof l (P.filter fun p => !decide (j ≤ c p))).Perm (wof l P) := by
  unfold wof deep
  rw [← List.map_append]
  exact (List.filter_append_perm _ P).map _
theorem tk_ok (P : List Nat) (hW : Up (wof l P)) (hp : ∀ x ∈ wof l P, 0 < x) : ∀ d, tk c m P d ≤ (rowAt (wof l P) d).length ∧ psum (wof l P) d (tk c m P d) ≤ yk l c m P d
  | 0 => by
    have hl : (wof l (deep c P m)).length = (deep c P m).length := by simp [wof]
    have hle : (deep c P m).length ≤ P.length := List.length_filter_le _ _
    refine ⟨?_, ?_⟩
    · rw [tk, rowAt_mrg, mrg_length]
      simp [wof]; omega
    · have h := psum_min (wof l P) hW 0 (wof l (deep c P m)) _ (deep_parts l c P m) 0 (Nat.zero_le _)
      rw [hl] at h
      simpa [tk, yk, lsum] using h
  | d + 1 => by
    obtain ⟨ih1, ih2⟩ := tk_ok P hW hp d
    have hl : (wof l (deep c P (m - (d + 1)))).length = (deep c P (m - (d + 1))).length := by simp [wof]
    have hle : (deep c P (m - (d + 1))).length ≤ P.length := List.length_filter_le _ _
    have hq : tk c m P d / 2 ≤ (pairsAt (wof l P) (d + 1)).length := by rw [pairsAt, prs_length, List.length_map]; omega
    refine ⟨?_, ?_⟩
    · rw [tk, rowAt_mrg, mrg_length]
      have : (wof l P).length = P.length := by simp [wof]
      omega
    · have h := psum_min (wof l P) hW (d + 1) (wof l (deep c P (m - (d + 1)))) _ (deep_parts l c P _) (tk c m P d / 2) hq
      rw [hl] at h
      have h2 : lsum ((pairsAt (wof l P) (d + 1)).take (tk c m P d / 2)) ≤ psum (wof l P) d (tk c m P d) := by
        rw [pairsAt, lsum_prs _ _ (by rw [List.length_map]; omega), ← List.map_take]
        exact psum_mono (wof l P) hp d (by omega)
      rw [tk, yk]
      omega
/-- the cost, depth by depth -/
def ysum (P : List Nat) (d : Nat) : Int := lsum (P.map fun p => l.getD p 0 * ((c p + 1 + d - m : Nat) : Int))
theorem lsum_add (P : List Nat) (f g : Nat → Int) : lsum (P.map f) + lsum (P.map g) = lsum (P.map fun p => f p + g p) := by
  induction P with
  | nil => rfl
  | cons p P ih => simp only [List.map_cons, lsum]; omega
theorem lsum_deep (P : List Nat) (j : Nat) : lsum (wof l (deep c P j)) = lsum (P.map fun p => if j ≤ c p then l.getD p 0 else 0) := by
  induction P with
  | nil => rfl
  | cons p P ih =>
    unfold wof deep at *
    by_cases h : j ≤ c p
    · rw [List.filter_cons_of_pos (by simpa using h), List.map_cons, List.map_cons, lsum, lsum, ih, if_pos h]
    · rw [List.filter_cons_of_neg (by simpa using h), List.map_cons, lsum, ih, if_neg h]; omega
theorem yk_sum (P : List Nat) (hc : ∀ p ∈ P, c p ≤ m) : ∀ d, d < m → yk l c m P d = ysum l c m P d
  | 0, hd => by
    rw [yk, lsum_deep, ysum]
    congr 1
    apply List.map_congr_left
    intro p hp
    have := hc p hp
    by_cases h : m ≤ c p
    · rw [if_pos h, show c p + 1 + 0 - m = 1 by omega]; simp
    · rw [if_neg h, show c p + 1 + 0 - m = 0 by omega]; simp
  | d + 1, hd => by
    rw [yk, lsum_deep, yk_sum P hc d (by omega), ysum, ysum, lsum_add]
    congr 1
    apply List.map_congr_left
    intro p hp
    have := hc p hp
    by_cases h : m - (d + 1) ≤ c p
    · rw [if_pos h, show c p + 1 + (d + 1) - m = (c p + 1 + d - m) + 1 by omega]
      push_cast
      rw [Int.mul_add, Int.mul_one]
      omega
    · rw [if_neg h, show c p + 1 + (d + 1) - m = 0 by omega, show c p + 1 + d - m = 0 by omega]; simp

/-! ### what the code's room says -/
def nsum : List Nat → Nat
  | [] => 0
  | x :: xs => x + nsum xs
theorem nsum_perm {xs ys : List Nat} (h : xs.Perm ys) : nsum xs = nsum ys := by
  induction h with
  | nil => rfl
  | cons x _ ih => rw [nsum, nsum, ih]
  | swap x y l => simp only [nsum]; omega
  | trans _ _ h1 h2 => exact h1.trans h2
theorem nsum_add (P : List Nat) (f g : Nat → Nat) : nsum (P.map f) + nsum (P.map g) = nsum (P.map fun p => f p + g p) := by
  induction P with
  | nil => rfl
  | cons p P ih => simp only [List.map_cons, nsum]; omega
theorem nsum_const (P : List Nat) (k : Nat) : nsum (P.map fun _ => k) = P.length * k := by
  induction P with
  | nil => simp [nsum]
  | cons p P ih => rw [List.map_cons, nsum, ih, List.length_cons, Nat.succ_mul]; omega
theorem nsum_mul (P : List Nat) (f : Nat → Nat) (k : Nat) : nsum (P.map fun p => k * f p) = k * nsum (P.map f) := by
  induction P with
  | nil => simp [nsum]
  | cons p P ih => simp only [List.map_cons, nsum]; rw [ih, Nat.mul_add]
theorem len_deep (P : List Nat) (j : Nat) : (deep c P j).length = nsum (P.map fun p => if j ≤ c p then 1 else 0) := by
  induction P with
  | nil => rfl
  | cons p P ih =>
    unfold deep at *
    by_cases h : j ≤ c p
    · rw [List.filter_cons_of_pos (by simpa using h), List.length_cons, List.map_cons, nsum, ih, if_pos h]; omega
    · rw [List.filter_cons_of_neg (by simpa using h), List.map_cons, nsum, ih, if_neg h]; omega
/-- those that are taken, each by its worth -/
def uk (P : List Nat) : Nat → Nat
  | 0 => (deep c P m).length
  | d + 1 => 2 ^ (d + 1) * (deep c P (m - (d + 1))).length + uk P d
theorem uk_tk (P : List Nat) : ∀ d, uk c m P d < 2 ^ d * (tk c m P d + 1)
  | 0 => by rw [uk, tk]; omega
  | d + 1 => by
    have ih := uk_tk P d
    rw [uk, tk]
    generalize (deep c P (m - (d + 1))).length = a
    generalize tk c m P d = t at *
    have h1 : 2 ^ d * (t + 1) ≤ 2 ^ d * (2 * (t / 2 + 1)) := Nat.mul_le_mul_left _ (by omega)
    have h2 : 2 ^ (d + 1) * (a + t / 2 + 1) = 2 ^ (d + 1) * a + 2 ^ d * (2 * (t / 2 + 1)) := by
      rw [Nat.add_assoc, Nat.mul_add, Nat.pow_succ, Nat.mul_assoc (2 ^ d) 2 (t / 2 + 1)]
    omega
/-- of one place -/
def up (d k : Nat) : Nat := if m - d ≤ k then 2 ^ (d + 1) - 2 ^ (m - k) else 0
theorem uk_sum (P : List Nat) (hc : ∀ p ∈ P, c p ≤ m) : ∀ d, d < m → uk c m P d = nsum (P.map fun p => up m d (c p))
  | 0, hd => by
    rw [uk, len_deep]
    congr 1
    apply List.map_congr_left
    intro p hp
    have := hc p hp
    unfold up
    by_cases h : m ≤ c p
    · rw [if_pos h, if_pos (by omega), show m - c p = 0 by omega]
    · rw [if_neg h, if_neg (by omega)]
  | d + 1, hd => by
    rw [uk, len_deep, ← nsum_mul, uk_sum P hc d (by omega), nsum_add]
    congr 1
    apply List.map_congr_left
    intro p hp
    have := hc p hp
    unfold up
    by_cases h1 : m - d ≤ c p
    · rw [if_pos (by omega), if_pos h1, if_pos (by omega)]
      have h2 : 2 ^ (m - c p) ≤ 2 ^ (d + 1) := Nat.pow_le_pow_right (by decide) (by omega)
      rw [Nat.pow_succ 2 (d + 1)]
      omega
    · rw [if_neg h1]
      by_cases h2 : m - (d + 1) ≤ c p
      · rw [if_pos h2, if_pos h2, show m - c p = d + 1 by omega, Nat.pow_succ 2 (d + 1)]
        omega
      · rw [if_neg h2, if_neg h2]; rfl
/-- enough is taken, if the code has room -/
theorem tk_enough (P : List Nat) (hm : 1 ≤ m) (hc : ∀ p ∈ P, 1 ≤ c p ∧ c p ≤ m) (hr : nsum (P.map fun p => 2 ^ (m - c p)) ≤ 2 ^ m) : 2 * (P.length - 1) ≤ tk c m P (m - 1) := by
  have h1 := uk_tk c m P (m - 1)
  have h2 := uk_sum c m P (fun p hp => (hc p hp).2) (m - 1) (by omega)
  have h3 : nsum (P.map fun p => up m (m - 1) (c p)) + nsum (P.map fun p => 2 ^ (m - c p)) = P.length * 2 ^ m := by
    rw [nsum_add, ← nsum_const]
    congr 1
    apply List.map_congr_left
    intro p hp
    have hcp := hc p hp
    unfold up
    rw [if_pos (by omega), show m - 1 + 1 = m by omega]
    have : 2 ^ (m - c p) ≤ 2 ^ m := Nat.pow_le_pow_right (by decide) (by omega)
    omega
  have h4 : 2 ^ m = 2 ^ (m - 1) * 2 := by rw [← Nat.pow_succ]; congr 1; omega
  rcases Nat.lt_or_ge (tk c m P (m - 1)) (2 * (P.length - 1)) with h5 | h5
  · exfalso
    have h6 : 2 ^ (m - 1) * (tk c m P (m - 1) + 1) ≤ 2 ^ (m - 1) * (2 * (P.length - 1)) := Nat.mul_le_mul_left _ (by omega)
    have h7 : 2 ^ (m - 1) * (2 * (P.length - 1)) = (P.length - 1) * 2 ^ m := by rw [h4, ← Nat.mul_assoc, Nat.mul_comm]
    have h8 : P.length * 2 ^ m = (P.length - 1) * 2 ^ m + 2 ^ m := by
      obtain ⟨q, hq⟩ : ∃ q, P.length = q + 1 := ⟨P.length - 1, by omega⟩
      rw [hq, Nat.add_sub_cancel, Nat.succ_mul]
    omega
  · exact h5
/-- whatever code there is takes no fewer -/
theorem least_le (P : List Nat) (hW : Up (wof l P)) (hp : ∀ x ∈ wof l P, 0 < x) (hn : 2 ≤ P.length) (hm : 1 ≤ m) (hc : ∀ p ∈ P, 1 ≤ c p ∧ c p ≤ m) (hr : nsum (P.map fun p => 2 ^ (m - c p)) ≤ 2 ^ m) :
    psum (wof l P) (m - 1) (2 * (P.length - 1)) ≤ lsum (P.map fun p => l.getD p 0 * ((c p : Nat) : Int)) := by
  have h1 := tk_enough c m P hm hc hr
  have h2 := (tk_ok l c m P hW hp (m - 1)).2
  have h3 := psum_mono (wof l P) hp (m - 1) h1
  rw [yk_sum l c m P (fun p hp => (hc p hp).2) (m - 1) (by omega), ysum] at h2
  have e : (P.map fun p => l.getD p 0 * ((c p + 1 + (m - 1) - m : Nat) : Int)) = P.map fun p => l.getD p 0 * ((c p : Nat) : Int) := by
    apply List.map_congr_left
    intro p hp
    rw [show c p + 1 + (m - 1) - m = c p by omega]
  rw [e] at h2
  omega
end Go.Proofs.YtfoaaamcpknjnadGreat
