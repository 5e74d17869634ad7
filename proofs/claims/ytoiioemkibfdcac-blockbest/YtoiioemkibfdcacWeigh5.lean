/-
  What weigh.stepsOf and step.aloneAmong answer.
-/
import Derived.Test.YtoiioemkibfdcacWeigh4
namespace Go.Proofs.Ytoiioemkibfdcac
open Go.RowKit
set_option linter.unusedVariables false

/-- how many of the first k truths hold -/
def aloneB (fs : List Bool) : Nat → Nat
  | 0 => 0
  | k + 1 => aloneB fs k + (if fs.getD k false = true then 1 else 0)
theorem aloneB_le (fs : List Bool) : ∀ k, aloneB fs k ≤ k
  | 0 => Nat.le_refl _
  | k + 1 => by
    have := aloneB_le fs k
    rw [aloneB]
    split <;> omega
theorem alone_aloneB (r : List (Int × Bool)) : ∀ t, t ≤ r.length → alone r t = aloneB (r.map Prod.snd) t
  | 0, _ => by simp [alone, aloneB]
  | t + 1, h => by
    have ih := alone_aloneB r t (by omega)
    have ht : t < r.length := by omega
    unfold alone at *
    rw [List.take_succ_eq_append_getElem ht, List.filter_append, List.length_append, ih, aloneB]
    have e : (r.map Prod.snd).getD t false = r[t].2 := by simp [List.getD, ht]
    rw [e]
    cases h : r[t].2 <;> simp [h]

set_option maxHeartbeats 1000000 in
theorem aloneAmong_any (v : Value) (hv : v.oneCell' = true) (g N c m : Nat) (fs : List Bool) (w : World) (hl : fs.length = N) (hm : m ≤ N) (hN : N ≤ 2000) (hF : BRow w g fs) :
    Calls Try.prog 131 #[.agg #[v, .slice (some ⟨g, 0, none⟩) N c], .int .i64 m] w fun e w' => e = .returned (.int .i64 ((aloneB fs m : Nat) : Int)) ∧ Below w.heap.size w w' := by
  have HF := hide hF
  have hg := hF.lt
  clear hF
  go_enter Try.func131, Try.ntmps131
  go_wp2
  have hb : (w.alloc (.cells #[v, .slice (some ⟨g, 0, none⟩) N c] 201)).cell? ⟨w.heap.size, 1, none⟩ = some (.slice (some ⟨g, 0, none⟩) N c) := by simp
  have HB := hide ((Below.refl w.heap.size w).alloc (Nat.le_refl _) (.cells #[v, .slice (some ⟨g, 0, none⟩) N c] 201))
  have HF2 := hide ((unhide HF).alloc (.cells #[v, .slice (some ⟨g, 0, none⟩) N c] 201))
  generalize w.alloc (.cells #[v, .slice (some ⟨g, 0, none⟩) N c] 201) = W at *
  go_loop [5, 6, 8] (fun va _ vi => ∃ k : Nat, k ≤ m ∧ vi = .int .i64 (k : Int) ∧ va = .int .i64 ((aloneB fs k : Nat) : Int)) (fun _ _ vi => m - (intOf vi).toNat)
  case atStart => exact ⟨0, Nat.zero_le _, rfl, rfl⟩
  case round =>
    obtain ⟨k, hk, rfl, rfl⟩ := hrel
    have hle := aloneB_le fs k
    by_cases hlt : k < m
    · have c1 := ((unhide HF2).at_ k (by omega)).1
      have hkN : (k : Int) < (N : Int) := by omega
      have HU : Hid (aloneB fs (k + 1) = aloneB fs k + (if fs.getD k false = true then 1 else 0)) := rfl
      generalize aloneB fs k = u at *
      cases hx : fs.getD k false with
      | true =>
        rw [hx] at c1 HU
        rw [if_pos rfl] at HU
        clear hx
        go_wp2
        go_round
        case rel => exact ⟨k + 1, by omega, by go_num, by rw [unhide HU]; go_num⟩
        case measure => simp [intOf]; omega
      | false =>
        rw [hx] at c1 HU
        rw [if_neg (by simp)] at HU
        clear hx
        go_wp2
        go_round
        case rel => exact ⟨k + 1, by omega, by go_num, by rw [unhide HU]; rfl⟩
        case measure => simp [intOf]; omega
    · obtain rfl : k = m := by omega
      go_wp2
      go_ret
      exact ⟨rfl, unhide HB⟩

theorem mem_mrg : ∀ (xs ys : List Int) (x : Int), x ∈ (mrg xs ys).map Prod.fst → x ∈ xs ∨ x ∈ ys
  | [], ys, x, h => by
    rw [mrg_nil] at h
    simp at h
    exact .inr h
  | z :: xs, [], x, h => by
    rw [mrg_one, List.map_cons, List.mem_cons] at h
    rcases h with h | h
    · exact .inl (by rw [h]; exact List.mem_cons_self)
    · rcases mem_mrg xs [] x h with h | h
      · exact .inl (List.mem_cons_of_mem _ h)
      · cases h
  | z :: xs, y :: ys, x, h => by
    rw [mrg_two] at h
    split at h
    · rw [List.map_cons, List.mem_cons] at h
      rcases h with h | h
      · exact .inl (by rw [h]; exact List.mem_cons_self)
      · rcases mem_mrg xs (y :: ys) x h with h | h
        · exact .inl (List.mem_cons_of_mem _ h)
        · exact .inr h
    · rw [List.map_cons, List.mem_cons] at h
      rcases h with h | h
      · exact .inr (by rw [h]; exact List.mem_cons_self)
      · rcases mem_mrg (z :: xs) ys x h with h | h
        · exact .inl h
        · exact .inr (List.mem_cons_of_mem _ h)
termination_by xs ys => xs.length + ys.length
theorem mem_prs : ∀ (xs : List Int) (x : Int), x ∈ prs xs → ∃ a b, a ∈ xs ∧ b ∈ xs ∧ x = a + b
  | [], x, h => by simp [prs] at h
  | [y], x, h => by simp [prs] at h
  | y :: z :: t, x, h => by
    rw [prs, List.mem_cons] at h
    rcases h with h | h
    · exact ⟨y, z, by simp, by simp, h⟩
    · obtain ⟨a, b, ha, hb, e⟩ := mem_prs t x h
      exact ⟨a, b, by simp [ha], by simp [hb], e⟩
theorem rowAt_length (W : List Int) : ∀ k, (rowAt W k).length ≤ 2 * W.length
  | 0 => by rw [rowAt, mrg_length]; simp; omega
  | k + 1 => by
    have := rowAt_length W k
    rw [rowAt, mrg_length, prs_length, List.length_map]
    omega
theorem rowAt_bound (W : List Int) (M : Int) (hW : ∀ x ∈ W, 0 ≤ x ∧ x ≤ M) : ∀ k, ∀ x ∈ (rowAt W k).map Prod.fst, 0 ≤ x ∧ x ≤ M * 2 ^ k
  | 0, x, h => by
    rw [rowAt] at h
    rcases mem_mrg W [] x h with h | h
    · have := hW x h; simpa using this
    · cases h
  | k + 1, x, h => by
    rw [rowAt] at h
    have hp : (0 : Int) < 2 ^ k := Int.pow_pos (by decide)
    rw [Int.pow_succ]
    rcases mem_mrg _ _ x h with h | h
    · have := hW x h
      have h0 : 0 ≤ M := by omega
      have h2 : M * 1 ≤ M * (2 ^ k * 2) := Int.mul_le_mul_of_nonneg_left (by omega) h0
      rw [Int.mul_one] at h2
      omega
    · obtain ⟨a, b, ha, hb, e⟩ := mem_prs _ x h
      have h1 := rowAt_bound W M hW k a ha
      have h2 := rowAt_bound W M hW k b hb
      rw [← Int.mul_assoc]
      omega
theorem rowAt_small (W : List Int) (hW : ∀ x ∈ W, 0 ≤ x ∧ x ≤ 1000000) (k : Nat) (hk : k ≤ 15) (j : Nat) : 0 ≤ ((rowAt W k).map Prod.fst).getD j 0 ∧ ((rowAt W k).map Prod.fst).getD j 0 ≤ 1000000000000 := by
  by_cases hj : j < ((rowAt W k).map Prod.fst).length
  · have h := rowAt_bound W 1000000 hW k (((rowAt W k).map Prod.fst).getD j 0) (by simp only [List.getD, List.getElem?_eq_getElem hj, Option.getD_some]; exact List.getElem_mem _)
    have h2 : (2 : Nat) ^ k ≤ 2 ^ 15 := Nat.pow_le_pow_right (by decide) hk
    have h3 : ((2 : Int) ^ k) = ((2 ^ k : Nat) : Int) := by push_cast; rfl
    rw [h3] at h
    generalize 2 ^ k = q at *
    omega
  · rw [List.getD, List.getElem?_eq_none (by omega)]
    decide

/-- where stepsOf stands: the steps lie in block g, k of them are made; A and B tell where their rows lie -/
structure StSt (w W : World) (g m : Nat) (Ws : List Int) (k : Nat) (A B : Nat → Nat) : Prop where
  glo : w.heap.size ≤ g
  ghi : g < W.heap.size
  fz : ∀ j, W.frozen? ⟨g, j, none⟩ = false
  done : ∀ i, i < k → W.cell? ⟨g, i * 2, none⟩ = some (.slice (some ⟨A i, 0, none⟩) (rowAt Ws i).length (rowAt Ws i).length) ∧ W.cell? ⟨g, i * 2 + 1, none⟩ = some (.slice (some ⟨B i, 0, none⟩) (rowAt Ws i).length (rowAt Ws i).length)
  todo : ∀ i, k ≤ i → i < m → W.cell? ⟨g, i * 2, none⟩ = some (.slice none 0 0) ∧ W.cell? ⟨g, i * 2 + 1, none⟩ = some (.slice none 0 0)
  ws : ∀ i, i < k → w.heap.size ≤ A i ∧ A i ≠ g ∧ WRow W (A i) ((rowAt Ws i).map Prod.fst)
  fs : ∀ i, i < k → w.heap.size ≤ B i ∧ B i ≠ g ∧ BRow W (B i) ((rowAt Ws i).map Prod.snd)
  bel : Below w.heap.size w W
theorem StSt.below {w W W' : World} {g m : Nat} {Ws : List Int} {k : Nat} {A B : Nat → Nat} (h : StSt w W g m Ws k A B) (hB : Below W.heap.size W W') : StSt w W' g m Ws k A B := by
  have hz : w.heap.size ≤ W.heap.size := h.bel.size
  refine ⟨h.glo, Nat.lt_of_lt_of_le h.ghi hB.size, fun j => ?_, fun i hi => ⟨?_, ?_⟩, fun i h1 h2 => ⟨?_, ?_⟩, fun i hi => ⟨(h.ws i hi).1, (h.ws i hi).2.1, (h.ws i hi).2.2.below hB (h.ws i hi).2.2.lt⟩, fun i hi => ⟨(h.fs i hi).1, (h.fs i hi).2.1, (h.fs i hi).2.2.below hB (h.fs i hi).2.2.lt⟩, h.bel.trans (hB.mono hz)⟩
  · rw [hB.frozen (p := ⟨g, j, none⟩) h.ghi]; exact h.fz j
  · rw [hB.cell (p := ⟨g, i * 2, none⟩) h.ghi]; exact (h.done i hi).1
  · rw [hB.cell (p := ⟨g, i * 2 + 1, none⟩) h.ghi]; exact (h.done i hi).2
  · rw [hB.cell (p := ⟨g, i * 2, none⟩) h.ghi]; exact (h.todo i h1 h2).1
  · rw [hB.cell (p := ⟨g, i * 2 + 1, none⟩) h.ghi]; exact (h.todo i h1 h2).2
/-- one step more -/
theorem StSt.next {w W : World} {g m : Nat} {Ws : List Int} {k : Nat} {A B : Nat → Nat} (h : StSt w W g m Ws k A B) (hk : k < m) (a b : Nat) (ha : w.heap.size ≤ a ∧ a ≠ g) (hb : w.heap.size ≤ b ∧ b ≠ g) (h1 : WRow W a ((rowAt Ws k).map Prod.fst)) (h2 : BRow W b ((rowAt Ws k).map Prod.snd)) (L : Nat) (hL : L = (rowAt Ws k).length) :
    StSt w ((W.setCell ⟨g, k * 2, none⟩ (.slice (some ⟨a, 0, none⟩) L L)).setCell ⟨g, k * 2 + 1, none⟩ (.slice (some ⟨b, 0, none⟩) L L)) g m Ws (k + 1) (fun i => if i = k then a else A i) (fun i => if i = k then b else B i) := by
  subst hL
  have o : ∀ j x y, j ≠ k * 2 → j ≠ k * 2 + 1 → ((W.setCell ⟨g, k * 2, none⟩ x).setCell ⟨g, k * 2 + 1, none⟩ y).cell? ⟨g, j, none⟩ = W.cell? ⟨g, j, none⟩ := fun j x y e1 e2 =>
    (World.cell?_setCell_other _ _ _ _ (by intro h; injection h; omega)).trans (World.cell?_setCell_other _ _ _ _ (by intro h; injection h; omega))
  have s0 : ∀ x y, ((W.setCell ⟨g, k * 2, none⟩ x).setCell ⟨g, k * 2 + 1, none⟩ y).cell? ⟨g, k * 2, none⟩ = some x := fun x y =>
    (World.cell?_setCell_other _ _ _ _ (by intro h; injection h; omega)).trans (World.cell?_setCell_same _ _ _ (h.todo k (Nat.le_refl _) hk).1)
  have s1 : ∀ x y, ((W.setCell ⟨g, k * 2, none⟩ x).setCell ⟨g, k * 2 + 1, none⟩ y).cell? ⟨g, k * 2 + 1, none⟩ = some y := fun x y =>
    World.cell?_setCell_same _ _ _ ((World.cell?_setCell_other _ _ _ _ (by intro h; injection h; omega)).trans (h.todo k (Nat.le_refl _) hk).2)
  refine ⟨h.glo, by simpa using h.ghi, fun j => by simp [h.fz j], fun i hi => ?_, fun i i1 i2 => ?_, fun i hi => ?_, fun i hi => ?_, (h.bel.setCell (p := ⟨g, k * 2, none⟩) h.glo _).setCell (p := ⟨g, k * 2 + 1, none⟩) h.glo _⟩
  · by_cases e : i = k
    · subst e
      simp only [if_true]
      exact ⟨s0 _ _, s1 _ _⟩
    · simp only [if_neg e]
      rw [o _ _ _ (by omega) (by omega), o _ _ _ (by omega) (by omega)]
      exact h.done i (by omega)
  · rw [o _ _ _ (by omega) (by omega), o _ _ _ (by omega) (by omega)]
    exact h.todo i (by omega) i2
  · by_cases e : i = k
    · subst e
      simp only [if_true]
      exact ⟨ha.1, ha.2, (h1.other (a := ⟨g, i * 2, none⟩) (fun e => ha.2 e.symm) _).other (a := ⟨g, i * 2 + 1, none⟩) (fun e => ha.2 e.symm) _⟩
    · simp only [if_neg e]
      obtain ⟨q1, q2, q3⟩ := h.ws i (by omega)
      exact ⟨q1, q2, (q3.other (a := ⟨g, k * 2, none⟩) (fun e => q2 e.symm) _).other (a := ⟨g, k * 2 + 1, none⟩) (fun e => q2 e.symm) _⟩
  · by_cases e : i = k
    · subst e
      simp only [if_true]
      exact ⟨hb.1, hb.2, (h2.other (a := ⟨g, i * 2, none⟩) (fun e => hb.2 e.symm) _).other (a := ⟨g, i * 2 + 1, none⟩) (fun e => hb.2 e.symm) _⟩
    · simp only [if_neg e]
      obtain ⟨q1, q2, q3⟩ := h.fs i (by omega)
      exact ⟨q1, q2, (q3.other (a := ⟨g, k * 2, none⟩) (fun e => q2 e.symm) _).other (a := ⟨g, k * 2 + 1, none⟩) (fun e => q2 e.symm) _⟩
end Go.Proofs.Ytoiioemkibfdcac
