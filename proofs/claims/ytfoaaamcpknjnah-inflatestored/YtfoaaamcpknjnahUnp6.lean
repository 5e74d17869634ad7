/-
  What was written is read: of bits alone.
-/
import Derived.Test.YtfoaaamcpknjnahUnpP
namespace Go.Proofs.Ytfoaaamcpknjnah
set_option linter.unusedVariables false

theorem numOf_append (a b : List Bool) : numOf (a ++ b) = numOf a + 2 ^ a.length * numOf b := by
  induction a with
  | nil => simp [numOf]
  | cons x r ih =>
    rw [List.cons_append, numOf, ih, numOf, List.length_cons, Nat.pow_succ, Nat.mul_add, ← Nat.mul_assoc, Nat.mul_comm 2 (2 ^ r.length), Nat.add_assoc]
theorem numOf_numBits (x : Nat) : ∀ n, numOf (numBits x n) = x % 2 ^ n
  | 0 => by simp [numBits, numOf, Nat.mod_one]
  | n + 1 => by
    have h : numBits x (n + 1) = numBits x n ++ [x.testBit n] := rfl
    rw [h, numOf_append, numOf_numBits x n, numBits_length, Nat.pow_succ, Nat.mod_mul]
    congr 2
    have := bit_div x n
    rw [this]
    cases x.testBit n <;> simp [numOf]
/-- a number that stands there is read -/
theorem uget_ok (row : List Bool) (n x : Nat) (u : US) (he : u.e = 0) (hle : u.p + n ≤ row.length) (hx : x < 2 ^ n) (h : (row.drop u.p).take n = numBits x n) : uget row n u = (x, { u with p := u.p + n }) := by
  unfold uget
  rw [if_pos he, if_neg (by omega), h, numOf_numBits, Nat.mod_eq_of_lt hx]
theorem hb_take (c : Nat) : ∀ n j, j ≤ n → (hb c n).take j = hb (c / 2 ^ (n - j)) j := by
  intro n
  induction n generalizing c with
  | zero =>
    intro j hj
    obtain rfl : j = 0 := by omega
    rfl
  | succ n ih =>
    intro j hj
    by_cases e : j = n + 1
    · subst e
      rw [Nat.sub_self, Nat.pow_zero, Nat.div_one, List.take_of_length_le (by rw [hb_length]; exact Nat.le_refl _)]
    · rw [hb, List.take_append_of_le_length (by rw [hb_length]; omega), ih (c / 2) j (by omega), Nat.div_div_eq_div_mul, ← Nat.pow_succ', show n + 1 - j = (n - j) + 1 by omega]
/-- no code begins another one -/
theorem codeT_free (l : List Int) (hG : Good l) (q q' : Nat) (hq : q < l.length) (hq' : q' < l.length) (hpos : codeT l q ≠ []) (h : codeT l q = (codeT l q').take (codeT l q).length) : q = q' := by
  obtain ⟨m, hm⟩ := Int.eq_ofNat_of_zero_le (hG.ok q hq).1
  obtain ⟨m', hm'⟩ := Int.eq_ofNat_of_zero_le (hG.ok q' hq').1
  have hl : (codeT l q).length = m := by unfold codeT; rw [hm, Int.toNat_natCast, hb_length]
  have hl' : (codeT l q').length = m' := by unfold codeT; rw [hm', Int.toNat_natCast, hb_length]
  have hm0 : 0 < m := by
    rw [← hl]
    exact List.length_pos_iff.2 hpos
  have hle : m ≤ m' := by
    have := congrArg List.length h
    rw [List.length_take, hl, hl'] at this
    omega
  by_cases e : q = q'
  · exact e
  · exfalso
    have hp := prefix_free l hG hq hq' hm hm' e hm0 hle
    rw [hl] at h
    unfold codeT at h
    rw [hm, hm', Int.toNat_natCast, Int.toNat_natCast, hb_take _ _ _ hle] at h
    have c3 := (code_lt l hG hq hm hm0).2.2
    have c3' := (code_lt l hG hq' hm' (by omega)).2.2
    have hlt : codeN l q' / 2 ^ (m' - m) < 2 ^ m := by
      rw [Nat.div_lt_iff_lt_mul (Nat.two_pow_pos _), ← Nat.pow_add, show m + (m' - m) = m' by omega]
      exact c3'
    exact hp (hb_inj m _ _ hlt c3 h.symm)
/-- a place whose code stands there is read -/
theorem uplace_ok (l : List Int) (hG : Good l) (row : List Bool) (q : Nat) (u : US) (he : u.e = 0) (hq : q < l.length) (hpos : codeT l q ≠ []) (hle : u.p + (codeT l q).length ≤ row.length) (h : (row.drop u.p).take (codeT l q).length = codeT l q) : uplace l row u = (q, { u with p := u.p + (codeT l q).length }) := by
  obtain ⟨m, hm⟩ := Int.eq_ofNat_of_zero_le (hG.ok q hq).1
  have hm15 := (hG.ok q hq).2
  have hl : (codeT l q).length = m := by unfold codeT; rw [hm, Int.toNat_natCast, hb_length]
  have hm0 : 0 < m := by
    rw [← hl]
    exact List.length_pos_iff.2 hpos
  obtain ⟨k, rfl⟩ : ∃ k, m = k + 1 := ⟨m - 1, by omega⟩
  rw [hm] at hm15
  rw [hl] at hle h ⊢
  have hfree : ∀ j, 1 ≤ j → j ≤ k → findC l ((row.drop u.p).take j) = none := by
    intro j h1 h2
    unfold findC
    rw [List.find?_eq_none]
    intro q2 hq2
    simp only [decide_eq_true_eq]
    intro e
    have hj : (codeT l q2).length = j := by
      rw [e, List.length_take, List.length_drop]
      omega
    have hne : codeT l q2 ≠ [] := fun e0 => by rw [e0] at hj; simp at hj; omega
    have := codeT_free l hG q2 q (by simpa using hq2) hq hne (by
      rw [hj, ← h, List.take_take, show min j (k + 1) = j by omega]
      exact e)
    subst this
    omega
  have hfound : findC l ((row.drop u.p).take (k + 1)) = some q := by
    unfold findC
    cases hf : (List.range l.length).find? (fun q2 => decide (codeT l q2 = (row.drop u.p).take (k + 1))) with
    | none =>
      rw [List.find?_eq_none] at hf
      exact absurd (by simpa using h.symm) (hf q (by simpa using hq))
    | some y =>
      have hy := List.find?_some hf
      have hy2 := List.mem_of_find?_eq_some hf
      simp only [decide_eq_true_eq] at hy
      rw [codeT_inj l hG (codeT l q) hpos y q (by simpa using hy2) hq (hy.trans h) rfl]
  have hn : nextR l row u.p = (q, k + 1, 0) := by
    unfold nextR
    have := nextF_go l row u.p k (15 - k) (fun j h1 h2 => ⟨by omega, hfree j h1 h2⟩) 1 (by omega)
    rw [show k + (15 - k) = 15 by omega] at this
    rw [this, show 15 - k = (14 - k) + 1 by omega, nextF, show 1 + k = k + 1 by omega, if_neg (by omega), hfound]
  unfold uplace
  rw [if_pos he, hn]
  simp [he]
end Go.Proofs.Ytfoaaamcpknjnah
