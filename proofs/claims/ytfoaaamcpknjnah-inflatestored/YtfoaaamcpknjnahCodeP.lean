/-
  Lengths and their codes, of lists alone: what count, Codes, the reader's places say.
-/
import Derived.Test.YtfoaaamcpknjnahCodeNum
namespace Go.Proofs.Ytfoaaamcpknjnah
set_option linter.unusedVariables false

def okLen (n : Int) : Bool := decide (0 ≤ n ∧ n ≤ 15)
theorem okLen_true {n : Int} (h : okLen n = true) : 0 ≤ n ∧ n ≤ 15 := of_decide_eq_true h
theorem okLen_false {n : Int} (h : okLen n = false) : ¬ (0 ≤ n ∧ n ≤ 15) := of_decide_eq_false h

theorem cnt_next (l : List Int) {k n : Nat} (hk : k < l.length) (hx : l.getD k 0 = (n : Int)) : upd (cnt (l.take k)) n (cnt (l.take k) n + 1) = cnt (l.take (k + 1)) := by
  funext m
  have e : l[k] = (n : Int) := by simpa [List.getD, hk] using hx
  simp only [upd, cnt]
  rw [List.take_succ_eq_append_getElem hk, List.count_append, e]
  by_cases h : m = n
  · subst h; simp
  · have : ((n : Int) == (m : Int)) = false := by rw [beq_eq_false_iff_ne]; omega
    simp [h, List.count_cons, this]

/-- Check's error -/
def errL (l : List Int) : Int := if 288 < l.length then 2 else if ∃ j, j < l.length ∧ okLen (l.getD j 0) = false then 3 else if 32768 < takenN (cnt l) 15 then 8 else 0
/-- what count answers besides -/
def cntE (l : List Int) : Nat → Nat := if errL l = 0 then cnt l else fun _ => 0

/-- what Check's OK says -/
structure Good (l : List Int) : Prop where
  len : l.length ≤ 288
  ok : ∀ j, j < l.length → 0 ≤ l.getD j 0 ∧ l.getD j 0 ≤ 15
  room : takenN (cnt l) 15 ≤ 32768

theorem errL_good {l : List Int} (h : errL l = 0) : Good l := by
  unfold errL at h
  split at h
  · cases h
  · split at h
    · cases h
    · split at h
      · cases h
      · rename_i h1 h2 h3
        refine ⟨by omega, fun j hj => ?_, by omega⟩
        cases e : okLen (l.getD j 0) with
        | true => exact okLen_true e
        | false => exact absurd ⟨j, hj, e⟩ h2
theorem good_errL {l : List Int} (h : Good l) : errL l = 0 := by
  unfold errL
  rw [if_neg (by have := h.len; omega), if_neg, if_neg (by have := h.room; omega)]
  rintro ⟨j, hj, e⟩
  exact okLen_false e (h.ok j hj)

/-- the code of place i -/
def codeN (l : List Int) (i : Nat) : Nat := if (l.getD i 0).toNat = 0 then 0 else firstN (cnt l) (l.getD i 0).toNat + cnt (l.take i) (l.getD i 0).toNat
/-- the codes behind k places -/
def codL (l : List Int) : Nat → List Nat
  | 0 => List.replicate l.length 0
  | k + 1 => (codL l k).set k (codeN l k)
theorem codL_length (l : List Int) : ∀ k, (codL l k).length = l.length
  | 0 => by simp [codL]
  | k + 1 => by rw [codL, List.length_set, codL_length l k]
theorem codL_at (l : List Int) {j : Nat} (hj : j < l.length) : ∀ k, (codL l k).getD j 0 = if j < k then codeN l j else 0
  | 0 => by simp [codL, List.getD, hj]
  | k + 1 => by
    have ih := codL_at l hj k
    simp only [codL, List.getD_eq_getElem?_getD, List.getElem?_set, codL_length] at ih ⊢
    by_cases e : k = j
    · subst e; simp [hj]
    · rw [if_neg e, ih]
      by_cases h : j < k
      · have : j < k + 1 := by omega
        simp [h, this]
      · have : ¬ j < k + 1 := by omega
        simp [h, this]
theorem codL_nil : ∀ k, codL [] k = []
  | 0 => rfl
  | k + 1 => by rw [codL, codL_nil k]; rfl
theorem codL_keep (l : List Int) (k : Nat) (h : codeN l k = 0) : codL l (k + 1) = codL l k := by
  rw [codL, h]
  by_cases hk : k < l.length
  · have e := codL_at l hk k
    rw [if_neg (by omega)] at e
    have hk2 : k < (codL l k).length := by rw [codL_length]; exact hk
    have e2 : (codL l k)[k] = 0 := by simpa [List.getD, hk2] using e
    apply List.ext_getElem?
    intro i
    rw [List.getElem?_set]
    by_cases hi : k = i
    · subst hi; simp [hk2, e2]
    · simp [hi]
  · rw [List.set_eq_of_length_le (by rw [codL_length]; omega)]
/-- the next code of each length behind k places -/
def nxt (l : List Int) (k : Nat) : Nat → Nat := fun n => if n = 0 then 0 else firstN (cnt l) n + cnt (l.take k) n
theorem nxt_zero (l : List Int) (n : Nat) : nxt l 0 n = firstN (cnt l) n := by
  unfold nxt
  by_cases e : n = 0
  · subst e; rfl
  · simp [e, cnt]
theorem nxt_next (l : List Int) {k n : Nat} (hk : k < l.length) (hx : l.getD k 0 = (n : Int)) (hn : 0 < n) : upd (nxt l k) n (nxt l k n + 1) = nxt l (k + 1) := by
  have h := cnt_next l hk hx
  funext m
  have hm := congrFun h m
  simp only [upd, nxt] at hm ⊢
  by_cases e : m = n
  · subst e
    have : ¬ m = 0 := by omega
    simp [this] at hm ⊢; omega
  · simp [e] at hm ⊢
    rw [hm]
theorem nxt_keep (l : List Int) {k : Nat} (hk : k < l.length) (hx : l.getD k 0 = ((0 : Nat) : Int)) : nxt l k = nxt l (k + 1) := by
  have h := cnt_next l hk hx
  funext m
  have hm := congrFun h m
  simp only [upd, nxt] at hm ⊢
  by_cases e : m = 0
  · simp [e]
  · simp [e] at hm ⊢
    rw [hm]
theorem codeN_nxt (l : List Int) {k n : Nat} (hx : l.getD k 0 = (n : Int)) : codeN l k = nxt l k n := by
  unfold codeN nxt; rw [hx, Int.toNat_natCast]

theorem cntE_good {l : List Int} (h : Good l) : cntE l = cnt l := by unfold cntE; rw [good_errL h]; rfl

/-- what Full answers where Check's answer is OK -/
def fullB (l : List Int) : Bool := decide ((cnt l 1 = 1 ∧ cnt l 0 + 1 = l.length) ∨ takenN (cnt l) 15 = 32768)

theorem cnt_take_lt (l : List Int) {k n : Nat} (hk : k < l.length) (hx : l.getD k 0 = (n : Int)) : cnt (l.take k) n < cnt l n := by
  have h := congrFun (cnt_next l hk hx) n
  simp only [upd, if_pos] at h
  have h2 : cnt (l.take (k + 1)) n ≤ cnt l n := by
    unfold cnt
    exact List.Sublist.count_le _ (List.take_sublist _ _)
  omega
theorem code_lt (l : List Int) (h : Good l) {k n : Nat} (hk : k < l.length) (hx : l.getD k 0 = (n : Int)) (hn : 0 < n) : firstN (cnt l) n ≤ codeN l k ∧ codeN l k < firstN (cnt l) n + cnt l n ∧ codeN l k < 2 ^ n := by
  have h1 := codeN_nxt l hx
  have h2 := cnt_take_lt l hk hx
  have h3 : n ≤ 15 := by have := (h.ok k hk).2; omega
  have h4 := first_room (cnt l) h.room (n := n) (by omega) h3
  unfold nxt at h1
  rw [if_neg (by omega)] at h1
  omega
/-- the places of length m among the first k -/
def plcK (l : List Int) (m : Nat) : Nat → List Nat
  | 0 => []
  | k + 1 => plcK l m k ++ (if l.getD k 0 = (m : Int) then [k] else [])
theorem plcK_length (l : List Int) (m : Nat) : ∀ k, k ≤ l.length → (plcK l m k).length = cnt (l.take k) m
  | 0, _ => by simp [plcK, cnt]
  | k + 1, hk => by
    have ih := plcK_length l m k (by omega)
    have hk' : k < l.length := by omega
    rw [plcK, List.length_append, ih, cnt, cnt, List.take_succ_eq_append_getElem hk', List.count_append]
    have e : l.getD k 0 = l[k] := by simp [List.getD, hk']
    rw [e]
    by_cases h : l[k] = (m : Int)
    · simp [h]
    · simp [h]
theorem plcK_pre (l : List Int) (m : Nat) : ∀ k d, ∃ r, plcK l m (k + d) = plcK l m k ++ r
  | k, 0 => ⟨[], by simp⟩
  | k, d + 1 => by
    obtain ⟨r, hr⟩ := plcK_pre l m k d
    refine ⟨r ++ (if l.getD (k + d) 0 = (m : Int) then [k + d] else []), ?_⟩
    rw [← Nat.add_assoc, plcK, hr, List.append_assoc]
/-- place p stands where as many of its length are ahead of it -/
theorem plcK_at (l : List Int) {m p : Nat} (hp : p < l.length) (hx : l.getD p 0 = (m : Int)) : (plcK l m l.length)[cnt (l.take p) m]? = some p := by
  obtain ⟨r, hr⟩ := plcK_pre l m (p + 1) (l.length - (p + 1))
  rw [show p + 1 + (l.length - (p + 1)) = l.length by omega] at hr
  rw [hr, plcK, if_pos hx]
  have h := plcK_length l m p (by omega)
  rw [List.append_assoc, List.getElem?_append_right (by omega), h]
  simp

/-- the bit at place p of a row -/
def bitL (bs : List Nat) (p : Nat) : Nat := bs.getD (p / 8) 0 / 2 ^ (p % 8) % 2

/-- the k bits from place p on, highest first -/
def codeAt (bs : List Nat) (p : Nat) : Nat → Nat
  | 0 => 0
  | k + 1 => 2 * codeAt bs p k + bitL bs (p + k)
theorem bitL_lt (bs : List Nat) (p : Nat) : bitL bs p < 2 := Nat.mod_lt _ (by decide)
theorem codeAt_lt (bs : List Nat) (p : Nat) : ∀ k, codeAt bs p k < 2 ^ k
  | 0 => by simp [codeAt]
  | k + 1 => by
    have h1 := codeAt_lt bs p k
    have h2 := bitL_lt bs (p + k)
    rw [codeAt, Nat.pow_succ]
    omega
/-- the k bits from p on are the code of a place of length k -/
def Hit (l : List Int) (bs : List Nat) (p k : Nat) : Prop := firstN (cnt l) k ≤ codeAt bs p k ∧ codeAt bs p k < firstN (cnt l) k + cnt l k
/-- what reading one place at p comes to -/
def Outcome (l : List Int) (bs : List Nat) (p x : Nat) (err : Int) (p' : Nat) : Prop :=
  (∃ k, 1 ≤ k ∧ k ≤ 15 ∧ (∀ j, 1 ≤ j → j < k → ¬ Hit l bs p j) ∧ p + k ≤ 8 * bs.length ∧ Hit l bs p k ∧ p' = p + k ∧ err = 0 ∧ (plcK l k l.length)[codeAt bs p k - firstN (cnt l) k]? = some x) ∨
  (∃ k, k < 15 ∧ (∀ j, 1 ≤ j → j ≤ k → ¬ Hit l bs p j) ∧ p + k = 8 * bs.length ∧ p' = p + k ∧ err = 7 ∧ x = 0) ∨
  ((∀ j, 1 ≤ j → j ≤ 15 → ¬ Hit l bs p j) ∧ p + 15 ≤ 8 * bs.length ∧ p' = p + 15 ∧ err = 8 ∧ x = 0)

theorem plc_some (l : List Int) {k i : Nat} (hi : i < cnt l k) : ∃ x, (plcK l k l.length)[i]? = some x := by
  have hl := plcK_length l k l.length (Nat.le_refl _)
  rw [List.take_length] at hl
  exact ⟨(plcK l k l.length)[i], by simp⟩

theorem testBit_nat (c i : Nat) : (c.testBit i).toNat = c / 2 ^ i % 2 := by
  rw [Nat.testBit_eq_decide_div_mod_eq]
  have := Nat.mod_lt (c / 2 ^ i) (show 0 < 2 by decide)
  by_cases h : c / 2 ^ i % 2 = 1
  · simp [h]
  · have h0 : c / 2 ^ i % 2 = 0 := by omega
    simp [h0]
theorem bitL_at (bs : List Nat) (q : Nat) : bitL bs q = (bitAt bs q).toNat := by unfold bitL bitAt; rw [testBit_nat]

/-- no code begins another one -/
theorem prefix_free (l : List Int) (hG : Good l) {i k m n : Nat} (hi : i < l.length) (hk : k < l.length) (hm : l.getD i 0 = (m : Int)) (hn : l.getD k 0 = (n : Int)) (hik : i ≠ k) (h0 : 0 < m) (hmn : m ≤ n) : codeN l k / 2 ^ (n - m) ≠ codeN l i := by
  obtain ⟨a1, a2, a3⟩ := code_lt l hG hi hm h0
  obtain ⟨b1, b2, b3⟩ := code_lt l hG hk hn (by omega)
  by_cases e : m = n
  · subst e
    rw [Nat.sub_self, Nat.pow_zero, Nat.div_one]
    intro h
    have e1 := plcK_at l hi hm
    have e2 := plcK_at l hk hn
    have d1 := codeN_nxt l hm
    have d2 := codeN_nxt l hn
    unfold nxt at d1 d2
    rw [if_neg (by omega)] at d1 d2
    have : cnt (l.take i) m = cnt (l.take k) m := by omega
    rw [this, e2] at e1
    exact hik (Option.some.inj e1).symm
  · have hf := first_far (cnt l) m (by omega) (n - m) (by omega)
    rw [show m + (n - m) = n by omega] at hf
    have h4 : firstN (cnt l) m + cnt l m ≤ codeN l k / 2 ^ (n - m) := (Nat.le_div_iff_mul_le (Nat.pow_pos (by decide))).2 (by omega)
    omega

/-- by a code that leaves no room some bits are always met -/
theorem full_met (l : List Int) (hf : takenN (cnt l) 15 = 32768) (bs : List Nat) (p : Nat) : ¬ ∀ j, 1 ≤ j → j ≤ 15 → ¬ Hit l bs p j := by
  intro hno
  have step : ∀ j, j ≤ 14 → firstN (cnt l) (j + 1) + cnt l (j + 1) ≤ codeAt bs p (j + 1) := by
    intro j
    induction j with
    | zero =>
      intro _
      have h := hno 1 (by omega) (by omega)
      unfold Hit at h
      have : firstN (cnt l) 1 = 0 := rfl
      rw [Nat.zero_add]
      omega
    | succ j ih =>
      intro hj
      have h1 := ih (by omega)
      have h := hno (j + 2) (by omega) (by omega)
      unfold Hit at h
      have e : firstN (cnt l) (j + 2) = 2 * (firstN (cnt l) (j + 1) + cnt l (j + 1)) := rfl
      have e2 : codeAt bs p (j + 2) = 2 * codeAt bs p (j + 1) + bitL bs (p + (j + 1)) := rfl
      rw [show j + 1 + 1 = j + 2 by omega]
      omega
  have h := step 14 (by omega)
  have h2 := codeAt_lt bs p 15
  have h3 := first_taken (cnt l) 14 (by omega)
  have h4 : takenN (cnt l) 15 = takenN (cnt l) 14 + cnt l 15 * 2 ^ (14 - 14) := rfl
  rw [Nat.sub_self, Nat.pow_zero, Nat.mul_one] at h3 h4
  have h5 : (2 : Nat) ^ 15 = 32768 := by decide
  rw [h5] at h2
  have h6 : 14 + 1 = 15 := rfl
  rw [h6] at h h3
  omega

end Go.Proofs.Ytfoaaamcpknjnah
