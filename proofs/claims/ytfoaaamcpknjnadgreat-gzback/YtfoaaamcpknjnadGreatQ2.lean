/-
  Plain facts on codes by their lengths: how many places have a length, what they take together, the first code of each length; no code begins another one.
-/
import Derived.Test.YtfoaaamcpknjnadGreatQ1
import Derived.Test.YtfoaaamcpknjnadGreatQ0
import Derived.Deep.WholeRow
import Derived.Laws.ResultCell
import Derived.Laws.Tables
import Derived.Laws.Rows
import Derived.Laws.CopyRow
import Derived.Deep.RegionHeld3
namespace Go.Proofs.YtfoaaamcpknjnadGreat
open Go.RowKit
set_option linter.unusedVariables false

/-- sixteen numbers as the model's array -/
def arr (c : Nat → Nat) : Array Value := ((List.range 16).map fun n => Value.int .i64 ((c n : Nat) : Int)).toArray
theorem arr_size (c : Nat → Nat) : (arr c).size = 16 := by simp [arr]
theorem arr_at (c : Nat → Nat) {j : Nat} (h : j < 16) : (arr c)[j]? = some (.int .i64 ((c j : Nat) : Int)) := by simp [arr, h]
theorem arr_one (c : Nat → Nat) : (arr c).all (·.oneCell') = true := by
  rw [Array.all_eq_true]
  intro i hi
  simp [arr, Value.oneCell']
def upd (c : Nat → Nat) (j x : Nat) : Nat → Nat := fun n => if n = j then x else c n
theorem arr_set (c : Nat → Nat) (j x : Nat) : (arr c).setIfInBounds j (.int .i64 ((x : Nat) : Int)) = arr (upd c j x) := by
  apply Array.ext_getElem?
  intro i
  rw [Array.getElem?_setIfInBounds]
  by_cases h : i < 16
  · rw [arr_at _ h, arr_size, arr_at _ h]
    by_cases e : j = i
    · subst e; simp [h, upd]
    · simp [e, upd, Ne.symm e]
  · rw [arr_size]
    have h1 : ∀ f, (arr f)[i]? = none := fun f => by simp [arr_size]; omega
    rw [h1, h1]
    by_cases e : j = i
    · subst e; simp [h]
    · simp [e]

/-- how many of l have the length n -/
def cnt (l : List Int) (n : Nat) : Nat := l.count (n : Int)
/-- what the lengths up to k take of 2 ^ 15 -/
def takenN (c : Nat → Nat) : Nat → Nat
  | 0 => 0
  | k + 1 => takenN c k + c (k + 1) * 2 ^ (14 - k)
/-- the code of the first place of each length -/
def firstN (c : Nat → Nat) : Nat → Nat
  | 0 => 0
  | 1 => 0
  | n + 2 => 2 * (firstN c (n + 1) + c (n + 1))

theorem cnt_le (l : List Int) (n : Nat) : cnt l n ≤ l.length := List.count_le_length
theorem cnt_zero (n : Nat) : cnt [] n = 0 := rfl

theorem takenN_le (c : Nat → Nat) {m : Nat} (h : ∀ n, c n ≤ m) : ∀ k, takenN c k ≤ k * (m * 32768)
  | 0 => by simp [takenN]
  | k + 1 => by
    have h1 := takenN_le c h k
    have h2 : c (k + 1) * 2 ^ (14 - k) ≤ m * 32768 := Nat.mul_le_mul (h _) (by
      have := Nat.pow_le_pow_right (n := 2) (by decide) (show 14 - k ≤ 15 by omega)
      omega)
    rw [takenN, Nat.succ_mul]
    omega

/-- what is taken and the first codes go together -/
theorem first_taken (c : Nat → Nat) : ∀ k, k ≤ 14 → firstN c (k + 1) * 2 ^ (14 - k) = takenN c k
  | 0, _ => by simp [firstN, takenN]
  | k + 1, h => by
    have ih := first_taken c k (by omega)
    have e : 14 - k = (14 - (k + 1)) + 1 := by omega
    rw [takenN, ← ih, firstN, e, Nat.pow_succ]
    generalize 2 ^ (14 - (k + 1)) = p
    rw [← Nat.add_mul, Nat.mul_comm p 2, ← Nat.mul_assoc, Nat.mul_comm 2]
theorem taken_mono (c : Nat → Nat) {j k : Nat} (h : j ≤ k) : takenN c j ≤ takenN c k := by
  induction h with
  | refl => exact Nat.le_refl _
  | step _ ih => exact Nat.le_trans ih (Nat.le_add_right _ _)
/-- of a code that is one each length has room -/
theorem first_room (c : Nat → Nat) (h : takenN c 15 ≤ 32768) {n : Nat} (h1 : 1 ≤ n) (h2 : n ≤ 15) : firstN c n + c n ≤ 2 ^ n := by
  obtain ⟨k, rfl⟩ : ∃ k, n = k + 1 := ⟨n - 1, by omega⟩
  have e := first_taken c k (by omega)
  have m := taken_mono c (show k + 1 ≤ 15 by omega)
  rw [takenN] at m
  have m2 : (firstN c (k + 1) + c (k + 1)) * 2 ^ (14 - k) ≤ 2 ^ (k + 1) * 2 ^ (14 - k) := by
    rw [Nat.add_mul, e, ← Nat.pow_add]
    have : k + 1 + (14 - k) = 15 := by omega
    rw [this]
    omega
  exact Nat.le_of_mul_le_mul_right m2 (Nat.pow_pos (by decide))
/-- a longer length begins behind all codes of a shorter one -/
theorem first_far (c : Nat → Nat) (m : Nat) (h1 : 1 ≤ m) : ∀ d, 1 ≤ d → (firstN c m + c m) * 2 ^ d ≤ firstN c (m + d)
  | 0, h => by omega
  | d + 1, _ => by
    obtain ⟨k, rfl⟩ : ∃ k, m = k + 1 := ⟨m - 1, by omega⟩
    have e : firstN c (k + 1 + (d + 1)) = 2 * (firstN c (k + 1 + d) + c (k + 1 + d)) := by
      have : k + 1 + (d + 1) = (k + d) + 2 := by omega
      have h3 : k + 1 + d = (k + d) + 1 := by omega
      rw [this, firstN, h3]
    rw [e, Nat.pow_succ]
    by_cases hd : d = 0
    · subst hd; simp; omega
    · have := first_far c (k + 1) h1 d (by omega)
      rw [← Nat.mul_assoc]
      omega
end Go.Proofs.YtfoaaamcpknjnadGreat

/-
  Lengths and their codes, of lists alone: what count, Codes, the reader's places say.
-/
namespace Go.Proofs.YtfoaaamcpknjnadGreat
set_option linter.unusedVariables false

def okLen (n : Int) : Bool := decide (0 ≤ n ∧ n ≤ 15)
theorem okLen_true {n : Int} (h : okLen n = true) : 0 ≤ n ∧ n ≤ 15 := of_decide_eq_true h
theorem okLen_false {n : Int} (h : okLen n = false) : ¬ (0 ≤ n ∧ n ≤ 15) := of_decide_eq_false h

theorem cnt_next (l : List Int) {k n : Nat} (hk : k < l.length) (hx : l.getD k 0 = (n : Int)) : upd (cnt (l.take k)) n (cnt (l.take k) n + 1) = cnt (l.take (k + 1)) := by
  funext m
  have e : l[k] = (n : Int) := by simpa [List.getD, hk] using hx
  simp only [upd, cnt]
  rw [List.take_succ_eq_append_getElem hk, List.count_append, e]
  by_cases h : m = n
  · subst h; simp
  · have : ((n : Int) == (m : Int)) = false := by rw [beq_eq_false_iff_ne]; omega
    simp [h, List.count_cons, this]

/-- Check's error -/
def errL (l : List Int) : Int := if 288 < l.length then 2 else if ∃ j, j < l.length ∧ okLen (l.getD j 0) = false then 3 else if 32768 < takenN (cnt l) 15 then 8 else 0
/-- what count answers besides -/
def cntE (l : List Int) : Nat → Nat := if errL l = 0 then cnt l else fun _ => 0

/-- what Check's OK says -/
structure Good (l : List Int) : Prop where
  len : l.length ≤ 288
  ok : ∀ j, j < l.length → 0 ≤ l.getD j 0 ∧ l.getD j 0 ≤ 15
  room : takenN (cnt l) 15 ≤ 32768

theorem errL_good {l : List Int} (h : errL l = 0) : Good l := by
  unfold errL at h
  split at h
  · cases h
  · split at h
    · cases h
    · split at h
      · cases h
      · rename_i h1 h2 h3
        refine ⟨by omega, fun j hj => ?_, by omega⟩
        cases e : okLen (l.getD j 0) with
        | true => exact okLen_true e
        | false => exact absurd ⟨j, hj, e⟩ h2
theorem good_errL {l : List Int} (h : Good l) : errL l = 0 := by
  unfold errL
  rw [if_neg (by have := h.len; omega), if_neg, if_neg (by have := h.room; omega)]
  rintro ⟨j, hj, e⟩
  exact okLen_false e (h.ok j hj)

/-- the code of place i -/
def codeN (l : List Int) (i : Nat) : Nat := if (l.getD i 0).toNat = 0 then 0 else firstN (cnt l) (l.getD i 0).toNat + cnt (l.take i) (l.getD i 0).toNat
/-- the codes behind k places -/
def codL (l : List Int) : Nat → List Nat
  | 0 => List.replicate l.length 0
  | k + 1 => (codL l k).set k (codeN l k)
theorem codL_length (l : List Int) : ∀ k, (codL l k).length = l.length
  | 0 => by simp [codL]
  | k + 1 => by rw [codL, List.length_set, codL_length l k]
theorem codL_at (l : List Int) {j : Nat} (hj : j < l.length) : ∀ k, (codL l k).getD j 0 = if j < k then codeN l j else 0
  | 0 => by simp [codL, List.getD, hj]
  | k + 1 => by
    have ih := codL_at l hj k
    simp only [codL, List.getD_eq_getElem?_getD, List.getElem?_set, codL_length] at ih ⊢
    by_cases e : k = j
    · subst e; simp [hj]
    · rw [if_neg e, ih]
      by_cases h : j < k
      · have : j < k + 1 := by omega
        simp [h, this]
      · have : ¬ j < k + 1 := by omega
        simp [h, this]
theorem codL_nil : ∀ k, codL [] k = []
  | 0 => rfl
  | k + 1 => by rw [codL, codL_nil k]; rfl
theorem codL_keep (l : List Int) (k : Nat) (h : codeN l k = 0) : codL l (k + 1) = codL l k := by
  rw [codL, h]
  by_cases hk : k < l.length
  · have e := codL_at l hk k
    rw [if_neg (by omega)] at e
    have hk2 : k < (codL l k).length := by rw [codL_length]; exact hk
    have e2 : (codL l k)[k] = 0 := by simpa [List.getD, hk2] using e
    apply List.ext_getElem?
    intro i
    rw [List.getElem?_set]
    by_cases hi : k = i
    · subst hi; simp [hk2, e2]
    · simp [hi]
  · rw [List.set_eq_of_length_le (by rw [codL_length]; omega)]
/-- the next code of each length behind k places -/
def nxt (l : List Int) (k : Nat) : Nat → Nat := fun n => if n = 0 then 0 else firstN (cnt l) n + cnt (l.take k) n
theorem nxt_zero (l : List Int) (n : Nat) : nxt l 0 n = firstN (cnt l) n := by
  unfold nxt
  by_cases e : n = 0
  · subst e; rfl
  · simp [e, cnt]
theorem nxt_next (l : List Int) {k n : Nat} (hk : k < l.length) (hx : l.getD k 0 = (n : Int)) (hn : 0 < n) : upd (nxt l k) n (nxt l k n + 1) = nxt l (k + 1) := by
  have h := cnt_next l hk hx
  funext m
  have hm := congrFun h m
  simp only [upd, nxt] at hm ⊢
  by_cases e : m = n
  · subst e
    have : ¬ m = 0 := by omega
    simp [this] at hm ⊢; omega
  · simp [e] at hm ⊢
    rw [hm]
theorem nxt_keep (l : List Int) {k : Nat} (hk : k < l.length) (hx : l.getD k 0 = ((0 : Nat) : Int)) : nxt l k = nxt l (k + 1) := by
  have h := cnt_next l hk hx
  funext m
  have hm := congrFun h m
  simp only [upd, nxt] at hm ⊢
  by_cases e : m = 0
  · simp [e]
  · simp [e] at hm ⊢
    rw [hm]
theorem codeN_nxt (l : List Int) {k n : Nat} (hx : l.getD k 0 = (n : Int)) : codeN l k = nxt l k n := by
  unfold codeN nxt; rw [hx, Int.toNat_natCast]

theorem cntE_good {l : List Int} (h : Good l) : cntE l = cnt l := by unfold cntE; rw [good_errL h]; rfl

/-- what Full answers where Check's answer is OK -/
def fullB (l : List Int) : Bool := decide ((cnt l 1 = 1 ∧ cnt l 0 + 1 = l.length) ∨ takenN (cnt l) 15 = 32768)

theorem cnt_take_lt (l : List Int) {k n : Nat} (hk : k < l.length) (hx : l.getD k 0 = (n : Int)) : cnt (l.take k) n < cnt l n := by
  have h := congrFun (cnt_next l hk hx) n
  simp only [upd, if_pos] at h
  have h2 : cnt (l.take (k + 1)) n ≤ cnt l n := by
    unfold cnt
    exact List.Sublist.count_le _ (List.take_sublist _ _)
  omega
theorem code_lt (l : List Int) (h : Good l) {k n : Nat} (hk : k < l.length) (hx : l.getD k 0 = (n : Int)) (hn : 0 < n) : firstN (cnt l) n ≤ codeN l k ∧ codeN l k < firstN (cnt l) n + cnt l n ∧ codeN l k < 2 ^ n := by
  have h1 := codeN_nxt l hx
  have h2 := cnt_take_lt l hk hx
  have h3 : n ≤ 15 := by have := (h.ok k hk).2; omega
  have h4 := first_room (cnt l) h.room (n := n) (by omega) h3
  unfold nxt at h1
  rw [if_neg (by omega)] at h1
  omega
/-- the places of length m among the first k -/
def plcK (l : List Int) (m : Nat) : Nat → List Nat
  | 0 => []
  | k + 1 => plcK l m k ++ (if l.getD k 0 = (m : Int) then [k] else [])
theorem plcK_length (l : List Int) (m : Nat) : ∀ k, k ≤ l.length → (plcK l m k).length = cnt (l.take k) m
  | 0, _ => by simp [plcK, cnt]
  | k + 1, hk => by
    have ih := plcK_length l m k (by omega)
    have hk' : k < l.length := by omega
    rw [plcK, List.length_append, ih, cnt, cnt, List.take_succ_eq_append_getElem hk', List.count_append]
    have e : l.getD k 0 = l[k] := by simp [List.getD, hk']
    rw [e]
    by_cases h : l[k] = (m : Int)
    · simp [h]
    · simp [h]
theorem plcK_pre (l : List Int) (m : Nat) : ∀ k d, ∃ r, plcK l m (k + d) = plcK l m k ++ r
  | k, 0 => ⟨[], by simp⟩
  | k, d + 1 => by
    obtain ⟨r, hr⟩ := plcK_pre l m k d
    refine ⟨r ++ (if l.getD (k + d) 0 = (m : Int) then [k + d] else []), ?_⟩
    rw [← Nat.add_assoc, plcK, hr, List.append_assoc]
/-- place p stands where as many of its length are ahead of it -/
theorem plcK_at (l : List Int) {m p : Nat} (hp : p < l.length) (hx : l.getD p 0 = (m : Int)) : (plcK l m l.length)[cnt (l.take p) m]? = some p := by
  obtain ⟨r, hr⟩ := plcK_pre l m (p + 1) (l.length - (p + 1))
  rw [show p + 1 + (l.length - (p + 1)) = l.length by omega] at hr
  rw [hr, plcK, if_pos hx]
  have h := plcK_length l m p (by omega)
  rw [List.append_assoc, List.getElem?_append_right (by omega), h]
  simp

/-- the bit at place p of a row -/
def bitL (bs : List Nat) (p : Nat) : Nat := bs.getD (p / 8) 0 / 2 ^ (p % 8) % 2

/-- the k bits from place p on, highest first -/
def codeAt (bs : List Nat) (p : Nat) : Nat → Nat
  | 0 => 0
  | k + 1 => 2 * codeAt bs p k + bitL bs (p + k)
theorem bitL_lt (bs : List Nat) (p : Nat) : bitL bs p < 2 := Nat.mod_lt _ (by decide)
theorem codeAt_lt (bs : List Nat) (p : Nat) : ∀ k, codeAt bs p k < 2 ^ k
  | 0 => by simp [codeAt]
  | k + 1 => by
    have h1 := codeAt_lt bs p k
    have h2 := bitL_lt bs (p + k)
    rw [codeAt, Nat.pow_succ]
    omega
/-- the k bits from p on are the code of a place of length k -/
def Hit (l : List Int) (bs : List Nat) (p k : Nat) : Prop := firstN (cnt l) k ≤ codeAt bs p k ∧ codeAt bs p k < firstN (cnt l) k + cnt l k
/-- what reading one place at p comes to -/
def Outcome (l : List Int) (bs : List Nat) (p x : Nat) (err : Int) (p' : Nat) : Prop :=
  (∃ k, 1 ≤ k ∧ k ≤ 15 ∧ (∀ j, 1 ≤ j → j < k → ¬ Hit l bs p j) ∧ p + k ≤ 8 * bs.length ∧ Hit l bs p k ∧ p' = p + k ∧ err = 0 ∧ (plcK l k l.length)[codeAt bs p k - firstN (cnt l) k]? = some x) ∨
  (∃ k, k < 15 ∧ (∀ j, 1 ≤ j → j ≤ k → ¬ Hit l bs p j) ∧ p + k = 8 * bs.length ∧ p' = p + k ∧ err = 7 ∧ x = 0) ∨
  ((∀ j, 1 ≤ j → j ≤ 15 → ¬ Hit l bs p j) ∧ p + 15 ≤ 8 * bs.length ∧ p' = p + 15 ∧ err = 8 ∧ x = 0)

theorem plc_some (l : List Int) {k i : Nat} (hi : i < cnt l k) : ∃ x, (plcK l k l.length)[i]? = some x := by
  have hl := plcK_length l k l.length (Nat.le_refl _)
  rw [List.take_length] at hl
  exact ⟨(plcK l k l.length)[i], by simp⟩

theorem testBit_nat (c i : Nat) : (c.testBit i).toNat = c / 2 ^ i % 2 := by
  rw [Nat.testBit_eq_decide_div_mod_eq]
  have := Nat.mod_lt (c / 2 ^ i) (show 0 < 2 by decide)
  by_cases h : c / 2 ^ i % 2 = 1
  · simp [h]
  · have h0 : c / 2 ^ i % 2 = 0 := by omega
    simp [h0]
theorem bitL_at (bs : List Nat) (q : Nat) : bitL bs q = (bitAt bs q).toNat := by unfold bitL bitAt; rw [testBit_nat]

/-- no code begins another one -/
theorem prefix_free (l : List Int) (hG : Good l) {i k m n : Nat} (hi : i < l.length) (hk : k < l.length) (hm : l.getD i 0 = (m : Int)) (hn : l.getD k 0 = (n : Int)) (hik : i ≠ k) (h0 : 0 < m) (hmn : m ≤ n) : codeN l k / 2 ^ (n - m) ≠ codeN l i := by
  obtain ⟨a1, a2, a3⟩ := code_lt l hG hi hm h0
  obtain ⟨b1, b2, b3⟩ := code_lt l hG hk hn (by omega)
  by_cases e : m = n
  · subst e
    rw [Nat.sub_self, Nat.pow_zero, Nat.div_one]
    intro h
    have e1 := plcK_at l hi hm
    have e2 := plcK_at l hk hn
    have d1 := codeN_nxt l hm
    have d2 := codeN_nxt l hn
    unfold nxt at d1 d2
    rw [if_neg (by omega)] at d1 d2
    have : cnt (l.take i) m = cnt (l.take k) m := by omega
    rw [this, e2] at e1
    exact hik (Option.some.inj e1).symm
  · have hf := first_far (cnt l) m (by omega) (n - m) (by omega)
    rw [show m + (n - m) = n by omega] at hf
    have h4 : firstN (cnt l) m + cnt l m ≤ codeN l k / 2 ^ (n - m) := (Nat.le_div_iff_mul_le (Nat.pow_pos (by decide))).2 (by omega)
    omega

/-- by a code that leaves no room some bits are always met -/
theorem full_met (l : List Int) (hf : takenN (cnt l) 15 = 32768) (bs : List Nat) (p : Nat) : ¬ ∀ j, 1 ≤ j → j ≤ 15 → ¬ Hit l bs p j := by
  intro hno
  have step : ∀ j, j ≤ 14 → firstN (cnt l) (j + 1) + cnt l (j + 1) ≤ codeAt bs p (j + 1) := by
    intro j
    induction j with
    | zero =>
      intro _
      have h := hno 1 (by omega) (by omega)
      unfold Hit at h
      have : firstN (cnt l) 1 = 0 := rfl
      rw [Nat.zero_add]
      omega
    | succ j ih =>
      intro hj
      have h1 := ih (by omega)
      have h := hno (j + 2) (by omega) (by omega)
      unfold Hit at h
      have e : firstN (cnt l) (j + 2) = 2 * (firstN (cnt l) (j + 1) + cnt l (j + 1)) := rfl
      have e2 : codeAt bs p (j + 2) = 2 * codeAt bs p (j + 1) + bitL bs (p + (j + 1)) := rfl
      rw [show j + 1 + 1 = j + 2 by omega]
      omega
  have h := step 14 (by omega)
  have h2 := codeAt_lt bs p 15
  have h3 := first_taken (cnt l) 14 (by omega)
  have h4 : takenN (cnt l) 15 = takenN (cnt l) 14 + cnt l 15 * 2 ^ (14 - 14) := rfl
  rw [Nat.sub_self, Nat.pow_zero, Nat.mul_one] at h3 h4
  have h5 : (2 : Nat) ^ 15 = 32768 := by decide
  rw [h5] at h2
  have h6 : 14 + 1 = 15 := rfl
  rw [h6] at h h3
  omega

end Go.Proofs.YtfoaaamcpknjnadGreat

/-
  Arrays of sixteen numbers in memory; what code.taken and code.firstCodes answer.
-/
namespace Go.Proofs.YtfoaaamcpknjnadGreat
open Go.RowKit
set_option linter.unusedVariables false

/-- block b holds the sixteen numbers c -/
def Arr (w : World) (b : Nat) (c : Nat → Nat) : Prop := w.heap[b]? = some (.cells (arr c) 204 (0, 0))

theorem arr_congr {c d : Nat → Nat} (h : ∀ n, n < 16 → c n = d n) : arr c = arr d := by
  unfold arr
  congr 1
  apply List.map_congr_left
  intro n hn
  rw [h n (by simpa using hn)]
theorem Arr.congr {w : World} {b : Nat} {c d : Nat → Nat} (h : Arr w b c) (e : ∀ n, n < 16 → c n = d n) : Arr w b d := by
  unfold Arr; rw [← arr_congr e]; exact h
theorem Arr.lt {w : World} {b : Nat} {c : Nat → Nat} (h : Arr w b c) : b < w.heap.size := by
  by_cases e : b < w.heap.size
  · exact e
  · have : w.heap[b]? = none := by simp; omega
    rw [Arr, this] at h; cases h
theorem Arr.cell {w : World} {b : Nat} {c : Nat → Nat} (h : Arr w b c) {j : Nat} (hj : j < 16) : w.cell? ⟨b, j, none⟩ = some (.int .i64 ((c j : Nat) : Int)) := by
  rw [cell_of_row w b j _ _ _ h]; exact arr_at c hj
theorem Arr.frozen {w : World} {b : Nat} {c : Nat → Nat} (h : Arr w b c) (j : Nat) : w.frozen? ⟨b, j, none⟩ = false := frozen_of_row w b j _ _ h
theorem Arr.new (w : World) (c : Nat → Nat) {b : Nat} (hb : b = w.heap.size) : Arr (w.alloc (.cells (arr c) 204)) b c := by rw [hb]; exact heap_alloc_new w _
theorem Arr.alloc {w : World} {b : Nat} {c : Nat → Nat} (h : Arr w b c) (o : Obj) : Arr (w.alloc o) b c :=
  (Below.heap_alloc w o b h.lt).trans h
theorem Arr.drew {w : World} {b : Nat} {c : Nat → Nat} (h : Arr w b c) : Arr w.drew b c := h
theorem Arr.drewN {w : World} {b : Nat} {c : Nat → Nat} (h : Arr w b c) (n : Nat) : Arr (w.drewN n) b c := h
theorem Arr.below {w w' : World} {B b : Nat} {c : Nat → Nat} (h : Arr w b c) (hB : Below B w w') (hb : b < B) : Arr w' b c := by
  unfold Arr; rw [hB.block b hb]; exact h
theorem Arr.set {w : World} {b : Nat} {c : Nat → Nat} (h : Arr w b c) (j x : Nat) : Arr (w.setCell ⟨b, j, none⟩ (.int .i64 ((x : Nat) : Int))) b (upd c j x) := by
  unfold Arr; rw [heap_setCell_same w b j _ _ _ h, arr_set]
theorem Arr.other {w : World} {b : Nat} {c : Nat → Nat} (h : Arr w b c) {a : Addr} (hb : b ≠ a.block) (v : Value) : Arr (w.setCell a v) b c := by
  unfold Arr; rw [heap_setCell_other w a b v hb]; exact h
theorem Arr.setRow {w : World} {b : Nat} {c : Nat → Nat} (h : Arr w b c) (d : Nat → Nat) : Arr (w.setRow b (arr d)) b d := setRow_heap w b _ _ _ _ h
theorem Arr.setRow_other {w : World} {b g : Nat} {c : Nat → Nat} (h : Arr w b c) (hb : b ≠ g) (cs : Array Value) : Arr (w.setRow g cs) b c := by
  unfold Arr; rw [Go.setRow_other w g b cs hb]; exact h
theorem below_setRow {B : Nat} {a w : World} (h : Below B a w) {g : Nat} (hg : B ≤ g) (cs : Array Value) : Below B a (w.setRow g cs) :=
  ⟨h.os, h.tape, h.output, by simp; exact h.size, fun k hk => (Go.setRow_other w g k cs (by omega)).trans (h.block k hk)⟩

theorem zero16 : (#[.int .i64 0, .int .i64 0, .int .i64 0, .int .i64 0, .int .i64 0, .int .i64 0, .int .i64 0, .int .i64 0, .int .i64 0, .int .i64 0, .int .i64 0, .int .i64 0, .int .i64 0, .int .i64 0, .int .i64 0, .int .i64 0] : Array Value) = arr (fun _ => 0) := rfl

theorem info_arr : (Tryz.prog.info? 204).map (·.size) = some 16 := by kernel_rfl

theorem load_arr {ops : Array Oper} {rest : List Oper} {o : Oper} {a : Act} {w : World} {Q : Exit → Act → World → Prop} (hgd : o.guard = none) (x : Operand) (ho : o.op = .load 204 x)
    (b : Nat) (c : Nat → Nat) (hx : a.eval x = .pointer (some ⟨b, 0, none⟩)) (h : Arr w b c) (k : wpList Tryz.prog ops Q rest (a.put o.dst (.agg (arr c))) w) : wpList Tryz.prog ops Q (o :: rest) a w :=
  wpList_load_row hgd 204 x ho b hx _ _ _ _ h Tryz.underlying204 rfl (by rw [arr_size]; exact info_arr) k
theorem load_arr_want {ops : Array Oper} {rest : List Oper} {o : Oper} {a : Act} {w : World} {Q : Exit → Act → World → Prop} (x : Operand) (ho : o.op = .load 204 x) (hgd : Region.wanted o (yielded ops a.tmps) = true)
    (b : Nat) (c : Nat → Nat) (hx : a.eval x = .pointer (some ⟨b, 0, none⟩)) (h : Arr w b c) (k : wpList Tryz.prog ops Q rest (a.put o.dst (.agg (arr c))) w) : wpList Tryz.prog ops Q (o :: rest) a w := by
  unfold wpList
  rw [if_pos hgd]
  exact .inl (wp_load_row 204 x ho b hx _ _ _ _ h Tryz.underlying204 rfl (by rw [arr_size]; exact info_arr) k)
theorem store_arr {ops : Array Oper} {rest : List Oper} {o : Oper} {a : Act} {w : World} {Q : Exit → Act → World → Prop} (hgd : o.guard = none) (x y : Operand) (ho : o.op = .store 204 x y)
    (b : Nat) (c d : Nat → Nat) (hx : a.eval x = .pointer (some ⟨b, 0, none⟩)) (hy : a.eval y = .agg (arr d)) (h : Arr w b c) (k : wpList Tryz.prog ops Q rest (a.put o.dst undef) (w.setRow b (arr d))) : wpList Tryz.prog ops Q (o :: rest) a w :=
  wpList_store_row hgd 204 x y ho b _ hx hy _ _ h (by rw [arr_size]; exact info_arr) (by rw [arr_size, arr_size]) (arr_one d) k
theorem store_new {ops : Array Oper} {rest : List Oper} {o : Oper} {a : Act} {W : World} {Q : Exit → Act → World → Prop} (hgd : o.guard = none) (x y : Operand) (ho : o.op = .store 204 x y)
    (w : World) (c d : Nat → Nat) (hW : W = w.alloc (.cells (arr c) 204)) (hx : a.eval x = .pointer (some ⟨w.heap.size, 0, none⟩)) (hy : a.eval y = .agg (arr d)) (k : wpList Tryz.prog ops Q rest (a.put o.dst undef) (w.alloc (.cells (arr d) 204))) : wpList Tryz.prog ops Q (o :: rest) a W := by
  subst hW
  exact store_arr hgd x y ho _ c d hx hy (Arr.new w c rfl) (by rw [World.setRow_alloc_new]; exact k)
theorem loadVar_arr {w : World} {b : Nat} {c : Nat → Nat} (h : Arr w b c) : (loadVar 204 ⟨b, 0, none⟩).run Tryz.prog w = .ok (.agg (arr c)) w :=
  run_loadVar_row w b _ _ _ _ _ h Tryz.underlying204 rfl (by rw [arr_size]; exact info_arr)

theorem ret_arr_tmp {fn : Func} {p u : Tmp} (h : fn.results = #[.cell p 204, .tmp u]) (tmps : Array Value) (w : World) (b : Nat) (c : Nat → Nat) (hp : tmps.getD p undef = .pointer (some ⟨b, 0, none⟩)) (hA : Arr w b c) :
    (results fn tmps).run Tryz.prog w = .ok (.tuple #[.agg (arr c), tmps.getD u undef]) w := by
  rw [results_cell_tmp h, hp]
  simp [asAddr, Result.andThen, loadVar_arr hA]

theorem taken_any (c : Nat → Nat) (w : World) (hc : ∀ n, c n ≤ 288) :
    Calls Tryz.prog 151 #[.agg (arr c)] w fun e w' => e = .returned (.int .i64 (takenN c 15 : Nat)) ∧ Below w.heap.size w w' := by
  go_enter Tryz.func151, Tryz.ntmps151
  go_wp2
  have hA := hide (Arr.new w c rfl)
  have hB := hide ((Below.refl w.heap.size w).alloc (Nat.le_refl _) (.cells (arr c) 204))
  go_loop [3, 4] (fun s i => ∃ k : Nat, k ≤ 15 ∧ i = .int .i64 ((k : Int) + 1) ∧ s = .int .i64 (takenN c k : Nat)) (fun _ i => 16 - (intOf i).toNat)
  case atStart => exact ⟨0, by omega, rfl, rfl⟩
  case round =>
    obtain ⟨k, hk, rfl, rfl⟩ := hrel
    by_cases hlt : k < 15
    · have c1 := (unhide hA).cell (j := k + 1) (by omega)
      have ht := takenN_le c hc (k + 1)
      have H : Hid (takenN c (k + 1) = takenN c k + c (k + 1) * 2 ^ (14 - k)) := rfl
      have hw : wrap64 ((takenN c k : Int) + wrap64 ((c (k + 1) : Int) * 2 ^ (14 - k))) = ((takenN c (k + 1) : Nat) : Int) := by
        rw [takenN] at ht ⊢
        have e : ((c (k + 1) : Int) * 2 ^ (14 - k)) = ((c (k + 1) * 2 ^ (14 - k) : Nat) : Int) := by push_cast; rfl
        rw [e]
        generalize c (k + 1) * 2 ^ (14 - k) = x at *
        have h3 : (k + 1) * (288 * 32768) ≤ 15 * (288 * 32768) := Nat.mul_le_mul_right _ (by omega)
        unfold wrap64
        omega
      have HW := hide hw
      clear ht hw
      go_wp2
      go_round
      case rel => exact ⟨k + 1, by omega, by go_num, by rw [unhide HW]⟩
      case measure => simp [intOf]; omega
    · obtain rfl : k = 15 := by omega
      go_wp2
      go_ret
      exact ⟨rfl, unhide hB⟩

def fpart (c : Nat → Nat) (k : Nat) : Nat → Nat := fun n => if 1 ≤ n ∧ n ≤ k then firstN c n else 0
theorem fpart_zero (c : Nat → Nat) : fpart c 0 = fun _ => 0 := by funext n; simp [fpart]; omega
theorem fpart_next (c : Nat → Nat) (k : Nat) : upd (fpart c k) (k + 1) (firstN c (k + 1)) = fpart c (k + 1) := by
  funext n
  simp only [upd, fpart]
  by_cases e : n = k + 1
  · subst e; simp
  · by_cases h : 1 ≤ n ∧ n ≤ k
    · have : 1 ≤ n ∧ n ≤ k + 1 := by omega
      simp [e, h, this]
    · have : ¬ (1 ≤ n ∧ n ≤ k + 1) := by omega
      simp [e, h, this]
theorem fpart_all (c : Nat → Nat) (n : Nat) (h : n < 16) : fpart c 15 n = firstN c n := by
  simp only [fpart]
  by_cases e : n = 0
  · subst e; simp [firstN]
  · have : 1 ≤ n ∧ n ≤ 15 := by omega
    simp [this]

theorem first_le (c : Nat → Nat) (hc : ∀ n, c n ≤ 288) : ∀ n, firstN c (n + 1) + 576 ≤ 288 * 2 ^ (n + 1)
  | 0 => by simp [firstN]
  | n + 1 => by
    have h1 := first_le c hc n
    have h2 := hc (n + 1)
    rw [firstN, Nat.pow_succ]
    generalize 2 ^ (n + 1) = p at *
    omega
def nextN (c : Nat → Nat) : Nat → Nat
  | 0 => 0
  | k + 1 => firstN c (k + 1) + c (k + 1)
theorem first_next (c : Nat → Nat) (k : Nat) : firstN c (k + 1) = 2 * nextN c k := by cases k <;> rfl
theorem first_small (c : Nat → Nat) (hc : ∀ n, c n ≤ 288) {k : Nat} (hk : k ≤ 14) : firstN c (k + 1) ≤ 9437184 := by
  have h1 := first_le c hc k
  have h2 := Nat.pow_le_pow_right (n := 2) (by decide) (show k + 1 ≤ 15 by omega)
  have h3 : 288 * 2 ^ (k + 1) ≤ 288 * 2 ^ 15 := Nat.mul_le_mul_left _ h2
  omega

set_option maxRecDepth 100000 in
theorem firstCodes_any (c : Nat → Nat) (w : World) (hc : ∀ n, c n ≤ 288) :
    Calls Tryz.prog 140 #[.agg (arr c)] w fun e w' => e = .returned (.agg (arr (firstN c))) ∧ Below w.heap.size w w' := by
  go_enter Tryz.func140, Tryz.ntmps140
  go_wp2
  simp only [zero16]
  have HA := hide (((Arr.new w c rfl).alloc (.cells (arr (fun _ => 0)) 204)).alloc (.cells (arr (fun _ => 0)) 204))
  have HR := hide ((Arr.new (w.alloc (.cells (arr c) 204)) (fun _ => 0) (b := w.heap.size + 1) (by simp)).alloc (.cells (arr (fun _ => 0)) 204))
  have HF := hide (Arr.new ((w.alloc (.cells (arr c) 204)).alloc (.cells (arr (fun _ => 0)) 204)) (fun _ => 0) (b := w.heap.size + 1 + 1) (by simp))
  have HB := hide ((((Below.refl w.heap.size w).alloc (Nat.le_refl _) (.cells (arr c) 204)).alloc (by simp) (.cells (arr (fun _ => 0)) 204)).alloc (by simp; omega) (.cells (arr (fun _ => 0)) 204))
  go_loopw [4, 5] (fun s i wr => ∃ k : Nat, k ≤ 15 ∧ i = .int .i64 ((k : Int) + 1) ∧ s = .int .i64 (nextN c k : Nat) ∧ Arr wr w.heap.size c ∧ Arr wr (w.heap.size + 1) (fun _ => 0) ∧ Arr wr (w.heap.size + 1 + 1) (fpart c k) ∧ Below w.heap.size w wr) (fun _ i _ => 16 - (intOf i).toNat)
  case atStart => exact ⟨0, by omega, rfl, rfl, unhide HA, unhide HR, by rw [fpart_zero]; exact unhide HF, unhide HB⟩
  case round =>
    obtain ⟨k, hk, rfl, rfl, hA, hR, hF, hB⟩ := hrel
    have HA1 := hide hA
    have HR1 := hide hR
    have HF1 := hide hF
    have HB1 := hide hB
    by_cases hlt : k < 15
    · have c1 := hA.cell (j := k + 1) (by omega)
      have c2 := hF.cell (j := k + 1) (by omega)
      have f2 := hF.frozen (k + 1)
      have c3 : (wr.setCell ⟨w.heap.size + 1 + 1, k + 1, none⟩ (.int .i64 (firstN c (k + 1) : Nat))).cell? ⟨w.heap.size, k + 1, none⟩ = some (.int .i64 ((c (k + 1) : Nat) : Int)) := (hA.other (by simp; omega) _).cell (by omega)
      have hs := first_small c hc (k := k) (by omega)
      have hcc := hc (k + 1)
      have hfn := first_next c k
      have HN : Hid (nextN c (k + 1) = firstN c (k + 1) + c (k + 1)) := rfl
      have HP := hide (fpart_next c k)
      have hw : wrap64 ((nextN c k : Int) * 2) = ((firstN c (k + 1) : Nat) : Int) := by unfold wrap64; omega
      clear hA hR hF hB hc HA HR HF HB hfn
      generalize nextN c k = m at *
      go_wp2
      go_roundw
      case rel => exact ⟨k + 1, by omega, by go_num, by rw [unhide HN]; go_num, (unhide HA1).other (by simp; omega) _, (unhide HR1).other (by simp) _, by rw [← unhide HP]; exact (unhide HF1).set _ _, (unhide HB1).setCell (by simp; omega) _⟩
      case measure => simp [intOf]; omega
    · obtain rfl : k = 15 := by omega
      have HX := hide ((unhide HF1).congr (fpart_all c))
      go_wp2_with (first | (refine load_arr rfl (.tmp 3) rfl _ (firstN c) rfl (unhide HX) ?_) | (refine store_arr rfl (.tmp 2) (.tmp 20) rfl _ _ (firstN c) rfl rfl (unhide HR1) ?_))
      have HY := hide ((unhide HR1).setRow (firstN c))
      refine bodyPost_ret (v := .agg (arr (firstN c))) ?_ rfl ⟨rfl, below_setRow (unhide HB1) (by omega) _⟩
      exact results_cell_row rfl _ _ _ _ _ _ _ rfl (unhide HY) Tryz.underlying204 rfl (by rw [arr_size]; exact info_arr)
end Go.Proofs.YtfoaaamcpknjnadGreat

/-
  Arrays of numbers.
-/
namespace Go.Proofs.YtfoaaamcpknjnadGreat
open Go.RowKit
set_option linter.unusedVariables false
set_option maxRecDepth 100000

/-- block g holds the numbers xs -/
def ARow (T : TypeId) (w : World) (g : Nat) (xs : List Int) : Prop := w.heap[g]? = some (.cells (iv xs).toArray T (0, 0))
theorem ARow.lt {T : TypeId} {w : World} {g : Nat} {xs : List Int} (h : ARow T w g xs) : g < w.heap.size := (Array.getElem?_eq_some_iff.1 h).1
theorem iv_at (xs : List Int) (j : Nat) (hj : j < xs.length) : (iv xs).toArray[j]? = some (.int .i64 (xs.getD j 0)) := by simp [iv, List.getD, hj]
theorem ARow.cell {T : TypeId} {w : World} {g : Nat} {xs : List Int} (h : ARow T w g xs) (j : Nat) (hj : j < xs.length) : w.cell? ⟨g, j, none⟩ = some (.int .i64 (xs.getD j 0)) := (heap_row h).trans (iv_at xs j hj)
theorem ARow.frozen {T : TypeId} {w : World} {g : Nat} {xs : List Int} (h : ARow T w g xs) (j : Nat) : w.frozen? ⟨g, j, none⟩ = false := frozen_of_row w g j _ _ h
theorem ARow.row {T : TypeId} {w : World} {g : Nat} {xs : List Int} (h : ARow T w g xs) : Row .i64 w g 0 xs := fun j hj => by rw [Nat.zero_add]; exact h.cell j hj
theorem ARow.keep {T : TypeId} {w w' : World} {g : Nat} {xs : List Int} (h : ARow T w g xs) (hk : w'.heap[g]? = w.heap[g]?) : ARow T w' g xs := hk.trans h
theorem ARow.set {T : TypeId} {w : World} {g : Nat} {xs : List Int} (h : ARow T w g xs) (i : Nat) (v : Int) : ARow T (w.setCell ⟨g, i, none⟩ (.int .i64 v)) g (xs.set i v) := by
  unfold ARow
  rw [heap_setCell_same w g i _ _ _ h]
  simp [iv, List.map_set]
theorem ARow.new (T : TypeId) (w : World) (xs : List Int) (A : Array Value) (hA : A = (iv xs).toArray) : ARow T (w.alloc (.cells A T)) w.heap.size xs := by
  subst hA; exact heap_alloc_new w _
theorem results_cells {fn : Func} {p u : Tmp} {ty tz : TypeId} (h : fn.results = #[.cell p ty, .cell u tz]) (tmps : Array Value) (w : World) (g1 g2 : Nat) (v1 v2 : Value)
    (hp : tmps.getD p undef = .pointer (some ⟨g1, 0, none⟩)) (hu : tmps.getD u undef = .pointer (some ⟨g2, 0, none⟩)) (h1 : (loadVar ty ⟨g1, 0, none⟩).run Tryz.prog w = .ok v1 w) (h2 : (loadVar tz ⟨g2, 0, none⟩).run Tryz.prog w = .ok v2 w) :
    (results fn tmps).run Tryz.prog w = .ok (.tuple #[v1, v2]) w := by
  have hp' : tmps[p]?.getD undef = .pointer (some ⟨g1, 0, none⟩) := by simpa using hp
  have hu' : tmps[u]?.getD undef = .pointer (some ⟨g2, 0, none⟩) := by simpa using hu
  simp [results, h, hp', hu', asAddr, h1, h2]
theorem ARow.range {T : TypeId} {w : World} {g : Nat} {xs : List Int} (h : ARow T w g xs) : w.rangeAt g 0 (iv xs) := fun j v hv => by
  rw [Nat.zero_add]
  exact (heap_row h).trans (by simpa using hv)
theorem iv_all_one (xs : List Int) : (iv xs).toArray.all (·.oneCell') = true := by
  simp [iv]
  intro x hx
  rfl

theorem step_store_same {ops : Array Oper} {o : Oper} {a : Act} {W : World} {K : Act → World → Prop} {Q : Exit → Act → World → Prop} {E : Prop} (hgd : o.guard = none) (T : TypeId) (x y : Operand) (ho : o.op = .store T x y)
    (g : Nat) (xs : List Int) (hx : a.eval x = .pointer (some ⟨g, 0, none⟩)) (hy : a.eval y = .agg (iv xs).toArray) (hA : ARow T W g xs) (hi : (Tryz.prog.info? T).map (·.size) = some (iv xs).toArray.size) (h : K (a.put o.dst undef) W) : if Region.wanted o (yielded ops a.tmps) = true then Oper.wp Tryz.prog o a W K Q else E := by
  have e : Region.wanted o (yielded ops a.tmps) = true := by unfold Region.wanted; rw [hgd]
  rw [if_pos e]
  refine wp_store_row T x y ho g _ hx hy T _ hA hi rfl (iv_all_one xs) ?_
  rw [setRow_self W g _ T (0, 0) hA]
  exact h
theorem ARow.load {T : TypeId} {w : World} {g : Nat} {xs : List Int} (h : ARow T w g xs) {d : TypeDesc} (hu : Tryz.prog.underlying T = some d) (hd : (match d with | .struct _ | .array _ _ => true | _ => false) = true) (hi : (Tryz.prog.info? T).map (·.size) = some (iv xs).toArray.size) : (loadVar T ⟨g, 0, none⟩).run Tryz.prog w = .ok (.agg (iv xs).toArray) w :=
  run_loadVar_row w g T T _ (0, 0) d h hu (by cases d <;> first | rfl | exact hd) hi
end Go.Proofs.YtfoaaamcpknjnadGreat
