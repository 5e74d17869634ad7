/-
  Sums, of numbers and lists alone: a number moved on bit by bit (lft), the sum of a row of bytes (crcR), the row as one great number (valB); Adler's sums.
-/
import Derived.Laws.BitsAllLaws
import Derived.Test.YtfoaaamcpknjnadGreatRows
import Derived.WalkKit
import Derived.ProofKit
import Derived.OpenShut
import Derived.ShutString
import Derived.ChangeOld
import Derived.Below
import Derived.BigQuiet
import Derived.BigRegion
import Derived.Deep.QuietTactic
import Derived.WalkSpells
import Derived.WalkLawsBesides
namespace Go.Proofs.YtfoaaamcpknjnadGreat
set_option linter.unusedVariables false

/-- a number moved on once: its lowest bit is taken off, and if it was one, the polynomial is added -/
def lft (n : Nat) : Nat := if n % 2 = 1 then (n / 2) ^^^ 3988292384 else n / 2
/-- moved on so many times -/
def lfts : Nat → Nat → Nat
  | 0, n => n
  | k + 1, n => lfts k (lft n)
/-- behind one byte -/
def crcS (r x : Nat) : Nat := lfts 8 (r ^^^ x)
/-- what is left behind these bytes -/
def crcR (r : Nat) (l : List Nat) : Nat := l.foldl crcS r
/-- the bytes as one number, the first byte lowest -/
def valB : List Nat → Nat
  | [] => 0
  | x :: l => x + 256 * valB l
/-- the document's sum of bytes behind others -/
def crcN (p : Nat) (l : List Nat) : Nat := crcR (p ^^^ 4294967295) l ^^^ 4294967295
/-- two sums made one -/
def bothN (a b k : Nat) : Nat := lfts (8 * k) a ^^^ b

theorem crcR_nil (r : Nat) : crcR r [] = r := rfl
theorem crcR_cons (r x : Nat) (l : List Nat) : crcR r (x :: l) = crcR (crcS r x) l := rfl
theorem lft_zero : lft 0 = 0 := by decide
theorem lfts_zero : ∀ k, lfts k 0 = 0
  | 0 => rfl
  | k + 1 => by rw [lfts, lft_zero, lfts_zero k]
theorem lfts_succ (k n : Nat) : lfts (k + 1) n = lft (lfts k n) := by
  induction k generalizing n with
  | zero => rfl
  | succ k ih => rw [lfts, ih, lfts]
theorem lfts_add (j k n : Nat) : lfts (j + k) n = lfts k (lfts j n) := by
  induction j generalizing n with
  | zero => rw [Nat.zero_add]; rfl
  | succ j ih => rw [show j + 1 + k = (j + k) + 1 by omega, lfts, ih, lfts]
theorem xor_mod2 (a b : Nat) : (a ^^^ b) % 2 = (a % 2 + b % 2) % 2 := by
  have h := Nat.xor_mod_two_eq_one (a := a) (b := b)
  have h1 := Nat.mod_two_eq_zero_or_one (a ^^^ b)
  have h2 := Nat.mod_two_eq_zero_or_one a
  have h3 := Nat.mod_two_eq_zero_or_one b
  rcases h1 with h1 | h1 <;> rcases h2 with h2 | h2 <;> rcases h3 with h3 | h3 <;> simp_all
theorem xor_div2 (a b : Nat) : (a ^^^ b) / 2 = a / 2 ^^^ b / 2 := by
  have := Nat.shiftRight_xor_distrib (a := a) (b := b) (i := 1)
  simpa [Nat.shiftRight_eq_div_pow] using this
theorem lft_xor (a b : Nat) : lft (a ^^^ b) = lft a ^^^ lft b := by
  unfold lft
  have h2 := Nat.mod_two_eq_zero_or_one a
  have h3 := Nat.mod_two_eq_zero_or_one b
  rw [xor_mod2, xor_div2]
  generalize a / 2 = A
  generalize b / 2 = B
  rcases h2 with h2 | h2 <;> rcases h3 with h3 | h3 <;> simp only [h2, h3]
  · simp
  · simp [Nat.xor_assoc]
  · rw [if_pos (by decide), if_pos trivial, if_neg (by decide), Nat.xor_assoc, Nat.xor_assoc, Nat.xor_comm B]
  · rw [if_neg (by decide), if_pos trivial, if_pos trivial, Nat.xor_assoc, Nat.xor_comm B, ← Nat.xor_assoc 3988292384, Nat.xor_self, Nat.zero_xor]
theorem lfts_xor : ∀ (k a b : Nat), lfts k (a ^^^ b) = lfts k a ^^^ lfts k b
  | 0, _, _ => rfl
  | k + 1, a, b => by rw [lfts, lft_xor, lfts_xor k]; rfl
theorem lft_two (y : Nat) : lft (2 * y) = y := by
  unfold lft
  rw [if_neg (by omega)]
  omega
theorem lfts_mul (k y : Nat) : lfts k (2 ^ k * y) = y := by
  induction k with
  | zero => simp [lfts]
  | succ k ih =>
    rw [lfts, show 2 ^ (k + 1) * y = 2 * (2 ^ k * y) by rw [Nat.pow_succ, Nat.mul_comm (2 ^ k) 2, Nat.mul_assoc], lft_two, ih]
theorem lft_lt {n : Nat} (h : n < 4294967296) : lft n < 4294967296 := by
  unfold lft
  by_cases e : n % 2 = 1
  · rw [if_pos e]
    exact Nat.xor_lt_two_pow (n := 32) (by omega) (by decide)
  · rw [if_neg e]; omega
theorem lfts_lt : ∀ (k : Nat) {n : Nat}, n < 4294967296 → lfts k n < 4294967296
  | 0, _, h => h
  | k + 1, _, h => lfts_lt k (lft_lt h)
theorem lft_ne {n : Nat} (h : n < 4294967296) (h0 : n ≠ 0) : lft n ≠ 0 := by
  unfold lft
  by_cases e : n % 2 = 1
  · rw [if_pos e]
    intro h1
    have : n / 2 = 3988292384 := by
      have h2 : (n / 2 ^^^ 3988292384) ^^^ 3988292384 = 0 ^^^ 3988292384 := by rw [h1]
      rw [Nat.xor_assoc, Nat.xor_self, Nat.xor_zero, Nat.zero_xor] at h2
      exact h2
    omega
  · rw [if_neg e]; omega
theorem lfts_ne : ∀ (k : Nat) {n : Nat}, n < 4294967296 → n ≠ 0 → lfts k n ≠ 0
  | 0, _, _, h0 => h0
  | k + 1, _, h, h0 => lfts_ne k (lft_lt h) (lft_ne h h0)

theorem lo_hi (k n : Nat) : n = n % 2 ^ k ^^^ 2 ^ k * (n / 2 ^ k) := by
  apply Nat.eq_of_testBit_eq
  intro i
  rw [Nat.testBit_xor, Nat.testBit_mod_two_pow, Nat.testBit_two_pow_mul, Nat.testBit_div_two_pow]
  by_cases h : i < k
  · simp [h, show ¬ (k ≤ i) by omega]
  · simp [h, show k ≤ i by omega, show i - k + k = i by omega]
theorem add_xor {k x : Nat} (y : Nat) (hx : x < 2 ^ k) : x + 2 ^ k * y = x ^^^ 2 ^ k * y := by
  have h := lo_hi k (x + 2 ^ k * y)
  rw [Nat.add_mul_mod_self_left, Nat.mod_eq_of_lt hx, Nat.add_mul_div_left _ _ (Nat.two_pow_pos k), Nat.div_eq_of_lt hx, Nat.zero_add] at h
  exact h
/-- what the table says -/
theorem lfts_table (n : Nat) : lfts 8 n = lfts 8 (n % 256) ^^^ n / 256 := by
  have h := lo_hi 8 n
  conv => lhs; rw [h]
  rw [lfts_xor, lfts_mul]
theorem crcR_val : ∀ (l : List Nat) (r : Nat), (∀ x ∈ l, x < 256) → crcR r l = lfts (8 * l.length) (r ^^^ valB l)
  | [], r, _ => by simp [crcR_nil, valB, lfts]
  | x :: l, r, h => by
    rw [crcR_cons, crcS, crcR_val l _ (fun y hy => h y (by simp [hy])), valB, List.length_cons, show 8 * (l.length + 1) = 8 + 8 * l.length by omega, lfts_add]
    congr 1
    have hx := h x (by simp)
    rw [show (256 : Nat) = 2 ^ 8 from rfl, add_xor _ (by simpa using hx), ← Nat.xor_assoc, lfts_xor 8 (r ^^^ x), lfts_mul]
theorem valB_lt : ∀ (l : List Nat), (∀ x ∈ l, x < 256) → valB l < 2 ^ (8 * l.length)
  | [], _ => by simp [valB]
  | x :: l, h => by
    have h1 := valB_lt l (fun y hy => h y (by simp [hy]))
    have hx := h x (by simp)
    rw [valB, List.length_cons, show 8 * (l.length + 1) = 8 * l.length + 8 by omega, Nat.pow_add]
    omega
theorem crcR_append : ∀ (a b : List Nat) (r : Nat), crcR r (a ++ b) = crcR (crcR r a) b
  | [], _, _ => by rw [crcR_nil, List.nil_append]
  | x :: a, b, r => by rw [List.cons_append, crcR_cons, crcR_append a, crcR_cons]
theorem crcR_lt : ∀ (l : List Nat) (r : Nat), (∀ x ∈ l, x < 256) → r < 4294967296 → crcR r l < 4294967296
  | [], r, _, h => by rw [crcR_nil]; exact h
  | x :: l, r, hl, h => by
    rw [crcR_cons]
    have hx := hl x (by simp)
    exact crcR_lt l _ (fun y hy => hl y (by simp [hy])) (lfts_lt 8 (Nat.xor_lt_two_pow (n := 32) h (by omega)))
theorem not_lt {n : Nat} (h : n < 4294967296) : n ^^^ 4294967295 < 4294967296 := Nat.xor_lt_two_pow (n := 32) h (by decide)
theorem crcN_lt {l : List Nat} {p : Nat} (hl : ∀ x ∈ l, x < 256) (h : p < 4294967296) : crcN p l < 4294967296 := not_lt (crcR_lt l _ hl (not_lt h))
theorem xor_back (a b : Nat) : (a ^^^ b) ^^^ b = a := by rw [Nat.xor_assoc, Nat.xor_self, Nat.xor_zero]
/-- the sum behind a sum is that of both -/
theorem crcN_append (a b : List Nat) (p : Nat) : crcN p (a ++ b) = crcN (crcN p a) b := by
  unfold crcN
  rw [crcR_append, xor_back]
theorem bothN_crc (a b : List Nat) (hb : ∀ x ∈ b, x < 256) (p : Nat) : bothN (crcN p a) (crcN 0 b) b.length = crcN p (a ++ b) := by
  rw [crcN_append]
  unfold bothN
  generalize crcN p a = c
  unfold crcN
  rw [crcR_val b _ hb, crcR_val b _ hb, Nat.zero_xor, lfts_xor, lfts_xor (8 * b.length) (c ^^^ 4294967295), lfts_xor _ c]
  simp only [Nat.xor_assoc]
theorem bothN_zero (a b : Nat) : bothN a b 0 = a ^^^ b := rfl

theorem xor3 (a b c : Nat) : (a ^^^ b ^^^ c) = a ^^^ (b ^^^ c) := Nat.xor_assoc a b c
/-- three rows of as many bytes, turned together -/
theorem valB_xor3 : ∀ (a b c : List Nat), a.length = b.length → a.length = c.length → (∀ x ∈ a, x < 256) → (∀ x ∈ b, x < 256) → (∀ x ∈ c, x < 256) → ∀ (x : List Nat), x.length = a.length →
    (∀ i, i < a.length → x.getD i 0 = a.getD i 0 ^^^ b.getD i 0 ^^^ c.getD i 0) → valB x = valB a ^^^ valB b ^^^ valB c
  | [], [], [], _, _, _, _, _, x, hx, _ => by
    have : x = [] := List.length_eq_zero_iff.1 hx
    subst this; rfl
  | p :: a, q :: b, r :: c, h1, h2, ha, hb, hc, x, hx, hi => by
    cases x with
    | nil => simp at hx
    | cons s x =>
      have ih := valB_xor3 a b c (by simpa using h1) (by simpa using h2) (fun y hy => ha y (by simp [hy])) (fun y hy => hb y (by simp [hy])) (fun y hy => hc y (by simp [hy])) x (by simpa using hx)
        (fun i hl => by
          have := hi (i + 1) (by simp; omega)
          simpa using this)
      have h0 : s = p ^^^ q ^^^ r := by have := hi 0 (by simp); simpa using this
      have hp := ha p (by simp)
      have hq := hb q (by simp)
      have hr := hc r (by simp)
      have hs : s < 256 := by rw [h0]; exact Nat.xor_lt_two_pow (n := 8) (Nat.xor_lt_two_pow (n := 8) hp hq) hr
      simp only [valB]
      rw [show (256 : Nat) = 2 ^ 8 from rfl] at *
      rw [add_xor _ hs, add_xor _ hp, add_xor _ hq, add_xor _ hr, ih, h0]
      have e : ∀ u v : Nat, 2 ^ 8 * (u ^^^ v) = 2 ^ 8 * u ^^^ 2 ^ 8 * v := fun u v => by
        apply Nat.eq_of_testBit_eq
        intro i
        rw [Nat.testBit_xor, Nat.testBit_two_pow_mul, Nat.testBit_two_pow_mul, Nat.testBit_two_pow_mul, Nat.testBit_xor]
        by_cases h : 8 ≤ i <;> simp [h]
      rw [e, e]
      generalize 2 ^ 8 * valB a = A
      generalize 2 ^ 8 * valB b = B
      generalize 2 ^ 8 * valB c = C
      apply Nat.eq_of_testBit_eq
      intro i
      simp only [Nat.testBit_xor]
      cases p.testBit i <;> cases q.testBit i <;> cases r.testBit i <;> cases A.testBit i <;> cases B.testBit i <;> cases C.testBit i <;> rfl
theorem crcN_xor3 (a b c x : List Nat) (h1 : a.length = b.length) (h2 : a.length = c.length) (ha : ∀ x ∈ a, x < 256) (hb : ∀ x ∈ b, x < 256) (hc : ∀ x ∈ c, x < 256) (hl : ∀ y ∈ x, y < 256) (hx : x.length = a.length)
    (hi : ∀ i, i < a.length → x.getD i 0 = a.getD i 0 ^^^ b.getD i 0 ^^^ c.getD i 0) : crcN 0 a ^^^ crcN 0 b ^^^ crcN 0 c = crcN 0 x := by
  have hv := valB_xor3 a b c h1 h2 ha hb hc x hx hi
  unfold crcN
  rw [crcR_val a _ ha, crcR_val b _ hb, crcR_val c _ hc, crcR_val x _ hl, hv, hx, ← h1, ← h2]
  simp only [lfts_xor]
  generalize lfts (8 * a.length) 0 = Z
  generalize lfts (8 * a.length) 4294967295 = M
  generalize lfts (8 * a.length) (valB a) = A
  generalize lfts (8 * a.length) (valB b) = B
  generalize lfts (8 * a.length) (valB c) = C
  apply Nat.eq_of_testBit_eq
  intro i
  simp only [Nat.testBit_xor]
  cases (4294967295 : Nat).testBit i <;> cases M.testBit i <;> cases Z.testBit i <;> cases A.testBit i <;> cases B.testBit i <;> cases C.testBit i <;> rfl

/-- one bit of one byte turned -/
theorem valB_turn : ∀ (l : List Nat) (i j : Nat), (∀ x ∈ l, x < 256) → i < l.length → j < 8 → valB (l.set i (l.getD i 0 ^^^ 2 ^ j)) = valB l ^^^ 2 ^ (8 * i + j)
  | [], i, _, _, h, _ => by simp at h
  | x :: l, 0, j, hl, _, hj => by
    have hx := hl x (by simp)
    have h2 : x ^^^ 2 ^ j < 2 ^ 8 := Nat.xor_lt_two_pow hx (Nat.pow_lt_pow_right (by decide) hj)
    simp only [List.set_cons_zero, List.getD_cons_zero, valB]
    rw [show (256 : Nat) = 2 ^ 8 from rfl] at *
    rw [add_xor _ h2, add_xor _ hx, Nat.mul_zero, Nat.zero_add, Nat.xor_assoc, Nat.xor_comm (2 ^ j), Nat.xor_assoc]
  | x :: l, i + 1, j, hl, hi, hj => by
    have hx := hl x (by simp)
    have ih := valB_turn l i j (fun y hy => hl y (by simp [hy])) (by simpa using hi) hj
    simp only [List.set_cons_succ, List.getD_cons_succ, valB]
    rw [ih]
    rw [show (256 : Nat) = 2 ^ 8 from rfl] at *
    have e : ∀ u v : Nat, 2 ^ 8 * (u ^^^ v) = 2 ^ 8 * u ^^^ 2 ^ 8 * v := fun u v => by
      apply Nat.eq_of_testBit_eq
      intro i
      rw [Nat.testBit_xor, Nat.testBit_two_pow_mul, Nat.testBit_two_pow_mul, Nat.testBit_two_pow_mul, Nat.testBit_xor]
      by_cases h : 8 ≤ i <;> simp [h]
    rw [add_xor _ hx, add_xor _ hx, e, ← Nat.pow_add, show 8 + (8 * i + j) = 8 * (i + 1) + j by omega, Nat.xor_assoc]
/-- the bits of t so far, turned from the place p on -/
theorem burst_next (t k p : Nat) : t % 2 ^ (k + 1) * 2 ^ p = if t / 2 ^ k % 2 = 1 then t % 2 ^ k * 2 ^ p ^^^ 2 ^ (p + k) else t % 2 ^ k * 2 ^ p := by
  have h := Nat.mod_pow_succ (b := 2) (k := k) (x := t)
  rcases Nat.mod_two_eq_zero_or_one (t / 2 ^ k) with e | e
  · rw [if_neg (by omega), h, e]; simp
  · rw [if_pos e, h, e, Nat.mul_one]
    have h1 : t % 2 ^ k + 2 ^ k = t % 2 ^ k ^^^ 2 ^ k := by
      have := add_xor 1 (Nat.mod_lt t (Nat.two_pow_pos k))
      simpa using this
    rw [h1]
    apply Nat.eq_of_testBit_eq
    intro i
    rw [Nat.testBit_xor, Nat.mul_comm, Nat.testBit_two_pow_mul, Nat.testBit_xor, Nat.mul_comm (t % 2 ^ k), Nat.testBit_two_pow_mul, Nat.testBit_two_pow, Nat.testBit_two_pow]
    by_cases h : p ≤ i
    · simp [h, show (k = i - p) = (p + k = i) by simp; omega]
    · simp [h]; omega
/-- no row of 32 bits can be turned unseen -/
theorem crcN_burst (b x : List Nat) (t p : Nat) (hb : ∀ y ∈ b, y < 256) (hx : ∀ y ∈ x, y < 256) (hl : x.length = b.length) (hv : valB x = valB b ^^^ t * 2 ^ p) (ht : t < 4294967296) (h0 : t ≠ 0) (hp : p ≤ 8 * b.length) : crcN 0 b ≠ crcN 0 x := by
  intro h
  unfold crcN at h
  have h1 : crcR (0 ^^^ 4294967295) b = crcR (0 ^^^ 4294967295) x := by
    have := congrArg (· ^^^ 4294967295) h
    simpa only [xor_back] using this
  rw [crcR_val b _ hb, crcR_val x _ hx, hl, hv, ← Nat.xor_assoc, lfts_xor _ (_ ^^^ valB b)] at h1
  generalize lfts (8 * b.length) (0 ^^^ 4294967295 ^^^ valB b) = A at h1
  have h2 : lfts (8 * b.length) (t * 2 ^ p) = 0 := by
    have : A ^^^ A = A ^^^ (A ^^^ lfts (8 * b.length) (t * 2 ^ p)) := by rw [← h1]
    rw [Nat.xor_self, ← Nat.xor_assoc, Nat.xor_self, Nat.zero_xor] at this
    exact this.symm
  rw [show 8 * b.length = p + (8 * b.length - p) by omega, lfts_add, Nat.mul_comm t, lfts_mul] at h2
  exact lfts_ne _ ht h0 h2
/-- so far the document's sum, bit by bit -/
theorem lfts_bits (c x k : Nat) : lfts (k + 1) (c ^^^ x % 2 ^ (k + 1)) = lft (lfts k (c ^^^ x % 2 ^ k) ^^^ x / 2 ^ k % 2) := by
  have h1 : x % 2 ^ (k + 1) = x % 2 ^ k ^^^ 2 ^ k * (x / 2 ^ k % 2) := by
    rw [Nat.mod_pow_succ]
    exact add_xor _ (Nat.mod_lt _ (Nat.two_pow_pos k))
  rw [h1, ← Nat.xor_assoc, lfts_succ, lfts_xor, lfts_mul]
theorem lft_low (c b : Nat) (hb : b < 2) : lft (c ^^^ b) = if (c % 2 ^^^ b) = 1 then (c / 2) ^^^ 3988292384 else c / 2 := by
  unfold lft
  rw [xor_mod2, xor_div2]
  have : b / 2 = 0 := by omega
  rw [this, Nat.xor_zero]
  have h2 := Nat.mod_two_eq_zero_or_one c
  have h3 : b = 0 ∨ b = 1 := by omega
  rcases h2 with h2 | h2 <;> rcases h3 with h3 | h3 <;> simp [h2, h3]

/-- Adler's sums -/
def adlS : Nat × Nat → List Nat → Nat × Nat
  | s, [] => s
  | s, x :: l => adlS ((s.1 + x) % 65521, (s.2 + (s.1 + x) % 65521) % 65521) l
def adlN (l : List Nat) : Nat := (adlS (1, 0) l).2 * 65536 + (adlS (1, 0) l).1
theorem adlS_lt : ∀ (l : List Nat) (s : Nat × Nat), s.1 < 65521 → s.2 < 65521 → (adlS s l).1 < 65521 ∧ (adlS s l).2 < 65521
  | [], s, h1, h2 => ⟨h1, h2⟩
  | x :: l, s, _, _ => adlS_lt l _ (Nat.mod_lt _ (by decide)) (Nat.mod_lt _ (by decide))
/-- the same without taking anything off -/
def adlW : Nat × Nat → List Nat → Nat × Nat
  | s, [] => s
  | s, x :: l => adlW (s.1 + x, s.2 + (s.1 + x)) l
theorem adlW_mod : ∀ (l : List Nat) (s t : Nat × Nat), t.1 = s.1 % 65521 → t.2 = s.2 % 65521 → (adlS t l).1 = (adlW s l).1 % 65521 ∧ (adlS t l).2 = (adlW s l).2 % 65521
  | [], s, t, h1, h2 => ⟨h1, h2⟩
  | x :: l, s, t, h1, h2 => by
    rw [adlS, adlW]
    apply adlW_mod l
    · show (t.1 + x) % 65521 = _; rw [h1]; simp only; omega
    · show (t.2 + (t.1 + x) % 65521) % 65521 = _; rw [h1, h2]; simp only; omega
theorem adlS_snoc : ∀ (l : List Nat) (s : Nat × Nat) (x : Nat), adlS s (l ++ [x]) = (((adlS s l).1 + x) % 65521, ((adlS s l).2 + ((adlS s l).1 + x) % 65521) % 65521)
  | [], _, _ => rfl
  | y :: l, s, x => by rw [List.cons_append, adlS, adlS_snoc l, adlS]
theorem adlW_snoc : ∀ (l : List Nat) (s : Nat × Nat) (x : Nat), adlW s (l ++ [x]) = ((adlW s l).1 + x, (adlW s l).2 + ((adlW s l).1 + x))
  | [], _, _ => rfl
  | y :: l, s, x => by rw [List.cons_append, adlW, adlW_snoc l, adlW]
theorem crcR_snoc (l : List Nat) (r x : Nat) : crcR r (l ++ [x]) = crcS (crcR r l) x := by rw [crcR_append, crcR_cons, crcR_nil]
theorem adlW_le : ∀ (l : List Nat) (s : Nat × Nat), (∀ x ∈ l, x < 256) → (adlW s l).1 ≤ s.1 + 255 * l.length ∧ (adlW s l).2 ≤ s.2 + l.length * (s.1 + 255 * l.length)
  | [], s, _ => by simp [adlW]
  | x :: l, s, h => by
    have hx := h x (by simp)
    have ih := adlW_le l (s.1 + x, s.2 + (s.1 + x)) (fun y hy => h y (by simp [hy]))
    rw [adlW, List.length_cons]
    simp only at ih
    have e : (l.length + 1) * (s.1 + 255 * (l.length + 1)) = l.length * (s.1 + 255 * (l.length + 1)) + (s.1 + 255 * (l.length + 1)) := by rw [Nat.add_mul, Nat.one_mul]
    have e2 : l.length * (s.1 + x + 255 * l.length) ≤ l.length * (s.1 + 255 * (l.length + 1)) := Nat.mul_le_mul_left _ (by omega)
    constructor
    · omega
    · rw [e]; omega
theorem adlN_or (l : List Nat) : (adlS (1, 0) l).2 * 65536 ||| (adlS (1, 0) l).1 = adlN l := by
  have h := adlS_lt l (1, 0) (by decide) (by decide)
  unfold adlN
  rw [Nat.mul_comm, show (65536 : Nat) = 2 ^ 16 from rfl]
  rw [Nat.two_pow_add_eq_or_of_lt (by have := h.1; omega)]
theorem adlN_lt (l : List Nat) : adlN l < 4294967296 := by
  have h := adlS_lt l (1, 0) (by decide) (by decide)
  unfold adlN
  omega
theorem adlN_whole (l : List Nat) : (adlW (1, 0) l).2 % 65521 * 65536 + (adlW (1, 0) l).1 % 65521 = adlN l := by
  have h := adlW_mod l (1, 0) (1, 0) rfl rfl
  unfold adlN
  rw [h.1, h.2]

theorem nine_digits : crcN 0 [49, 50, 51, 52, 53, 54, 55, 56, 57] = 3421780262 := by decide +kernel
theorem a_word : adlN [87, 105, 107, 105, 112, 101, 100, 105, 97] = 300286872 := by decide +kernel

end Go.Proofs.YtfoaaamcpknjnadGreat

/-
  Small facts on memory that all walks of this seat share: what a new row of numbers holds, and that what is older than a call stays as it was.
-/
namespace Go.Proofs.YtfoaaamcpknjnadGreat
open Go.RowKit

theorem own : ownKnob Tryz.prog.godebug = none := by kernel_rfl
theorem laidOut : laidOutB Tryz.prog = true := by kernel_rfl

/-- block b holds the numbers xs, one behind the other, from place o on -/
def Row (k : IntKind) (w : World) (b o : Nat) (xs : List Int) : Prop := ∀ j, j < xs.length → w.cell? ⟨b, o + j, none⟩ = some (.int k (xs.getD j 0))

theorem Row.new (k : IntKind) (w : World) (xs : List Int) (t : TypeId) (A : Array Value) (b : Nat) (hb : b = w.heap.size) (hA : A = (xs.map (Value.int k)).toArray) : Row k (w.alloc (.cells A t)) b 0 xs := by
  intro j hj
  rw [World.cell?_alloc_at _ _ _ _ hb, hA]
  simp [List.getD, hj]
theorem Row.alloc {k : IntKind} {w : World} {b o : Nat} {xs : List Int} (h : Row k w b o xs) (hb : b < w.heap.size) (x : Obj) : Row k (w.alloc x) b o xs := by
  intro j hj
  rw [World.cell?_alloc_past _ _ _ hb]; exact h j hj
theorem Row.below {k : IntKind} {w w' : World} {B b o : Nat} {xs : List Int} (h : Row k w b o xs) (hB : Below B w w') (hb : b < B) : Row k w' b o xs := by
  intro j hj
  rw [hB.cell (p := ⟨b, o + j, none⟩) hb]; exact h j hj
theorem Row.drewN {k : IntKind} {w : World} {b o : Nat} {xs : List Int} (h : Row k w b o xs) (n : Nat) : Row k (w.drewN n) b o xs := h
theorem Row.at {k : IntKind} {w : World} {b o : Nat} {xs : List Int} (h : Row k w b o xs) {j : Nat} (hj : j < xs.length) : w.cell? ⟨b, o + j, none⟩ = some (.int k (xs.getD j 0)) := h j hj
theorem Row.nil (k : IntKind) (w : World) (b o : Nat) : Row k w b o [] := fun j hj => by simp at hj

theorem bcell {W w1 : World} {B : Nat} (hb : Below B W w1) : (∀ b o, b < B → w1.cell? ⟨b, o, none⟩ = W.cell? ⟨b, o, none⟩) ∧ (∀ b o, b < B → w1.frozen? ⟨b, o, none⟩ = W.frozen? ⟨b, o, none⟩) :=
  ⟨fun b o h => hb.cell (p := ⟨b, o, none⟩) h, fun b o h => hb.frozen (p := ⟨b, o, none⟩) h⟩

theorem below_drewN {B : Nat} {a w : World} (h : Below B a w) (n : Nat) : Below B a (w.drewN n) := ⟨h.os, h.tape, h.output, h.size, h.block⟩

theorem hide {p : Prop} (h : p) : Hid p := h
theorem unhide {p : Prop} (h : Hid p) : p := h

theorem ret_bool {a b : Bool} (h : a = b) : Ending.returned (.bool a) = .returned (.bool b) := by rw [h]
theorem ret_int {k : IntKind} {a b : Int} (h : a = b) : Ending.returned (.int k a) = .returned (.int k b) := by rw [h]
end Go.Proofs.YtfoaaamcpknjnadGreat

/-
  Rows of numbers and of bytes in memory, rows of a call's own, appends to them.
-/
namespace Go.Proofs.YtfoaaamcpknjnadGreat
open Go.RowKit
set_option linter.unusedVariables false

/-- a row of bytes in memory -/
def Bytes (w : World) (b o : Nat) (xs : List Nat) : Prop := ∀ j, j < xs.length → w.cell? ⟨b, o + j, none⟩ = some (.int .u8 ((xs.getD j 0 : Nat) : Int))

/-- the bytes xs as values -/
abbrev u8s (xs : List Nat) : List Value := xs.map fun x : Nat => Value.int .u8 (x : Int)

theorem grown_refl (w : World) (r : Option Nat) : w.grownBy w r := ⟨rfl, rfl, rfl, Nat.le_refl _, fun _ _ _ => rfl⟩
theorem grown_trans {a b c : World} {r : Option Nat} (h : a.grownBy b r) (k : b.grownBy c r) : a.grownBy c r :=
  ⟨k.os.trans h.os, k.tape.trans h.tape, k.output.trans h.output, Nat.le_trans h.size k.size, fun i hi hr => (k.block i (Nat.lt_of_lt_of_le hi h.size) hr).trans (h.block i hi hr)⟩
theorem grown_setCell (w : World) (b j : Nat) (v : Value) : w.grownBy (w.setCell ⟨b, j, none⟩ v) (some b) := ⟨rfl, rfl, rfl, by simp, fun i hi hr => Below.heap_setCell w _ v i (fun e => hr (by rw [e]))⟩
theorem grown_drew {a b : World} {r : Option Nat} (h : a.grownBy b r) : a.grownBy b.drew r := ⟨h.os, h.tape, h.output, h.size, h.block⟩

theorem info_u8 : (Tryz.prog.info? 5).map (fun i => (i.zero, i.size, i.bytes)) = some (some (.int .u8 0), 1, 1) := by kernel_rfl
theorem info_int : (Tryz.prog.info? 3).map (fun i => (i.zero, i.size, i.bytes)) = some (some (.int .i64 0), 1, 8) := by kernel_rfl

theorem made_u8 (n : Nat) : (madeCells (Value.int .u8 0).cells (n * 1)).toList = u8s (List.replicate n 0) := by
  rw [Nat.mul_one]
  show (madeCells #[Value.int .u8 0] n).toList = _
  rw [toList_madeCells_one]
  simp [u8s]

theorem quo8 (t : Nat) : ((t : Int) + 7) / 8 = (((t + 7) / 8 : Nat) : Int) := by omega

theorem first_bad (p : Nat → Bool) : ∀ n, (∀ j, j < n → p j = true) ∨ ∃ j, j < n ∧ p j = false ∧ ∀ i, i < j → p i = true
  | 0 => .inl (fun j h => by omega)
  | n + 1 => by
    rcases first_bad p n with h | ⟨j, h1, h2, h3⟩
    · cases hp : p n with
      | true => exact .inl (fun j hj => by
          by_cases e : j = n
          · rw [e]; exact hp
          · exact h j (by omega))
      | false => exact .inr ⟨n, by omega, hp, h⟩
    · exact .inr ⟨j, by omega, h2, h3⟩

def RowIn (k : IntKind) (w : World) (a : Option Addr) (xs : List Int) : Prop := xs = [] ∨ ∃ b o, a = some ⟨b, o, none⟩ ∧ b < w.heap.size ∧ Row k w b o xs
def BytesIn (w : World) (a : Option Addr) (xs : List Nat) : Prop := xs = [] ∨ ∃ b o, a = some ⟨b, o, none⟩ ∧ b < w.heap.size ∧ Bytes w b o xs

theorem Bytes.below {w w' : World} {B b o : Nat} {xs : List Nat} (h : Bytes w b o xs) (hB : Below B w w') (hb : b < B) : Bytes w' b o xs := by
  intro j hj
  rw [hB.cell (p := ⟨b, o + j, none⟩) hb]; exact h j hj
theorem BytesIn.below {w w' : World} {B : Nat} {a : Option Addr} {xs : List Nat} (h : BytesIn w a xs) (hB : Below B w w') (hb : w.heap.size ≤ B) : BytesIn w' a xs := by
  rcases h with h | ⟨b, o, h1, h2, h3⟩
  · exact .inl h
  · exact .inr ⟨b, o, h1, Nat.lt_of_lt_of_le h2 hB.size, h3.below hB (by omega)⟩

/-- a row of the call's own is a row of bytes -/
theorem BytesIn.own {w : World} {B g n cap : Nat} {xs : List Nat} (h : w.ownsRow B 5 1 (.slice (some ⟨g, 0, none⟩) n cap) n (u8s xs)) : BytesIn w (some ⟨g, 0, none⟩) xs := by
  refine .inr ⟨g, 0, rfl, (h.lt g rfl).2, ?_⟩
  intro j hj
  have hn : xs.length = n := by have := h.1; simpa using this
  rw [Nat.zero_add, h.cellAt j (by omega)]
  simp [u8s, List.getD, hj]
/-- the numbers xs as values -/
abbrev i64s (xs : List Nat) : List Value := xs.map fun x : Nat => Value.int .i64 (x : Int)
theorem made_i64 (n : Nat) : (madeCells #[Value.int .i64 0] n).toList = i64s (List.replicate n 0) := by
  rw [toList_madeCells_one]
  simp [i64s]

theorem RowIn.own {w : World} {B g n cap : Nat} {xs : List Nat} (h : w.ownsRow B 3 1 (.slice (some ⟨g, 0, none⟩) n cap) n (i64s xs)) : RowIn .i64 w (some ⟨g, 0, none⟩) (xs.map fun x : Nat => (x : Int)) := by
  refine .inr ⟨g, 0, rfl, (h.lt g rfl).2, ?_⟩
  intro j hj
  have hn : xs.length = n := by have := h.1; simpa using this
  have hj' : j < xs.length := by simpa using hj
  rw [Nat.zero_add, h.cellAt j (by omega)]
  simp [i64s, List.getD, hj']
theorem BytesIn.new (w : World) (xs : List Nat) (t : TypeId) (A : Array Value) (b : Nat) (hb : b = w.heap.size) (hA : A = (u8s xs).toArray) : BytesIn (w.alloc (.cells A t)) (some ⟨b, 0, none⟩) xs := by
  refine .inr ⟨b, 0, rfl, by rw [hb]; simp, ?_⟩
  intro j hj
  rw [World.cell?_alloc_at _ _ _ _ hb, hA]
  simp [u8s, List.getD, hj]
theorem BytesIn.alloc {w : World} {a : Option Addr} {xs : List Nat} (h : BytesIn w a xs) (x : Obj) : BytesIn (w.alloc x) a xs :=
  h.below ((Below.refl w.heap.size w).alloc (Nat.le_refl _) x) (Nat.le_refl _)
theorem RowIn.new (k : IntKind) (w : World) (xs : List Int) (t : TypeId) (A : Array Value) (b : Nat) (hb : b = w.heap.size) (hA : A = (xs.map (Value.int k)).toArray) : RowIn k (w.alloc (.cells A t)) (some ⟨b, 0, none⟩) xs :=
  .inr ⟨b, 0, rfl, by rw [hb]; simp, Row.new k w xs t A b hb hA⟩
theorem RowIn.below {k : IntKind} {w w' : World} {B : Nat} {a : Option Addr} {xs : List Int} (h : RowIn k w a xs) (hB : Below B w w') (hb : w.heap.size ≤ B) : RowIn k w' a xs := by
  rcases h with h | ⟨b, o, h1, h2, h3⟩
  · exact .inl h
  · exact .inr ⟨b, o, h1, Nat.lt_of_lt_of_le h2 hB.size, h3.below hB (by omega)⟩
theorem RowIn.alloc {k : IntKind} {w : World} {a : Option Addr} {xs : List Int} (h : RowIn k w a xs) (x : Obj) : RowIn k (w.alloc x) a xs :=
  h.below ((Below.refl w.heap.size w).alloc (Nat.le_refl _) x) (Nat.le_refl _)

abbrev iv (xs : List Int) : List Value := xs.map (Value.int .i64)

theorem ga {a b : World} {r : Option Nat} (h : a.grownBy b r) (o : Obj) : a.grownBy (b.alloc o) r := grown_trans h (World.grownBy_alloc b o r)

theorem own_drew {w : World} {B e size n : Nat} {v : Value} {xs : List Value} (h : w.ownsRow B e size v n xs) : w.drew.ownsRow B e size v n xs := h

theorem own_kept {w w' : World} {B e size n : Nat} {v : Value} {xs : List Value} (h : w.ownsRow B e size v n xs) (hg : w.grownBy w' none) : w'.ownsRow B e size v n xs :=
  h.kept hg (by cases hv : v.ownBlock with
    | none => exact .inl rfl
    | some k => exact .inr (by simp))

theorem own_ne {w : World} {B e size n : Nat} {v : Value} {xs : List Value} (h : w.ownsRow B e size v n xs) {j : Nat} (hj : w.heap.size ≤ j) : some j ≠ v.ownBlock := by
  intro e
  have := (h.lt j e.symm).2
  omega
theorem below_none {B : Nat} {a w w' : World} (h : Below B a w) (hg : w.grownBy w' none) (hB : B ≤ w.heap.size) : Below B a w' := h.grown hg hB (fun k e => by cases e)
theorem below_own {B : Nat} {a w w' : World} {e size n : Nat} {v : Value} {xs : List Value} (h : Below B a w) (ho : w.ownsRow B e size v n xs) (hg : w.grownBy w' v.ownBlock) (hB : B ≤ w.heap.size) : Below B a w' := h.grown hg hB (fun k e => (ho.lt k e).1)
/-- two rows lie apart, also behind one of them was appended to -/
theorem apart_at {w : World} {B e size n : Nat} {v v' : Value} {xs : List Value} (h : w.ownsRow B e size v n xs) (ha : v.ownBlock = none ∨ v.ownBlock ≠ v'.ownBlock) {g H : Nat} (hat : v'.ownBlock = some g ∨ g = H) (hH : w.heap.size ≤ H) : some g ≠ v.ownBlock := by
  rcases hat with e | e
  · rcases ha with h1 | h1
    · rw [h1]; simp
    · rw [← e]; exact fun h => h1 h.symm
  · subst e; exact own_ne h hH
theorem grown_le {w w' : World} {r : Option Nat} (h : w.grownBy w' r) : w.heap.size ≤ w'.heap.size := h.size

theorem new_cell {W : World} {b : Nat} {x u : Value} {j : Nat} (h : W.cell? ⟨b, 0, none⟩ = some x) (hj : [x][j]? = some u) : W.cell? ((⟨b, 0, none⟩ : Addr).add j) = some u := by
  match j, hj with
  | 0, hj => simp at hj; subst hj; simpa [Addr.add] using h

theorem cell_last {w : World} {x : Value} {t : TypeId} {b : Nat} (hb : b = w.heap.size) : (w.alloc (.cells #[x] t)).cell? ⟨b, 0, none⟩ = some x := by
  rw [World.cell?_alloc_at _ _ _ _ hb]; rfl
theorem cell_prev {w : World} {x : Value} {t : TypeId} {o : Obj} {b : Nat} (hb : b = w.heap.size) : ((w.alloc (.cells #[x] t)).alloc o).cell? ⟨b, 0, none⟩ = some x := by
  rw [World.cell?_alloc_past _ _ _ (by rw [hb]; simp), World.cell?_alloc_at _ _ _ _ hb]; rfl
theorem cell_drew {w : World} {b : Nat} {v : Value} (h : w.cell? ⟨b, 0, none⟩ = some v) : w.drew.cell? ⟨b, 0, none⟩ = some v := h

theorem one_cell {x : Value} (h : x.oneCell' = true) : ∀ u ∈ [x], u.oneCell' = true := by
  intro u hu; simp at hu; subst hu; exact h

theorem RowIn.iv {w : World} {B g n cap : Nat} {xs : List Int} (h : w.ownsRow B 3 1 (.slice (some ⟨g, 0, none⟩) n cap) n (iv xs)) : RowIn .i64 w (some ⟨g, 0, none⟩) xs := by
  refine .inr ⟨g, 0, rfl, (h.lt g rfl).2, ?_⟩
  intro j hj
  have hn : xs.length = n := by have := h.1; simpa using this
  rw [Nat.zero_add, h.cellAt j (by omega)]
  simp [List.getD, hj]

end Go.Proofs.YtfoaaamcpknjnadGreat
