/-
  Codes as texts of noughts and ones, by adding one: plain facts.
-/
import Derived.Test.YtfoaaamcpknjnahStab2
import Derived.Test.YtfoaaamcpknjnahCodeP
namespace Go.Proofs.Ytfoaaamcpknjnah
open Go.RowKit
set_option linter.unusedVariables false

/-- n bits of a number, the highest first -/
def hb (c : Nat) : Nat → List Bool
  | 0 => []
  | n + 1 => hb (c / 2) n ++ [decide (c % 2 = 1)]
theorem hb_length : ∀ n c, (hb c n).length = n
  | 0, _ => rfl
  | n + 1, c => by simp [hb, hb_length n]
theorem hb_zero : ∀ n, hb 0 n = List.replicate n false
  | 0 => rfl
  | n + 1 => by rw [hb, Nat.zero_div, hb_zero n, List.replicate_succ']; rfl
theorem hb_pad (c n : Nat) : ∀ d, hb (c * 2 ^ d) (n + d) = hb c n ++ List.replicate d false
  | 0 => by simp
  | d + 1 => by
    have e : c * 2 ^ (d + 1) = 2 * (c * 2 ^ d) := by rw [Nat.pow_succ]; rw [← Nat.mul_assoc, Nat.mul_comm]
    rw [show n + (d + 1) = (n + d) + 1 by omega, hb, e]
    have e1 : 2 * (c * 2 ^ d) / 2 = c * 2 ^ d := by omega
    have e2 : 2 * (c * 2 ^ d) % 2 = 0 := by omega
    rw [e1, e2, hb_pad c n d, List.replicate_succ', List.append_assoc]
    rfl
/-- one more: the last nought becomes a one, and all behind it noughts -/
theorem hb_inc : ∀ n c, c + 1 < 2 ^ n → ∃ a t, hb c n = a ++ false :: List.replicate t true ∧ hb (c + 1) n = a ++ true :: List.replicate t false
  | 0, c, h => by simp at h
  | n + 1, c, h => by
    rw [Nat.pow_succ] at h
    by_cases hc : c % 2 = 0
    · refine ⟨hb (c / 2) n, 0, ?_, ?_⟩
      · rw [hb, hc]; rfl
      · rw [hb, show (c + 1) / 2 = c / 2 by omega, show (c + 1) % 2 = 1 by omega]; rfl
    · obtain ⟨a, t, h1, h2⟩ := hb_inc n (c / 2) (by omega)
      refine ⟨a, t + 1, ?_, ?_⟩
      · rw [hb, h1, show c % 2 = 1 by omega, List.replicate_succ', List.append_assoc]; rfl
      · rw [hb, show (c + 1) / 2 = c / 2 + 1 by omega, h2, show (c + 1) % 2 = 0 by omega, List.replicate_succ', List.append_assoc]; rfl

/-- the places that have a length, with it, among the first k -/
def usedP (l : List Int) : Nat → List (Int × Int)
  | 0 => []
  | k + 1 => usedP l k ++ (if 0 < l.getD k 0 then [(l.getD k 0, (k : Int))] else [])
def wt (x : Int × Int) : Nat := 2 ^ (15 - x.1.toNat)
instance (x y : Int × Int) : Decidable (Stab.lx x y) := by unfold Stab.lx; infer_instance
/-- what those take together that stand ahead of p -/
def bsum (p : Int × Int) : List (Int × Int) → Nat
  | [] => 0
  | x :: r => (if Stab.lx x p then wt x else 0) + bsum p r
theorem bsum_append (p : Int × Int) : ∀ xs ys, bsum p (xs ++ ys) = bsum p xs + bsum p ys
  | [], ys => by simp [bsum]
  | x :: r, ys => by simp only [List.cons_append, bsum, bsum_append p r ys]; omega
theorem bsum_perm (p : Int × Int) {xs ys : List (Int × Int)} (h : xs.Perm ys) : bsum p xs = bsum p ys := by
  induction h with
  | nil => rfl
  | cons x _ ih => simp only [bsum, ih]
  | swap x y l => simp only [bsum]; omega
  | trans _ _ h1 h2 => exact h1.trans h2

theorem taken_upd (c : Nat → Nat) (m : Nat) (hm : 1 ≤ m) (h15 : m ≤ 15) : ∀ j, j ≤ 15 → takenN (upd c m (c m + 1)) j = takenN c j + (if m ≤ j then 2 ^ (15 - m) else 0)
  | 0, _ => by simp [takenN]; omega
  | j + 1, h => by
    have ih := taken_upd c m hm h15 j (by omega)
    rw [takenN, takenN, ih]
    by_cases e : j + 1 = m
    · subst e
      have h1 : ¬ (j + 1 ≤ j) := by omega
      have h2 : 15 - (j + 1) = 14 - j := by omega
      simp only [upd, if_pos, h1, if_false, Nat.le_refl, h2, Nat.add_mul, Nat.one_mul]
      omega
    · simp only [upd, if_neg e]
      by_cases h1 : m ≤ j
      · have h2 : m ≤ j + 1 := by omega
        simp [h1, h2]; omega
      · have h2 : ¬ m ≤ j + 1 := by omega
        simp [h1, h2]
theorem taken_upd0 (c : Nat → Nat) (x : Nat) : ∀ j, takenN (upd c 0 x) j = takenN c j
  | 0 => rfl
  | j + 1 => by rw [takenN, takenN, taken_upd0 c x j]; simp [upd]

theorem bsum_used (l : List Int) (hG : Good l) (n q : Nat) (hn : 1 ≤ n) (hn15 : n ≤ 15) : ∀ k, k ≤ l.length → bsum ((n : Int), (q : Int)) (usedP l k) = takenN (cnt (l.take k)) (n - 1) + cnt (l.take (min k q)) n * 2 ^ (15 - n)
  | 0, _ => by
    have e : ∀ j, takenN (cnt []) j = 0 := fun j => by
      induction j with
      | zero => rfl
      | succ j ih => rw [takenN, ih]; simp [cnt]
    simp [usedP, bsum, e, cnt]
  | k + 1, hk => by
    have ih := bsum_used l hG n q hn hn15 k (by omega)
    have hkl : k < l.length := by omega
    have hok := hG.ok k hkl
    obtain ⟨m, hm⟩ := Int.eq_ofNat_of_zero_le hok.1
    have hc := cnt_next l hkl hm
    have hcm : cnt (l.take (k + 1)) n = cnt (l.take k) n + (if n = m then 1 else 0) := by
      rw [← hc]; simp only [upd]
      by_cases e : n = m
      · subst e; simp
      · simp [e]
    have hmin : cnt (l.take (min (k + 1) q)) n = cnt (l.take (min k q)) n + (if k < q ∧ n = m then 1 else 0) := by
      by_cases hkq : k < q
      · rw [Nat.min_eq_left (by omega), Nat.min_eq_left (by omega), hcm]
        simp [hkq]
      · rw [Nat.min_eq_right (by omega), Nat.min_eq_right (by omega)]
        simp [hkq]
    rw [usedP, bsum_append, ih, hmin, ← hc, hm]
    have h15 : m ≤ 15 := by rw [hm] at hok; omega
    by_cases h0 : m = 0
    · subst h0
      rw [taken_upd0]
      have : ¬ n = 0 := by omega
      simp [bsum, this]
    · rw [taken_upd _ m (by omega) h15 (n - 1) (by omega)]
      have hpos : (0 : Int) < (m : Int) := by omega
      rw [if_pos hpos]
      simp only [bsum, wt, Int.toNat_natCast, Nat.add_zero]
      have hlx : Stab.lx ((m : Int), (k : Int)) ((n : Int), (q : Int)) ↔ (m ≤ n - 1 ∨ (n = m ∧ k < q)) := by unfold Stab.lx; constructor <;> intro h <;> omega
      by_cases h1 : m ≤ n - 1
      · have h2 : ¬ (k < q ∧ n = m) := by omega
        rw [if_pos (hlx.2 (.inl h1)), if_pos h1, if_neg h2, Nat.add_zero]
        omega
      · by_cases h2 : k < q ∧ n = m
        · rw [if_pos (hlx.2 (.inr ⟨h2.2, h2.1⟩)), if_neg h1, if_pos h2, Nat.add_mul, Nat.one_mul, h2.2]
          omega
        · rw [if_neg (fun h => by have := hlx.1 h; omega), if_neg h1, if_neg h2, Nat.add_zero, Nat.add_zero, Nat.add_zero]

/-- a place's code tells what stands ahead of it -/
theorem bsum_code (l : List Int) (hG : Good l) {n q : Nat} (hq : q < l.length) (hx : l.getD q 0 = (n : Int)) (hn : 0 < n) : bsum ((n : Int), (q : Int)) (usedP l l.length) = codeN l q * 2 ^ (15 - n) := by
  have hn15 : n ≤ 15 := by have := (hG.ok q hq).2; omega
  rw [bsum_used l hG n q (by omega) hn15 l.length (Nat.le_refl _), List.take_length, Nat.min_eq_right (by omega)]
  have h := first_taken (cnt l) (n - 1) (by omega)
  have e := codeN_nxt l hx
  unfold nxt at e
  rw [if_neg (by omega)] at e
  rw [e, Nat.add_mul, ← h, show n - 1 + 1 = n by omega, show 14 - (n - 1) = 15 - n by omega]

/-- the sum of the first i -/
def vsum (d : Nat → Int × Int) : Nat → Nat
  | 0 => 0
  | i + 1 => vsum d i + wt (d i)
theorem bsum_seg (d : Nat → Int × Int) (p : Int × Int) : ∀ a b, bsum p (Stab.seg d a (a + b)) = (List.range b).foldl (fun s i => s + if Stab.lx (d (a + i)) p then wt (d (a + i)) else 0) 0
  | a, 0 => by simp [Stab.seg, bsum]
  | a, b + 1 => by
    rw [Stab.seg_split d a (a + b) (a + (b + 1)) (by omega) (by omega), bsum_append, bsum_seg d p a b, List.range_succ, List.foldl_append]
    have : Stab.seg d (a + b) (a + (b + 1)) = [d (a + b)] := by
      unfold Stab.seg
      rw [show a + (b + 1) - (a + b) = 1 by omega]
      simp
    rw [this]
    simp [bsum]
theorem bsum_below (d : Nat → Int × Int) (p : Int × Int) : ∀ i, (∀ j, j < i → Stab.lx (d j) p) → bsum p (Stab.seg d 0 i) = vsum d i
  | 0, _ => by simp [Stab.seg, bsum, vsum]
  | i + 1, h => by
    rw [Stab.seg_split d 0 i (i + 1) (by omega) (by omega), bsum_append, bsum_below d p i (fun j hj => h j (by omega)), vsum]
    have : Stab.seg d i (i + 1) = [d i] := by
      unfold Stab.seg
      rw [show i + 1 - i = 1 by omega]
      simp
    rw [this]
    simp [bsum, h i (by omega)]
theorem bsum_above (d : Nat → Int × Int) (p : Int × Int) (a : Nat) : ∀ b, (∀ j, a ≤ j → j < a + b → ¬ Stab.lx (d j) p) → bsum p (Stab.seg d a (a + b)) = 0
  | 0, _ => by simp [Stab.seg, bsum]
  | b + 1, h => by
    rw [Stab.seg_split d a (a + b) (a + (b + 1)) (by omega) (by omega), bsum_append, bsum_above d p a b (fun j h1 h2 => h j h1 (by omega))]
    have : Stab.seg d (a + b) (a + (b + 1)) = [d (a + b)] := by
      unfold Stab.seg
      rw [show a + (b + 1) - (a + b) = 1 by omega]
      simp
    rw [this]
    simp [bsum, h (a + b) (by omega) (by omega)]
theorem lx_irr (x : Int × Int) : ¬ Stab.lx x x := by unfold Stab.lx; omega
theorem lx_asymm {x y : Int × Int} (h : Stab.lx x y) : ¬ Stab.lx y x := by unfold Stab.lx at *; omega
/-- of a sorted row just those ahead stand ahead -/
theorem bsum_sorted (d : Nat → Int × Int) (N : Nat) (hs : Stab.Srt Stab.lx d 0 N) {i : Nat} (hi : i < N) : bsum (d i) (Stab.seg d 0 N) = vsum d i := by
  rw [Stab.seg_split d 0 i N (by omega) (by omega), bsum_append, bsum_below d (d i) i (fun j hj => hs j i (Nat.zero_le _) hj hi)]
  have := bsum_above d (d i) i (N - i) (fun j h1 h2 => by
    by_cases e : j = i
    · subst e; exact lx_irr _
    · exact lx_asymm (hs i j (Nat.zero_le _) (by omega) (by omega)))
  rw [show i + (N - i) = N by omega] at this
  rw [this, Nat.add_zero]
/-- the text of place q's code -/
def codeT (l : List Int) (q : Nat) : List Bool := hb (codeN l q) (l.getD q 0).toNat
end Go.Proofs.Ytfoaaamcpknjnah
