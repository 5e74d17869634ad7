/-
  Plain facts for the library's merge of two sorted runs: what is left to be shown of each of its steps. No program is named here.
-/
import Derived.Test.YtfoaaamcpknjnahStab
namespace Go.Proofs.Ytfoaaamcpknjnah.Stab
open Go.RowKit
set_option linter.unusedVariables false

/-- by the first number, and of one first number by the second -/
def lx (x y : Int × Int) : Prop := x.1 < y.1 ∨ (x.1 = y.1 ∧ x.2 < y.2)
theorem lx_trans (x y z : Int × Int) (h : lx x y) (k : lx y z) : lx x z := by unfold lx at *; omega
/-- all of the first run came ahead of all of the second -/
def Cross (d : Nat → Int × Int) (a m b : Nat) : Prop := ∀ i j, a ≤ i → i < m → m ≤ j → j < b → (d i).2 < (d j).2
theorem cross_less {x y : Int × Int} (h : x.2 < y.2) : (decide (y.1 < x.1) = true → lx y x) ∧ (decide (y.1 < x.1) = false → lx x y) := by
  unfold lx
  constructor
  · intro e; have := of_decide_eq_true e; omega
  · intro e; have := of_decide_eq_false e; omega

theorem rot_left (d : Nat → Int × Int) (m b : Nat) : rot d m m b = d := by
  funext k; unfold rot
  by_cases h : m ≤ k ∧ k < m + (b - m)
  · rw [if_pos h]; congr 1; omega
  · rw [if_neg h, if_neg (by omega)]
theorem rot_right (d : Nat → Int × Int) (a m : Nat) : rot d a m m = d := by
  funext k; unfold rot
  rw [if_neg (by omega)]
  by_cases h : a + (m - m) ≤ k ∧ k < m
  · rw [if_pos h]; congr 1; omega
  · rw [if_neg h]

/-- what the turning leaves: two pairs of runs -/
theorem merge_parts {d : Nat → Int × Int} {a start m stop b mid : Nat} (h1 : a ≤ start) (h2 : start ≤ m) (h3 : m ≤ stop) (h4 : stop ≤ b) (hmid : mid + m = start + stop) (sL : Srt lx d a m) (sR : Srt lx d m b) (hc : Cross d a m b) :
    (Srt lx (rot d start m stop) a start ∧ Srt lx (rot d start m stop) start mid ∧ Cross (rot d start m stop) a start mid) ∧ (Srt lx (rot d start m stop) mid stop ∧ Srt lx (rot d start m stop) stop b ∧ Cross (rot d start m stop) mid stop b) := by
  have e1 : ∀ k, k < start → rot d start m stop k = d k := fun k hk => by unfold rot; rw [if_neg (by omega), if_neg (by omega)]
  have e2 : ∀ k, start ≤ k → k < mid → rot d start m stop k = d (k + (m - start)) := fun k hk hk2 => by unfold rot; rw [if_pos (by omega)]
  have e3 : ∀ k, mid ≤ k → k < stop → rot d start m stop k = d (k - (stop - m)) := fun k hk hk2 => by unfold rot; rw [if_neg (by omega), if_pos (by omega)]
  have e4 : ∀ k, stop ≤ k → rot d start m stop k = d k := fun k hk => by unfold rot; rw [if_neg (by omega), if_neg (by omega)]
  refine ⟨⟨?_, ?_, ?_⟩, ?_, ?_, ?_⟩
  · intro i j hi hij hj; rw [e1 i (by omega), e1 j hj]; exact sL i j hi hij (by omega)
  · intro i j hi hij hj; rw [e2 i hi (by omega), e2 j (by omega) hj]; exact sR _ _ (by omega) (by omega) (by omega)
  · intro i j hi hi2 hj hj2; rw [e1 i hi2, e2 j hj hj2]; exact hc _ _ hi (by omega) (by omega) (by omega)
  · intro i j hi hij hj; rw [e3 i hi (by omega), e3 j (by omega) hj]; exact sL _ _ (by omega) (by omega) (by omega)
  · intro i j hi hij hj; rw [e4 i hi, e4 j (by omega)]; exact sR i j (by omega) hij hj
  · intro i j hi hi2 hj hj2; rw [e3 i hi hi2, e4 j hj]; exact hc _ _ (by omega) (by omega) (by omega) hj2
theorem Cross.congr {d d' : Nat → Int × Int} {a m b : Nat} (h : Cross d a m b) (he : ∀ k, a ≤ k → k < b → d' k = d k) : Cross d' a m b := fun i j hi hi2 hj hj2 => by
  rw [he i hi (by omega), he j (by omega) hj2]; exact h i j hi hi2 hj hj2

/-- one element ahead of a sorted run goes behind all that are below it -/
theorem ins_first {d : Nat → Int × Int} {a i b : Nat} (h1 : a < i) (h2 : i ≤ b) (sR : Srt lx d (a + 1) b) (hlo : a + 1 < i → lx (d (i - 1)) (d a)) (hhi : i < b → lx (d a) (d i)) : Srt lx (rot d a (a + 1) i) a b := by
  have e1 : ∀ k, a ≤ k → k < i - 1 → rot d a (a + 1) i k = d (k + 1) := fun k hk hk2 => by unfold rot; rw [if_pos (by omega)]; congr 1; omega
  have e2 : rot d a (a + 1) i (i - 1) = d a := by unfold rot; rw [if_neg (by omega), if_pos (by omega)]; congr 1; omega
  have e3 : ∀ k, i ≤ k → rot d a (a + 1) i k = d k := fun k hk => by unfold rot; rw [if_neg (by omega), if_neg (by omega)]
  have below : ∀ k, a + 1 ≤ k → k < i → lx (d k) (d a) := by
    intro k hk hk2
    by_cases c : k = i - 1
    · rw [c]; exact hlo (by omega)
    · exact lx_trans _ _ _ (sR k (i - 1) hk (by omega) (by omega)) (hlo (by omega))
  have above : ∀ k, i ≤ k → k < b → lx (d a) (d k) := by
    intro k hk hk2
    by_cases c : k = i
    · rw [c]; exact hhi (by omega)
    · exact lx_trans _ _ _ (hhi (by omega)) (sR i k (by omega) (by omega) hk2)
  intro p q hp hpq hq
  by_cases c1 : p < i - 1
  · rw [e1 p hp c1]
    by_cases c2 : q < i - 1
    · rw [e1 q (by omega) c2]; exact sR _ _ (by omega) (by omega) (by omega)
    · by_cases c3 : q = i - 1
      · rw [c3, e2]; exact below _ (by omega) (by omega)
      · rw [e3 q (by omega)]; exact sR _ _ (by omega) (by omega) hq
  · by_cases c2 : p = i - 1
    · rw [c2, e2, e3 q (by omega)]; exact above q (by omega) hq
    · rw [e3 p (by omega), e3 q (by omega)]; exact sR _ _ (by omega) hpq hq
/-- one element behind a sorted run goes ahead of all that are above it -/
theorem ins_last {d : Nat → Int × Int} {a i m : Nat} (h1 : a ≤ i) (h2 : i ≤ m) (sL : Srt lx d a m) (hlo : a < i → lx (d (i - 1)) (d m)) (hhi : i < m → lx (d m) (d i)) : Srt lx (rot d i m (m + 1)) a (m + 1) := by
  have e1 : ∀ k, k < i → rot d i m (m + 1) k = d k := fun k hk => by unfold rot; rw [if_neg (by omega), if_neg (by omega)]
  have e2 : rot d i m (m + 1) i = d m := by unfold rot; rw [if_pos (by omega)]; congr 1; omega
  have e3 : ∀ k, i < k → k ≤ m → rot d i m (m + 1) k = d (k - 1) := fun k hk hk2 => by unfold rot; rw [if_neg (by omega), if_pos (by omega)]; congr 1; omega
  have below : ∀ k, a ≤ k → k < i → lx (d k) (d m) := by
    intro k hk hk2
    by_cases c : k = i - 1
    · rw [c]; exact hlo (by omega)
    · exact lx_trans _ _ _ (sL k (i - 1) hk (by omega) (by omega)) (hlo (by omega))
  have above : ∀ k, i ≤ k → k < m → lx (d m) (d k) := by
    intro k hk hk2
    by_cases c : k = i
    · rw [c]; exact hhi (by omega)
    · exact lx_trans _ _ _ (hhi (by omega)) (sL i k h1 (by omega) hk2)
  intro p q hp hpq hq
  by_cases c1 : p < i
  · rw [e1 p c1]
    by_cases c2 : q < i
    · rw [e1 q c2]; exact sL _ _ hp hpq (by omega)
    · by_cases c3 : q = i
      · rw [c3, e2]; exact below p hp c1
      · rw [e3 q (by omega) (by omega)]; exact sL _ _ hp (by omega) (by omega)
  · by_cases c2 : p = i
    · rw [c2, e2, e3 q (by omega) (by omega)]; exact above _ (by omega) (by omega)
    · rw [e3 p (by omega) (by omega), e3 q (by omega) (by omega)]; exact sL _ _ (by omega) (by omega) (by omega)
/-- the exchanges that bring it there -/
theorem rot_up (d : Nat → Int × Int) (a k : Nat) (h : a ≤ k) : swp (rot d a (a + 1) (k + 1)) k (k + 1) = rot d a (a + 1) (k + 1 + 1) := by
  funext q; unfold swp rot
  by_cases c1 : q = k
  · rw [if_pos c1, if_neg (by omega), if_neg (by omega), if_pos (by omega)]; congr 1; omega
  · rw [if_neg c1]
    by_cases c2 : q = k + 1
    · rw [if_pos c2, if_neg (by omega), if_pos (by omega), if_neg (by omega), if_pos (by omega)]; congr 1; omega
    · rw [if_neg c2]
      by_cases c3 : a ≤ q ∧ q < k
      · rw [if_pos (by omega), if_pos (by omega)]
      · rw [if_neg (by omega), if_neg (by omega), if_neg (by omega), if_neg (by omega)]
theorem rot_down (d : Nat → Int × Int) (k m : Nat) (h0 : 0 < k) (h : k ≤ m) : swp (rot d k m (m + 1)) k (k - 1) = rot d (k - 1) m (m + 1) := by
  funext q; unfold swp rot
  by_cases c1 : q = k
  · rw [if_pos c1, if_neg (by omega), if_neg (by omega), if_neg (by omega), if_pos (by omega)]; congr 1; omega
  · rw [if_neg c1]
    by_cases c2 : q = k - 1
    · rw [if_pos c2, if_pos (by omega), if_pos (by omega)]; congr 1; omega
    · rw [if_neg c2]
      by_cases c3 : k < q ∧ q ≤ m
      · rw [if_neg (by omega), if_pos (by omega), if_neg (by omega), if_pos (by omega)]
      · rw [if_neg (by omega), if_neg (by omega), if_neg (by omega), if_neg (by omega)]
end Go.Proofs.Ytfoaaamcpknjnah.Stab
