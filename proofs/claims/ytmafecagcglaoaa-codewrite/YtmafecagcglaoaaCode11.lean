/-
  What is written by codes is read by them; no code begins another one; a code that leaves no room is always met.
-/
import Derived.Test.YtmafecagcglaoaaCode10
import Derived.Test.YtmafecagcglaoaaCode5
import Derived.Test.YtmafecagcglaoaaRowBit
namespace Go.Proofs.Ytmafecagcglaoaa
open Go.RowKit
set_option linter.unusedVariables false

/-- bits that stand as those of c, highest first, read as c -/
theorem codeAt_of (bs : List Nat) (P c n : Nat) (hc : c < 2 ^ n) (hb : ∀ i, i < n → bitAt bs (P + i) = c.testBit (n - 1 - i)) : ∀ j, j ≤ n → codeAt bs P j = c / 2 ^ (n - j)
  | 0, _ => by rw [codeAt, Nat.sub_zero, Nat.div_eq_of_lt hc]
  | j + 1, h => by
    have ih := codeAt_of bs P c n hc hb j (by omega)
    rw [codeAt, ih, bitL_at, hb j (by omega), testBit_nat]
    have e : n - j = (n - (j + 1)) + 1 := by omega
    have e2 : n - 1 - j = n - (j + 1) := by omega
    rw [e, e2, Nat.pow_succ, ← Nat.div_div_eq_div_mul]
    generalize c / 2 ^ (n - (j + 1)) = y
    omega

/-- where the code of place q stands, reading answers q -/
theorem outcome_code (l : List Int) (hG : Good l) (bs : List Nat) (P q n : Nat) (hq : q < l.length) (hn : l.getD q 0 = (n : Int)) (h0 : 0 < n) (hP : P + n ≤ 8 * bs.length) (hb : ∀ i, i < n → bitAt bs (P + i) = (codeN l q).testBit (n - 1 - i))
    {x : Nat} {err : Int} {p' : Nat} (ho : Outcome l bs P x err p') : x = q ∧ err = 0 ∧ p' = P + n := by
  obtain ⟨c1, c2, c3⟩ := code_lt l hG hq hn h0
  have h15 : n ≤ 15 := by have := (hG.ok q hq).2; omega
  have hat := codeAt_of bs P (codeN l q) n c3 hb
  have hno : ∀ j, 1 ≤ j → j < n → ¬ Hit l bs P j := by
    intro j h1 h2 h3
    have hf := first_far (cnt l) j h1 (n - j) (by omega)
    rw [show j + (n - j) = n by omega] at hf
    have h4 : firstN (cnt l) j + cnt l j ≤ codeN l q / 2 ^ (n - j) := (Nat.le_div_iff_mul_le (Nat.pow_pos (by decide))).2 (by omega)
    rw [← hat j (by omega)] at h4
    have := h3.2
    omega
  have hatn : codeAt bs P n = codeN l q := by have := hat n (Nat.le_refl _); simpa using this
  have hyes : Hit l bs P n := by unfold Hit; rw [hatn]; exact ⟨c1, c2⟩
  rcases ho with ⟨k, k1, k2, k3, k4, k5, k6, k7, k8⟩ | ⟨k, k1, k2, k3, k4, k5, k6⟩ | ⟨k1, k2, k3, k4, k5⟩
  · have hkn : k = n := by
      by_cases h1 : k < n
      · exact absurd k5 (hno k k1 h1)
      · by_cases h2 : n < k
        · exact absurd hyes (k3 n (by omega) h2)
        · omega
    subst hkn
    refine ⟨?_, k7, k6⟩
    rw [hatn] at k8
    have e : codeN l q - firstN (cnt l) k = cnt (l.take q) k := by
      have := codeN_nxt l hn
      unfold nxt at this
      rw [if_neg (by omega)] at this
      omega
    rw [e, plcK_at l hq hn] at k8
    exact (Option.some.inj k8).symm
  · exact absurd hyes (k2 n (by omega) (by omega))
  · exact absurd hyes (k1 n (by omega) h15)

/-- where place j stands among what is written -/
theorem bits_at (l : List Int) (hG : Good l) (ps : List Int) (hall : ∀ j, j < ps.length → okPlace l (ps.getD j 0) = true) {j : Nat} (hj : j < ps.length) :
    ∃ q n : Nat, ps.getD j 0 = (q : Int) ∧ q < l.length ∧ l.getD q 0 = (n : Int) ∧ 0 < n ∧ atL (ps.map (prL l)) (j + 1) = atL (ps.map (prL l)) j + n ∧ ∀ i, i < n → bitAt (rowL (ps.map (prL l)) ps.length) (atL (ps.map (prL l)) j + i) = (codeN l q).testBit (n - 1 - i) := by
  obtain ⟨h0, h1, h2⟩ := okPlace_true (hall j hj)
  obtain ⟨q, hq⟩ := Int.eq_ofNat_of_zero_le h0
  rw [hq] at h1 h2
  rw [Int.toNat_natCast] at h2
  have hql : q < l.length := by omega
  obtain ⟨n, hn⟩ := Int.eq_ofNat_of_zero_le (hG.ok q hql).1
  rw [hn] at h2
  have hg : (ps.map (prL l)).getD j (0, 0) = prL l (ps.getD j 0) := by simp [List.getD, hj]
  have hpr : prL l (q : Int) = (((turnL (codeN l q) n : Nat) : Int), (n : Int)) := by unfold prL; rw [Int.toNat_natCast, hn, Int.toNat_natCast]
  refine ⟨q, n, hq, hql, hn, by omega, ?_, ?_⟩
  · rw [atL, hg, hq, hpr]; simp
  · intro i hi
    have hb := (rowL_bit (ps.map (prL l)) ps.length (by simp)).1 j i hj (by rw [hg, hq, hpr]; simpa using hi)
    rw [hb, hg, hq, hpr]
    simp only [Int.toNat_natCast]
    rw [turnL_bit, decide_eq_true hi, Bool.true_and]

/-- what is written is read: so far as it has come it stands at the right place and has read the places -/
theorem read_back (l : List Int) (hG : Good l) (ps : List Int) (hall : ∀ j, j < ps.length → okPlace l (ps.getD j 0) = true) (xs : List Nat) : ∀ k p, k ≤ ps.length → ReadTo l (rowL (ps.map (prL l)) ps.length) xs k p → p = atL (ps.map (prL l)) k ∧ ∀ j, j < k → ((xs.getD j 0 : Nat) : Int) = ps.getD j 0
  | 0, p, _, h => ⟨h, fun j hj => by omega⟩
  | k + 1, p', hk, ⟨p, h1, h2⟩ => by
    obtain ⟨e, ih⟩ := read_back l hG ps hall xs k p (by omega) h1
    obtain ⟨q, n, g1, g2, g3, g4, g5, g6⟩ := bits_at l hG ps hall (j := k) (by omega)
    rw [e] at h2
    have hm := atL_mono (ps.map (prL l)) (j := k + 1) (k := ps.length) (by omega)
    obtain ⟨r1, r2, r3⟩ := outcome_code l hG _ _ q n g2 g3 g4 (by rw [rowL_length]; simp only [List.length_map]; omega) g6 h2
    refine ⟨by rw [r3, g5], fun j hj => ?_⟩
    by_cases ej : j = k
    · subst ej; rw [r1, g1]
    · exact ih j (by omega)
/-- and no error comes up -/
theorem read_back_ok (l : List Int) (hG : Good l) (ps : List Int) (hall : ∀ j, j < ps.length → okPlace l (ps.getD j 0) = true) (xs : List Nat) {k p p' : Nat} {err : Int} (hk : k < ps.length) (h : ReadTo l (rowL (ps.map (prL l)) ps.length) xs k p) {x : Nat} (ho : Outcome l (rowL (ps.map (prL l)) ps.length) p x err p') : err = 0 := by
  obtain ⟨e, _⟩ := read_back l hG ps hall xs k p (by omega) h
  obtain ⟨q, n, g1, g2, g3, g4, g5, g6⟩ := bits_at l hG ps hall hk
  rw [e] at ho
  have hm := atL_mono (ps.map (prL l)) (j := k + 1) (k := ps.length) (by omega)
  exact (outcome_code l hG _ _ q n g2 g3 g4 (by rw [rowL_length]; simp only [List.length_map]; omega) g6 ho).2.1
end Go.Proofs.Ytmafecagcglaoaa
