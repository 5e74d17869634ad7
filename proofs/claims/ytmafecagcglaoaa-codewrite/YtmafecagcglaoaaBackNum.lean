/-
  Numbers that are packed into a row of bits stand in it, each at its place: so what is unpacked is what was packed.
-/
import Derived.Test.YtmafecagcglaoaaUnpack
import Derived.Test.YtmafecagcglaoaaRowBit
namespace Go.Proofs.Ytmafecagcglaoaa
open Go.RowKit
set_option linter.unusedVariables false

theorem getD_snd (ps : List (Int × Int)) (k : Nat) : (ps.map (·.2)).getD k 0 = (ps.getD k (0, 0)).2 := by
  simp only [List.getD_eq_getElem?_getD, List.getElem?_map]
  cases ps[k]? <;> rfl
theorem getD_fst (ps : List (Int × Int)) (k : Nat) : (ps.map (·.1)).getD k 0 = (ps.getD k (0, 0)).1 := by
  simp only [List.getD_eq_getElem?_getD, List.getElem?_map]
  cases ps[k]? <;> rfl
theorem sum_at (ps : List (Int × Int)) : ∀ k, sumL (ps.map (·.2)) k = atL ps k
  | 0 => rfl
  | k + 1 => by rw [sumL, atL, sum_at ps k, getD_snd]
theorem allSize_of (ps : List (Int × Int)) (h : AllFit ps) : AllSize (ps.map (·.2)) := by
  intro j hj
  have hj' : j < ps.length := by simpa using hj
  obtain ⟨h1, h2, _, _⟩ := fitsB_true (h j hj')
  rw [getD_snd]
  exact decide_eq_true ⟨h1, h2⟩

theorem back_nums (ps : List (Int × Int)) (hf : AllFit ps) (k : Nat) (hl : ps.length = k) : (numL (rowL ps k) (ps.map (fun x : Int × Int => x.2)) k).map (fun x : Nat => (x : Int)) = ps.map (fun x : Int × Int => x.1) := by
  subst hl
  apply List.ext_getElem (by simp [numL_length])
  intro j h1 h2
  have hj : j < ps.length := by simpa using h2
  have e1 := numL_at (rowL ps ps.length) (ps.map (fun x : Int × Int => x.2)) ps.length j hj (by simpa using hj)
  have hjn : j < (numL (rowL ps ps.length) (ps.map (fun x : Int × Int => x.2)) ps.length).length := by simpa [numL_length] using hj
  have e2 : (numL (rowL ps ps.length) (ps.map (fun x : Int × Int => x.2)) ps.length)[j] = takeL (rowL ps ps.length) (sumL (ps.map (fun x : Int × Int => x.2)) j) ((ps.map (fun x : Int × Int => x.2)).getD j 0).toNat := by
    rw [← e1]; simp [List.getD, hjn]
  have e3 : ps.getD j (0, 0) = ps[j] := by simp [List.getD, hj]
  obtain ⟨f1, f2, f3, f4⟩ := fitsB_true (hf j hj)
  obtain ⟨b1, b2⟩ := rowL_bit ps ps.length (Nat.le_refl _)
  have e4 : takeL (rowL ps ps.length) (sumL (ps.map (fun x : Int × Int => x.2)) j) ((ps.map (fun x : Int × Int => x.2)).getD j 0).toNat = (ps.getD j (0, 0)).1.toNat := by
    rw [sum_at, getD_snd]
    apply Nat.eq_of_testBit_eq
    intro i
    rw [takeL_bit]
    by_cases hi : i < (ps.getD j (0, 0)).2.toNat
    · rw [b1 j i hj hi, decide_eq_true hi, Bool.true_and]
    · have hlt : (ps.getD j (0, 0)).1.toNat < 2 ^ (ps.getD j (0, 0)).2.toNat := by
        have h5 : (((ps.getD j (0, 0)).1.toNat : Nat) : Int) < ((2 ^ (ps.getD j (0, 0)).2.toNat : Nat) : Int) := by
          push_cast
          rw [Int.toNat_of_nonneg f3]
          exact f4
        omega
      have : (ps.getD j (0, 0)).1.toNat.testBit i = false := Nat.testBit_lt_two_pow (Nat.lt_of_lt_of_le hlt (Nat.pow_le_pow_right (by decide) (by omega)))
      rw [this, decide_eq_false hi]; simp
  rw [List.getElem_map, List.getElem_map, e2, e4, Int.toNat_of_nonneg f3, e3]
end Go.Proofs.Ytmafecagcglaoaa
