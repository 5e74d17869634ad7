/-
  Plain facts for the law WeighLengths.
-/
import Derived.Test.YtmafecagcglaoabWeighed
import Derived.Test.YtmafecagcglaoabWeighKraft
import Derived.Test.YtmafecagcglaoabLeast1
import Derived.Test.YtmafecagcglaoabWanted
import Derived.Test.YtmafecagcglaoabSlc
import Derived.Test.YtmafecagcglaoabCheck1
namespace Go.Proofs.Ytmafecagcglaoab
open Go.RowKit
set_option linter.unusedVariables false

/-- how far the law's own reckoning of Cost is -/
def LSt (l o : List Int) (k : Nat) (sd al : Int) : Prop := (sd ≠ 0 ∧ sd = errC l o) ∨ (sd = 0 ∧ l.length = o.length ∧ errW l 15 = 0 ∧ (∀ j, j < k → okC (l.getD j 0) (o.getD j 0) = true) ∧ al = costK l o k ∧ 0 ≤ al ∧ al ≤ 15000000 * k)
theorem errC_bad {l o : List Int} {k : Nat} (h1 : l.length = o.length) (h2 : errW l 15 = 0) (hk : k < l.length) (h : okC (l.getD k 0) (o.getD k 0) = false) : errC l o = 3 := by
  unfold errC; rw [if_neg (by omega), if_neg (fun h => h h2), if_pos ⟨k, hk, h⟩]
theorem errC_all {l o : List Int} (h1 : l.length = o.length) (h2 : errW l 15 = 0) (h : ∀ j, j < l.length → okC (l.getD j 0) (o.getD j 0) = true) : errC l o = 0 := by
  unfold errC
  rw [if_neg (by omega), if_neg (fun h => h h2), if_neg]
  rintro ⟨j, hj, e⟩
  rw [h j hj] at e
  cases e
theorem room_lens {l : List Int} {P : List Nat} {m : Nat} (hG : GoodW l m) (hP : RiseOf l P) (hn : 2 ≤ P.length) : takenN (cnt (lensOf l P m)) 15 = 32768 := by
  have hm15 := hG.hi
  have hle : ∀ j, 0 ≤ (lensOf l P m).getD j 0 ∧ (lensOf l P m).getD j 0 ≤ 15 := fun j => by have := lens_ok hG hP j; omega
  have h2 := roomN_taken (lensOf l P m) (fun j _ => hle j) (lensOf l P m).length (Nat.le_refl _)
  rw [List.take_length, lensOf_length] at h2
  rw [← h2]
  have hk := lens_kraft hG hP hn
  have h3 : ∀ A B : List Nat, nsum (A ++ B) = nsum A + nsum B := by
    intro A B
    induction A with
    | nil => simp [nsum]
    | cons x A ih => rw [List.cons_append, nsum, nsum, ih]; omega
  have h4 : ∀ k, k ≤ l.length → roomN (lensOf l P m) k = nsum ((wpl l k).map fun p => 2 ^ (15 - ((lensOf l P m).getD p 0).toNat)) := by
    intro k
    induction k with
    | zero => intro _; rfl
    | succ k ih =>
      intro hk
      rw [wpl, List.map_append, h3, roomN, ih (by omega)]
      have hx := lens_ok hG hP k
      by_cases h : 0 < l.getD k 0
      · rw [if_pos h, if_pos (hx.2.2.2 ((hP.mem k).2 ⟨by omega, h⟩))]
        simp [nsum]
      · rw [if_neg h, if_neg (fun h5 => h ((hP.mem k).1 (hx.2.2.1 h5)).2)]
        simp [nsum]
  rw [h4 l.length (Nat.le_refl _), ← nsum_perm (hP.perm.map _)]
  have e : (P.map fun p => 2 ^ (15 - ((lensOf l P m).getD p 0).toNat)) = P.map fun p => 2 ^ (15 - m) * 2 ^ (m - ((lensOf l P m).getD p 0).toNat) := by
    apply List.map_congr_left
    intro p hp
    have := lens_ok hG hP p
    rw [← Nat.pow_add]
    congr 1
    omega
  rw [e, nsum_mul, hk, ← Nat.pow_add, show 15 - m + m = 15 by omega]
theorem lens_one {l : List Int} {P : List Nat} {m : Nat} (hP : RiseOf l P) (hn : P.length = 1) : (∀ j, (lensOf l P m).getD j 0 ≤ 1) ∧ ∃ p, p < l.length ∧ (lensOf l P m).getD p 0 = 1 := by
  have e : ∀ j, (lensOf l P m).getD j 0 = if j ∈ P then 1 else 0 := by
    intro j
    unfold lensOf
    rw [if_pos (by omega), bumps_getD j P _ hP.nodup (fun q hq => by simpa using hP.lt q hq)]
    have e : (List.replicate l.length (0 : Int)).getD j 0 = 0 := by by_cases h : j < l.length <;> simp [List.getD, h]
    rw [e]; omega
  refine ⟨fun j => by rw [e]; split <;> omega, ?_⟩
  match P, hn, hP with
  | [p], _, hP => exact ⟨p, hP.lt p (by simp), by rw [e]; simp⟩

end Go.Proofs.Ytmafecagcglaoab
