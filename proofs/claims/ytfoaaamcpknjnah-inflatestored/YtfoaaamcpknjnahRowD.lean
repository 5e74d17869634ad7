/-
  Rows of bits, of lists alone: what stands at a place is read.
-/
import Derived.Test.YtfoaaamcpknjnahUnp6
namespace Go.Proofs.Ytfoaaamcpknjnah
set_option linter.unusedVariables false
set_option maxRecDepth 100000

theorem rowB_take (xs ys : List Nat) : ∀ q, q ≤ xs.length → rowB (xs ++ ys) q = rowB xs q
  | 0, _ => rfl
  | q + 1, h => by
    rw [rowB, rowB, rowB_take xs ys q (by omega)]
    congr 2
    simp only [List.getD]
    rw [List.getElem?_append_left (by omega)]
theorem rowB_app (xs ys : List Nat) : ∀ q, rowB (xs ++ ys) (xs.length + q) = rowB xs xs.length ++ rowB ys q
  | 0 => by rw [Nat.add_zero, rowB_take xs ys _ (Nat.le_refl _)]; simp [rowB]
  | q + 1 => by
    rw [← Nat.add_assoc, rowB, rowB_app xs ys q, rowB, List.append_assoc]
    congr 3
    simp only [List.getD]
    rw [List.getElem?_append_right (by omega)]
    congr 2
    omega
theorem drop_more {row X R : List Bool} {p : Nat} (h : row.drop p = X ++ R) : row.drop (p + X.length) = R := by
  rw [← List.drop_drop, h, List.drop_left]
theorem drop_len {row X R : List Bool} {p : Nat} (h : row.drop p = X ++ R) (hX : 0 < X.length) : p + X.length ≤ row.length := by
  have := congrArg List.length h
  rw [List.length_drop, List.length_append] at this
  omega
/-- a number that stands there is read -/
theorem uget_at (row : List Bool) (n x : Nat) (u : US) (R : List Bool) (he : u.e = 0) (hp : u.p ≤ row.length) (hx : x < 2 ^ n) (h : row.drop u.p = numBits x n ++ R) : uget row n u = (x, { u with p := u.p + n }) := by
  have hl := numBits_length x n
  have hlen := congrArg List.length h
  rw [List.length_drop, List.length_append, hl] at hlen
  refine uget_ok row n x u he (by omega) hx ?_
  rw [h, List.take_append_of_le_length (by omega), List.take_of_length_le (by omega)]
theorem rowB_cons (x : Nat) (xs : List Nat) : ∀ q, rowB (x :: xs) (q + 1) = numBits x 8 ++ rowB xs q
  | 0 => by simp [rowB]
  | q + 1 => by
    rw [rowB, rowB_cons x xs q, rowB, List.append_assoc]
    rfl
theorem ustore_ok (row : List Bool) : ∀ (bs : List Nat) (u : US) (R : List Bool), u.e = 0 → u.p ≤ row.length → (∀ j, bs.getD j 0 < 256) → u.out.length + bs.length ≤ 3000 → row.drop u.p = rowB bs bs.length ++ R →
    ustore row bs.length u = { u with p := u.p + 8 * bs.length, out := u.out ++ bs }
  | [], u, R, he, hp, hb, hl, h => by
    rw [List.length_nil, ustore]
    simp
  | b :: bs, u, R, he, hp, hb, hl, h => by
    rw [List.length_cons] at hl h ⊢
    rw [rowB_cons, List.append_assoc] at h
    have h0 : b < 2 ^ 8 := by have := hb 0; simpa using this
    have hR := congrArg List.length h
    rw [List.length_drop, List.length_append, numBits_length] at hR
    have c1 := uget_at row 8 b u _ he hp h0 h
    have d1 := drop_more h
    rw [numBits_length] at d1
    have e : usay b { u with p := u.p + 8 } = { u with p := u.p + 8, out := u.out ++ [b] } := by
      unfold usay
      simp only
      rw [if_pos he, if_neg (by omega)]
    rw [ustore, if_pos he, c1]
    simp only
    rw [e, ustore_ok row bs { u with p := u.p + 8, out := u.out ++ [b] } R he (by simp only; omega) (fun j => by have := hb (j + 1); simpa using this) (by simp; omega) d1]
    simp only [List.append_assoc, List.singleton_append]
    congr 1
    omega

/-! a block -/
end Go.Proofs.Ytfoaaamcpknjnah
