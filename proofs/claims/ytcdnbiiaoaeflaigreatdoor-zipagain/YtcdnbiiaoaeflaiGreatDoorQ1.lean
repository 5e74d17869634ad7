import Derived.Test.YtcdnbiiaoaeflaiGreatDoorQ0
namespace Go.Proofs.YtcdnbiiaoaeflaiGreatDoor
open Go.RowKit
set_option linter.unusedVariables false
theorem heap_row {w : World} {b i : Nat} {cs : Array Value} {t : TypeId} (h : w.heap[b]? = some (.cells cs t (0, 0))) : w.cell? ⟨b, i, none⟩ = cs[i]? := cell_of_row w b i _ _ _ h
def Kp (No : Nat -> Prop) (w w' : World) : Prop := ∀ g, g < w.heap.size -> No g -> w'.heap[g]? = w.heap[g]?
theorem Kp.refl (No : Nat -> Prop) (w : World) : Kp No w w := fun _ _ _ => rfl
theorem Kp.trans {No : Nat -> Prop} {a b c : World} (h : Kp No a b) (k : Kp No b c) (hs : a.heap.size <= b.heap.size) : Kp No a c := fun g hg hn => (k g (by omega) hn).trans (h g hg hn)
theorem Kp.grown {No : Nat -> Prop} {a w w' : World} {r : Option Nat} (h : Kp No a w) (hg : w.grownBy w' r) (hs : a.heap.size <= w.heap.size) (hr : ∀ j, r = some j -> ¬ No j) : Kp No a w' := by
 intro g h1 h2
 rw [hg.block g (by omega) (fun e => hr g e.symm h2)]
 exact h g h1 h2
theorem Bytes.grown {w w' : World} {b o : Nat} {xs : List Nat} {r : Option Nat} (h : Bytes w b o xs) (hg : w.grownBy w' r) (hr : some b ≠ r) : Bytes w' b o xs := fun j hj => hg.cell (h j hj) hr
theorem Kp.weaken {No No' : Nat -> Prop} {w w' : World} (h : Kp No' w w') (hn : ∀ g, No g -> No' g) : Kp No w w' := fun g h1 h2 => h g h1 (hn g h2)
theorem own_kp {w w' : World} {B e size n : Nat} {v : Value} {xs : List Value} (h : w.ownsRow B e size v n xs) (hk : ∀ g, v.ownBlock = some g -> w'.heap[g]? = w.heap[g]?) : w'.ownsRow B e size v n xs := by
 refine ⟨h.1, ?_⟩
 rcases h.2 with h1 | ⟨g, cap, cur, h1, h2, h3, h4⟩
 · exact .inl h1
 · exact .inr ⟨g, cap, cur, h1, h2, (hk g (by rw [h1]; rfl)).trans h3, h4⟩
theorem own_mono {w : World} {B B' e size n : Nat} {v : Value} {xs : List Value} (h : w.ownsRow B e size v n xs) (hB : B' <= B) : w.ownsRow B' e size v n xs := by
 refine ⟨h.1, ?_⟩
 rcases h.2 with h1 | ⟨g, cap, cur, h1, h2, h3⟩
 · exact .inl h1
 · exact .inr ⟨g, cap, cur, h1, Nat.le_trans hB h2, h3⟩
theorem own_shape {w : World} {B e size n : Nat} {v : Value} {xs : List Value} (h : w.ownsRow B e size v n xs) (hn : 0 < n) : ∃ g cap, v = .slice (some ⟨g, 0, none⟩) n cap /\ B <= g /\ g < w.heap.size := by
 rcases h.2 with ⟨h1, h2⟩ | ⟨g, cap, cur, h1, h2, h3⟩
 · omega
 · exact ⟨g, cap, h1, h2, (h.lt g (by rw [h1]; rfl)).2⟩
theorem u8_snoc (xs : List Nat) (y : Nat) : u8s (xs ++ [y]) = u8s xs ++ [.int .u8 (y : Int)] := by simp [u8s]
theorem bytesIn_some {w : World} {a : Option Addr} {bs : List Nat} (h : BytesIn w a bs) (hp : 0 < bs.length) : ∃ b o, a = some ⟨b, o, none⟩ /\ b < w.heap.size /\ Bytes w b o bs := by
 rcases h with rfl | h
 · simp at hp
 · exact h
theorem BytesIn.ofOwn {w : World} {B n : Nat} {v : Value} {xs : List Nat} (h : w.ownsRow B 5 1 v n (u8s xs)) : xs.length = n /\ ∃ a c, v = .slice a n c /\ BytesIn w a xs := by
 have hn : xs.length = n := by have := h.1; simpa using this
 refine ⟨hn, ?_⟩
 rcases h.2 with ⟨h1, h2⟩ | ⟨g, cap, cur, h1, _⟩
 · subst h2
   exact ⟨none, 0, h1, .inl (List.eq_nil_of_length_eq_zero hn)⟩
 · subst h1
   exact ⟨_, _, rfl, BytesIn.own h⟩
theorem own_slice' {w : World} {B e size n : Nat} {v : Value} {xs : List Value} (h : w.ownsRow B e size v n xs) : ∃ a c, v = .slice a n c := by
 rcases h.2 with ⟨h1, h2⟩ | ⟨g, cap, cur, h1, _⟩
 · subst h2; exact ⟨none, 0, h1⟩
 · exact ⟨_, _, h1⟩
end Go.Proofs.YtcdnbiiaoaeflaiGreatDoor

namespace Go.Proofs.YtcdnbiiaoaeflaiGreatDoor.Stab
open Go.RowKit
set_option linter.unusedVariables false
variable {α : Type}
variable (lt : α -> α -> Prop)
end Go.Proofs.YtcdnbiiaoaeflaiGreatDoor.Stab

namespace Go.Proofs.YtcdnbiiaoaeflaiGreatDoor.Stab
open Go.RowKit
set_option linter.unusedVariables false
def lx (x y : Int × Int) : Prop := x.1 < y.1 ∨ (x.1 = y.1 /\ x.2 < y.2)
end Go.Proofs.YtcdnbiiaoaeflaiGreatDoor.Stab

namespace Go.Proofs.YtcdnbiiaoaeflaiGreatDoor
open Go.RowKit
set_option linter.unusedVariables false
set_option linter.unusedSimpArgs false
theorem ofInt_i64 (a : Nat) (ha : a < 4611686018427387904) : (BitVec.ofInt 64 (a : Int)).toNat = a := by
 rw [BitVec.ofInt_natCast, BitVec.toNat_ofNat]; exact Nat.mod_eq_of_lt (by omega)
theorem wrap_i64_nat (a : Nat) (ha : a < 4611686018427387904) : IntKind.i64.wrap (a : Int) = (a : Int) := by
 rw [IntKind.wrap_i64]; omega
theorem i64_and_nat (a b : Nat) (ha : a < 4611686018427387904) (hb : b < 4611686018427387904) : bits .and .i64 (a : Int) (b : Int) = ((a &&& b : Nat) : Int) := by
 have hx : a &&& b < 2 ^ 62 := Nat.and_lt_two_pow _ (by omega)
 show IntKind.i64.wrap ((BitVec.ofInt 64 (a : Int) &&& BitVec.ofInt 64 (b : Int)).toNat : Int) = _
 rw [BitVec.toNat_and, ofInt_i64 a ha, ofInt_i64 b hb]
 exact wrap_i64_nat _ (by omega)
theorem i64_or_nat (a b : Nat) (ha : a < 4611686018427387904) (hb : b < 4611686018427387904) : bits .or .i64 (a : Int) (b : Int) = ((a ||| b : Nat) : Int) := by
 have hx : a ||| b < 2 ^ 62 := Nat.or_lt_two_pow (by omega) (by omega)
 show IntKind.i64.wrap ((BitVec.ofInt 64 (a : Int) ||| BitVec.ofInt 64 (b : Int)).toNat : Int) = _
 rw [BitVec.toNat_or, ofInt_i64 a ha, ofInt_i64 b hb]
 exact wrap_i64_nat _ (by omega)
theorem div_pow_cast (n k : Nat) : (n : Int) / 2 ^ k = ((n / 2 ^ k : Nat) : Int) := by
 push_cast; rfl
theorem i64_bit (n k : Nat) (hn : n < 4611686018427387904) : bits .and .i64 ((n : Int) / 2 ^ k) 1 = ((n / 2 ^ k % 2 : Nat) : Int) := by
 rw [div_pow_cast]
 have h : n / 2 ^ k <= n := Nat.div_le_self _ _
 have := i64_and_nat (n / 2 ^ k) 1 (by omega) (by omega)
 rw [Nat.and_one_is_mod] at this
 exact this
theorem pow_le_7 {k : Nat} (h : k <= 7) : 2 ^ k <= 128 := Nat.pow_le_pow_right (j := 7) (by decide) h
theorem bit_mul_le {x p q : Nat} (h : p <= q) : x % 2 * p <= q := by
 rcases Nat.mod_two_eq_zero_or_one x with e | e <;> rw [e] <;> omega
theorem turn_step (m n k : Nat) (hm : m < 65536) (hn : n < 65536) :
 bits .or .i64 ((m : Int) * 2) (bits .and .i64 ((n : Int) / 2 ^ k) 1) = ((m * 2 ||| n / 2 ^ k % 2 : Nat) : Int) := by
 rw [i64_bit n k (by omega)]
 have := i64_or_nat (m * 2) (n / 2 ^ k % 2) (by omega) (by omega)
 rw [← this]
 push_cast; rfl
theorem put_step (x n k r : Nat) (hx : x < 256) (hn : n < 65536) (hr : r < 8) :
 bits .or .u8 (x : Int) (bits .and .i64 ((n : Int) / 2 ^ k) 1 % 256 * 2 ^ r % 256) = ((x ||| n / 2 ^ k % 2 * 2 ^ r : Nat) : Int) := by
 rw [i64_bit n k (by omega)]
 have h2 := bit_mul_le (x := n / 2 ^ k) (pow_le_7 (k := r) (by omega))
 have e : (((n / 2 ^ k % 2 : Nat) : Int) % 256 * 2 ^ r % 256) = ((n / 2 ^ k % 2 * 2 ^ r : Nat) : Int) := by
  have e1 : ((n / 2 ^ k % 2 : Nat) : Int) % 256 = ((n / 2 ^ k % 2 : Nat) : Int) := by omega
  have e2 : (((n / 2 ^ k % 2 : Nat) : Int) * 2 ^ r) = ((n / 2 ^ k % 2 * 2 ^ r : Nat) : Int) := by push_cast; rfl
  rw [e1, e2]
  omega
 rw [e]
 exact u8_or_nat _ _ hx (by omega)
theorem testBit_bit (n k r i : Nat) : (n / 2 ^ k % 2 * 2 ^ r).testBit i = (decide (i = r) && n.testBit k) := by
 rw [Nat.testBit_mul_two_pow]
 have h : ∀ j, (n / 2 ^ k % 2).testBit j = (decide (j = 0) && n.testBit k) := by
  intro j
  have := Nat.testBit_mod_two_pow (n / 2 ^ k) 1 j
  rw [Nat.pow_one] at this
  rw [this, Nat.testBit_div_two_pow]
  by_cases hj : j = 0
  · subst hj; simp
  · simp [hj]
 rw [h]
 by_cases hi : i = r
 · subst hi; simp
 · by_cases hl : r <= i
   · have : i - r ≠ 0 := by omega
     simp [hi, this]
   · simp [hi, hl]
def turnL (n : Nat) : Nat -> Nat
 | 0 => 0
 | k + 1 => turnL n k * 2 ||| n / 2 ^ k % 2
theorem turnL_bit (n : Nat) : ∀ k i, (turnL n k).testBit i = (decide (i < k) && n.testBit (k - 1 - i))
 | 0, i => by simp [turnL]
 | k + 1, i => by
  have h1 := testBit_bit n k 0 i
  rw [Nat.pow_zero, Nat.mul_one] at h1
  have h2 := Nat.testBit_mul_two_pow (turnL n k) i 1
  rw [Nat.pow_one] at h2
  rw [turnL, Nat.testBit_or, h1, h2, turnL_bit n k (i - 1)]
  by_cases hi : i = 0
  · subst hi; simp
  · have e : k + 1 - 1 - i = k - 1 - (i - 1) := by omega
    have e2 : (i - 1 < k) = (i < k + 1) := by apply propext; omega
    have e3 : 1 <= i := by omega
    rw [e]
    simp only [e2, hi, e3, decide_true, Bool.true_and, decide_false, Bool.false_and, Bool.or_false]
theorem turnL_lt (n k : Nat) : turnL n k < 2 ^ k := by
 apply Nat.lt_pow_two_of_testBit
 intro i hi
 rw [turnL_bit]
 have : ¬ i < k := by omega
 simp [this]
def bitAt (xs : List Nat) (k : Nat) : Bool := (xs.getD (k / 8) 0).testBit (k % 8)
theorem getD_set (xs : List Nat) (i j v : Nat) : (xs.set i v).getD j 0 = if i = j /\ i < xs.length then v else xs.getD j 0 := by
 rw [List.getD_eq_getElem?_getD, List.getElem?_set, List.getD_eq_getElem?_getD]
 by_cases e : i = j
 · subst e
   by_cases h : i < xs.length
   · simp [h]
   · simp [h]
 · simp [e]
end Go.Proofs.YtcdnbiiaoaeflaiGreatDoor

namespace Go.Proofs.YtcdnbiiaoaeflaiGreatDoor
open Go.RowKit
set_option linter.unusedVariables false
def arr (c : Nat -> Nat) : Array Value := ((List.range 16).map fun n => Value.int .i64 ((c n : Nat) : Int)).toArray
theorem arr_size (c : Nat -> Nat) : (arr c).size = 16 := by simp [arr]
theorem arr_at (c : Nat -> Nat) {j : Nat} (h : j < 16) : (arr c)[j]? = some (.int .i64 ((c j : Nat) : Int)) := by simp [arr, h]
theorem arr_one (c : Nat -> Nat) : (arr c).all (·.oneCell') = true := by
 rw [Array.all_eq_true]
 intro i hi
 simp [arr, Value.oneCell']
def upd (c : Nat -> Nat) (j x : Nat) : Nat -> Nat := fun n => if n = j then x else c n
theorem arr_set (c : Nat -> Nat) (j x : Nat) : (arr c).setIfInBounds j (.int .i64 ((x : Nat) : Int)) = arr (upd c j x) := by
 apply Array.ext_getElem?
 intro i
 rw [Array.getElem?_setIfInBounds]
 by_cases h : i < 16
 · rw [arr_at _ h, arr_size, arr_at _ h]
   by_cases e : j = i
   · subst e; simp [h, upd]
   · simp [e, upd, Ne.symm e]
 · rw [arr_size]
   have h1 : ∀ f, (arr f)[i]? = none := fun f => by simp [arr_size]; omega
   rw [h1, h1]
   by_cases e : j = i
   · subst e; simp [h]
   · simp [e]
def cnt (l : List Int) (n : Nat) : Nat := l.count (n : Int)
def takenN (c : Nat -> Nat) : Nat -> Nat
 | 0 => 0
 | k + 1 => takenN c k + c (k + 1) * 2 ^ (14 - k)
def firstN (c : Nat -> Nat) : Nat -> Nat
 | 0 => 0
 | 1 => 0
 | n + 2 => 2 * (firstN c (n + 1) + c (n + 1))
theorem cnt_le (l : List Int) (n : Nat) : cnt l n <= l.length := List.count_le_length
theorem takenN_le (c : Nat -> Nat) {m : Nat} (h : ∀ n, c n <= m) : ∀ k, takenN c k <= k * (m * 32768)
 | 0 => by simp [takenN]
 | k + 1 => by
  have h1 := takenN_le c h k
  have h2 : c (k + 1) * 2 ^ (14 - k) <= m * 32768 := Nat.mul_le_mul (h _) (by
   have := Nat.pow_le_pow_right (n := 2) (by decide) (show 14 - k <= 15 by omega)
   omega)
  rw [takenN, Nat.succ_mul]
  omega
theorem first_taken (c : Nat -> Nat) : ∀ k, k <= 14 -> firstN c (k + 1) * 2 ^ (14 - k) = takenN c k
 | 0, _ => by simp [firstN, takenN]
 | k + 1, h => by
  have ih := first_taken c k (by omega)
  have e : 14 - k = (14 - (k + 1)) + 1 := by omega
  rw [takenN, ← ih, firstN, e, Nat.pow_succ]
  generalize 2 ^ (14 - (k + 1)) = p
  rw [← Nat.add_mul, Nat.mul_comm p 2, ← Nat.mul_assoc, Nat.mul_comm 2]
theorem taken_mono (c : Nat -> Nat) {j k : Nat} (h : j <= k) : takenN c j <= takenN c k := by
 induction h with
 | refl => exact Nat.le_refl _
 | step _ ih => exact Nat.le_trans ih (Nat.le_add_right _ _)
theorem first_room (c : Nat -> Nat) (h : takenN c 15 <= 32768) {n : Nat} (h1 : 1 <= n) (h2 : n <= 15) : firstN c n + c n <= 2 ^ n := by
 obtain ⟨k, rfl⟩ : ∃ k, n = k + 1 := ⟨n - 1, by omega⟩
 have e := first_taken c k (by omega)
 have m := taken_mono c (show k + 1 <= 15 by omega)
 rw [takenN] at m
 have m2 : (firstN c (k + 1) + c (k + 1)) * 2 ^ (14 - k) <= 2 ^ (k + 1) * 2 ^ (14 - k) := by
  rw [Nat.add_mul, e, ← Nat.pow_add]
  have : k + 1 + (14 - k) = 15 := by omega
  rw [this]
  omega
 exact Nat.le_of_mul_le_mul_right m2 (Nat.pow_pos (by decide))
theorem first_far (c : Nat -> Nat) (m : Nat) (h1 : 1 <= m) : ∀ d, 1 <= d -> (firstN c m + c m) * 2 ^ d <= firstN c (m + d)
 | 0, h => by omega
 | d + 1, _ => by
  obtain ⟨k, rfl⟩ : ∃ k, m = k + 1 := ⟨m - 1, by omega⟩
  have e : firstN c (k + 1 + (d + 1)) = 2 * (firstN c (k + 1 + d) + c (k + 1 + d)) := by
   have : k + 1 + (d + 1) = (k + d) + 2 := by omega
   have h3 : k + 1 + d = (k + d) + 1 := by omega
   rw [this, firstN, h3]
  rw [e, Nat.pow_succ]
  by_cases hd : d = 0
  · subst hd; simp; omega
  · have := first_far c (k + 1) h1 d (by omega)
    rw [← Nat.mul_assoc]
    omega
end Go.Proofs.YtcdnbiiaoaeflaiGreatDoor
