/-
  Texts of noughts and ones; what a strings.Builder's String answers.
-/
import Derived.Test.YtmafecagcglaoaaBuild
import Derived.Test.YtmafecagcglaoaaIn0
import Derived.Test.YtmafecagcglaoaaNum
namespace Go.Proofs.Ytmafecagcglaoaa
open Go.RowKit
set_option linter.unusedVariables false
set_option maxRecDepth 100000

def strRen : Go.Shelf.Ren := ⟨fun | 169 => 16 | n => n, fun | 70 => 31 | 9 => 9 | 0 => 0 | 72 => 33 | 37 => 28 | 127 => 67 | 3 => 3 | 5 => 5 | n => n, fun | n => n⟩
theorem strLays : Go.Proofs.Lays.n169 Try.prog strRen := {
  mixed := by kernel_rfl
  f169 := Try.func16.trans (congrArg some (by kernel_rfl))
  t0 := Try.underlying0
  a0 := Try.isAgg0
  z0 := Try.sizeOf0
  v0 := Try.zeroValue0
  t3 := Try.underlying3
  a3 := Try.isAgg3
  z3 := Try.sizeOf3
  v3 := Try.zeroValue3
  t9 := Try.underlying9
  a9 := Try.isAgg9
  z9 := Try.sizeOf9
  v9 := Try.zeroValue9
  t37 := Try.underlying28
  a37 := Try.isAgg28
  z37 := Try.sizeOf28
  v37 := Try.zeroValue28
  t70 := Try.underlying31
  a70 := Try.isAgg31
  z70 := Try.sizeOf31
  v70 := Try.zeroValue31
  t72 := Try.underlying33
  a72 := Try.isAgg33
  z72 := Try.sizeOf33
  v72 := Try.zeroValue33
  t127 := Try.underlying67
  a127 := Try.isAgg67
  z127 := Try.sizeOf67
  v127 := Try.zeroValue67 }
theorem strExtra : Go.Proofs.Builder.Extra Try.prog strRen := {
  sizeBuilder := by kernel_rfl
  liesBuilder := by kernel_rfl
  t5 := Try.underlying5
  a5 := Try.isAgg5
  z5 := Try.sizeOf5
  v5 := Try.zeroValue5
  infoByte := by kernel_rfl
  cellsByte := by kernel_rfl
  sizeByte := by kernel_rfl
  neB5 := by decide }
theorem string_any (b : Nat) (l : List UInt8) (w : World) (h : IsB w b (Lib.byteCells l)) (hb : b ≤ w.heap.size) :
    Calls Try.prog 16 #[.pointer (some ⟨b, 0, none⟩)] w fun e w' => e = .returned (.string ⟨l.toArray⟩) ∧ Below b w w' :=
  Go.Proofs.Any.Builder_String_any strLays strExtra b b l w h hb

/-- bits as noughts and ones -/
def chr (b : Bool) : UInt8 := if b then 49 else 48
def text (l : List Bool) : ByteArray := ⟨(l.map chr).toArray⟩
theorem text_size (l : List Bool) : (text l).size = l.length := by simp [text, ByteArray.size]

theorem text_append (a b : List Bool) : (text a).append (text b) = text (a ++ b) := by
  simp [text, ByteArray.append]
theorem text_at (l : List Bool) (j : Nat) (hj : j < l.length) (h : j < (text l).size) : ((text l)[j]'h).toNat = 48 + if l[j] then 1 else 0 := by
  have e : (text l)[j]'h = chr l[j] := by
    show (text l).data[j]'h = _
    simp [text]
  rw [e]
  cases l[j] <;> rfl
theorem below_grown {w w' : World} (h : Below w.heap.size w w') : w.grownBy w' none := ⟨h.os, h.tape, h.output, h.size, fun k hk _ => h.block k hk⟩
theorem own_below {w w' : World} {B e size n : Nat} {v : Value} {xs : List Value} (h : w.ownsRow B e size v n xs) (hg : Below w.heap.size w w') : w'.ownsRow B e size v n xs :=
  h.kept (below_grown hg) (by cases hv : v.ownBlock with
    | none => exact .inl rfl
    | some k => exact .inr (by simp))
theorem IsB.below {w w' : World} {b : Nat} {bs : List Value} (h : IsB w b bs) (hg : Below w.heap.size w w') : IsB w' b bs := by
  rcases h with h | h
  · obtain ⟨h1, v, h2, h3, h4⟩ := h
    have hb : b < w.heap.size := by
      rcases Nat.lt_or_ge b w.heap.size with h' | h'
      · exact h'
      · simp [Array.getElem?_eq_none h'] at h2
    exact .inl ⟨h1, v, by rw [hg.block b hb]; exact h2, own_below h3 hg, h4⟩
  · obtain ⟨h1, v, h2, h3, h4⟩ := h
    have hb : b < w.heap.size := by
      rcases Nat.lt_or_ge b w.heap.size with h' | h'
      · exact h'
      · simp [Array.getElem?_eq_none h'] at h2
    exact .inr ⟨h1, v, by rw [hg.block b hb]; exact h2, own_below h3 hg, h4⟩
theorem IsB.alloc {w : World} {b : Nat} {bs : List Value} (h : IsB w b bs) (o : Obj) : IsB (w.alloc o) b bs := h.below ((Below.refl _ _).alloc (Nat.le_refl _) o)
theorem IsB.drewN {w : World} {b : Nat} {bs : List Value} (h : IsB w b bs) (n : Nat) : IsB (w.drewN n) b bs := h.below (below_drewN (Below.refl _ _) n)
theorem IsB.new (w : World) : IsB (w.alloc (.cells #[.pointer none, .slice none 0 0] 33)) w.heap.size [] :=
  .inl ⟨Nat.le_refl _, .slice none 0 0, heap_alloc_new w _, World.ownsRow_nil _ _ _ _, by simp [Value.ownBlock]⟩

theorem cells_text (l r : List Bool) : Lib.byteCells (l.map chr) ++ Lib.strCells (text r) = Lib.byteCells ((l ++ r).map chr) := by
  rw [List.map_append, Lib.byteCells_append]; rfl

def numBits (n : Nat) : Nat → List Bool
  | 0 => []
  | k + 1 => numBits n k ++ [n.testBit k]

theorem numBits_length (n : Nat) : ∀ k, (numBits n k).length = k
  | 0 => rfl
  | k + 1 => by rw [numBits, List.length_append, numBits_length n k]; rfl
theorem bit_div (n k : Nat) : n / 2 ^ k % 2 = if n.testBit k then 1 else 0 := by
  have h := Nat.testBit_eq_decide_div_mod_eq (x := n) (i := k)
  rw [h]
  rcases Nat.mod_two_eq_zero_or_one (n / 2 ^ k) with e | e <;> simp [e]

theorem numBits_getD (n : Nat) : ∀ s i, (numBits n s).getD i false = (decide (i < s) && n.testBit i)
  | 0, i => by simp [numBits]
  | s + 1, i => by
    rw [numBits, List.getD_eq_getElem?_getD]
    by_cases h : i < s
    · rw [List.getElem?_append_left (by rw [numBits_length]; exact h), ← List.getD_eq_getElem?_getD, numBits_getD n s i]
      simp [h, Nat.lt_succ_of_lt h]
    · rw [List.getElem?_append_right (by rw [numBits_length]; omega), numBits_length]
      by_cases e : i = s
      · subst e; simp
      · have h1 : ¬ i < s + 1 := by omega
        have h2 : [n.testBit s][i - s]? = none := List.getElem?_eq_none (by simp; omega)
        rw [h2]; simp [h1]

end Go.Proofs.Ytmafecagcglaoaa
