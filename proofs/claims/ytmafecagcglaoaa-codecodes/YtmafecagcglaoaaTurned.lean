/-
  What the library's slices.Reverse makes of bytes, and what the document's own Turned says: the row the other way round.
-/
import Derived.Test.YtmafecagcglaoaaRowOf
import Derived.Test.YtmafecagcglaoaaPackLaw
import Derived.Lib.ConvBytes
namespace Go.Proofs.Ytmafecagcglaoaa
open Go.RowKit
set_option linter.unusedVariables false
set_option maxRecDepth 100000

/-- the bytes ys lie in block b, and may be written -/
def Own8 (w : World) (b : Nat) (ys : List Nat) : Prop := ∀ j, j < ys.length → w.cell? ⟨b, j, none⟩ = some (.int .u8 ((ys.getD j 0 : Nat) : Int)) ∧ w.frozen? ⟨b, j, none⟩ = false
theorem Own8.set {w : World} {b : Nat} {ys : List Nat} (h : Own8 w b ys) (i v : Nat) (hi : i < ys.length) : Own8 (w.setCell ⟨b, i, none⟩ (.int .u8 (v : Int))) b (ys.set i v) := by
  intro j hj
  rw [List.length_set] at hj
  rw [getD_set, World.frozen?_setCell]
  refine ⟨?_, (h j hj).2⟩
  by_cases e : i = j
  · subst e
    rw [World.cell?_setCell_same _ _ _ (h i hi).1, if_pos ⟨rfl, hi⟩]
  · rw [World.cell?_setCell_other _ _ _ _ (fun h => e (congrArg Addr.off h)), if_neg (fun h => e h.1)]
    exact (h j hj).1

def revTo (xs : List Nat) : Nat → List Nat
  | 0 => xs
  | k + 1 => ((revTo xs k).set k ((revTo xs k).getD (xs.length - 1 - k) 0)).set (xs.length - 1 - k) ((revTo xs k).getD k 0)
theorem revTo_length (xs : List Nat) : ∀ k, (revTo xs k).length = xs.length
  | 0 => rfl
  | k + 1 => by rw [revTo, List.length_set, List.length_set, revTo_length xs k]
theorem revTo_getD (xs : List Nat) : ∀ k j, 2 * k ≤ xs.length → j < xs.length → (revTo xs k).getD j 0 = if j < k ∨ xs.length - k ≤ j then xs.getD (xs.length - 1 - j) 0 else xs.getD j 0
  | 0, j, _, hj => by
    rw [revTo, if_neg (by omega)]
  | k + 1, j, hk, hj => by
    rw [revTo, getD_set, getD_set, List.length_set, revTo_length]
    by_cases h1 : xs.length - 1 - k = j
    · rw [if_pos ⟨h1, by omega⟩, revTo_getD xs k k (by omega) (by omega), if_neg (by omega), if_pos (by omega)]
      congr 1
      omega
    · rw [if_neg (fun h => h1 h.1)]
      by_cases h2 : k = j
      · subst h2
        rw [if_pos ⟨rfl, by omega⟩, revTo_getD xs k _ (by omega) (by omega), if_neg (by omega), if_pos (by omega)]
      · rw [if_neg (fun h => h2 h.1), revTo_getD xs k j (by omega) hj]
        by_cases h3 : j < k ∨ xs.length - k ≤ j
        · rw [if_pos h3, if_pos (by omega)]
        · rw [if_neg h3, if_neg (by omega)]
theorem revTo_done (xs : List Nat) (k : Nat) (h1 : 2 * k ≤ xs.length) (h2 : xs.length ≤ 2 * k + 1) : revTo xs k = xs.reverse := by
  apply List.ext_getElem (by rw [revTo_length, List.length_reverse])
  intro j hj1 hj2
  have hj : j < xs.length := by rw [revTo_length] at hj1; exact hj1
  have e := revTo_getD xs k j h1 hj
  have e1 : (revTo xs k).getD j 0 = (revTo xs k)[j] := by simp [List.getD, hj1]
  rw [← e1, e, List.getElem_reverse]
  by_cases h3 : j < k ∨ xs.length - k ≤ j
  · rw [if_pos h3]; simp [List.getD, show xs.length - 1 - j < xs.length by omega]
  · rw [if_neg h3]
    have : j = xs.length - 1 - j := by omega
    simp only [List.getD_eq_getElem?_getD, List.getElem?_eq_getElem hj, Option.getD_some]
    congr 1

theorem grown_set (w : World) (b i : Nat) (v : Value) : w.grownBy (w.setCell ⟨b, i, none⟩ v) (some b) :=
  ⟨rfl, rfl, rfl, by simp, fun k _ hk => heap_setCell_other w ⟨b, i, none⟩ k v (fun e => hk (by simp [e]))⟩

set_option maxHeartbeats 2000000 in
theorem reverse_any (b len cap : Nat) (xs : List Nat) (w : World) (hl : xs.length = len) (hm : len ≤ 16) (hO : Own8 w b xs) :
    Calls Try.prog 38 #[.slice (some ⟨b, 0, none⟩) len cap] w fun e w' => e = .returned (.tuple #[]) ∧ Own8 w' b xs.reverse ∧ w.grownBy w' (some b) := by
  have HL := hide hl
  have HO := hide hO
  clear hl hO
  go_enter Try.func38, Try.ntmps38
  go_wp2
  go_loopw [2, 3] (fun vi vj wr => ∃ k : Nat, 2 * k ≤ len ∧ vi = .int .i64 k ∧ vj = .int .i64 ((len : Int) - 1 - (k : Int)) ∧ Own8 wr b (revTo xs k) ∧ w.grownBy wr (some b)) (fun i _ _ => len - (intOf i).toNat)
  case atStart => exact ⟨0, by omega, rfl, congrArg (Value.int .i64) (by omega), unhide HO, grown_refl _ _⟩
  case round =>
    obtain ⟨k, hk, rfl, rfl, hO, hg⟩ := hrel
    have HO2 := hide hO
    have HG := hide hg
    have HRL := hide (revTo_length xs k)
    rw [unhide HL] at HRL
    by_cases hlt : 2 * k + 1 < len
    · have hltI : (k : Int) < (len : Int) - 1 - (k : Int) := by omega
      have HR : Hid (revTo xs (k + 1) = ((revTo xs k).set k ((revTo xs k).getD (len - 1 - k) 0)).set (len - 1 - k) ((revTo xs k).getD k 0)) := by rw [revTo, unhide HL]; exact rfl
      generalize revTo xs k = ys at *
      obtain ⟨c1, f1⟩ := hO k (by rw [unhide HRL]; omega)
      obtain ⟨c2, f2⟩ := hO (len - 1 - k) (by rw [unhide HRL]; omega)
      have hS := hide (fun x y => ((unhide HO2).set k x (by rw [unhide HRL]; omega)).set (len - 1 - k) y (by rw [List.length_set, unhide HRL]; omega))
      generalize ys.getD k 0 = x at *
      generalize ys.getD (len - 1 - k) 0 = y at *
      have e1 : ((len : Int) - 1 - (k : Int)).toNat = len - 1 - k := by omega
      clear hO hg
      go_wp2
      go_region
      all_goals go_wp2
      go_roundw
      case rel =>
        refine ⟨k + 1, by omega, by go_num, congrArg (Value.int .i64) (by omega), ?_, ?_⟩
        · rw [unhide HR]; exact unhide hS y x
        · exact grown_drew (grown_trans (unhide HG) (grown_trans (grown_set wr b k _) (grown_set _ b _ _)))
      case measure => simp [intOf]; omega
    · have hno : ¬ (k : Int) < (len : Int) - 1 - (k : Int) := by omega
      have e := revTo_done xs k (by rw [unhide HL]; exact hk) (by rw [unhide HL]; omega)
      have E := hide e
      clear hO hg e
      go_wp2
      go_end0
      exact ⟨rfl, by rw [← unhide E]; exact unhide HO2, unhide HG⟩

theorem below_bytes (w : World) (e : TypeId) (s : ByteArray) : Below w.heap.size w (Lib.bytesWorld w e s) := by
  refine ⟨?_, ?_, ?_, by rw [Lib.bytesWorld_size]; omega, fun k hk => Lib.bytesWorld_at_old w e s k hk⟩
  · simp [Lib.bytesWorld, World.freeze]; rfl
  · simp [Lib.bytesWorld, World.freeze]
  · simp [Lib.bytesWorld, World.freeze]; rfl

theorem own8_bytes (w : World) (l : List Bool) : Own8 (Lib.bytesWorld w 5 (text l)) w.heap.size (l.map fun b => (chr b).toNat) := by
  intro j hj
  have hj' : j < l.length := by simpa using hj
  have hs : j < (text l).size := by rw [text_size]; exact hj'
  constructor
  · rw [Lib.bytesWorld_cell w _ _ j hs]
    simp [text, List.getD, hj']
  · have hz : j < (Lib.bytesCells w 5 (text l)).size := by
      unfold Lib.bytesCells
      simp only [Array.size_append, Array.size_map]
      have : (text l).data.size = (text l).size := rfl
      omega
    unfold World.frozen?
    rw [Lib.bytesWorld_at_new]
    simp
    omega

theorem turned_any (l : List Bool) (w : World) (hl : l.length ≤ 16) :
    Calls Try.prog 20 #[.string (text l)] w fun e w' => e = .returned (.string (text l.reverse)) ∧ Below w.heap.size w w' := by
  have hcv := Lib.run_convert_string_bytes (P := Try.prog) w 9 28 5 (text l) Try.underlying9 Try.underlying28 Try.underlying5
  rw [text_size] at hcv
  have HO := hide (own8_bytes w l)
  have HB := hide (below_bytes w 5 (text l))
  have HZ := hide (Lib.bytesWorld_size w 5 (text l))
  generalize Lib.bytesWorld w 5 (text l) = w0 at *
  go_enter Try.func20, Try.ntmps20
  go_wp2_with fail
  refine (reverse_any w.heap.size l.length _ _ _ (by simp) hl (unhide HO)).mono ?_
  rintro e w1 ⟨rfl, hO1, hg1⟩
  have HB1 := hide ((unhide HB).grown hg1 (by rw [unhide HZ]; omega) (fun k h => by cases h; exact Nat.le_refl _))
  have hcv2 := conv_in (some ⟨w.heap.size, 0, none⟩) l.length (grownCap w l.length 0 5) (l.map fun b => (chr b).toNat).reverse w1 (by simp) (.inr ⟨w.heap.size, 0, rfl, by have := hg1.size; rw [unhide HZ] at this; omega, fun j hj => by rw [Nat.zero_add]; exact (hO1 j hj).1⟩)
  have es : strN (l.map fun b => (chr b).toNat).reverse = text l.reverse := by
    rw [strN, text, ← List.map_reverse, List.map_map]
    congr 2
    apply List.map_congr_left
    intro b _
    cases b <;> rfl
  rw [es] at hcv2
  clear hO1 hg1 es hcv
  go_wp2
  go_ret
  exact ⟨rfl, unhide HB1⟩
end Go.Proofs.Ytmafecagcglaoaa
