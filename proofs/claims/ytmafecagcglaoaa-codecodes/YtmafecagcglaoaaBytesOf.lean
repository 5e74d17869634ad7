/-
  What the document's own BytesOf says of a row of bits: its bytes.
-/
import Derived.Test.YtmafecagcglaoaaStr
namespace Go.Proofs.Ytmafecagcglaoaa
open Go.RowKit
set_option linter.unusedVariables false
set_option maxRecDepth 100000

def chunk (l : List Bool) (q : Nat) : List Bool := (l.drop (8 * q)).take 8
def byteL (l : List Bool) : Nat → List Nat
  | 0 => []
  | q + 1 => byteL l q ++ [numOf (chunk l q)]
theorem byteL_length (l : List Bool) : ∀ q, (byteL l q).length = q
  | 0 => rfl
  | q + 1 => by rw [byteL, List.length_append, byteL_length l q]; rfl
theorem chunk_length (l : List Bool) (q : Nat) : (chunk l q).length = min 8 (l.length - 8 * q) := by simp [chunk]
theorem chunk_at (l : List Bool) (q j : Nat) (hj : j < (chunk l q).length) (h : 8 * q + j < l.length) : (chunk l q)[j] = l[8 * q + j] := by simp [chunk]
theorem numOf_lt256 {l : List Bool} (h : l.length ≤ 8) : numOf l < 256 := Nat.lt_of_lt_of_le (numOf_lt l) (Nat.pow_le_pow_right (j := 8) (by decide) h)

set_option maxHeartbeats 1000000 in
theorem bytesOf_any (l : List Bool) (w : World) (hl : l.length ≤ 48000) :
    Calls Try.prog 15 #[.string (text l)] w fun e w' => ∃ v, e = .returned v ∧ w'.ownsRow w.heap.size 5 1 v ((l.length + 7) / 8) (u8s (byteL l ((l.length + 7) / 8))) ∧ Below w.heap.size w w' := by
  obtain ⟨i0, hi, hz0, hz1, hz2⟩ := info_parts info_u8
  have hsz := text_size l
  have HTA := hide (text_at l)
  have HCL := hide (chunk_length l)
  go_enter Try.func15, Try.ntmps15
  go_wp2
  go_loopw [3, 4] (fun vo vi wr => ∃ q : Nat, q ≤ (l.length + 7) / 8 ∧ vi = .int .i64 (8 * (q : Int)) ∧ wr.ownsRow w.heap.size 5 1 vo q (u8s (byteL l q)) ∧ Below w.heap.size w wr) (fun _ i _ => l.length + 8 - (intOf i).toNat)
  case atStart => exact ⟨0, Nat.zero_le _, rfl, World.ownsRow_nil _ _ _ _, Below.refl _ _⟩
  case round =>
    obtain ⟨q, hq, rfl, hO, hB⟩ := hrel
    have HO := hide hO
    have HB := hide hB
    have hBz := hB.size
    clear hO hB
    by_cases hlt : 8 * q < l.length
    · have hcl := unhide HCL q
      have hltI : 8 * (q : Int) < (l.length : Int) := by omega
      have HDS := hide (drop_step (chunk l q))
      have HCA := hide (chunk_at l q)
      have HLT := hide (fun j => numOf_lt256 (l := (chunk l q).drop j) (by rw [List.length_drop]; omega))
      have HE : Hid (0 = numOf ((chunk l q).drop (chunk l q).length)) := by rw [List.drop_length]; exact rfl
      have HZ : Hid (numOf (chunk l q) = numOf ((chunk l q).drop 0)) := rfl
      have HS : Hid (u8s (byteL l (q + 1)) = u8s (byteL l q) ++ [.int .u8 (numOf (chunk l q) : Nat)]) := by rw [byteL, u8s, List.map_append]; exact rfl
      generalize chunk l q = c at *
      go_wp2
      go_loop [5, 6] (fun vn vk => ∃ j m : Nat, j ≤ c.length ∧ vk = .int .i64 (8 * (q : Int) + (j : Int) - 1) ∧ vn = .int .i64 m ∧ m = numOf (c.drop j)) (fun _ i => (intOf i + 1).toNat)
      case atStart => exact ⟨c.length, 0, Nat.le_refl _, congrArg (Value.int .i64) (by rw [hcl]; omega), rfl, unhide HE⟩
      case round =>
        obtain ⟨j, m, hj, rfl, rfl, hm⟩ := hrel
        have HM := hide hm
        have hmlt : m < 256 := by rw [hm]; exact unhide HLT j
        clear hm
        by_cases hlt2 : 0 < j
        · have hlt3 : j - 1 < c.length := by omega
          have hlt4 : 8 * q + (j - 1) < l.length := by omega
          have hge : 8 * (q : Int) ≤ 8 * (q : Int) + (j : Int) - 1 := by omega
          go_wp2
          go_round
          case rel =>
            refine ⟨j - 1, numOf (c.drop (j - 1)), by omega, congrArg (Value.int .i64) (by omega), ?_, rfl⟩
            have e := unhide HDS (j - 1) hlt3
            rw [show j - 1 + 1 = j by omega, ← unhide HM] at e
            rw [e]
            have et := unhide HTA (8 * q + (j - 1)) hlt4 (by omega)
            rw [← unhide HCA (j - 1) hlt3 hlt4] at et
            simp only [show 8 * q + j - 1 = 8 * q + (j - 1) by omega]
            exact congrArg (Value.int .i64) (digit_step m _ _ (by omega) et)
          case measure => simp [intOf]; omega
        · obtain rfl : j = 0 := by omega
          have hno : ¬ 8 * (q : Int) ≤ 8 * (q : Int) + ((0 : Nat) : Int) - 1 := by omega
          go_wp2_with (at_builtin; refine wpList_append_own _ rfl _ _ 28 rfl w.heap.size 5 i0 (.int .u8 0) 1 1 Try.underlying28 hi hz0 hz1 hz2 rfl (by decide) _ _ _ rfl ((unhide HO).alloc _) ⟨wr.heap.size, 0, none⟩ 1 1 [.int .u8 (m : Int)] rfl rfl (by intro j u hj; match j, hj with | 0, hj => simp at hj; subst hj; simp [Addr.add]) (by intro u hu; simp at hu; subst hu; rfl) (by unfold maxLen; omega) (by omega) (by simp; omega) ?_)
          intro v' w1 hO1 hgrow _
          have HO1 := hide hO1
          have HB1 := hide (((unhide HB).alloc hBz _).grown hgrow (by simp; omega) (fun k hk => ((unhide HO).lt k hk).1))
          clear hO1 hgrow
          go_wp2
          go_roundw
          case rel => exact ⟨q + 1, by omega, congrArg (Value.int .i64) (by omega), by rw [unhide HS, unhide HZ, ← unhide HM]; exact unhide HO1, unhide HB1⟩
          case measure => simp [intOf]; omega
    · obtain rfl : q = (l.length + 7) / 8 := by omega
      have hno : ¬ 8 * (((l.length + 7) / 8 : Nat) : Int) < (l.length : Int) := by omega
      go_wp2
      go_ret
      exact ⟨_, rfl, unhide HO, unhide HB⟩
end Go.Proofs.Ytmafecagcglaoaa
