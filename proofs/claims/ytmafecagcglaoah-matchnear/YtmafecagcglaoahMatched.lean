/-
  The closed fact that the statements on package match ask for first: it is true.
-/
import Derived.Test.YtmafecagcglaoahMatchIn
import Derived.Test.YtmafecagcglaoahEqT
import Derived.Test.YtmafecagcglaoahBeq
import Derived.Lib.SlBytesConst
namespace Go.Proofs.Ytmafecagcglaoah
open Go.RowKit
set_option linter.unusedVariables false
set_option maxRecDepth 100000

def bs9 : List Nat := [97, 98, 99, 97, 98, 99, 97, 98, 99]
def tk4 : List Tk := [(97, 0, 0), (98, 0, 0), (99, 0, 0), (0, 6, 3)]
theorem toks9 : toks bs9 = tk4 := by decide
theorem bs9_lt (j : Nat) : bs9.getD j 0 < 256 := by
  match j with
  | 0 => decide
  | 1 => decide
  | 2 => decide
  | 3 => decide
  | 4 => decide
  | 5 => decide
  | 6 => decide
  | 7 => decide
  | 8 => decide
  | j + 9 => simp [bs9]
theorem str9 : strN bs9 = ⟨#[97, 98, 99, 97, 98, 99, 97, 98, 99]⟩ := by decide
theorem TokIn.new4 (w : World) (b : Nat) (hb : b = w.heap.size) : TokIn (w.alloc (.cells #[.int .u8 97, .int .i64 0, .int .i64 0, .int .u8 98, .int .i64 0, .int .i64 0, .int .u8 99, .int .i64 0, .int .i64 0, .int .u8 0, .int .i64 6, .int .i64 3] 43)) (some ⟨b, 0, none⟩) tk4 := by
  refine .inr ⟨b, 0, rfl, by rw [hb]; simp, ?_⟩
  intro j hj
  rw [World.cell?_alloc_at _ _ _ _ hb, World.cell?_alloc_at _ _ _ _ hb, World.cell?_alloc_at _ _ _ _ hb]
  match j, hj with
  | 0, _ => exact ⟨rfl, rfl, rfl⟩
  | 1, _ => exact ⟨rfl, rfl, rfl⟩
  | 2, _ => exact ⟨rfl, rfl, rfl⟩
  | 3, _ => exact ⟨rfl, rfl, rfl⟩

theorem BytesIn.mark (w : World) : BytesIn (w.alloc (.cells #[.int .u8 97, .int .u8 98, .int .u8 99, .int .u8 97, .int .u8 98, .int .u8 99, .int .u8 97, .int .u8 98, .int .u8 99] 5 (9, 10))) (some ⟨w.heap.size, 0, none⟩) bs9 := by
  refine .inr ⟨w.heap.size, 0, rfl, by simp, ?_⟩
  intro j hj
  rw [Nat.zero_add, cell_of_row _ _ _ _ _ _ (heap_alloc_new w _)]
  match j, hj with
  | 0, _ => rfl
  | 1, _ => rfl
  | 2, _ => rfl
  | 3, _ => rfl
  | 4, _ => rfl
  | 5, _ => rfl
  | 6, _ => rfl
  | 7, _ => rfl
  | 8, _ => rfl
set_option maxHeartbeats 2000000 in
theorem matched_any (w : World) : Calls Try.prog 17 #[] w fun e w' => e = .returned (.bool true) ∧ Below w.heap.size w w' := by
  have HB0 : Hid (BytesIn (w.alloc (.cells #[.int .u8 97, .int .u8 98, .int .u8 99, .int .u8 97, .int .u8 98, .int .u8 99, .int .u8 97, .int .u8 98, .int .u8 99] 5 (9, 10))) (some ⟨w.heap.size, 0, none⟩) bs9) := BytesIn.mark w
  have HW0 := hide ((Below.refl w.heap.size w).alloc (Nat.le_refl _) (.cells #[.int .u8 97, .int .u8 98, .int .u8 99, .int .u8 97, .int .u8 98, .int .u8 99, .int .u8 97, .int .u8 98, .int .u8 99] 5 (9, 10)))
  have HT0 := hide (fun W (h : BytesIn W (some ⟨w.heap.size, 0, none⟩) bs9) => by
    obtain ⟨b, o, e, hb, hB⟩ := bytesIn_some h (by decide)
    have := tokens_some b o 9 9 bs9 W rfl (by decide) (by decide) hb hB bs9_lt
    rw [← e, toks9] at this
    exact this)
  have hcc := Lib.run_convert_bytes_const (P := Try.prog) w 23 5 #[.int .u8 97, .int .u8 98, .int .u8 99, .int .u8 97, .int .u8 98, .int .u8 99, .int .u8 97, .int .u8 98, .int .u8 99] 9 9 Try.underlying23 Try.underlying5
  go_enter Try.func17, Try.ntmps17
  go_wp2_with fail
  refine (unhide HT0 _ (unhide HB0)).mono ?_
  rintro e w1 ⟨v1, rfl, hO1, hB1⟩
  obtain ⟨g1, c1, rfl, hg1, hg1'⟩ := own_shape hO1 (by decide)
  have hz1 := hB1.size
  simp only [World.size_alloc] at hz1
  have HT1 := hide (TokIn.own hO1)
  have HW1 := hide ((unhide HW0).trans (hB1.mono (by simp)))
  have HE1 := hide (expand_ok (some ⟨g1, 0, none⟩) tk4.length c1 tk4 w1 rfl (TokIn.own hO1) (by decide) bs9 (show expF tk4 [] = bs9 by decide))
  clear hO1 hB1 HB0 HW0 HT0
  go_wp2_with fail
  refine (unhide HE1).mono ?_
  rintro e w2 ⟨v2, rfl, hO2, hB2⟩
  obtain ⟨g2, c2, rfl, hg2, hg2'⟩ := own_shape hO2 (by decide)
  have hz2 := hB2.size
  have HT2 := hide ((unhide HT1).below hB2 (Nat.le_refl _))
  have HW2 := hide ((unhide HW1).trans (hB2.mono (by omega)))
  have hcv := conv_in (some ⟨g2, 0, none⟩) bs9.length c2 bs9 w2 rfl (BytesIn.own hO2)
  rw [str9] at hcv
  have HQ := hide (equalT (some ⟨g1, 0, none⟩) (some ⟨w2.heap.size, 0, none⟩) 4 c1 4 tk4 _ rfl (by decide) ((unhide HT2).alloc _) (TokIn.new4 w2 _ rfl))
  have HW3 := hide ((unhide HW2).alloc (by omega) (.cells #[.int .u8 97, .int .i64 0, .int .i64 0, .int .u8 98, .int .i64 0, .int .i64 0, .int .u8 99, .int .i64 0, .int .i64 0, .int .u8 0, .int .i64 6, .int .i64 3] 43))
  clear hO2 hB2 HT1 HW1 HE1 HT2
  go_wp2_with fail
  refine (unhide HQ).mono ?_
  rintro e w3 ⟨rfl, q, hw3⟩
  have HW4 : Hid (Below w.heap.size w w3) := by rw [hw3]; exact below_drewN (unhide HW3) q
  clear hw3 HQ HW3 HW2
  go_wp2
  go_ret
  exact ⟨rfl, unhide HW4⟩
end Go.Proofs.Ytmafecagcglaoah
