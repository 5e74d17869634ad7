/-
  The walk of the law BitsPack.
-/
import Derived.Test.YtmafecagcglaoaaPackNum
import Derived.Test.YtmafecagcglaoaaRowed
namespace Go.Proofs.Ytmafecagcglaoaa
open Go.RowKit
set_option linter.unusedVariables false
set_option maxRecDepth 100000

set_option maxHeartbeats 2000000 in
theorem packLaw_yes (b o len cap : Nat) (ps : List (Int × Int)) (w : World) (hl : ps.length = len) (hm : len ≤ 3000) (hb : b < w.heap.size) (hP : Pairs w b o ps) (hf : AllFit ps) :
    Calls Try.prog 4 #[.slice (some ⟨b, o, none⟩) len cap] w fun e w' => e = .returned (.bool true) ∧ Below w.heap.size w w' := by
  have HP := hide hP
  have HF := hide hf
  have HL := hide hl
  go_enter Try.func4, Try.ntmps4
  go_wp2_with fail
  refine (pack_yes b o len cap ps _ hl hm hb hP hf).mono ?_
  rintro e w1 ⟨g, rfl, hO1, hB1, hg1⟩
  have HB1 := hide hB1
  have HO1 := hide hO1
  have hz1 := hB1.size
  have hgl := (hO1.lt g rfl).2
  clear hB1 hO1 hP hf hl
  go_wp2
  go_loopw [5, 20] (fun vb i wr => ∃ k : Nat, k ≤ len ∧ i = .int .i64 k ∧ vb = .int .i64 0 ∧ IsB wr w1.heap.size (Lib.byteCells ((bitsTo ps k).map chr)) ∧ Below w1.heap.size w1 wr) (fun _ i _ => len - (intOf i).toNat)
  case atStart => exact ⟨0, Nat.zero_le _, rfl, rfl, IsB.new w1, (Below.refl _ _).alloc (Nat.le_refl _) _⟩
  case round =>
    obtain ⟨k, hk, rfl, rfl, hI, hB⟩ := hrel
    have HI := hide hI
    have HBr := hide hB
    have hzr := hB.size
    by_cases hlt : k < len
    · obtain ⟨c1, c2⟩ := (unhide HP) k (by rw [unhide HL]; exact hlt)
      have c1' := ((hB.cell (p := ⟨b, o + k * 2, none⟩) (by simp; omega)).trans ((unhide HB1).cell (p := ⟨b, o + k * 2, none⟩) hb)).trans c1
      have c2' := ((hB.cell (p := ⟨b, o + k * 2 + 1, none⟩) (by simp; omega)).trans ((unhide HB1).cell (p := ⟨b, o + k * 2 + 1, none⟩) hb)).trans c2
      obtain ⟨hs0, hs1, hn0, hn1⟩ := fitsB_true ((unhide HF) k (by rw [unhide HL]; exact hlt))
      have H2 : Hid (bitsTo ps (k + 1) = bitsTo ps k ++ numBits (ps.getD k (0, 0)).1.toNat (ps.getD k (0, 0)).2.toNat) := rfl
      have hal := atL_le ps (unhide HF) k (by rw [unhide HL]; omega)
      clear c1 c2 hB hI
      generalize ps.getD k (0, 0) = x at *
      obtain ⟨n, s⟩ := x
      simp only at *
      obtain ⟨s, rfl⟩ := Int.eq_ofNat_of_zero_le hs0
      obtain ⟨n, rfl⟩ := Int.eq_ofNat_of_zero_le hn0
      simp only [Int.toNat_natCast] at H2 hn1
      have hn2 : n < 65536 := by
        have := pow_le_16 (k := s) (by omega)
        have h4 : ((n : Nat) : Int) < ((2 ^ s : Nat) : Int) := by push_cast; exact hn1
        omega
      have d1 : decide ((s : Int) < 0) = false := decide_eq_false (by omega)
      have d2 : decide (16 < (s : Int)) = false := decide_eq_false (by omega)
      have d3 : decide ((n : Int) < 0) = false := decide_eq_false (by omega)
      have hw := wrap_pow (s := (s : Int)) (by omega)
      rw [Int.toNat_natCast] at hw
      have D4 : Hid (decide (wrap64 ((2 : Int) ^ s) ≤ (n : Int)) = false) := decide_eq_false (by rw [hw]; exact Int.not_le.2 hn1)
      clear hw hn1
      go_wp2_with fail
      go_quiet (fail)
      simp only [unhide D4]
      go_wp2_with fail
      refine (number_any n s _ (by omega) hn2).mono ?_
      rintro e w2 ⟨rfl, hB2⟩
      have hz2 := hB2.size
      have HI2 := hide ((((unhide HI).alloc _).drewN nq).below hB2)
      have HB2 := hide ((below_drewN ((unhide HBr).alloc hzr _) nq).trans (hB2.mono (by simp; omega)))
      have hsz : (text (numBits n s)).size ≤ 1000000 := by rw [text_size, numBits_length]; omega
      have hbl : (Lib.byteCells ((bitsTo ps k).map chr)).length ≤ 1000000 := by rw [Lib.byteCells_length, List.length_map, bitsTo_length]; omega
      simp at hz2
      clear hB2
      go_wp2_with fail
      refine (writeString_any _ _ _ _ (unhide HI2) hbl hsz).mono ?_
      rintro e w3 ⟨rfl, hI3, hB3⟩
      have HI3 := hide hI3
      have HB3 := hide ((unhide HB2).trans hB3)
      clear hI3 hB3
      go_wp2
      go_roundw
      case rel => exact ⟨k + 1, by omega, by go_num, rfl, by rw [unhide H2, ← cells_text]; exact unhide HI3, unhide HB3⟩
      case measure => simp [intOf]; omega
    · obtain rfl : k = len := by omega
      clear hI hB
      go_wp2_with fail
      refine (rowed_any _).mono ?_
      rintro e w4 ⟨rfl, hB4⟩
      have HI4 := hide ((unhide HI).below hB4)
      have HB4 := hide ((unhide HBr).trans (hB4.mono hzr))
      have hz4 := hB4.size
      have hal := atL_le ps (unhide HF) k (by rw [unhide HL]; exact Nat.le_refl _)
      have hbl := bitsTo_length ps k
      clear hB4
      go_wp2_with fail
      refine (string_any _ _ _ (unhide HI4) (by omega)).mono ?_
      rintro e w5 ⟨rfl, hB5⟩
      have HB5 := hide ((unhide HB4).trans hB5)
      have hz5 := hB5.size
      clear hB5
      go_wp2_with fail
      refine (bytesOf_any (bitsTo ps k) _ (by omega)).mono ?_
      rintro e w6 ⟨v, rfl, hO6, hB6⟩
      have HB6 := hide ((unhide HB5).trans (hB6.mono (by omega)))
      rw [hbl] at hO6
      rw [← pack_bytes ps k (unhide HL)] at hO6
      obtain ⟨a6, c6, hv⟩ : ∃ a c, v = .slice a ((atL ps k + 7) / 8) c := by
        rcases hO6.2 with ⟨hv, h0⟩ | ⟨g, cap, cur, hv, _⟩
        · exact ⟨_, _, by rw [hv, h0]⟩
        · exact ⟨_, _, hv⟩
      have hX6 : Hid (BytesIn w6 a6 (rowL ps k)) := by
        rcases hO6.2 with ⟨hv', h0⟩ | ⟨g, cap, cur, hv', _⟩
        · exact .inl (List.eq_nil_of_length_eq_zero (by rw [rowL_length, unhide HL]; exact h0))
        · rw [hv'] at hO6 hv
          have := BytesIn.own hO6
          cases hv
          exact this
      subst hv
      have hX1 := hide ((BytesIn.own (unhide HO1)).below (unhide HB6) (Nat.le_refl _))
      clear hO6 hB6
      have HLE := hide (rowL_length ps k)
      rw [unhide HL] at HLE
      go_wp2_with fail
      refine (bequal_in _ _ _ _ _ _ (rowL ps k) (rowL ps k) _ (unhide HLE) (unhide HLE) (rowL_lt ps k) (rowL_lt ps k) (unhide hX1) (unhide hX6)).mono ?_
      rintro e w7 ⟨rfl, rfl⟩
      have e1 : (rowL ps k == rowL ps k) = true := by simp
      rw [e1]
      go_wp2
      go_ret
      exact ⟨rfl, (unhide HB1).trans ((unhide HB6).mono hz1)⟩
end Go.Proofs.Ytmafecagcglaoaa
