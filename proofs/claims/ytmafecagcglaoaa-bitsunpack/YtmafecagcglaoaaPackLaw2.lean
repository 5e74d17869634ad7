/-
  The walk of the law BitsPack where Pack answers an error, and where there are no numbers.
-/
import Derived.Test.YtmafecagcglaoaaPackLaw
import Derived.Test.YtmafecagcglaoaaOpen
namespace Go.Proofs.Ytmafecagcglaoaa
open Go.RowKit
set_option linter.unusedVariables false
set_option maxRecDepth 100000

set_option maxHeartbeats 2000000 in
theorem packLaw_many (b o len cap : Nat) (ps : List (Int × Int)) (w : World) (hl : ps.length = len) (hm : 3000 < len) (hM : len ≤ 9223372036854775807) (hb : b < w.heap.size) (hP : Pairs w b o ps) :
    Calls Try.prog 4 #[.slice (some ⟨b, o, none⟩) len cap] w fun e w' => e = .returned (.bool true) ∧ Below w.heap.size w w' := by
  have HP := hide hP
  have HL := hide hl
  go_enter Try.func4, Try.ntmps4
  go_wp2_with fail
  refine (pack_many _ len cap _ hm hM).mono ?_
  rintro e w1 ⟨rfl, hw⟩
  obtain rfl := hw.symm
  clear hP hl hw
  go_wp2
  go_loopw [5, 20] (fun vb i wr => i = .int .i64 0 ∧ vb = .int .i64 2 ∧ Below w.heap.size w wr) (fun _ i _ => 0)
  case atStart => exact ⟨rfl, rfl, (Below.refl _ _).alloc (Nat.le_refl _) _⟩
  case round =>
    obtain ⟨rfl, rfl, hB⟩ := hrel
    have HBr := hide hB
    have hzr := hB.size
    obtain ⟨c1, c2⟩ := (unhide HP) 0 (by rw [unhide HL]; omega)
    have c1' := (hB.cell (p := ⟨b, o + 0 * 2, none⟩) hb).trans c1
    have c2' := (hB.cell (p := ⟨b, o + 0 * 2 + 1, none⟩) hb).trans c2
    simp only [Nat.zero_mul, Nat.add_zero] at c1' c2'
    have hpos : (0 : Int) < (len : Int) := by omega
    clear c1 c2 hB
    generalize ps.getD 0 (0, 0) = x at *
    obtain ⟨n, s⟩ := x
    simp only at *
    go_wp2_with fail
    go_quiet (fail)
    go_wp2_with fail
    refine (rowed_any _).mono ?_
    rintro e w4 ⟨rfl, hB4⟩
    have HB4 := hide ((below_drewN ((unhide HBr).alloc hzr _) nq).trans (hB4.mono (by simp; omega)))
    clear hB4
    go_wp2_with fail
    refine (rowed_any _).mono ?_
    rintro e w5 ⟨rfl, hB5⟩
    have HB5 := hide ((unhide HB4).trans (hB5.mono (unhide HB4).size))
    clear hB5
    go_wp2
    go_ret
    exact ⟨rfl, unhide HB5⟩

theorem not_fits {n s : Int} (h : fitsB n s = false) : s < 0 ∨ (0 ≤ s ∧ 16 < s) ∨ (0 ≤ s ∧ s ≤ 16 ∧ n < 0) ∨ (0 ≤ s ∧ s ≤ 16 ∧ 0 ≤ n ∧ 2 ^ s.toNat ≤ n) := by
  have := fitsB_false h
  by_cases h1 : s < 0
  · exact .inl h1
  · by_cases h2 : 16 < s
    · exact .inr (.inl ⟨by omega, h2⟩)
    · by_cases h3 : n < 0
      · exact .inr (.inr (.inl ⟨by omega, by omega, h3⟩))
      · refine .inr (.inr (.inr ⟨by omega, by omega, by omega, ?_⟩))
        by_cases h4 : n < 2 ^ s.toNat
        · exact absurd ⟨by omega, by omega, by omega, h4⟩ this
        · exact Int.not_lt.1 h4

theorem data_len (s : ByteArray) : s.data.toList.length = s.size := Array.length_toList

set_option maxHeartbeats 4000000 in
theorem packLaw_bad (b o len cap : Nat) (ps : List (Int × Int)) (w : World) (hl : ps.length = len) (hm : len ≤ 3000) (hb : b < w.heap.size) (hP : Pairs w b o ps) (j0 : Nat) (hj0 : j0 < len) (hbad : fitsB (ps.getD j0 (0, 0)).1 (ps.getD j0 (0, 0)).2 = false) (hf : ∀ j, j < j0 → fitsB (ps.getD j (0, 0)).1 (ps.getD j (0, 0)).2 = true) :
    Calls Try.prog 4 #[.slice (some ⟨b, o, none⟩) len cap] w fun e w' => e = .returned (.bool true) ∧ Below w.heap.size w w' := by
  have HP := hide hP
  have HF := hide hf
  have HL := hide hl
  have HD := hide hbad
  go_enter Try.func4, Try.ntmps4
  go_wp2_with fail
  refine (pack_bad b o len cap ps _ hl hm hb hP j0 hj0 hbad hf).mono ?_
  rintro e w1 ⟨rfl, hB1⟩
  have HB1 := hide hB1
  have hz1 := hB1.size
  clear hB1 hP hf hl hbad
  go_wp2
  go_loopw [5, 20] (fun vb i wr => ∃ (k : Nat) (bs : List UInt8), k ≤ j0 ∧ i = .int .i64 k ∧ vb = .int .i64 0 ∧ bs.length ≤ 16 * k ∧ IsB wr w1.heap.size (Lib.byteCells bs) ∧ Below w1.heap.size w1 wr) (fun _ i _ => len - (intOf i).toNat)
  case atStart => exact ⟨0, [], Nat.zero_le _, rfl, rfl, Nat.le_refl _, IsB.new w1, (Below.refl _ _).alloc (Nat.le_refl _) _⟩
  case round =>
    obtain ⟨k, bs, hk, rfl, rfl, hbs, hI, hB⟩ := hrel
    have HI := hide hI
    have HBr := hide hB
    have hzr := hB.size
    have hkl : k < len := by omega
    obtain ⟨c1, c2⟩ := (unhide HP) k (by rw [unhide HL]; exact hkl)
    have c1' := ((hB.cell (p := ⟨b, o + k * 2, none⟩) (by simp; omega)).trans ((unhide HB1).cell (p := ⟨b, o + k * 2, none⟩) hb)).trans c1
    have c2' := ((hB.cell (p := ⟨b, o + k * 2 + 1, none⟩) (by simp; omega)).trans ((unhide HB1).cell (p := ⟨b, o + k * 2 + 1, none⟩) hb)).trans c2
    clear c1 c2 hB hI
    by_cases hlt : k < j0
    · obtain ⟨hs0, hs1, hn0, hn1⟩ := fitsB_true ((unhide HF) k hlt)
      clear HD
      generalize ps.getD k (0, 0) = x at *
      obtain ⟨n, s⟩ := x
      simp only at *
      obtain ⟨s, rfl⟩ := Int.eq_ofNat_of_zero_le hs0
      obtain ⟨n, rfl⟩ := Int.eq_ofNat_of_zero_le hn0
      simp only [Int.toNat_natCast] at hn1
      have hn2 : n < 65536 := by
        have := pow_le_16 (k := s) (by omega)
        have h4 : ((n : Nat) : Int) < ((2 ^ s : Nat) : Int) := by push_cast; exact hn1
        omega
      have d1 : decide ((s : Int) < 0) = false := decide_eq_false (by omega)
      have d2 : decide (16 < (s : Int)) = false := decide_eq_false (by omega)
      have d3 : decide ((n : Int) < 0) = false := decide_eq_false (by omega)
      have hw := wrap_pow (s := (s : Int)) (by omega)
      rw [Int.toNat_natCast] at hw
      have D4 : Hid (decide (wrap64 ((2 : Int) ^ s) ≤ (n : Int)) = false) := decide_eq_false (by rw [hw]; exact Int.not_le.2 hn1)
      clear hw hn1
      go_wp2_with fail
      go_quiet (fail)
      simp only [unhide D4]
      go_wp2_with fail
      refine (number_any n s _ (by omega) hn2).mono ?_
      rintro e w2 ⟨rfl, hB2⟩
      have hz2 := hB2.size
      have HI2 := hide ((((unhide HI).alloc _).drewN nq).below hB2)
      have HB2 := hide ((below_drewN ((unhide HBr).alloc hzr _) nq).trans (hB2.mono (by simp; omega)))
      have hsz : (text (numBits n s)).size ≤ 16 := by rw [text_size, numBits_length]; omega
      have hbl : (Lib.byteCells bs).length ≤ 1000000 := by rw [Lib.byteCells_length]; omega
      simp at hz2
      clear hB2
      go_wp2_with fail
      refine (writeString_any _ _ _ _ (unhide HI2) hbl (by omega)).mono ?_
      rintro e w3 ⟨rfl, hI3, hB3⟩
      have HI3 := hide hI3
      have HB3 := hide ((unhide HB2).trans hB3)
      clear hI3 hB3
      go_wp2
      go_roundw
      case rel => exact ⟨k + 1, bs ++ (text (numBits n s)).data.toList, by omega, by go_num, rfl, by rw [List.length_append, data_len]; omega, by rw [Lib.byteCells_append]; exact unhide HI3, unhide HB3⟩
      case measure => simp [intOf]; omega
    · obtain rfl : k = j0 := by omega
      have hbad := not_fits (unhide HD)
      clear HD HF HI
      generalize ps.getD k (0, 0) = x at *
      obtain ⟨n, s⟩ := x
      simp only at *
      rcases hbad with h1 | ⟨h1, h2⟩ | ⟨h1, h2, h3⟩ | ⟨h1, h2, h3, h4⟩
      · have d1 : decide (s < 0) = true := decide_eq_true h1
        go_wp2_with fail
        go_quiet (fail)
        go_wp2_with fail
        refine (rowed_any _).mono ?_
        rintro e w4 ⟨rfl, hB4⟩
        have HB4 := hide ((below_drewN ((unhide HBr).alloc hzr _) nq).trans (hB4.mono (by simp; omega)))
        clear hB4
        go_wp2_with fail
        refine (rowed_any _).mono ?_
        rintro e w5 ⟨rfl, hB5⟩
        have HB5 := hide ((unhide HB4).trans (hB5.mono (unhide HB4).size))
        clear hB5
        go_wp2
        go_ret
        exact ⟨rfl, (unhide HB1).trans ((unhide HB5).mono hz1)⟩
      · have d1 : decide (s < 0) = false := decide_eq_false (by omega)
        have d2 : decide (16 < s) = true := decide_eq_true h2
        go_wp2_with fail
        go_quiet (fail)
        go_wp2_with fail
        refine (rowed_any _).mono ?_
        rintro e w4 ⟨rfl, hB4⟩
        have HB4 := hide ((below_drewN ((unhide HBr).alloc hzr _) nq).trans (hB4.mono (by simp; omega)))
        clear hB4
        go_wp2_with fail
        refine (rowed_any _).mono ?_
        rintro e w5 ⟨rfl, hB5⟩
        have HB5 := hide ((unhide HB4).trans (hB5.mono (unhide HB4).size))
        clear hB5
        go_wp2
        go_ret
        exact ⟨rfl, (unhide HB1).trans ((unhide HB5).mono hz1)⟩
      · have d1 : decide (s < 0) = false := decide_eq_false (by omega)
        have d2 : decide (16 < s) = false := decide_eq_false (by omega)
        have d3 : decide (n < 0) = true := decide_eq_true h3
        go_wp2_with fail
        go_quiet (fail)
        go_wp2_with fail
        refine (rowed_any _).mono ?_
        rintro e w4 ⟨rfl, hB4⟩
        have HB4 := hide ((below_drewN ((unhide HBr).alloc hzr _) nq).trans (hB4.mono (by simp; omega)))
        clear hB4
        go_wp2_with fail
        refine (rowed_any _).mono ?_
        rintro e w5 ⟨rfl, hB5⟩
        have HB5 := hide ((unhide HB4).trans (hB5.mono (unhide HB4).size))
        clear hB5
        go_wp2
        go_ret
        exact ⟨rfl, (unhide HB1).trans ((unhide HB5).mono hz1)⟩
      · have d1 : decide (s < 0) = false := decide_eq_false (by omega)
        have d2 : decide (16 < s) = false := decide_eq_false (by omega)
        have d3 : decide (n < 0) = false := decide_eq_false (by omega)
        have hw := wrap_pow (s := s) h2
        have D4 : Hid (decide (wrap64 ((2 : Int) ^ s.toNat) ≤ n) = true) := decide_eq_true (by rw [hw]; exact h4)
        clear hw h4
        go_wp2_with fail
        go_quiet (fail)
        simp only [unhide D4]
        go_wp2_with fail
        refine (rowed_any _).mono ?_
        rintro e w4 ⟨rfl, hB4⟩
        have HB4 := hide ((below_drewN ((unhide HBr).alloc hzr _) nq).trans (hB4.mono (by simp; omega)))
        clear hB4
        go_wp2_with fail
        refine (rowed_any _).mono ?_
        rintro e w5 ⟨rfl, hB5⟩
        have HB5 := hide ((unhide HB4).trans (hB5.mono (unhide HB4).size))
        clear hB5
        go_wp2
        go_ret
        exact ⟨rfl, (unhide HB1).trans ((unhide HB5).mono hz1)⟩

set_option maxHeartbeats 1000000 in
theorem packLaw_none (a : Option Addr) (cap : Nat) (w : World) :
    Calls Try.prog 4 #[.slice a 0 cap] w fun e w' => e = .returned (.bool true) ∧ Below w.heap.size w w' := by
  go_enter Try.func4, Try.ntmps4
  go_wp2_with fail
  refine (pack_none a cap _).mono ?_
  rintro e w1 ⟨g, rfl, hO1, hB1, hg1⟩
  have HB1 := hide hB1
  have hz1 := hB1.size
  clear hB1 hO1
  go_wp2
  go_loopw [5, 20] (fun vb i wr => i = .int .i64 0 ∧ vb = .int .i64 0 ∧ IsB wr w1.heap.size (Lib.byteCells ([].map chr)) ∧ Below w1.heap.size w1 wr) (fun _ i _ => 0)
  case atStart => exact ⟨rfl, rfl, IsB.new w1, (Below.refl _ _).alloc (Nat.le_refl _) _⟩
  case round =>
    obtain ⟨rfl, rfl, hI, hB⟩ := hrel
    have HI := hide hI
    have HBr := hide hB
    have hzr := hB.size
    clear hI hB
    go_wp2_with fail
    refine (rowed_any _).mono ?_
    rintro e w4 ⟨rfl, hB4⟩
    have HI4 := hide ((unhide HI).below hB4)
    have HB4 := hide ((unhide HBr).trans (hB4.mono hzr))
    have hz4 := hB4.size
    clear hB4
    go_wp2_with fail
    refine (string_any _ _ _ (unhide HI4) (by omega)).mono ?_
    rintro e w5 ⟨rfl, hB5⟩
    have HB5 := hide ((unhide HB4).trans hB5)
    have hz5 := hB5.size
    clear hB5
    go_wp2_with fail
    refine (bytesOf_any [] _ (by simp)).mono ?_
    rintro e w6 ⟨v, rfl, hO6, hB6⟩
    have HB6 := hide ((unhide HB5).trans (hB6.mono (by omega)))
    obtain ⟨a6, c6, rfl⟩ : ∃ a c, v = .slice a 0 c := by
      rcases hO6.2 with ⟨hv, h0⟩ | ⟨g, cap, cur, hv, _⟩
      · exact ⟨_, _, hv⟩
      · exact ⟨_, _, hv⟩
    clear hO6 hB6
    go_wp2_with fail
    refine (bequal_in _ _ _ _ _ _ [] [] _ rfl rfl (fun j => by simp) (fun j => by simp) (.inl rfl) (.inl rfl)).mono ?_
    rintro e w7 ⟨rfl, rfl⟩
    go_wp2
    go_ret
    exact ⟨rfl, (unhide HB1).trans ((unhide HB6).mono hz1)⟩

theorem packLaw_any (a0 : Option Addr) (l0 c0 : Nat) (ps : List (Int × Int)) (w : World) (hl : ps.length = l0) (hm : l0 ≤ maxLen) (hP : PairsIn w a0 ps) :
    Calls Try.prog 4 #[.slice a0 l0 c0] w fun e w' => e = .returned (.bool true) ∧ Below w.heap.size w w' := by
  rcases hP with rfl | ⟨b, o, rfl, hb, hP⟩
  · obtain rfl : l0 = 0 := by simp at hl; omega
    exact packLaw_none a0 c0 w
  · by_cases h3 : 3000 < l0
    · unfold maxLen at hm
      exact packLaw_many b o l0 c0 ps w hl h3 hm hb hP
    · rcases first_bad (fun j => fitsB (ps.getD j (0, 0)).1 (ps.getD j (0, 0)).2) l0 with hf | ⟨j0, hj0, hbad, hf⟩
      · exact packLaw_yes b o l0 c0 ps w hl (by omega) hb hP (fun j hj => hf j (by omega))
      · exact packLaw_bad b o l0 c0 ps w hl (by omega) hb hP j0 hj0 hbad hf
end Go.Proofs.Ytmafecagcglaoaa
