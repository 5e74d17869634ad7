/-
  The walk of the law BitsUnpack.
-/
import Derived.Test.YtmafecagcglaoaaTurned
import Derived.Test.YtmafecagcglaoaaPackLaw2
import Derived.Deep.DeepCutAuto
namespace Go.Proofs.Ytmafecagcglaoaa
open Go.RowKit
set_option linter.unusedVariables false
set_option maxRecDepth 100000

theorem turn_num (n s : Nat) : numOf (numBits n s).reverse = turnL n s := by
  apply Nat.eq_of_testBit_eq
  intro i
  rw [numOf_bit, turnL_bit, List.getD_eq_getElem?_getD]
  by_cases h : i < s
  · rw [List.getElem?_reverse (by rw [numBits_length]; exact h), numBits_length, ← List.getD_eq_getElem?_getD, numBits_getD, decide_eq_true (by omega), decide_eq_true h]
  · rw [List.getElem?_eq_none (by rw [List.length_reverse, numBits_length]; omega), decide_eq_false h]
    simp

/-- the tests of the law ahead, in the walk's own words -/
theorem not_fit_ways {n s : Int} (hf : fitsB n s = true) (h : ((s < 0 ∨ 16 < s) ∨ n < 0) ∨ wrap64 (2 ^ s.toNat) ≤ n) : False := by
  obtain ⟨h1, h2, h3, h4⟩ := fitsB_true hf
  rcases h with ((h | h) | h) | h
  · omega
  · omega
  · omega
  · rw [wrap_pow h2] at h
    exact absurd h4 (Int.not_lt.2 h)
theorem fit_ways {n s : Int} (hf : fitsB n s = false) (h : ((0 ≤ s ∧ s ≤ 16) ∧ 0 ≤ n) ∧ n < wrap64 (2 ^ s.toNat)) : False := by
  obtain ⟨⟨⟨h1, h2⟩, h3⟩, h4⟩ := h
  rw [wrap_pow h2] at h4
  exact fitsB_false hf ⟨h1, h2, h3, h4⟩
theorem nofit_bool {n s : Int} (hf : fitsB n s = false) : (decide (s < 0) || decide (16 < s) || decide (n < 0) || decide (wrap64 (2 ^ s.toNat) ≤ n)) = true := by
  rcases not_fits hf with h | ⟨_, h⟩ | ⟨_, _, h⟩ | ⟨_, h1, _, h⟩
  · rw [decide_eq_true h]; simp
  · rw [decide_eq_true h]; simp
  · rw [decide_eq_true h]; simp
  · rw [wrap_pow h1, decide_eq_true h]; simp
theorem fit_nat {n s : Nat} (hfit : fitsB n s = true) : n < 65536 ∧ s ≤ 16 := by
  obtain ⟨hs0, hs1, hn0, hn1⟩ := fitsB_true hfit
  have := pow_le_16 (k := s) (by omega)
  rw [Int.toNat_natCast] at hn1
  have h4 : ((n : Nat) : Int) < ((2 ^ s : Nat) : Int) := by push_cast; exact hn1
  omega

theorem text_take (l : List Bool) (x : Nat) (h : x ≤ l.length) : (text l).extract 0 x = text (l.take x) := by
  apply ByteArray.ext
  apply Array.ext'
  rw [Lib.extract_data]
  simp [text]
theorem text_drop (l : List Bool) (x : Nat) : (text l).extract x l.length = text (l.drop x) := by
  apply ByteArray.ext
  apply Array.ext'
  rw [Lib.extract_data]
  simp [text, List.take_of_length_le]

/-- the numbers that the document's own answer takes of a row of bits -/
def wantN (r : List Bool) (ss : List Int) : Nat → List Nat
  | 0 => []
  | k + 1 => wantN r ss k ++ [numOf ((r.drop (sumL ss k)).take (ss.getD k 0).toNat)]
theorem wantN_length (r : List Bool) (ss : List Int) : ∀ k, (wantN r ss k).length = k
  | 0 => rfl
  | k + 1 => by rw [wantN, List.length_append, wantN_length r ss k]; rfl
theorem wantN_getD (r : List Bool) (ss : List Int) : ∀ k j, j < k → (wantN r ss k).getD j 0 = numOf ((r.drop (sumL ss j)).take (ss.getD j 0).toNat)
  | 0, j, h => by omega
  | k + 1, j, h => by
    rw [wantN, List.getD_eq_getElem?_getD]
    by_cases e : j < k
    · rw [List.getElem?_append_left (by rw [wantN_length]; exact e), ← List.getD_eq_getElem?_getD, wantN_getD r ss k j e]
    · obtain rfl : j = k := by omega
      rw [List.getElem?_append_right (by rw [wantN_length]; omega), wantN_length]
      simp
theorem getD_take (l : List Bool) (x i : Nat) : (l.take x).getD i false = (decide (i < x) && l.getD i false) := by
  rw [List.getD_eq_getElem?_getD, List.getD_eq_getElem?_getD]
  by_cases h : i < x
  · rw [List.getElem?_take_of_lt h, decide_eq_true h, Bool.true_and]
  · rw [List.getElem?_eq_none (by rw [List.length_take]; omega), decide_eq_false h]; rfl
theorem getD_drop (l : List Bool) (p i : Nat) : (l.drop p).getD i false = l.getD (p + i) false := by
  rw [List.getD_eq_getElem?_getD, List.getD_eq_getElem?_getD, List.getElem?_drop]
theorem want_num (xs : List Nat) (l1 : Nat) (ss : List Int) (k : Nat) (hl : ss.length = k) (hxl : xs.length = l1) (ht : sumL ss k ≤ 8 * l1) : numL xs ss k = wantN (rowB xs l1) ss k := by
  apply List.ext_getElem (by rw [numL_length, wantN_length, hl])
  intro j h1 h2
  have hj : j < k := by rw [wantN_length] at h2; exact h2
  have e1 : (numL xs ss k).getD j 0 = (numL xs ss k)[j] := by simp [List.getD, h1]
  have e2 : (wantN (rowB xs l1) ss k).getD j 0 = (wantN (rowB xs l1) ss k)[j] := by simp [List.getD, h2]
  rw [← e1, ← e2, numL_at xs ss k j hj (by omega), wantN_getD _ _ k j hj]
  have hm := sumL_mono ss (j := j + 1) (k := k) hj
  rw [sumL] at hm
  apply Nat.eq_of_testBit_eq
  intro i
  rw [takeL_bit, numOf_bit, getD_take, getD_drop]
  by_cases hi : i < (ss.getD j 0).toNat
  · rw [rowB_getD xs l1 _ (by omega)]
  · rw [decide_eq_false hi, Bool.false_and, Bool.false_and]

set_option maxHeartbeats 4000000 in
set_option maxRecDepth 1000000 in
theorem unpackLaw_many (a1 a2 : Option Addr) (l1 c1 l2 c2 : Nat) (n s : Int) (w : World) (h : 6000 < l1 ∨ 3000 < l2) (h1 : l1 ≤ 9223372036854775807) (h2 : l2 ≤ 9223372036854775807) :
    Calls Try.prog 5 #[.slice a1 l1 c1, .slice a2 l2 c2, .int .i64 n, .int .i64 s] w fun e w' => e = .returned (.bool true) ∧ Below w.heap.size w w' := by
  by_cases hfit : fitsB n s = true
  case' pos =>
    obtain ⟨hs0, hs1, hn0, hn1⟩ := fitsB_true hfit
    obtain ⟨s, rfl⟩ := Int.eq_ofNat_of_zero_le hs0
    obtain ⟨n, rfl⟩ := Int.eq_ofNat_of_zero_le hn0
    obtain ⟨hn2, hs2⟩ := fit_nat hfit
    have HFT := hide hfit
    have HT := hide (turn_num n s)
    clear hn1
    go_enter Try.func5, Try.ntmps5
    go_wp2_with fail
    refine (unpack_many a1 a2 l1 c1 l2 c2 _ h h1 h2).mono ?_
    rintro e w1 ⟨rfl, hw1⟩
    obtain rfl := hw1.symm
    clear hw1
    have HB1 := hide (Below.refl w.heap.size w)
    go_wp2_with fail
    refine (turn_yes n s _ hfit hs2 hn2).mono ?_
    rintro e w2 ⟨rfl, hw2⟩
    obtain rfl := hw2.symm
    clear hw2
    go_wp2_with fail
    refine (rowed_any _).mono ?_
    rintro e w3 ⟨rfl, hB3⟩
    have HB3 := hide ((unhide HB1).trans (hB3.mono (unhide HB1).size))
    skip
    have hz3 := (unhide HB3).size
    clear hB3 hfit
    go_wp2_with fail
    · exfalso
      exact not_fit_ways (unhide HFT) (by simpa using (by assumption : (((s : Int) < 0 ∨ 16 < (s : Int)) ∨ (n : Int) < 0) ∨ wrap64 (2 ^ s) ≤ (n : Int)))
    rename ((0 ≤ (s : Int) ∧ (s : Int) ≤ 16) ∧ 0 ≤ (n : Int)) ∧ (n : Int) < wrap64 (2 ^ s) => hnameless
    clear hnameless
    refine (number_any n s _ hs2 hn2).mono ?_
    rintro e w4 ⟨rfl, hB4⟩
    have HB4 := hide ((unhide HB3).trans (hB4.mono (unhide HB3).size))
    skip
    have hbl : (numBits n s).length ≤ 16 := by rw [numBits_length]; exact hs2
    have hbl2 : (numBits n s).reverse.length ≤ 16 := by rw [List.length_reverse]; exact hbl
    clear hB4
    go_wp2_with fail
    refine (turned_any (numBits n s) _ hbl).mono ?_
    rintro e wz ⟨rfl, hB5⟩
    have HBz := hide ((unhide HB4).trans (hB5.mono (unhide HB4).size))
    skip
    have hzz := (unhide HBz).size
    clear hB5
    go_wp2_with fail
    refine (ofNumber_any _ _ hbl2).mono ?_
    rintro e w6 ⟨rfl, hw6⟩
    obtain rfl := hw6.symm
    clear hw6
    rw [unhide HT]
    clear hbl hbl2 HB3 HB4 hz3 HFT HT
  case' neg =>
    have hfit2 : fitsB n s = false := by simpa using hfit
    have HFT := hide hfit2
    go_enter Try.func5, Try.ntmps5
    go_wp2_with fail
    refine (unpack_many a1 a2 l1 c1 l2 c2 _ h h1 h2).mono ?_
    rintro e w1 ⟨rfl, hw1⟩
    obtain rfl := hw1.symm
    clear hw1
    have HB1 := hide (Below.refl w.heap.size w)
    go_wp2_with fail
    refine (turn_no n s _ hfit2).mono ?_
    rintro e w2 ⟨rfl, hw2⟩
    obtain rfl := hw2.symm
    clear hw2
    go_wp2_with fail
    refine (rowed_any _).mono ?_
    rintro e wz ⟨rfl, hB3⟩
    have HBz := hide ((unhide HB1).trans (hB3.mono (unhide HB1).size))
    skip
    have hzz := (unhide HBz).size
    clear hB3 hfit hfit2
    go_upto_region 5 with (fail)
    go_cut [48] (fun v wc => v = .bool true ∧ wc = wz)
    case first =>
      go_wp2_with fail
      all_goals go_meet
      all_goals first | exact ⟨rfl, rfl⟩ | exact ⟨congrArg Value.bool (nofit_bool (unhide HFT)), rfl⟩
    case' rest =>
      obtain ⟨rfl, hwc⟩ := hcut
      obtain rfl := hwc.symm
      clear hwc
  all_goals
    go_wp2
    all_goals go_ret
    all_goals exact ⟨rfl, unhide HBz⟩

set_option maxHeartbeats 4000000 in
set_option maxRecDepth 1000000 in
theorem unpackLaw_bad (a1 : Option Addr) (l1 c1 b o len cap : Nat) (ss : List Int) (n s : Int) (w : World) (h1 : l1 ≤ 6000) (hl : ss.length = len) (hm : len ≤ 3000) (hb : b < w.heap.size) (hR : Row .i64 w b o ss) (j0 : Nat) (hj0 : j0 < len) (hbad : sizeB (ss.getD j0 0) = false) (hf : ∀ j, j < j0 → sizeB (ss.getD j 0) = true) :
    Calls Try.prog 5 #[.slice a1 l1 c1, .slice (some ⟨b, o, none⟩) len cap, .int .i64 n, .int .i64 s] w fun e w' => e = .returned (.bool true) ∧ Below w.heap.size w w' := by
  by_cases hfit : fitsB n s = true
  case' pos =>
    obtain ⟨hs0, hs1, hn0, hn1⟩ := fitsB_true hfit
    obtain ⟨s, rfl⟩ := Int.eq_ofNat_of_zero_le hs0
    obtain ⟨n, rfl⟩ := Int.eq_ofNat_of_zero_le hn0
    obtain ⟨hn2, hs2⟩ := fit_nat hfit
    have HFT := hide hfit
    have HT := hide (turn_num n s)
    clear hn1
    go_enter Try.func5, Try.ntmps5
    go_wp2_with fail
    refine (unpack_bad a1 l1 c1 b o len cap ss _ h1 hl hm hR j0 hj0 hbad hf).mono ?_
    rintro e w1 ⟨rfl, hw1⟩
    obtain rfl := hw1.symm
    clear hw1
    have HB1 := hide (Below.refl w.heap.size w)
    have HR := hide hR
    have HF := hide hf
    have HD := hide hbad
    have HL := hide hl
    clear hR hf hbad hl
    go_wp2_with fail
    refine (turn_yes n s _ hfit hs2 hn2).mono ?_
    rintro e w2 ⟨rfl, hw2⟩
    obtain rfl := hw2.symm
    clear hw2
    go_wp2_with fail
    refine (rowed_any _).mono ?_
    rintro e w3 ⟨rfl, hB3⟩
    have HB3 := hide ((unhide HB1).trans (hB3.mono (unhide HB1).size))
    skip
    have hz3 := (unhide HB3).size
    clear hB3 hfit
    go_wp2_with fail
    · exfalso
      exact not_fit_ways (unhide HFT) (by simpa using (by assumption : (((s : Int) < 0 ∨ 16 < (s : Int)) ∨ (n : Int) < 0) ∨ wrap64 (2 ^ s) ≤ (n : Int)))
    rename ((0 ≤ (s : Int) ∧ (s : Int) ≤ 16) ∧ 0 ≤ (n : Int)) ∧ (n : Int) < wrap64 (2 ^ s) => hnameless
    clear hnameless
    refine (number_any n s _ hs2 hn2).mono ?_
    rintro e w4 ⟨rfl, hB4⟩
    have HB4 := hide ((unhide HB3).trans (hB4.mono (unhide HB3).size))
    skip
    have hbl : (numBits n s).length ≤ 16 := by rw [numBits_length]; exact hs2
    have hbl2 : (numBits n s).reverse.length ≤ 16 := by rw [List.length_reverse]; exact hbl
    clear hB4
    go_wp2_with fail
    refine (turned_any (numBits n s) _ hbl).mono ?_
    rintro e wz ⟨rfl, hB5⟩
    have HBz := hide ((unhide HB4).trans (hB5.mono (unhide HB4).size))
    skip
    have hzz := (unhide HBz).size
    clear hB5
    go_wp2_with fail
    refine (ofNumber_any _ _ hbl2).mono ?_
    rintro e w6 ⟨rfl, hw6⟩
    obtain rfl := hw6.symm
    clear hw6
    rw [unhide HT]
    clear hbl hbl2 HB3 HB4 hz3 HFT HT
  case' neg =>
    have hfit2 : fitsB n s = false := by simpa using hfit
    have HFT := hide hfit2
    go_enter Try.func5, Try.ntmps5
    go_wp2_with fail
    refine (unpack_bad a1 l1 c1 b o len cap ss _ h1 hl hm hR j0 hj0 hbad hf).mono ?_
    rintro e w1 ⟨rfl, hw1⟩
    obtain rfl := hw1.symm
    clear hw1
    have HB1 := hide (Below.refl w.heap.size w)
    have HR := hide hR
    have HF := hide hf
    have HD := hide hbad
    have HL := hide hl
    clear hR hf hbad hl
    go_wp2_with fail
    refine (turn_no n s _ hfit2).mono ?_
    rintro e w2 ⟨rfl, hw2⟩
    obtain rfl := hw2.symm
    clear hw2
    go_wp2_with fail
    refine (rowed_any _).mono ?_
    rintro e wz ⟨rfl, hB3⟩
    have HBz := hide ((unhide HB1).trans (hB3.mono (unhide HB1).size))
    skip
    have hzz := (unhide HBz).size
    clear hB3 hfit hfit2
    go_upto_region 5 with (fail)
    go_cut [48] (fun v wc => v = .bool true ∧ wc = wz)
    case first =>
      go_wp2_with fail
      all_goals go_meet
      all_goals first | exact ⟨rfl, rfl⟩ | exact ⟨congrArg Value.bool (nofit_bool (unhide HFT)), rfl⟩
    case' rest =>
      obtain ⟨rfl, hwc⟩ := hcut
      obtain rfl := hwc.symm
      clear hwc
  all_goals
    go_wp2
    go_loop [83] (fun i => ∃ k : Nat, k ≤ j0 ∧ i = .int .i64 k) (fun i => len - (intOf i).toNat)
    case atStart => exact ⟨0, Nat.zero_le _, rfl⟩
    case round =>
      obtain ⟨k, hk, rfl⟩ := hrel
      have hkl : k < len := by omega
      have c := ((unhide HBz).cell (p := ⟨b, o + k, none⟩) hb).trans (unhide HR k (by rw [unhide HL]; exact hkl))
      by_cases hlt : k < j0
      · obtain ⟨q0, q1⟩ := sizeB_true (unhide HF k hlt)
        clear HD
        generalize ss.getD k 0 = x at *
        go_wp2
        go_round
        case rel => exact ⟨k + 1, by omega, by go_num⟩
        case measure => simp [intOf]; omega
      · obtain rfl : k = j0 := by omega
        have hbx := sizeB_false (unhide HD)
        clear HD HF
        generalize ss.getD k 0 = x at *
        go_wp2
        all_goals go_ret
        all_goals exact ⟨rfl, unhide HBz⟩

set_option maxHeartbeats 4000000 in
set_option maxRecDepth 1000000 in
theorem unpackLaw_none (a1 a2 : Option Addr) (l1 c1 cap : Nat) (xs : List Nat) (n s : Int) (w : World) (h1 : l1 ≤ 6000) (hxl : xs.length = l1) (hx : ∀ j, xs.getD j 0 < 256) (hX : BytesIn w a1 xs) :
    Calls Try.prog 5 #[.slice a1 l1 c1, .slice a2 0 cap, .int .i64 n, .int .i64 s] w fun e w' => e = .returned (.bool true) ∧ Below w.heap.size w w' := by
  by_cases hfit : fitsB n s = true
  case' pos =>
    obtain ⟨hs0, hs1, hn0, hn1⟩ := fitsB_true hfit
    obtain ⟨s, rfl⟩ := Int.eq_ofNat_of_zero_le hs0
    obtain ⟨n, rfl⟩ := Int.eq_ofNat_of_zero_le hn0
    obtain ⟨hn2, hs2⟩ := fit_nat hfit
    have HFT := hide hfit
    have HT := hide (turn_num n s)
    clear hn1
    go_enter Try.func5, Try.ntmps5
    go_wp2_with fail
    refine (unpack_none a1 a2 l1 c1 cap _ h1).mono ?_
    rintro e w1 ⟨g, rfl, hO1, hB1, hg1⟩
    have HB1 := hide hB1
    have HX := hide hX
    have Hx := hide hx
    have HXL := hide hxl
    clear hO1 hB1 hX hx hxl
    go_wp2_with fail
    refine (turn_yes n s _ hfit hs2 hn2).mono ?_
    rintro e w2 ⟨rfl, hw2⟩
    obtain rfl := hw2.symm
    clear hw2
    go_wp2_with fail
    refine (rowed_any _).mono ?_
    rintro e w3 ⟨rfl, hB3⟩
    have HB3 := hide ((unhide HB1).trans (hB3.mono (unhide HB1).size))
    skip
    have hz3 := (unhide HB3).size
    clear hB3 hfit
    go_wp2_with fail
    · exfalso
      exact not_fit_ways (unhide HFT) (by simpa using (by assumption : (((s : Int) < 0 ∨ 16 < (s : Int)) ∨ (n : Int) < 0) ∨ wrap64 (2 ^ s) ≤ (n : Int)))
    rename ((0 ≤ (s : Int) ∧ (s : Int) ≤ 16) ∧ 0 ≤ (n : Int)) ∧ (n : Int) < wrap64 (2 ^ s) => hnameless
    clear hnameless
    refine (number_any n s _ hs2 hn2).mono ?_
    rintro e w4 ⟨rfl, hB4⟩
    have HB4 := hide ((unhide HB3).trans (hB4.mono (unhide HB3).size))
    skip
    have hbl : (numBits n s).length ≤ 16 := by rw [numBits_length]; exact hs2
    have hbl2 : (numBits n s).reverse.length ≤ 16 := by rw [List.length_reverse]; exact hbl
    clear hB4
    go_wp2_with fail
    refine (turned_any (numBits n s) _ hbl).mono ?_
    rintro e wz ⟨rfl, hB5⟩
    have HBz := hide ((unhide HB4).trans (hB5.mono (unhide HB4).size))
    skip
    have hzz := (unhide HBz).size
    clear hB5
    go_wp2_with fail
    refine (ofNumber_any _ _ hbl2).mono ?_
    rintro e w6 ⟨rfl, hw6⟩
    obtain rfl := hw6.symm
    clear hw6
    rw [unhide HT]
    clear hbl hbl2 HB3 HB4 hz3 HFT HT
  case' neg =>
    have hfit2 : fitsB n s = false := by simpa using hfit
    have HFT := hide hfit2
    go_enter Try.func5, Try.ntmps5
    go_wp2_with fail
    refine (unpack_none a1 a2 l1 c1 cap _ h1).mono ?_
    rintro e w1 ⟨g, rfl, hO1, hB1, hg1⟩
    have HB1 := hide hB1
    have HX := hide hX
    have Hx := hide hx
    have HXL := hide hxl
    clear hO1 hB1 hX hx hxl
    go_wp2_with fail
    refine (turn_no n s _ hfit2).mono ?_
    rintro e w2 ⟨rfl, hw2⟩
    obtain rfl := hw2.symm
    clear hw2
    go_wp2_with fail
    refine (rowed_any _).mono ?_
    rintro e wz ⟨rfl, hB3⟩
    have HBz := hide ((unhide HB1).trans (hB3.mono (unhide HB1).size))
    skip
    have hzz := (unhide HBz).size
    clear hB3 hfit hfit2
    go_upto_region 5 with (fail)
    go_cut [48] (fun v wc => v = .bool true ∧ wc = wz)
    case first =>
      go_wp2_with fail
      all_goals go_meet
      all_goals first | exact ⟨rfl, rfl⟩ | exact ⟨congrArg Value.bool (nofit_bool (unhide HFT)), rfl⟩
    case' rest =>
      obtain ⟨rfl, hwc⟩ := hcut
      obtain rfl := hwc.symm
      clear hwc
  all_goals
    go_wp2
    go_loop [83] (fun i => i = .int .i64 0) (fun i => 0)
    case atStart => exact rfl
    case round =>
      obtain rfl := hrel
      go_wp2_with fail
      refine (rowOf_in a1 l1 c1 xs _ (unhide HXL) (unhide Hx) h1 ((unhide HX).below (unhide HBz) (Nat.le_refl _))).mono ?_
      rintro e wr ⟨rfl, hBr⟩
      have HBr := hide ((unhide HBz).trans (hBr.mono hzz))
      clear hBr
      go_wp2
      go_loop [15, 16, 105] (fun vr vw i => vw = .slice none 0 0 ∧ i = .int .i64 0) (fun _ _ i => 0)
      case atStart => exact ⟨rfl, rfl⟩
      case round =>
        obtain ⟨rfl, rfl⟩ := hrel
        go_wp2_with fail
        refine (equal_in _ _ _ _ _ _ [] [] _ rfl rfl (Nat.zero_le _) (Nat.zero_le _) (.inl rfl) (.inl rfl)).mono ?_
        rintro e w6 ⟨rfl, q, rfl⟩
        go_wp2
        go_ret
        exact ⟨rfl, below_drewN (unhide HBr) q⟩
end Go.Proofs.Ytmafecagcglaoaa
