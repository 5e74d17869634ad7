/-
  The walk of the law BitsUnpack where the sizes may be: the numbers, or that there are too few bits.
-/
import Derived.Test.YtmafecagcglaoaaUnpackLaw
namespace Go.Proofs.Ytmafecagcglaoaa
open Go.RowKit
set_option linter.unusedVariables false
set_option maxRecDepth 100000

theorem prev_ok {ss : List Int} {j1 m : Nat} (hok : ∀ j, j < j1 → sumL ss (j + 1) ≤ m) : sumL ss j1 ≤ m := by
  cases j1 with
  | zero => exact Nat.zero_le _
  | succ j => exact hok j (Nat.lt_succ_self j)
theorem own_slice {w : World} {B e n : Nat} {v : Value} {xs : List Value} (h : w.ownsRow B e 1 v n xs) : ∃ a c, v = .slice a n c := by
  rcases h.2 with ⟨hv, h0⟩ | ⟨g, cap, cur, hv, _⟩
  · exact ⟨_, _, by rw [hv, h0]⟩
  · exact ⟨_, _, hv⟩
theorem RowIn.any {w : World} {B n : Nat} {v : Value} {xs : List Nat} (h : w.ownsRow B 3 1 v n (i64s xs)) : ∀ a c, v = .slice a n c → RowIn .i64 w a (xs.map fun x : Nat => (x : Int)) := by
  intro a c hv
  rcases h.2 with ⟨hv', h0⟩ | ⟨g, cap, cur, hv', _⟩
  · have : xs = [] := List.eq_nil_of_length_eq_zero (by have := h.1; simpa [h0] using this)
    rw [this]; exact .inl rfl
  · rw [hv'] at h hv
    have := RowIn.own h
    cases hv
    exact this

set_option maxHeartbeats 4000000 in
set_option maxRecDepth 1000000 in
theorem unpackLaw_yes (a1 : Option Addr) (l1 c1 b o len cap : Nat) (xs : List Nat) (ss : List Int) (n s : Int) (w : World) (h1 : l1 ≤ 6000) (hxl : xs.length = l1) (hx : ∀ j, xs.getD j 0 < 256) (hX : BytesIn w a1 xs) (hl : ss.length = len) (hm : len ≤ 3000) (hb : b < w.heap.size) (hR : Row .i64 w b o ss) (hf : AllSize ss) (ht : sumL ss len ≤ 8 * l1) :
    Calls Try.prog 5 #[.slice a1 l1 c1, .slice (some ⟨b, o, none⟩) len cap, .int .i64 n, .int .i64 s] w fun e w' => e = .returned (.bool true) ∧ Below w.heap.size w w' := by
  by_cases hfit : fitsB n s = true
  case' pos =>
    obtain ⟨hs0, hs1, hn0, hn1⟩ := fitsB_true hfit
    obtain ⟨s, rfl⟩ := Int.eq_ofNat_of_zero_le hs0
    obtain ⟨n, rfl⟩ := Int.eq_ofNat_of_zero_le hn0
    obtain ⟨hn2, hs2⟩ := fit_nat hfit
    have HFT := hide hfit
    have HT := hide (turn_num n s)
    clear hn1
    go_enter Try.func5, Try.ntmps5
    go_wp2_with fail
    refine (unpack_yes a1 l1 c1 b o len cap xs ss _ h1 hxl hx hX hl hm hb hR hf ht).mono ?_
    rintro e w1 ⟨g, rfl, hO1, hB1, hg1⟩
    have HB1 := hide hB1
    have HG_w1 := hide (RowIn.own hO1)
    have HR := hide hR
    have HF := hide hf
    have HL := hide hl
    have HX := hide hX
    have Hx := hide hx
    have HXL := hide hxl
    have HTT := hide ht
    clear hR hf hl hX hx hxl ht hO1 hB1
    go_wp2_with fail
    refine (turn_yes n s _ hfit hs2 hn2).mono ?_
    rintro e w2 ⟨rfl, hw2⟩
    obtain rfl := hw2.symm
    clear hw2
    go_wp2_with fail
    refine (rowed_any _).mono ?_
    rintro e w3 ⟨rfl, hB3⟩
    have HB3 := hide ((unhide HB1).trans (hB3.mono (unhide HB1).size))
    have HG_w3 := hide ((unhide HG_w1).below hB3 (Nat.le_refl _))
    have hz3 := (unhide HB3).size
    clear hB3 hfit
    go_wp2_with fail
    · exfalso
      exact not_fit_ways (unhide HFT) (by simpa using (by assumption : (((s : Int) < 0 ∨ 16 < (s : Int)) ∨ (n : Int) < 0) ∨ wrap64 (2 ^ s) ≤ (n : Int)))
    rename ((0 ≤ (s : Int) ∧ (s : Int) ≤ 16) ∧ 0 ≤ (n : Int)) ∧ (n : Int) < wrap64 (2 ^ s) => hnameless
    clear hnameless
    refine (number_any n s _ hs2 hn2).mono ?_
    rintro e w4 ⟨rfl, hB4⟩
    have HB4 := hide ((unhide HB3).trans (hB4.mono (unhide HB3).size))
    have HG_w4 := hide ((unhide HG_w3).below hB4 (Nat.le_refl _))
    have hbl : (numBits n s).length ≤ 16 := by rw [numBits_length]; exact hs2
    have hbl2 : (numBits n s).reverse.length ≤ 16 := by rw [List.length_reverse]; exact hbl
    clear hB4
    go_wp2_with fail
    refine (turned_any (numBits n s) _ hbl).mono ?_
    rintro e wz ⟨rfl, hB5⟩
    have HBz := hide ((unhide HB4).trans (hB5.mono (unhide HB4).size))
    have HG_wz := hide ((unhide HG_w4).below hB5 (Nat.le_refl _))
    have hzz := (unhide HBz).size
    clear hB5
    go_wp2_with fail
    refine (ofNumber_any _ _ hbl2).mono ?_
    rintro e w6 ⟨rfl, hw6⟩
    obtain rfl := hw6.symm
    clear hw6
    rw [unhide HT]
    clear hbl hbl2 HB3 HB4 hz3 HFT HT
  case' neg =>
    have hfit2 : fitsB n s = false := by simpa using hfit
    have HFT := hide hfit2
    go_enter Try.func5, Try.ntmps5
    go_wp2_with fail
    refine (unpack_yes a1 l1 c1 b o len cap xs ss _ h1 hxl hx hX hl hm hb hR hf ht).mono ?_
    rintro e w1 ⟨g, rfl, hO1, hB1, hg1⟩
    have HB1 := hide hB1
    have HG_w1 := hide (RowIn.own hO1)
    have HR := hide hR
    have HF := hide hf
    have HL := hide hl
    have HX := hide hX
    have Hx := hide hx
    have HXL := hide hxl
    have HTT := hide ht
    clear hR hf hl hX hx hxl ht hO1 hB1
    go_wp2_with fail
    refine (turn_no n s _ hfit2).mono ?_
    rintro e w2 ⟨rfl, hw2⟩
    obtain rfl := hw2.symm
    clear hw2
    go_wp2_with fail
    refine (rowed_any _).mono ?_
    rintro e wz ⟨rfl, hB3⟩
    have HBz := hide ((unhide HB1).trans (hB3.mono (unhide HB1).size))
    have HG_wz := hide ((unhide HG_w1).below hB3 (Nat.le_refl _))
    have hzz := (unhide HBz).size
    clear hB3 hfit hfit2
    go_upto_region 5 with (fail)
    go_cut [48] (fun v wc => v = .bool true ∧ wc = wz)
    case first =>
      go_wp2_with fail
      all_goals go_meet
      all_goals first | exact ⟨rfl, rfl⟩ | exact ⟨congrArg Value.bool (nofit_bool (unhide HFT)), rfl⟩
    case' rest =>
      obtain ⟨rfl, hwc⟩ := hcut
      obtain rfl := hwc.symm
      clear hwc
  all_goals
    go_wp2
    go_loop [83] (fun i => ∃ k : Nat, k ≤ len ∧ i = .int .i64 k) (fun i => len - (intOf i).toNat)
    case atStart => exact ⟨0, Nat.zero_le _, rfl⟩
    case round =>
      obtain ⟨k, hk, rfl⟩ := hrel
      by_cases hlt : k < len
      · have c := ((unhide HBz).cell (p := ⟨b, o + k, none⟩) hb).trans (unhide HR k (by rw [unhide HL]; exact hlt))
        obtain ⟨q0, q1⟩ := sizeB_true (unhide HF k (by rw [unhide HL]; exact hlt))
        generalize ss.getD k 0 = x at *
        go_wp2
        go_round
        case rel => exact ⟨k + 1, by omega, by go_num⟩
        case measure => simp [intOf]; omega
      · obtain rfl : k = len := by omega
        go_wp2_with fail
        refine (rowOf_in a1 l1 c1 xs _ (unhide HXL) (unhide Hx) h1 ((unhide HX).below (unhide HBz) (Nat.le_refl _))).mono ?_
        rintro e wo ⟨rfl, hBr⟩
        have HBr := hide ((unhide HBz).trans (hBr.mono hzz))
        have hzr := (unhide HBr).size
        have HG_wo := hide ((unhide HG_wz).below hBr (Nat.le_refl _))
        clear hBr
        have HRL := hide (rowB_length xs l1)
        obtain ⟨i0, hi, hz0, hz1, hz2⟩ := info_parts info_int
        go_wp2
        go_loopw [15, 16, 105] (fun vr vw i wq => ∃ j : Nat, j ≤ k ∧ i = .int .i64 j ∧ vr = .string (text ((rowB xs l1).drop (sumL ss j))) ∧ wq.ownsRow wo.heap.size 3 1 vw j (i64s (wantN (rowB xs l1) ss j)) ∧ Below wo.heap.size wo wq) (fun _ _ i _ => k - (intOf i).toNat)
        case atStart => exact ⟨0, Nat.zero_le _, rfl, rfl, World.ownsRow_nil _ _ _ _, Below.refl _ _⟩
        case round =>
          obtain ⟨j, hj, rfl, rfl, hO, hB⟩ := hrel
          have HO := hide hO
          have HBq := hide hB
          have hzq := hB.size
          by_cases hlt2 : j < k
          · have hjk : j < k := by omega
            have c := ((hB.cell (p := ⟨b, o + j, none⟩) (by simp; omega)).trans ((unhide HBr).cell (p := ⟨b, o + j, none⟩) hb)).trans (unhide HR j (by rw [unhide HL]; exact hjk))
            obtain ⟨q0, q1⟩ := sizeB_true (unhide HF j (by rw [unhide HL]; exact hjk))
            have hsum := Nat.le_trans (sumL_mono ss (j := j + 1) (k := k) (by omega)) (unhide HTT)
            rw [sumL] at hsum
            have H1s : Hid (sumL ss (j + 1) = sumL ss j + (ss.getD j 0).toNat) := rfl
            have H2s : Hid (wantN (rowB xs l1) ss (j + 1) = wantN (rowB xs l1) ss j ++ [numOf (((rowB xs l1).drop (sumL ss j)).take (ss.getD j 0).toNat)]) := rfl
            have hLl : ((rowB xs l1).drop (sumL ss j)).length = 8 * l1 - sumL ss j := by rw [List.length_drop, unhide HRL]
            have HDD : Hid (∀ x, ((rowB xs l1).drop (sumL ss j)).drop x = (rowB xs l1).drop (sumL ss j + x)) := fun x => by rw [List.drop_drop]
            clear hO hB HF HR
            generalize ss.getD j 0 = x at *
            obtain ⟨x, rfl⟩ := Int.eq_ofNat_of_zero_le q0
            simp only [Int.toNat_natCast] at H1s H2s hsum
            generalize (rowB xs l1).drop (sumL ss j) = L at *
            have hsz := text_size L
            have hxL : x ≤ L.length := by omega
            have HTK := hide (text_take L x hxL)
            have HTD := hide (text_drop L x)
            have htl : (L.take x).length ≤ 16 := by rw [List.length_take]; omega
            clear hLl hsum
            go_wp2_with fail
            rw [unhide HTK]
            refine (ofNumber_any _ _ htl).mono ?_
            rintro e w7 ⟨rfl, hw7⟩
            obtain rfl := hw7.symm
            clear hw7
            go_wp2_with (at_builtin; refine wpList_append_own _ rfl _ _ 24 rfl wo.heap.size 3 i0 (.int .i64 0) 1 8 Try.underlying24 hi hz0 hz1 hz2 rfl (by decide) _ _ _ rfl ((unhide HO).alloc _) ⟨_, 0, none⟩ 1 1 [.int .i64 (numOf (L.take x) : Nat)] rfl rfl (by intro j u hj; match j, hj with | 0, hj => simp at hj; subst hj; simp [Addr.add]) (by intro u hu; simp at hu; subst hu; rfl) (by unfold maxLen; omega) (by omega) (by simp; omega) ?_)
            intro v' w8 hO8 hgrow _
            have HO8 := hide hO8
            have HB8 := hide (((unhide HBq).alloc hzq _).grown hgrow (by simp; omega) (fun i hk => ((unhide HO).lt i hk).1))
            clear hO8 hgrow
            go_wp2
            go_roundw
            case rel => exact ⟨j + 1, by omega, by go_num, by rw [unhide H1s, ← unhide HDD, ← unhide HTD], by rw [unhide H2s, i64s, List.map_append]; exact unhide HO8, unhide HB8⟩
            case measure => simp [intOf]; omega
          · obtain rfl : j = k := by omega
            have HNW := hide (want_num xs l1 ss j (unhide HL) (unhide HXL) (unhide HTT))
            have hO1 := (unhide HG_wo).below hB (Nat.le_refl _)
            rw [unhide HNW] at hO1
            have HO1 := hide hO1
            have HO2 := hide (RowIn.any hO)
            obtain ⟨a9, c9, rfl⟩ := own_slice hO
            have hwl : ((wantN (rowB xs l1) ss j).map fun x : Nat => (x : Int)).length = j := by rw [List.length_map, wantN_length]
            have HBf := hide ((unhide HBr).trans (hB.mono (unhide HBr).size))
            clear hO hB hO1
            go_wp2_with fail
            refine (equal_in _ _ _ _ _ _ ((wantN (rowB xs l1) ss j).map fun x : Nat => (x : Int)) ((wantN (rowB xs l1) ss j).map fun x : Nat => (x : Int)) _ hwl hwl (by omega) (by omega) (unhide HO1) (unhide HO2 _ _ rfl)).mono ?_
            rintro e w6 ⟨rfl, q, rfl⟩
            have e1 : (((wantN (rowB xs l1) ss j).map fun x : Nat => (x : Int)) == ((wantN (rowB xs l1) ss j).map fun x : Nat => (x : Int))) = true := by simp
            rw [e1]
            go_wp2
            go_ret
            exact ⟨rfl, below_drewN (unhide HBf) q⟩

set_option maxHeartbeats 4000000 in
set_option maxRecDepth 1000000 in
theorem unpackLaw_torn (a1 : Option Addr) (l1 c1 b o len cap : Nat) (xs : List Nat) (ss : List Int) (n s : Int) (w : World) (h1 : l1 ≤ 6000) (hxl : xs.length = l1) (hx : ∀ j, xs.getD j 0 < 256) (hX : BytesIn w a1 xs) (hl : ss.length = len) (hm : len ≤ 3000) (hb : b < w.heap.size) (hR : Row .i64 w b o ss) (hf : AllSize ss) (j1 : Nat) (hj1 : j1 < len) (hok : ∀ j, j < j1 → sumL ss (j + 1) ≤ 8 * l1) (hno : 8 * l1 < sumL ss (j1 + 1)) :
    Calls Try.prog 5 #[.slice a1 l1 c1, .slice (some ⟨b, o, none⟩) len cap, .int .i64 n, .int .i64 s] w fun e w' => e = .returned (.bool true) ∧ Below w.heap.size w w' := by
  by_cases hfit : fitsB n s = true
  case' pos =>
    obtain ⟨hs0, hs1, hn0, hn1⟩ := fitsB_true hfit
    obtain ⟨s, rfl⟩ := Int.eq_ofNat_of_zero_le hs0
    obtain ⟨n, rfl⟩ := Int.eq_ofNat_of_zero_le hn0
    obtain ⟨hn2, hs2⟩ := fit_nat hfit
    have HFT := hide hfit
    have HT := hide (turn_num n s)
    clear hn1
    go_enter Try.func5, Try.ntmps5
    go_wp2_with fail
    refine (unpack_torn a1 l1 c1 b o len cap ss _ h1 hl hm hR hf (Nat.lt_of_lt_of_le hno (sumL_mono ss hj1))).mono ?_
    rintro e w1 ⟨rfl, hw1⟩
    obtain rfl := hw1.symm
    clear hw1
    have HB1 := hide (Below.refl w.heap.size w)
    have HR := hide hR
    have HF := hide hf
    have HL := hide hl
    have HX := hide hX
    have Hx := hide hx
    have HXL := hide hxl
    have HOK := hide hok
    have HNO := hide hno
    clear hR hf hl hX hx hxl hok hno
    go_wp2_with fail
    refine (turn_yes n s _ hfit hs2 hn2).mono ?_
    rintro e w2 ⟨rfl, hw2⟩
    obtain rfl := hw2.symm
    clear hw2
    go_wp2_with fail
    refine (rowed_any _).mono ?_
    rintro e w3 ⟨rfl, hB3⟩
    have HB3 := hide ((unhide HB1).trans (hB3.mono (unhide HB1).size))
    skip
    have hz3 := (unhide HB3).size
    clear hB3 hfit
    go_wp2_with fail
    · exfalso
      exact not_fit_ways (unhide HFT) (by simpa using (by assumption : (((s : Int) < 0 ∨ 16 < (s : Int)) ∨ (n : Int) < 0) ∨ wrap64 (2 ^ s) ≤ (n : Int)))
    rename ((0 ≤ (s : Int) ∧ (s : Int) ≤ 16) ∧ 0 ≤ (n : Int)) ∧ (n : Int) < wrap64 (2 ^ s) => hnameless
    clear hnameless
    refine (number_any n s _ hs2 hn2).mono ?_
    rintro e w4 ⟨rfl, hB4⟩
    have HB4 := hide ((unhide HB3).trans (hB4.mono (unhide HB3).size))
    skip
    have hbl : (numBits n s).length ≤ 16 := by rw [numBits_length]; exact hs2
    have hbl2 : (numBits n s).reverse.length ≤ 16 := by rw [List.length_reverse]; exact hbl
    clear hB4
    go_wp2_with fail
    refine (turned_any (numBits n s) _ hbl).mono ?_
    rintro e wz ⟨rfl, hB5⟩
    have HBz := hide ((unhide HB4).trans (hB5.mono (unhide HB4).size))
    skip
    have hzz := (unhide HBz).size
    clear hB5
    go_wp2_with fail
    refine (ofNumber_any _ _ hbl2).mono ?_
    rintro e w6 ⟨rfl, hw6⟩
    obtain rfl := hw6.symm
    clear hw6
    rw [unhide HT]
    clear hbl hbl2 HB3 HB4 hz3 HFT HT
  case' neg =>
    have hfit2 : fitsB n s = false := by simpa using hfit
    have HFT := hide hfit2
    go_enter Try.func5, Try.ntmps5
    go_wp2_with fail
    refine (unpack_torn a1 l1 c1 b o len cap ss _ h1 hl hm hR hf (Nat.lt_of_lt_of_le hno (sumL_mono ss hj1))).mono ?_
    rintro e w1 ⟨rfl, hw1⟩
    obtain rfl := hw1.symm
    clear hw1
    have HB1 := hide (Below.refl w.heap.size w)
    have HR := hide hR
    have HF := hide hf
    have HL := hide hl
    have HX := hide hX
    have Hx := hide hx
    have HXL := hide hxl
    have HOK := hide hok
    have HNO := hide hno
    clear hR hf hl hX hx hxl hok hno
    go_wp2_with fail
    refine (turn_no n s _ hfit2).mono ?_
    rintro e w2 ⟨rfl, hw2⟩
    obtain rfl := hw2.symm
    clear hw2
    go_wp2_with fail
    refine (rowed_any _).mono ?_
    rintro e wz ⟨rfl, hB3⟩
    have HBz := hide ((unhide HB1).trans (hB3.mono (unhide HB1).size))
    skip
    have hzz := (unhide HBz).size
    clear hB3 hfit hfit2
    go_upto_region 5 with (fail)
    go_cut [48] (fun v wc => v = .bool true ∧ wc = wz)
    case first =>
      go_wp2_with fail
      all_goals go_meet
      all_goals first | exact ⟨rfl, rfl⟩ | exact ⟨congrArg Value.bool (nofit_bool (unhide HFT)), rfl⟩
    case' rest =>
      obtain ⟨rfl, hwc⟩ := hcut
      obtain rfl := hwc.symm
      clear hwc
  all_goals
    go_wp2
    go_loop [83] (fun i => ∃ k : Nat, k ≤ len ∧ i = .int .i64 k) (fun i => len - (intOf i).toNat)
    case atStart => exact ⟨0, Nat.zero_le _, rfl⟩
    case round =>
      obtain ⟨k, hk, rfl⟩ := hrel
      by_cases hlt : k < len
      · have c := ((unhide HBz).cell (p := ⟨b, o + k, none⟩) hb).trans (unhide HR k (by rw [unhide HL]; exact hlt))
        obtain ⟨q0, q1⟩ := sizeB_true (unhide HF k (by rw [unhide HL]; exact hlt))
        generalize ss.getD k 0 = x at *
        go_wp2
        go_round
        case rel => exact ⟨k + 1, by omega, by go_num⟩
        case measure => simp [intOf]; omega
      · obtain rfl : k = len := by omega
        go_wp2_with fail
        refine (rowOf_in a1 l1 c1 xs _ (unhide HXL) (unhide Hx) h1 ((unhide HX).below (unhide HBz) (Nat.le_refl _))).mono ?_
        rintro e wo ⟨rfl, hBr⟩
        have HBr := hide ((unhide HBz).trans (hBr.mono hzz))
        have hzr := (unhide HBr).size
        clear hBr
        have HRL := hide (rowB_length xs l1)
        obtain ⟨i0, hi, hz0, hz1, hz2⟩ := info_parts info_int
        go_wp2
        go_loopw [15, 16, 105] (fun vr vw i wq => ∃ j : Nat, j ≤ j1 ∧ i = .int .i64 j ∧ vr = .string (text ((rowB xs l1).drop (sumL ss j))) ∧ wq.ownsRow wo.heap.size 3 1 vw j (i64s (wantN (rowB xs l1) ss j)) ∧ Below wo.heap.size wo wq) (fun _ _ i _ => k - (intOf i).toNat)
        case atStart => exact ⟨0, Nat.zero_le _, rfl, rfl, World.ownsRow_nil _ _ _ _, Below.refl _ _⟩
        case round =>
          obtain ⟨j, hj, rfl, rfl, hO, hB⟩ := hrel
          have HO := hide hO
          have HBq := hide hB
          have hzq := hB.size
          by_cases hlt2 : j < j1
          · have hjk : j < k := by omega
            have c := ((hB.cell (p := ⟨b, o + j, none⟩) (by simp; omega)).trans ((unhide HBr).cell (p := ⟨b, o + j, none⟩) hb)).trans (unhide HR j (by rw [unhide HL]; exact hjk))
            obtain ⟨q0, q1⟩ := sizeB_true (unhide HF j (by rw [unhide HL]; exact hjk))
            have hsum := unhide HOK j hlt2
            rw [sumL] at hsum
            have H1s : Hid (sumL ss (j + 1) = sumL ss j + (ss.getD j 0).toNat) := rfl
            have H2s : Hid (wantN (rowB xs l1) ss (j + 1) = wantN (rowB xs l1) ss j ++ [numOf (((rowB xs l1).drop (sumL ss j)).take (ss.getD j 0).toNat)]) := rfl
            have hLl : ((rowB xs l1).drop (sumL ss j)).length = 8 * l1 - sumL ss j := by rw [List.length_drop, unhide HRL]
            have HDD : Hid (∀ x, ((rowB xs l1).drop (sumL ss j)).drop x = (rowB xs l1).drop (sumL ss j + x)) := fun x => by rw [List.drop_drop]
            clear hO hB HF HR
            generalize ss.getD j 0 = x at *
            obtain ⟨x, rfl⟩ := Int.eq_ofNat_of_zero_le q0
            simp only [Int.toNat_natCast] at H1s H2s hsum
            generalize (rowB xs l1).drop (sumL ss j) = L at *
            have hsz := text_size L
            have hxL : x ≤ L.length := by omega
            have HTK := hide (text_take L x hxL)
            have HTD := hide (text_drop L x)
            have htl : (L.take x).length ≤ 16 := by rw [List.length_take]; omega
            clear hLl hsum
            go_wp2_with fail
            rw [unhide HTK]
            refine (ofNumber_any _ _ htl).mono ?_
            rintro e w7 ⟨rfl, hw7⟩
            obtain rfl := hw7.symm
            clear hw7
            go_wp2_with (at_builtin; refine wpList_append_own _ rfl _ _ 24 rfl wo.heap.size 3 i0 (.int .i64 0) 1 8 Try.underlying24 hi hz0 hz1 hz2 rfl (by decide) _ _ _ rfl ((unhide HO).alloc _) ⟨_, 0, none⟩ 1 1 [.int .i64 (numOf (L.take x) : Nat)] rfl rfl (by intro j u hj; match j, hj with | 0, hj => simp at hj; subst hj; simp [Addr.add]) (by intro u hu; simp at hu; subst hu; rfl) (by unfold maxLen; omega) (by omega) (by simp; omega) ?_)
            intro v' w8 hO8 hgrow _
            have HO8 := hide hO8
            have HB8 := hide (((unhide HBq).alloc hzq _).grown hgrow (by simp; omega) (fun i hk => ((unhide HO).lt i hk).1))
            clear hO8 hgrow
            go_wp2
            go_roundw
            case rel => exact ⟨j + 1, by omega, by go_num, by rw [unhide H1s, ← unhide HDD, ← unhide HTD], by rw [unhide H2s, i64s, List.map_append]; exact unhide HO8, unhide HB8⟩
            case measure => simp [intOf]; omega
          · obtain rfl : j = j1 := by omega
            have hjk : j < k := hj1
            have c := ((hB.cell (p := ⟨b, o + j, none⟩) (by simp; omega)).trans ((unhide HBr).cell (p := ⟨b, o + j, none⟩) hb)).trans (unhide HR j (by rw [unhide HL]; exact hjk))
            obtain ⟨q0, q1⟩ := sizeB_true (unhide HF j (by rw [unhide HL]; exact hjk))
            have hsum := unhide HNO
            have hprev := prev_ok (unhide HOK)
            rw [sumL] at hsum
            have hLl : ((rowB xs l1).drop (sumL ss j)).length = 8 * l1 - sumL ss j := by rw [List.length_drop, unhide HRL]
            have HBf := hide ((unhide HBr).trans (hB.mono (unhide HBr).size))
            clear hO hB HF HR HNO
            generalize ss.getD j 0 = x at *
            obtain ⟨x, rfl⟩ := Int.eq_ofNat_of_zero_le q0
            simp only [Int.toNat_natCast] at hsum
            generalize (rowB xs l1).drop (sumL ss j) = L at *
            have hsz := text_size L
            have hxL : (L.length : Int) < (x : Int) := by omega
            clear hLl hsum hprev
            go_wp2
            go_ret
            exact ⟨rfl, unhide HBf⟩
end Go.Proofs.Ytmafecagcglaoaa
