/-
  What bits.Unpack answers: the numbers of the sizes that it is given; or the first error.
-/
import Derived.Test.YtmafecagcglaoaaPack
namespace Go.Proofs.Ytmafecagcglaoaa
open Go.RowKit
set_option linter.unusedVariables false
set_option maxRecDepth 100000

theorem takeL_lt16 (xs : List Nat) (p : Nat) {k : Nat} (h : k ≤ 16) : takeL xs p k < 65536 := Nat.lt_of_lt_of_le (takeL_lt xs p k) (Nat.pow_le_pow_right (j := 16) (by decide) h)

theorem take_any (b o len cap : Nat) (xs : List Nat) (p s : Nat) (w : World) (hl : xs.length = len) (hx : ∀ j, xs.getD j 0 < 256) (hm : len ≤ 6000) (hs : s ≤ 16) (hat : p + s ≤ 8 * len) (hB : Bytes w b o xs) :
    Calls Try.prog 37 #[.slice (some ⟨b, o, none⟩) len cap, .int .i64 p, .int .i64 s] w fun e w' => e = .returned (.int .i64 (takeL xs p s : Nat)) ∧ w' = w := by
  go_enter Try.func37, Try.ntmps37
  go_wp2
  go_loop [7, 11] (fun t i => ∃ k : Nat, k ≤ s ∧ i = .int .i64 k ∧ t = .int .i64 (takeL xs p k : Nat)) (fun _ i => s - (intOf i).toNat)
  case atStart => exact ⟨0, Nat.zero_le _, rfl, rfl⟩
  case round =>
    obtain ⟨k, hk, rfl, rfl⟩ := hrel
    by_cases hlt : k < s
    · have hj : (p + k) / 8 < xs.length := by omega
      have c := hB _ hj
      have hx1 := hx ((p + k) / 8)
      have hmm := takeL_lt16 xs p (k := k) (by omega)
      have hst := take_step (takeL xs p k) (xs.getD ((p + k) / 8) 0) ((p + k) % 8) k hmm hx1 (by omega)
      have H : Hid (takeL xs p (k + 1) = takeL xs p k ||| xs.getD ((p + k) / 8) 0 / 2 ^ ((p + k) % 8) % 2 * 2 ^ k) := rfl
      have HS := hide hst
      clear hst hx
      generalize xs.getD ((p + k) / 8) 0 = x at *
      generalize takeL xs p k = m at *
      go_wp2
      go_round
      case rel => exact ⟨k + 1, by omega, by go_num, by rw [H.out, unhide HS]⟩
      case measure => simp [intOf]; omega
    · have e : k = s := by omega
      subst e
      go_wp2
      go_ret
      exact ⟨rfl, rfl⟩

theorem take_zero (v : Value) (p : Nat) (w : World) : Calls Try.prog 37 #[v, .int .i64 p, .int .i64 0] w fun e w' => e = .returned (.int .i64 0) ∧ w' = w := by
  go_enter Try.func37, Try.ntmps37
  go_wp2
  go_loop [7, 11] (fun t i => i = .int .i64 0 ∧ t = .int .i64 0) (fun _ i => 0)
  case atStart => exact ⟨rfl, rfl⟩
  case round =>
    obtain ⟨rfl, rfl⟩ := hrel
    go_wp2
    go_ret
    exact ⟨rfl, rfl⟩
theorem take_in (a : Option Addr) (len cap : Nat) (xs : List Nat) (p s : Nat) (w : World) (hl : xs.length = len) (hx : ∀ j, xs.getD j 0 < 256) (hm : len ≤ 6000) (hs : s ≤ 16) (hat : p + s ≤ 8 * len) (hB : BytesIn w a xs) :
    Calls Try.prog 37 #[.slice a len cap, .int .i64 p, .int .i64 s] w fun e w' => e = .returned (.int .i64 (takeL xs p s : Nat)) ∧ w' = w := by
  rcases hB with rfl | ⟨b, o, rfl, _, hB⟩
  · have : s = 0 := by simp at hl; omega
    subst this
    exact take_zero _ _ _
  · exact take_any b o len cap xs p s w hl hx hm hs hat hB

/-- where the k-th number begins -/
def sumL (ss : List Int) : Nat → Nat
  | 0 => 0
  | k + 1 => sumL ss k + (ss.getD k 0).toNat
def AllSize (ss : List Int) : Prop := ∀ j, j < ss.length → sizeB (ss.getD j 0) = true
theorem sumL_mono (ss : List Int) {j k : Nat} (h : j ≤ k) : sumL ss j ≤ sumL ss k := by
  induction h with
  | refl => exact Nat.le_refl _
  | step _ ih => exact Nat.le_trans ih (Nat.le_add_right _ _)
theorem sumL_le (ss : List Int) (n : Nat) (h : ∀ j, j < n → sizeB (ss.getD j 0) = true) : ∀ k, k ≤ n → sumL ss k ≤ 16 * k
  | 0, _ => Nat.le_refl _
  | k + 1, hk => by
    have h1 := sumL_le ss n h k (by omega)
    have h2 := (sizeB_true (h k (by omega))).2
    rw [sumL]
    omega

/-- the numbers behind k of them were read -/
def numL (xs : List Nat) (ss : List Int) : Nat → List Nat
  | 0 => List.replicate ss.length 0
  | k + 1 => (numL xs ss k).set k (takeL xs (sumL ss k) (ss.getD k 0).toNat)
theorem numL_length (xs : List Nat) (ss : List Int) : ∀ k, (numL xs ss k).length = ss.length
  | 0 => by simp [numL]
  | k + 1 => by rw [numL, List.length_set, numL_length xs ss k]
theorem numL_at (xs : List Nat) (ss : List Int) : ∀ k j, j < k → j < ss.length → (numL xs ss k).getD j 0 = takeL xs (sumL ss j) (ss.getD j 0).toNat
  | 0, j, h, _ => by omega
  | k + 1, j, h, hj => by
    rw [numL, getD_set, numL_length]
    by_cases e : k = j
    · subst e
      rw [if_pos ⟨rfl, hj⟩]
    · rw [if_neg (fun h => e h.1)]
      exact numL_at xs ss k j (by omega) hj

theorem unpack_many (a1 a2 : Option Addr) (l1 c1 l2 c2 : Nat) (w : World) (h : 6000 < l1 ∨ 3000 < l2) (h1 : l1 ≤ 9223372036854775807) (h2 : l2 ≤ 9223372036854775807) :
    Calls Try.prog 17 #[.slice a1 l1 c1, .slice a2 l2 c2] w fun e w' => e = .returned (.tuple #[.slice none 0 0, .int .i64 2]) ∧ w' = w := by
  by_cases hc : 6000 < l1
  · go_enter Try.func17, Try.ntmps17
    go_wp2
    go_ret2
    exact ⟨rfl, rfl⟩
  · have hd : 3000 < l2 := by omega
    clear h
    go_enter Try.func17, Try.ntmps17
    go_wp2
    go_ret2
    exact ⟨rfl, rfl⟩

set_option maxHeartbeats 1000000 in
theorem unpack_bad (a1 : Option Addr) (l1 c1 b o len cap : Nat) (ss : List Int) (w : World) (h1 : l1 ≤ 6000) (hl : ss.length = len) (hm : len ≤ 3000) (hR : Row .i64 w b o ss) (j0 : Nat) (hj0 : j0 < len) (hbad : sizeB (ss.getD j0 0) = false) (hf : ∀ j, j < j0 → sizeB (ss.getD j 0) = true) :
    Calls Try.prog 17 #[.slice a1 l1 c1, .slice (some ⟨b, o, none⟩) len cap] w fun e w' => e = .returned (.tuple #[.slice none 0 0, .int .i64 3]) ∧ w' = w := by
  go_enter Try.func17, Try.ntmps17
  go_wp2
  go_loop [6, 23] (fun t i => ∃ k m : Nat, k ≤ j0 ∧ i = .int .i64 k ∧ t = .int .i64 m ∧ m ≤ 16 * k) (fun _ i => len - (intOf i).toNat)
  case atStart => exact ⟨0, 0, Nat.zero_le _, rfl, rfl, Nat.le_refl _⟩
  case round =>
    obtain ⟨k, m, hk, rfl, rfl, hmk⟩ := hrel
    have c := hR k (by omega)
    have hkl : k < len := by omega
    by_cases hlt : k < j0
    · have hfk := hf k hlt
      obtain ⟨hs0, hs1⟩ := sizeB_true hfk
      clear hf hR hbad
      generalize ss.getD k 0 = s at *
      obtain ⟨s, rfl⟩ := Int.eq_ofNat_of_zero_le hs0
      go_wp2_with (go_at_call 36; refine (isSize_any _ _).mono ?_; rintro e w' ⟨rfl, rfl⟩)
      go_round
      case rel => exact ⟨k + 1, m + s, by omega, by go_num, by go_num, by omega⟩
      case measure => simp [intOf]; omega
    · obtain rfl : k = j0 := by omega
      clear hf hR
      generalize ss.getD k 0 = s at *
      go_wp2_with (go_at_call 36; refine (isSize_any _ _).mono ?_; rintro e w' ⟨rfl, rfl⟩)
      go_ret2
      exact ⟨rfl, rfl⟩

set_option maxHeartbeats 1000000 in
theorem unpack_torn (a1 : Option Addr) (l1 c1 b o len cap : Nat) (ss : List Int) (w : World) (h1 : l1 ≤ 6000) (hl : ss.length = len) (hm : len ≤ 3000) (hR : Row .i64 w b o ss) (hf : AllSize ss) (ht : 8 * l1 < sumL ss len) :
    Calls Try.prog 17 #[.slice a1 l1 c1, .slice (some ⟨b, o, none⟩) len cap] w fun e w' => e = .returned (.tuple #[.slice none 0 0, .int .i64 7]) ∧ w' = w := by
  go_enter Try.func17, Try.ntmps17
  go_wp2
  go_loop [6, 23] (fun t i => ∃ k : Nat, k ≤ len ∧ i = .int .i64 k ∧ t = .int .i64 (sumL ss k : Nat)) (fun _ i => len - (intOf i).toNat)
  case atStart => exact ⟨0, Nat.zero_le _, rfl, rfl⟩
  case round =>
    obtain ⟨k, hk, rfl, rfl⟩ := hrel
    have hmk := sumL_le ss ss.length hf k (by omega)
    by_cases hlt : k < len
    · have c := hR k (by omega)
      have hfk := hf k (by omega)
      obtain ⟨hs0, hs1⟩ := sizeB_true hfk
      have H : Hid (sumL ss (k + 1) = sumL ss k + (ss.getD k 0).toNat) := rfl
      clear hf hR ht
      generalize ss.getD k 0 = s at *
      generalize sumL ss k = t at *
      obtain ⟨s, rfl⟩ := Int.eq_ofNat_of_zero_le hs0
      rw [Int.toNat_natCast] at H
      go_wp2_with (go_at_call 36; refine (isSize_any _ _).mono ?_; rintro e w' ⟨rfl, rfl⟩)
      go_round
      case rel => exact ⟨k + 1, by omega, by go_num, by rw [unhide H]; go_num⟩
      case measure => simp [intOf]; omega
    · obtain rfl : k = len := by omega
      clear hf hR
      go_wp2
      go_ret2
      exact ⟨rfl, rfl⟩

theorem unpack_none (a1 a2 : Option Addr) (l1 c1 cap : Nat) (w : World) (h1 : l1 ≤ 6000) :
    Calls Try.prog 17 #[.slice a1 l1 c1, .slice a2 0 cap] w fun e w' => ∃ g, e = .returned (.tuple #[.slice (some ⟨g, 0, none⟩) 0 0, .int .i64 0]) ∧
      w'.ownsRow w.heap.size 3 1 (.slice (some ⟨g, 0, none⟩) 0 0) 0 [] ∧ Below w.heap.size w w' ∧ w.heap.size ≤ g := by
  obtain ⟨i0, hi, hz0, hz1, hz2⟩ := info_parts info_int
  go_enter Try.func17, Try.ntmps17
  go_wp2
  go_loop [6, 23] (fun t i => i = .int .i64 0 ∧ t = .int .i64 0) (fun _ i => 0)
  case atStart => exact ⟨rfl, rfl⟩
  case round =>
    obtain ⟨rfl, rfl⟩ := hrel
    go_wp2_with (at_make; refine wpList_make_full _ rfl _ _ 24 rfl w.heap.size 3 i0 (.int .i64 0) 1 Try.underlying24 hi hz0 hz1 _ _ _ _ 0 rfl rfl rfl rfl (by rw [hz2]; omega) (by unfold maxLen; omega) (Nat.le_refl _) ?_)
    intro w1 hown1 hgrow1
    have HO := hide hown1
    have HB := hide ((Below.refl w.heap.size w).grown hgrow1 (Nat.le_refl _) (fun j h => by cases h))
    clear hown1 hgrow1
    go_wp2
    go_loop [10, 44] (fun t i => i = .int .i64 0 ∧ t = .int .i64 0) (fun _ i => 0)
    case atStart => exact ⟨rfl, rfl⟩
    case round =>
      obtain ⟨rfl, rfl⟩ := hrel
      go_wp2
      go_ret2
      exact ⟨w.heap.size, rfl, by have := unhide HO; simpa [madeCells] using this, unhide HB, Nat.le_refl _⟩

set_option maxHeartbeats 1000000 in
theorem unpack_yes (a1 : Option Addr) (l1 c1 b o len cap : Nat) (xs : List Nat) (ss : List Int) (w : World) (h1 : l1 ≤ 6000) (hxl : xs.length = l1) (hx : ∀ j, xs.getD j 0 < 256) (hX : BytesIn w a1 xs)
    (hl : ss.length = len) (hm : len ≤ 3000) (hb : b < w.heap.size) (hR : Row .i64 w b o ss) (hf : AllSize ss) (ht : sumL ss len ≤ 8 * l1) :
    Calls Try.prog 17 #[.slice a1 l1 c1, .slice (some ⟨b, o, none⟩) len cap] w fun e w' => ∃ g, e = .returned (.tuple #[.slice (some ⟨g, 0, none⟩) len len, .int .i64 0]) ∧
      w'.ownsRow w.heap.size 3 1 (.slice (some ⟨g, 0, none⟩) len len) len (i64s (numL xs ss len)) ∧ Below w.heap.size w w' ∧ w.heap.size ≤ g := by
  obtain ⟨i0, hi, hz0, hz1, hz2⟩ := info_parts info_int
  go_enter Try.func17, Try.ntmps17
  go_wp2
  go_loop [6, 23] (fun t i => ∃ k : Nat, k ≤ len ∧ i = .int .i64 k ∧ t = .int .i64 (sumL ss k : Nat)) (fun _ i => len - (intOf i).toNat)
  case atStart => exact ⟨0, Nat.zero_le _, rfl, rfl⟩
  case round =>
    obtain ⟨k, hk, rfl, rfl⟩ := hrel
    have hmk := sumL_le ss ss.length hf k (by omega)
    by_cases hlt : k < len
    · have c := hR k (by omega)
      have hfk := hf k (by omega)
      obtain ⟨hs0, hs1⟩ := sizeB_true hfk
      have H : Hid (sumL ss (k + 1) = sumL ss k + (ss.getD k 0).toNat) := rfl
      clear hf hR ht hX
      generalize ss.getD k 0 = s at *
      generalize sumL ss k = t at *
      obtain ⟨s, rfl⟩ := Int.eq_ofNat_of_zero_le hs0
      rw [Int.toNat_natCast] at H
      go_wp2_with (go_at_call 36; refine (isSize_any _ _).mono ?_; rintro e w' ⟨rfl, rfl⟩)
      go_round
      case rel => exact ⟨k + 1, by omega, by go_num, by rw [unhide H]; go_num⟩
      case measure => simp [intOf]; omega
    · obtain rfl : k = len := by omega
      have HF := hide hf
      have HR := hide hR
      have HX := hide hX
      have HXL := hide hxl
      have HL := hide hl
      have Hx := hide hx
      clear hf hR hX hxl hk hlt hx
      go_wp2_with (at_make; refine wpList_make_full _ rfl _ _ 24 rfl w.heap.size 3 i0 (.int .i64 0) 1 Try.underlying24 hi hz0 hz1 _ _ _ _ k rfl rfl rfl rfl (by rw [hz2]; omega) (by unfold maxLen; omega) (Nat.le_refl _) ?_)
      intro w1 hown1 hgrow1
      have e0 : (madeCells #[Value.int .i64 0] k).toList = i64s (numL xs ss 0) := by
        rw [numL, hl]; exact made_i64 k
      rw [e0] at hown1
      have HO := hide hown1
      have hB := (Below.refl w.heap.size w).grown hgrow1 (Nat.le_refl _) (fun j h => by cases h)
      have HB := hide hB
      have hg1 := (hown1.lt w.heap.size rfl).2
      clear hown1 hgrow1 e0 hl hB
      go_wp2
      go_loopw [10, 44] (fun t i wq => ∃ j : Nat, j ≤ k ∧ i = .int .i64 j ∧ t = .int .i64 (sumL ss j : Nat) ∧ Below w.heap.size w wq ∧ wq.ownsRow w.heap.size 3 1 (.slice (some ⟨w.heap.size, 0, none⟩) k k) k (i64s (numL xs ss j))) (fun _ i _ => k - (intOf i).toNat)
      case atStart => exact ⟨0, Nat.zero_le _, rfl, rfl, unhide HB, unhide HO⟩
      case round =>
        obtain ⟨j, hj, rfl, rfl, hB, hO⟩ := hrel
        have ha2 := sumL_le ss ss.length (unhide HF) j (by rw [unhide HL]; exact hj)
        have HB2 := hide hB
        have HO2 := hide hO
        have hBz := hB.size
        by_cases hlt : j < k
        · have c := (hB.cell (p := ⟨b, o + j, none⟩) hb).trans (unhide HR j (by rw [unhide HL]; exact hlt))
          obtain ⟨hs0, hs1⟩ := sizeB_true ((unhide HF) j (by rw [unhide HL]; exact hlt))
          have H : Hid (sumL ss (j + 1) = sumL ss j + (ss.getD j 0).toNat) := rfl
          have H3 := hide (sumL_mono ss (j := j + 1) (k := k) (by omega))
          have H2 : Hid (numL xs ss (j + 1) = (numL xs ss j).set j (takeL xs (sumL ss j) (ss.getD j 0).toNat)) := rfl
          have hcell : ∃ v, wr.cell? ⟨w.heap.size, j, none⟩ = some v := by
            rw [hO.cellAt j (by omega)]
            exact ⟨_, List.getElem?_eq_getElem (by simp [numL_length, unhide HL, hlt])⟩
          obtain ⟨v0, hv0⟩ := hcell
          have hfr := hO.frozenAt j
          have hXq := hide ((unhide HX).below hB (Nat.le_refl _))
          generalize ss.getD j 0 = s at *
          obtain ⟨s, rfl⟩ := Int.eq_ofNat_of_zero_le hs0
          simp only [Int.toNat_natCast] at H H2
          clear hB hO
          go_wp2_with (go_at_call 37; refine (take_in _ _ _ xs _ _ _ (unhide HXL) (unhide Hx) h1 (by omega) (by have := unhide H3; rw [unhide H] at this; omega) (unhide hXq)).mono ?_; rintro e w2 ⟨rfl, rfl⟩)
          have hst := (unhide HO2).stored j (.int .i64 (takeL xs (sumL ss j) s : Nat))
          go_roundw
          case rel => exact ⟨j + 1, by omega, by go_num, by rw [unhide H]; go_num, (unhide HB2).setCell (by exact Nat.le_refl _) _, by rw [unhide H2, i64s, List.map_set]; exact hst.1⟩
          case measure => simp [intOf]; omega
        · obtain rfl : j = k := by omega
          go_wp2
          go_ret2
          exact ⟨w.heap.size, rfl, unhide HO2, unhide HB2, Nat.le_refl _⟩
end Go.Proofs.Ytmafecagcglaoaa
