/-
  What bits.Pack answers: the row of all numbers, one behind the other; or the first error.
-/
import Derived.Test.YtmafecagcglaoaaBits2
namespace Go.Proofs.Ytmafecagcglaoaa
open Go.RowKit
set_option linter.unusedVariables false

/-- pairs of numbers in memory -/
def Pairs (w : World) (b o : Nat) (ps : List (Int × Int)) : Prop :=
  ∀ j, j < ps.length → w.cell? ⟨b, o + j * 2, none⟩ = some (.int .i64 (ps.getD j (0, 0)).1) ∧ w.cell? ⟨b, o + j * 2 + 1, none⟩ = some (.int .i64 (ps.getD j (0, 0)).2)

/-- where the k-th number begins -/
def atL (ps : List (Int × Int)) : Nat → Nat
  | 0 => 0
  | k + 1 => atL ps k + (ps.getD k (0, 0)).2.toNat

/-- the row behind k numbers -/
def rowL (ps : List (Int × Int)) : Nat → List Nat
  | 0 => List.replicate ((atL ps ps.length + 7) / 8) 0
  | k + 1 => putL (rowL ps k) (atL ps k) (ps.getD k (0, 0)).1.toNat (ps.getD k (0, 0)).2.toNat

def AllFit (ps : List (Int × Int)) : Prop := ∀ j, j < ps.length → fitsB (ps.getD j (0, 0)).1 (ps.getD j (0, 0)).2 = true

theorem atL_mono (ps : List (Int × Int)) {j k : Nat} (h : j ≤ k) : atL ps j ≤ atL ps k := by
  induction h with
  | refl => exact Nat.le_refl _
  | step _ ih => exact Nat.le_trans ih (Nat.le_add_right _ _)
theorem atL_le (ps : List (Int × Int)) (h : AllFit ps) : ∀ k, k ≤ ps.length → atL ps k ≤ 16 * k
  | 0, _ => Nat.le_refl _
  | k + 1, hk => by
    have h1 := atL_le ps h k (by omega)
    have h2 := (fitsB_true (h k (by omega))).2.1
    rw [atL]
    omega
theorem rowL_length (ps : List (Int × Int)) : ∀ k, (rowL ps k).length = (atL ps ps.length + 7) / 8
  | 0 => by simp [rowL]
  | k + 1 => by rw [rowL, putL_length, rowL_length ps k]
theorem rowL_lt (ps : List (Int × Int)) : ∀ k j, (rowL ps k).getD j 0 < 256
  | 0, j => by
    rw [rowL, List.getD_eq_getElem?_getD, List.getElem?_replicate]
    split <;> simp
  | k + 1, j => putL_lt _ _ _ (rowL_lt ps k) _ j

set_option maxRecDepth 100000 in
set_option maxHeartbeats 1000000 in
theorem pack_yes (b o len cap : Nat) (ps : List (Int × Int)) (w : World) (hl : ps.length = len) (hm : len ≤ 3000) (hb : b < w.heap.size) (hP : Pairs w b o ps) (hf : AllFit ps) :
    Calls Try.prog 10 #[.slice (some ⟨b, o, none⟩) len cap] w fun e w' => ∃ g, e = .returned (.tuple #[.slice (some ⟨g, 0, none⟩) ((atL ps len + 7) / 8) ((atL ps len + 7) / 8), .int .i64 0]) ∧
      w'.ownsRow w.heap.size 5 1 (.slice (some ⟨g, 0, none⟩) ((atL ps len + 7) / 8) ((atL ps len + 7) / 8)) ((atL ps len + 7) / 8) (u8s (rowL ps len)) ∧ Below w.heap.size w w' ∧ w.heap.size ≤ g := by
  obtain ⟨i0, hi, hz0, hz1, hz2⟩ := info_parts info_u8
  go_enter Try.func10, Try.ntmps10
  go_wp2
  go_loopw [4, 16] (fun t i wr => ∃ k : Nat, k ≤ len ∧ i = .int .i64 k ∧ t = .int .i64 (atL ps k : Nat) ∧ Below w.heap.size w wr) (fun _ i _ => len - (intOf i).toNat)
  case atStart => exact ⟨0, Nat.zero_le _, rfl, rfl, Below.refl _ _⟩
  case round =>
    obtain ⟨k, hk, rfl, rfl, hB⟩ := hrel
    have ha := atL_le ps hf k (by omega)
    by_cases hlt : k < len
    · obtain ⟨c1, c2⟩ := hP k (by omega)
      have c1' := (hB.cell (p := ⟨b, o + k * 2, none⟩) hb).trans c1
      have c2' := (hB.cell (p := ⟨b, o + k * 2 + 1, none⟩) hb).trans c2
      have hfk := hf k (by omega)
      obtain ⟨hs0, hs1, hn0, hn1⟩ := fitsB_true hfk
      have H : Hid (atL ps (k + 1) = atL ps k + (ps.getD k (0, 0)).2.toNat) := rfl
      have HB := hide hB
      clear c1 c2 hf hn1 hP hB
      generalize atL ps k = t at *
      generalize ps.getD k (0, 0) = x at *
      obtain ⟨n, s⟩ := x
      simp only at *
      obtain ⟨s, rfl⟩ := Int.eq_ofNat_of_zero_le hs0
      rw [Int.toNat_natCast] at H
      go_wp2_with (go_at_call 33; refine (fits_any _ _ _).mono ?_; rintro e w' ⟨rfl, rfl⟩)
      go_roundw
      case rel => exact ⟨k + 1, by omega, by go_num, by rw [unhide H]; go_num, (unhide HB).alloc (unhide HB).size _⟩
      case measure => simp [intOf]; omega
    · obtain rfl : k = len := by omega
      have HB := hide hB
      have hBs := hB.size
      have hF := hide hf
      have HP := hide hP
      have hl1 := hide hl
      clear hB hf hP hk hlt
      go_wp2_with (at_make; refine wpList_make_full _ rfl _ _ 28 rfl w.heap.size 5 i0 (.int .u8 0) 1 Try.underlying28 hi hz0 hz1 _ _ _ _ ((atL ps k + 7) / 8) rfl rfl (quo8 _) (quo8 _) (by rw [hz2]; omega) (by unfold maxLen; omega) hBs ?_)
      intro w1 hown1 hgrow1
      have e0 : (madeCells #[Value.int .u8 0] ((atL ps k + 7) / 8)).toList = u8s (rowL ps 0) := by
        rw [rowL, hl, ← made_u8, Nat.mul_one]; rfl
      rw [e0] at hown1
      have HO := hide hown1
      have HB1 := hide ((unhide HB).grown hgrow1 hBs (fun j h => by cases h))
      have hg1 := (hown1.lt wr.heap.size rfl).2
      clear hown1 hgrow1 e0 hl HB
      generalize wr.heap.size = g at *
      go_wp2
      go_loopw [8, 37] (fun t i wq => ∃ j : Nat, j ≤ k ∧ i = .int .i64 j ∧ t = .int .i64 (atL ps j : Nat) ∧ g < wq.heap.size ∧ Below w.heap.size w wq ∧ wq.ownsRow w.heap.size 5 1 (.slice (some ⟨g, 0, none⟩) ((atL ps k + 7) / 8) ((atL ps k + 7) / 8)) ((atL ps k + 7) / 8) (u8s (rowL ps j))) (fun _ i _ => k - (intOf i).toNat)
      case atStart => exact ⟨0, Nat.zero_le _, rfl, rfl, hg1, unhide HB1, unhide HO⟩
      case round =>
        obtain ⟨j, hj, rfl, rfl, hgq, hB, hO⟩ := hrel
        have hBz := hB.size
        have ha2 := atL_le ps (unhide hF) j (by rw [unhide hl1]; exact hj)
        have HB2 := hide hB
        have HO2 := hide hO
        by_cases hlt : j < k
        · obtain ⟨c1, c2⟩ := (unhide HP) j (by rw [unhide hl1]; exact hlt)
          have c1' := (hB.cell (p := ⟨b, o + j * 2, none⟩) hb).trans c1
          have c2' := (hB.cell (p := ⟨b, o + j * 2 + 1, none⟩) hb).trans c2
          obtain ⟨hs0, hs1, hn0, hn1⟩ := fitsB_true ((unhide hF) j (by rw [unhide hl1]; exact hlt))
          have H : Hid (atL ps (j + 1) = atL ps j + (ps.getD j (0, 0)).2.toNat) := rfl
          have H3 := hide (atL_mono ps (j := j + 1) (k := k) (by omega))
          have H2 : Hid (rowL ps (j + 1) = putL (rowL ps j) (atL ps j) (ps.getD j (0, 0)).1.toNat (ps.getD j (0, 0)).2.toNat) := rfl
          have hlen := hide (rowL_length ps j)
          rw [unhide hl1] at hlen
          have hlt2 := hide (rowL_lt ps j)
          generalize ps.getD j (0, 0) = x at *
          obtain ⟨n, s⟩ := x
          simp only at *
          obtain ⟨s, rfl⟩ := Int.eq_ofNat_of_zero_le hs0
          obtain ⟨n, rfl⟩ := Int.eq_ofNat_of_zero_le hn0
          simp only [Int.toNat_natCast] at H H2 hn1
          have hn2 : n < 65536 := by
            have := pow_le_16 (k := s) (by omega)
            have h4 : ((n : Nat) : Int) < ((2 ^ s : Nat) : Int) := by push_cast; exact hn1
            omega
          clear c1 c2 hB hO hn1
          go_wp2_with (go_at_call 34; refine (put_any w.heap.size _ _ _ (rowL ps j) _ _ _ _ (unhide hlen) (unhide hlt2) (by omega) (by omega) hn2 (by have := unhide H3; rw [unhide H] at this; omega) ((unhide HO2).alloc _)).mono ?_; rintro e w2 ⟨rfl, hO3, hg3⟩; have hcc := hg3.cell (a := ⟨wr.heap.size, 1, none⟩) (v := .int .i64 s) (by simp) (by simp; omega); have hz3 := hg3.size; rw [World.size_alloc] at hz3)
          go_roundw
          case rel => exact ⟨j + 1, by omega, by go_num, by rw [unhide H]; go_num, by omega, ((unhide HB2).alloc hBz _).grown hg3 (by simp; omega) (fun i h => by cases h; exact hBs), by rw [unhide H2]; exact hO3⟩
          case measure => simp [intOf]; omega
        · obtain rfl : j = k := by omega
          go_wp2
          go_ret2
          exact ⟨g, rfl, unhide HO2, unhide HB2, hBs⟩

theorem pack_many (a : Option Addr) (len cap : Nat) (w : World) (hm : 3000 < len) (hM : len ≤ 9223372036854775807) :
    Calls Try.prog 10 #[.slice a len cap] w fun e w' => e = .returned (.tuple #[.slice none 0 0, .int .i64 2]) ∧ w' = w := by
  go_enter Try.func10, Try.ntmps10
  go_wp2
  go_ret2
  exact ⟨rfl, rfl⟩

theorem pack_none (a : Option Addr) (cap : Nat) (w : World) :
    Calls Try.prog 10 #[.slice a 0 cap] w fun e w' => ∃ g, e = .returned (.tuple #[.slice (some ⟨g, 0, none⟩) 0 0, .int .i64 0]) ∧
      w'.ownsRow w.heap.size 5 1 (.slice (some ⟨g, 0, none⟩) 0 0) 0 [] ∧ Below w.heap.size w w' ∧ w.heap.size ≤ g := by
  obtain ⟨i0, hi, hz0, hz1, hz2⟩ := info_parts info_u8
  go_enter Try.func10, Try.ntmps10
  go_wp2
  go_loop [4, 16] (fun t i => i = .int .i64 0 ∧ t = .int .i64 0) (fun _ i => 0)
  case atStart => exact ⟨rfl, rfl⟩
  case round =>
    obtain ⟨rfl, rfl⟩ := hrel
    go_wp2_with (at_make; refine wpList_make_full _ rfl _ _ 28 rfl w.heap.size 5 i0 (.int .u8 0) 1 Try.underlying28 hi hz0 hz1 _ _ _ _ 0 rfl rfl rfl rfl (by rw [hz2]; omega) (by unfold maxLen; omega) (Nat.le_refl _) ?_)
    intro w1 hown1 hgrow1
    have HO := hide hown1
    have HB := hide ((Below.refl w.heap.size w).grown hgrow1 (Nat.le_refl _) (fun j h => by cases h))
    clear hown1 hgrow1
    go_wp2
    go_loop [8, 37] (fun t i => i = .int .i64 0 ∧ t = .int .i64 0) (fun _ i => 0)
    case atStart => exact ⟨rfl, rfl⟩
    case round =>
      obtain ⟨rfl, rfl⟩ := hrel
      go_wp2
      go_ret2
      exact ⟨w.heap.size, rfl, by have := unhide HO; simpa [madeCells] using this, unhide HB, Nat.le_refl _⟩

set_option maxRecDepth 100000 in
set_option maxHeartbeats 1000000 in
theorem pack_bad (b o len cap : Nat) (ps : List (Int × Int)) (w : World) (hl : ps.length = len) (hm : len ≤ 3000) (hb : b < w.heap.size) (hP : Pairs w b o ps) (j0 : Nat) (hj0 : j0 < len) (hbad : fitsB (ps.getD j0 (0, 0)).1 (ps.getD j0 (0, 0)).2 = false) (hf : ∀ j, j < j0 → fitsB (ps.getD j (0, 0)).1 (ps.getD j (0, 0)).2 = true) :
    Calls Try.prog 10 #[.slice (some ⟨b, o, none⟩) len cap] w fun e w' => e = .returned (.tuple #[.slice none 0 0, .int .i64 3]) ∧ Below w.heap.size w w' := by
  go_enter Try.func10, Try.ntmps10
  go_wp2
  go_loopw [4, 16] (fun t i wr => ∃ k m : Nat, k ≤ j0 ∧ i = .int .i64 k ∧ t = .int .i64 m ∧ m ≤ 16 * k ∧ Below w.heap.size w wr) (fun _ i _ => len - (intOf i).toNat)
  case atStart => exact ⟨0, 0, Nat.zero_le _, rfl, rfl, Nat.le_refl _, Below.refl _ _⟩
  case round =>
    obtain ⟨k, m, hk, rfl, rfl, hmk, hB⟩ := hrel
    obtain ⟨c1, c2⟩ := hP k (by omega)
    have c1' := (hB.cell (p := ⟨b, o + k * 2, none⟩) hb).trans c1
    have c2' := (hB.cell (p := ⟨b, o + k * 2 + 1, none⟩) hb).trans c2
    have HB := hide hB
    have hkl : k < len := by omega
    by_cases hlt : k < j0
    · have hfk := hf k hlt
      obtain ⟨hs0, hs1, hn0, hn1⟩ := fitsB_true hfk
      clear c1 c2 hf hn1 hP hB hbad
      generalize ps.getD k (0, 0) = x at *
      obtain ⟨n, s⟩ := x
      simp only at *
      obtain ⟨s, rfl⟩ := Int.eq_ofNat_of_zero_le hs0
      go_wp2_with (go_at_call 33; refine (fits_any _ _ _).mono ?_; rintro e w' ⟨rfl, rfl⟩)
      go_roundw
      case rel => exact ⟨k + 1, m + s, by omega, by go_num, by go_num, by omega, (unhide HB).alloc (unhide HB).size _⟩
      case measure => simp [intOf]; omega
    · obtain rfl : k = j0 := by omega
      clear c1 c2 hf hP hB
      generalize ps.getD k (0, 0) = x at *
      obtain ⟨n, s⟩ := x
      simp only at *
      go_wp2_with (go_at_call 33; refine (fits_any _ _ _).mono ?_; rintro e w' ⟨rfl, rfl⟩)
      go_ret2
      exact ⟨rfl, (unhide HB).alloc (unhide HB).size _⟩
end Go.Proofs.Ytmafecagcglaoaa
