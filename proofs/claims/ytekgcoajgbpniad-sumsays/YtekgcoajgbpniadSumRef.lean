/-
  The document's own sums: CRCOf, AdlerOf.
-/
import Derived.Test.YtekgcoajgbpniadSum2
namespace Go.Proofs.Ytekgcoajgbpniad
open Go.RowKit
set_option linter.unusedVariables false
set_option maxRecDepth 100000

/-- behind k bits of the byte x -/
def crcB (c x k : Nat) : Nat := lfts k (c ^^^ x % 2 ^ k)
theorem crcB_zero (c x : Nat) : crcB c x 0 = c := by simp [crcB, lfts, Nat.mod_one]
theorem crcB_next (c x k : Nat) : crcB c x (k + 1) = lft (crcB c x k ^^^ x / 2 ^ k % 2) := lfts_bits c x k
theorem crcB_all {c x : Nat} (hx : x < 256) : crcB c x 8 = crcS c x := by
  unfold crcB crcS
  rw [Nat.mod_eq_of_lt (by simpa using hx)]
theorem crcB_lt {c x : Nat} (k : Nat) (hc : c < 4294967296) (hx : x < 256) : crcB c x k < 4294967296 := by
  unfold crcB
  refine lfts_lt k (Nat.xor_lt_two_pow (n := 32) hc ?_)
  have := Nat.mod_le x (2 ^ k)
  omega

theorem bitU {m x j : Nat} (hm : m < 4294967296) (hx : x < 256) (hj : j < 8) : bits .xor .u32 (bits .and .u32 (m : Int) 1) (bits .and .u8 ((x : Int) / 2 ^ j) 1 % 4294967296) = (((m % 2 ^^^ x / 2 ^ j % 2) : Nat) : Int) := by
  have h1 : bits .and .u8 ((x / 2 ^ j : Nat) : Int) ((1 : Nat) : Int) = ((x / 2 ^ j &&& 1 : Nat) : Int) := u8_and_nat _ _ (Nat.lt_of_le_of_lt (Nat.div_le_self _ _) hx) (by decide)
  rw [Nat.and_one_is_mod] at h1
  have e : ((x / 2 ^ j : Nat) : Int) = (x : Int) / 2 ^ j := by push_cast; rfl
  rw [e] at h1
  rw [and1 hm, show (1 : Int) = ((1 : Nat) : Int) from rfl, h1, show (((x / 2 ^ j % 2 : Nat) : Int)) % 4294967296 = ((x / 2 ^ j % 2 : Nat) : Int) by omega]
  exact u32_xor_nat _ _ (by omega) (by omega)

theorem crcOf_any (p : Nat) (a : Option Addr) (n cap : Nat) (bs : List Nat) (w : World) (hl : bs.length = n) (hn : n ≤ 12000) (hp : p < 4294967296) (hby : BytesIn w a bs) (hv : ∀ j, bs.getD j 0 < 256) :
    Calls Try.prog 9 #[.int .u32 (p : Int), .slice a n cap] w fun e w' => e = .returned (.int .u32 (crcN p bs : Nat)) ∧ w' = w := by
  have HBY := hide hby
  have HV := hide hv
  have HL := hide hl
  clear hby hv hl
  go_enter Try.func9, Try.ntmps9
  go_wp2
  rw [notU hp]
  go_loop [5, 14] (fun r i => ∃ k : Nat, k ≤ n ∧ i = .int .i64 (k : Int) ∧ r = .int .u32 (crcR (p ^^^ 4294967295) (bs.take k) : Nat)) (fun _ i => n - (intOf i).toNat)
  case atStart => exact ⟨0, by omega, rfl, rfl⟩
  case round =>
    obtain ⟨k, hk, rfl, rfl⟩ := hrel
    have hr : crcR (p ^^^ 4294967295) (bs.take k) < 4294967296 := crcR_lt _ _ (fun y hy => by
        obtain ⟨i, hi, rfl⟩ := List.getElem_of_mem hy
        have := unhide HV i
        rw [List.length_take] at hi
        rw [List.getElem_take]
        rw [List.getD, List.getElem?_eq_getElem (by omega)] at this
        exact this) (not_lt hp)
    by_cases hlt : k < n
    · have hkl : k < bs.length := by rw [unhide HL]; exact hlt
      obtain ⟨b, o, rfl, hb, hc⟩ := bytes_at (unhide HBY) hkl
      have hx := unhide HV k
      have HC : Hid (crcR (p ^^^ 4294967295) (bs.take (k + 1)) = crcS (crcR (p ^^^ 4294967295) (bs.take k)) (bs.getD k 0)) := hide (by rw [take_next hkl, crcR_snoc])
      generalize crcR (p ^^^ 4294967295) (bs.take k) = r at *
      generalize bs.getD k 0 = x at *
      clear hkl
      go_wp2
      go_loop [5, 18] (fun r1 i => ∃ j : Nat, j ≤ 8 ∧ i = .int .i64 (j : Int) ∧ r1 = .int .u32 (crcB r x j : Nat)) (fun _ i => 8 - (intOf i).toNat)
      case atStart => exact ⟨0, by omega, rfl, by rw [crcB_zero]⟩
      case round =>
        obtain ⟨j, hj, rfl, rfl⟩ := hrel
        by_cases hjl : j < 8
        · have HN := hide (crcB_next r x j)
          have hm := crcB_lt j hr hx
          generalize crcB r x j = m at *
          by_cases hodd : (m % 2 ^^^ x / 2 ^ j % 2) = 1
          · have h1 : (bits .xor .u32 (bits .and .u32 (m : Int) 1) (bits .and .u8 ((x : Int) / 2 ^ j) 1 % 4294967296) == 1) = true := by rw [bitU hm hx hjl, hodd]; rfl
            have HL1 : Hid (lft (m ^^^ x / 2 ^ j % 2) = m / 2 ^^^ 3988292384) := hide (by rw [lft_low _ _ (Nat.mod_lt _ (by decide)), if_pos hodd])
            have HX := hide (xorP hm)
            clear hodd
            go_wp2
            go_round
            case rel => exact ⟨j + 1, by omega, by go_num, by rw [unhide HN, unhide HL1, unhide HX]⟩
            case measure => simp [intOf]; omega
          · have h1 := bitU hm hx hjl
            have h2 : ((((m % 2 ^^^ x / 2 ^ j % 2) : Nat) : Int) == 1) = false := by rw [beq_eq_false_iff_ne]; omega
            rw [← h1] at h2
            have HL1 : Hid (lft (m ^^^ x / 2 ^ j % 2) = m / 2) := hide (by rw [lft_low _ _ (Nat.mod_lt _ (by decide)), if_neg hodd])
            clear hodd h1
            go_wp2
            go_round
            case rel => exact ⟨j + 1, by omega, by go_num, by rw [unhide HN, unhide HL1]; rfl⟩
            case measure => simp [intOf]; omega
        · obtain rfl : j = 8 := by omega
          go_wp2
          go_round
          case rel => exact ⟨k + 1, by omega, by go_num, by rw [unhide HC, crcB_all hx]⟩
          case measure => simp [intOf]; omega
    · have e : k = n := by omega
      subst e
      have HE : Hid (crcR (p ^^^ 4294967295) (bs.take k) ^^^ 4294967295 = crcN p bs) := hide (by rw [List.take_of_length_le (by rw [unhide HL]; exact Nat.le_refl _)]; rfl)
      have HNN := hide (notU hr)
      clear hr
      go_wp2
      go_ret
      exact ⟨by rw [unhide HNN, unhide HE]; rfl, rfl⟩
theorem adlerOf_any (a : Option Addr) (n cap : Nat) (bs : List Nat) (w : World) (hl : bs.length = n) (hn : n ≤ 12000) (hby : BytesIn w a bs) (hv : ∀ j, bs.getD j 0 < 256) :
    Calls Try.prog 10 #[.slice a n cap] w fun e w' => e = .returned (.int .u32 (adlN bs : Nat)) ∧ w' = w := by
  have HBY := hide hby
  have HV := hide hv
  have HL := hide hl
  clear hby hv hl
  have hsm : ∀ k, k ≤ n → (adlW (1, 0) (bs.take k)).1 ≤ 1 + 255 * 12000 ∧ (adlW (1, 0) (bs.take k)).2 ≤ 12000 * (1 + 255 * 12000) := by
    intro k hk
    have h := adlW_le (bs.take k) (1, 0) (fun y hy => by
        obtain ⟨i, hi, rfl⟩ := List.getElem_of_mem hy
        have := unhide HV i
        rw [List.length_take] at hi
        rw [List.getElem_take]
        rw [List.getD, List.getElem?_eq_getElem (by omega)] at this
        exact this)
    have hle : (bs.take k).length ≤ 12000 := by rw [List.length_take]; omega
    have h2 : (bs.take k).length * (1 + 255 * (bs.take k).length) ≤ 12000 * (1 + 255 * 12000) := Nat.mul_le_mul hle (by omega)
    simp only at h
    omega
  have HS := hide hsm
  clear hsm
  go_enter Try.func10, Try.ntmps10
  go_wp2
  go_loop [3, 4, 9] (fun r s i => ∃ k : Nat, k ≤ n ∧ i = .int .i64 (k : Int) ∧ r = .int .i64 ((adlW (1, 0) (bs.take k)).1 : Nat) ∧ s = .int .i64 ((adlW (1, 0) (bs.take k)).2 : Nat)) (fun _ _ i => n - (intOf i).toNat)
  case atStart => exact ⟨0, by omega, rfl, rfl, rfl⟩
  case round =>
    obtain ⟨k, hk, rfl, rfl, rfl⟩ := hrel
    obtain ⟨hs1, hs2⟩ := unhide HS k hk
    by_cases hlt : k < n
    · have hkl : k < bs.length := by rw [unhide HL]; exact hlt
      obtain ⟨b, o, rfl, hb, hc⟩ := bytes_at (unhide HBY) hkl
      have hx := unhide HV k
      have HC : Hid (adlW (1, 0) (bs.take (k + 1)) = _) := hide (by rw [take_next hkl, adlW_snoc])
      generalize adlW (1, 0) (bs.take k) = s at *
      obtain ⟨s1, s2⟩ := s
      generalize bs.getD k 0 = x at *
      simp only at *
      clear hkl
      go_wp2
      go_round
      case rel => exact ⟨k + 1, by omega, by go_num, by rw [unhide HC]; go_num, by rw [unhide HC]; go_num⟩
      case measure => simp [intOf]; omega
    · have e : k = n := by omega
      subst e
      have HE : Hid ((adlW (1, 0) (bs.take k)).2 % 65521 * 65536 + (adlW (1, 0) (bs.take k)).1 % 65521 = adlN bs) := hide (by rw [List.take_of_length_le (by rw [unhide HL]; exact Nat.le_refl _)]; exact adlN_whole bs)
      generalize adlW (1, 0) (bs.take k) = s at *
      obtain ⟨s1, s2⟩ := s
      simp only at *
      go_wp2
      go_ret
      exact ⟨by rw [← unhide HE]; rfl, rfl⟩
end Go.Proofs.Ytekgcoajgbpniad
