/-
  The library's stable sort of places: blocks of twenty by insertion, then merged, two and two.
-/
import Derived.Test.YtoiioemkibfdcacCmp4
namespace Go.Proofs.Ytoiioemkibfdcac
open Go.RowKit
set_option linter.unusedVariables false

set_option maxHeartbeats 4000000 in
set_option maxRecDepth 100000 in
theorem stableC (N bp cap bx bl ol ln lc : Nat) (l : List Int) (d : Nat → Int × Int) (w : World) (hN : N ≤ 288) (hX : Cx bp bx bl ol ln lc l w) (hP : PC N bp l d w) (hr : Rise d 0 N) :
    Calls Try.prog 155 #[.slice (some ⟨bp, 0, none⟩) N cap, .int .i64 N, CF bx] w fun e w' => e = .returned (.tuple #[]) ∧ ∃ d', PC N bp l d' w' ∧ Stab.Moved 0 N d d' ∧ Stab.Srt Stab.lx d' 0 N ∧ w.grownBy w' (some bp) := by
  have S0 : Hid (CSt N bp bx bl ol ln lc l w w d) := ⟨hP, grown_refl _ _, hX⟩
  have HR := hide hr
  have HC0 : Hid (Part d d N 20 0) := ⟨fun s h => by omega, fun _ _ => rfl, fun s i j hi hj hn => hr i j (Nat.zero_le _) (by omega) hn⟩
  have HMG := hide (mergeC_any N bp cap bx bl ol ln lc l hN N)
  clear hP hX hr
  go_enter Try.func155, Try.ntmps155
  go_wp2
  go_loopw [7, 8] (fun va vb wr => ∃ (t α : Nat) (dk : Nat → Int × Int), Hid (α = t * 20) ∧ α ≤ N ∧ va = .int .i64 α ∧ vb = .int .i64 ((α : Int) + 20) ∧ CSt N bp bx bl ol ln lc l w wr dk ∧ Stab.Moved 0 N d dk ∧ Part dk d N 20 t) (fun va _ _ => N + 1 - (intOf va).toNat)
  case atStart => exact ⟨0, 0, d, hide rfl, Nat.zero_le _, rfl, rfl, unhide S0, Stab.Moved.refl _ _ _, unhide HC0⟩
  case round =>
    obtain ⟨t, α, dk, hα, hαN, rfl, rfl, hS, hM, hPt⟩ := hrel
    have HS := hide hS
    have HM := hide hM
    have HPt := hide hPt
    have HRi : Hid (∀ e, e ≤ N → Rise dk α e) := fun e he i j h1 h2 h3 => by
      rw [unhide hα] at h1
      rw [hPt.rest i h1, hPt.rest j (by omega)]
      exact unhide HR i j (Nat.zero_le _) h2 (by omega)
    clear hS hM hPt S0 HC0
    by_cases hlt : α + 20 ≤ N
    · have hltI : (α : Int) + 20 ≤ (N : Int) := by omega
      have E : Hid ((α : Int) + 20 = ((α + 20 : Nat) : Int)) := by unfold Hid; omega
      go_wp2_with fail
      rw [unhide E]
      refine (insertionC N bp cap bx bl ol ln lc l dk α (α + 20) _ hN (by omega) hlt (unhide HS).cx (unhide HS).ps (unhide HRi (α + 20) hlt)).mono ?_
      rintro e w2 ⟨rfl, d', p2, m2, s2, g2⟩
      have HS2 := hide ((unhide HS).next p2 g2)
      have HM2 := hide ((unhide HM).trans (m2.wider (Nat.zero_le _) (by omega) hlt))
      have HP2 : Hid (Part d' d N 20 (t + 1)) := by
        have ha := unhide hα
        rw [ha] at m2 s2 hlt
        exact (unhide HPt).step hlt m2 s2
      have hα2 : Hid (α + 20 = (t + 1) * 20) := by have := unhide hα; unfold Hid; omega
      clear p2 m2 s2 g2
      go_wp2
      go_roundw
      case rel => exact ⟨t + 1, α + 20, d', hα2, hlt, rfl, by go_num, unhide HS2, unhide HM2, unhide HP2⟩
      case measure => simp [intOf]; omega
    · have hltI : ¬ (α : Int) + 20 ≤ (N : Int) := by omega
      go_wp2_with fail
      refine (insertionC N bp cap bx bl ol ln lc l dk α N _ hN hαN (Nat.le_refl _) (unhide HS).cx (unhide HS).ps (unhide HRi N (Nat.le_refl _))).mono ?_
      rintro e w2 ⟨rfl, d', p2, m2, s2, g2⟩
      have HS2 := hide ((unhide HS).next p2 g2)
      have HM2 := hide ((unhide HM).trans (m2.wider (Nat.zero_le _) hαN (Nat.le_refl _)))
      have HB2 : Hid (Blocks d' N 20 ∧ Cuts d' N 20) := by
        have ha := unhide hα
        rw [ha] at m2 s2
        exact (unhide HPt).last (by omega) (by omega) m2 s2
      clear p2 m2 s2 g2 HS HM HPt HRi hα hαN hlt hltI
      go_wp2
      go_loopw [6, 7, 8, 9] (fun vB _ _ _ wr => ∃ (B : Nat) (dB : Nat → Int × Int), 0 < B ∧ B ≤ 1000 ∧ vB = .int .i64 B ∧ CSt N bp bx bl ol ln lc l w wr dB ∧ Stab.Moved 0 N d dB ∧ Blocks dB N B ∧ Cuts dB N B) (fun vB _ _ _ _ => N - (intOf vB).toNat)
      case atStart => exact ⟨20, d', by omega, by omega, rfl, unhide HS2, unhide HM2, (unhide HB2).1, (unhide HB2).2⟩
      case round =>
        obtain ⟨B, dB, hB0, hB1, rfl, hS, hM, hbl, hcu⟩ := hrel
        have HS := hide hS
        have HM := hide hM
        have HBl := hide hbl
        have HCu := hide hcu
        have HP0 : Hid (Part dB dB N (2 * B) 0) := ⟨fun s h => by omega, fun _ _ => rfl, hcu.double⟩
        clear hS hM hbl hcu HS2 HM2 HB2
        by_cases hBN : B < N
        · go_wp2
          go_loopw [7, 8] (fun va vb wr => ∃ (t α : Nat) (dk : Nat → Int × Int), Hid (α = t * (2 * B)) ∧ α ≤ N ∧ va = .int .i64 α ∧ vb = .int .i64 ((α : Int) + 2 * (B : Int)) ∧ CSt N bp bx bl ol ln lc l w wr dk ∧ Stab.Moved 0 N d dk ∧ Part dk dB N (2 * B) t) (fun va _ _ => N + 1 - (intOf va).toNat)
          case atStart => exact ⟨0, 0, dB, hide (Nat.zero_mul _).symm, Nat.zero_le _, rfl, by go_num, unhide HS, unhide HM, unhide HP0⟩
          case round =>
            obtain ⟨t, α, dk, hα, hαN, rfl, rfl, hS, hM, hPt⟩ := hrel
            have HS1 := hide hS
            have HM1 := hide hM
            have HPt := hide hPt
            clear hS hM hPt HP0
            by_cases hlt : α + 2 * B ≤ N
            · have hltI : (α : Int) + 2 * (B : Int) ≤ (N : Int) := by omega
              have E : Hid ((α : Int) + 2 * (B : Int) = ((α + 2 * B : Nat) : Int)) := by unfold Hid; omega
              have E2 : Hid ((α : Int) + (B : Int) = ((α + B : Nat) : Int)) := by unfold Hid; omega
              have HRu : Hid (Stab.Srt Stab.lx dk α (α + B) ∧ Stab.Srt Stab.lx dk (α + B) (α + 2 * B) ∧ Stab.Cross dk α (α + B) (α + 2 * B)) := by
                have ha := unhide hα
                rw [ha]
                rw [ha] at hlt
                exact two_runs (unhide HBl) (unhide HCu) (unhide HPt).rest (by omega) (Nat.le_refl _) hlt (.inr rfl)
              go_wp2_with fail
              rw [unhide E, unhide E2]
              refine (unhide HMG dk α (α + B) (α + 2 * B) _ (by omega) (by omega) (by omega) hlt (unhide HS1).cx (unhide HS1).ps (unhide HRu).1 (unhide HRu).2.1 (unhide HRu).2.2).mono ?_
              rintro e w3 ⟨rfl, d3, p3, m3, s3, g3⟩
              have HS3 := hide ((unhide HS1).next p3 g3)
              have HM3 := hide ((unhide HM1).trans (m3.wider (Nat.zero_le _) (by omega) hlt))
              have HP3 : Hid (Part d3 dB N (2 * B) (t + 1)) := by
                have ha := unhide hα
                rw [ha] at m3 s3 hlt
                exact (unhide HPt).step hlt m3 s3
              have hα3 : Hid (α + 2 * B = (t + 1) * (2 * B)) := by have := unhide hα; unfold Hid; rw [Nat.succ_mul t (2 * B), ← this]
              clear p3 m3 s3 g3 HRu
              go_wp2
              go_roundw
              case rel => exact ⟨t + 1, α + 2 * B, d3, hα3, hlt, rfl, by go_num, unhide HS3, unhide HM3, unhide HP3⟩
              case measure => simp [intOf]; omega
            · have hltI : ¬ (α : Int) + 2 * (B : Int) ≤ (N : Int) := by omega
              by_cases hm : α + B < N
              · have hmI : (α : Int) + (B : Int) < (N : Int) := by omega
                have E2 : Hid ((α : Int) + (B : Int) = ((α + B : Nat) : Int)) := by unfold Hid; omega
                have HRu : Hid (Stab.Srt Stab.lx dk α (α + B) ∧ Stab.Srt Stab.lx dk (α + B) N ∧ Stab.Cross dk α (α + B) N) := by
                  have ha := unhide hα
                  rw [ha]
                  rw [ha] at hlt hm
                  exact two_runs (unhide HBl) (unhide HCu) (unhide HPt).rest hm (by omega) (Nat.le_refl _) (.inl rfl)
                go_wp2_with fail
                rw [unhide E2]
                refine (unhide HMG dk α (α + B) N _ (by omega) (by omega) hm (Nat.le_refl _) (unhide HS1).cx (unhide HS1).ps (unhide HRu).1 (unhide HRu).2.1 (unhide HRu).2.2).mono ?_
                rintro e w3 ⟨rfl, d3, p3, m3, s3, g3⟩
                have HS3 := hide ((unhide HS1).next p3 g3)
                have HM3 := hide ((unhide HM1).trans (m3.wider (Nat.zero_le _) hαN (Nat.le_refl _)))
                have HB3 : Hid (Blocks d3 N (2 * B) ∧ Cuts d3 N (2 * B)) := by
                  have ha := unhide hα
                  rw [ha] at m3 s3
                  exact (unhide HPt).last (by omega) (by omega) m3 s3
                clear p3 m3 s3 g3 HRu HPt hα
                go_wp2
                go_roundw
                case rel => exact ⟨2 * B, d3, by omega, by omega, congrArg (Value.int .i64) (by omega), unhide HS3, unhide HM3, (unhide HB3).1, (unhide HB3).2⟩
                case measure => simp [intOf]; omega
              · have hmI : ¬ (α : Int) + (B : Int) < (N : Int) := by omega
                have HB3 : Hid (Blocks dk N (2 * B) ∧ Cuts dk N (2 * B)) := by
                  have ha := unhide hα
                  rw [ha] at hlt hm hαN
                  exact (unhide HPt).last hαN (by omega) (Stab.Moved.refl _ _ _) (one_run (unhide HBl) (unhide HPt).rest (by omega))
                clear HPt hα
                go_wp2
                go_roundw
                case rel => exact ⟨2 * B, dk, by omega, by omega, congrArg (Value.int .i64) (by omega), unhide HS1, unhide HM1, (unhide HB3).1, (unhide HB3).2⟩
                case measure => simp [intOf]; omega
        · have HF : Hid (Stab.Srt Stab.lx dB 0 N) := by
            have := unhide HBl 0
            rw [Nat.zero_mul, Nat.min_eq_right (by omega)] at this
            exact this
          clear HP0
          go_wp2
          go_end0
          exact ⟨rfl, dB, (unhide HS).ps, unhide HM, unhide HF, (unhide HS).grown⟩

theorem sortStableC (N bp cap bx bl ol ln lc : Nat) (l : List Int) (d : Nat → Int × Int) (w : World) (hN : N ≤ 288) (hX : Cx bp bx bl ol ln lc l w) (hP : PC N bp l d w) (hr : Rise d 0 N) :
    Calls Try.prog 148 #[.slice (some ⟨bp, 0, none⟩) N cap, CF bx] w fun e w' => e = .returned (.tuple #[]) ∧ ∃ d', PC N bp l d' w' ∧ Stab.Moved 0 N d d' ∧ Stab.Srt Stab.lx d' 0 N ∧ w.grownBy w' (some bp) := by
  have HC := hide (stableC N bp cap bx bl ol ln lc l d w hN hX hP hr)
  clear hX hP hr
  go_enter Try.func148, Try.ntmps148
  go_wp2_with fail
  refine (unhide HC).mono ?_
  rintro e w2 ⟨rfl, h⟩
  have H := hide h
  clear h
  go_wp2
  go_end0
  exact ⟨rfl, unhide H⟩

/-- no places at all -/
theorem sortStableC_none (p : Option Addr) (cap bx : Nat) (w : World) :
    Calls Try.prog 148 #[.slice p 0 cap, CF bx] w fun e w' => e = .returned (.tuple #[]) ∧ w' = w := by
  have hI : ∀ w, Calls Try.prog 158 #[.slice p 0 cap, .int .i64 0, .int .i64 0, CF bx] w fun e w' => e = .returned (.tuple #[]) ∧ w' = w := by
    intro w
    go_enter Try.func158, Try.ntmps158
    go_wp2
    go_loopw [8] (fun vi wr => vi = .int .i64 1 ∧ wr = w) (fun vi _ => 0)
    case atStart => exact ⟨rfl, rfl⟩
    case round =>
      obtain ⟨rfl, rfl⟩ := hrel
      go_wp2
      go_end0
      exact ⟨rfl, rfl⟩
  have hS : ∀ w, Calls Try.prog 155 #[.slice p 0 cap, .int .i64 0, CF bx] w fun e w' => e = .returned (.tuple #[]) ∧ w' = w := by
    intro w
    go_enter Try.func155, Try.ntmps155
    go_wp2
    go_loopw [7, 8] (fun va vb wr => va = .int .i64 0 ∧ vb = .int .i64 20 ∧ wr = w) (fun va _ _ => 0)
    case atStart => exact ⟨rfl, rfl, rfl⟩
    case round =>
      obtain ⟨rfl, rfl, rfl⟩ := hrel
      go_wp2_with fail
      refine (hI wr).mono ?_
      rintro e w2 ⟨rfl, rfl⟩
      go_wp2
      go_loopw [6, 7, 8, 9] (fun va vb vc vd wr => va = .int .i64 20 ∧ wr = w2) (fun va _ _ _ _ => 0)
      case atStart => exact ⟨rfl, rfl⟩
      case round =>
        obtain ⟨rfl, rfl⟩ := hrel
        go_wp2
        go_end0
        exact ⟨rfl, rfl⟩
  go_enter Try.func148, Try.ntmps148
  go_wp2_with fail
  refine (hS w).mono ?_
  rintro e w2 ⟨rfl, rfl⟩
  go_wp2
  go_end0
  exact ⟨rfl, rfl⟩
end Go.Proofs.Ytoiioemkibfdcac
