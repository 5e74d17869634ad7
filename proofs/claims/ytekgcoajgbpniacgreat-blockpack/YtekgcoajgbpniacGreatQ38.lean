/-
  The library's merge for all runs; its sort by insertion.
-/
import Derived.Test.YtekgcoajgbpniacGreatSort3
import Derived.Test.YtekgcoajgbpniacGreatQ8
import Derived.Laws.Externs
import Derived.BigCall
import Derived.BigGuard
namespace Go.Proofs.YtekgcoajgbpniacGreat
open Go.RowKit
set_option linter.unusedVariables false

theorem symMerge_any (h : Value) (hh : Hid (h = typeHandle Tryz.prog 125)) (N bp bx cap : Nat) (hN : N ≤ 288) (hne : bx ≠ bp) : ∀ L, MergeUpTo h N bp bx cap L
  | 0 => fun d a m b w hL ham hmb _ _ _ _ _ _ _ _ => by omega
  | L + 1 => fun d a m b w hL ham hmb hb hbp hbx hbox hP sL sR hc => by
    by_cases h1 : m = a + 1
    · exact symMerge_one h hh N bp bx cap d a m b w (hide h1) hN hmb hb hbp hbx hne hbox hP sR hc
    · by_cases h2 : b = m + 1
      · exact symMerge_last h hh N bp bx cap d a m b w (hide h2) hN (by omega) hmb hb hbp hbx hne hbox hP sL hc
      · by_cases h3 : (a + b) / 2 < m
        · exact symMerge_both h hh N bp bx cap L (hide (symMerge_any h hh N bp bx cap hN hne L)) d a m b ((a + b) / 2) ((a + b) / 2 + m - b) ((a + b) / 2) w hN (by omega) (by omega) (by omega) hb hbp hbx hne (hide rfl) (hide (.inl ⟨h3, by omega, rfl⟩)) hbox hP sL sR hc
        · exact symMerge_both h hh N bp bx cap L (hide (symMerge_any h hh N bp bx cap hN hne L)) d a m b ((a + b) / 2) a m w hN (by omega) (by omega) (by omega) hb hbp hbx hne (hide rfl) (hide (.inr ⟨by omega, rfl, rfl⟩)) hbox hP sL sR hc

set_option maxHeartbeats 4000000 in
set_option maxRecDepth 100000 in
theorem insertion_any (h : Value) (hh : Hid (h = typeHandle Tryz.prog 125)) (N bp bx cap : Nat) (d : Nat → Int × Int) (a b : Nat) (w : World) (hN : N ≤ 288) (hab : a ≤ b) (hb : b ≤ N) (hbp : bp < w.heap.size) (hbx : bx < w.heap.size) (hne : bx ≠ bp)
    (hbox : w.cell? ⟨bx, 0, none⟩ = some (.slice (some ⟨bp, 0, none⟩) N cap)) (hP : PS N bp d w) (hr : Rise d a b) :
    Calls Tryz.prog 106 #[.agg #[LF bx, SF h N bp cap], .int .i64 a, .int .i64 b] w fun e w' => e = .returned (.tuple #[]) ∧ ∃ d', PS N bp d' w' ∧ Stab.Moved a b d d' ∧ Stab.Srt Stab.lx d' a b ∧ w.grownBy w' (some bp) := by
  have S0 : Hid (MSt h N bp bx cap w (w.alloc (.cells #[LF bx, SF h N bp cap] 157)) d) := ⟨hP.alloc hbp _, grown_alloc' (grown_refl' _ _) _, by simp, by simp, by rw [World.cell?_alloc_past _ _ _ hbx]; exact hbox, hbp⟩
  have HR := hide hr
  clear hP hbox hr
  go_enter Tryz.func106, Tryz.ntmps106
  go_wp2
  go_loopw [6] (fun vi wr => ∃ (i : Nat) (di : Nat → Int × Int), a < i ∧ (i ≤ b ∨ (i = a + 1 ∧ di = d)) ∧ vi = .int .i64 i ∧ MSt h N bp bx cap w wr di ∧ Stab.Moved a i d di ∧ Stab.Srt Stab.lx di a i) (fun vi _ => b + 2 - (intOf vi).toNat)
  case atStart => exact ⟨a + 1, d, by omega, .inr ⟨rfl, rfl⟩, by go_num, unhide S0, Stab.Moved.refl _ _ _, fun i j h1 h2 h3 => by omega⟩
  case round =>
    obtain ⟨i, di, hai, hib, rfl, hS, hM, hs⟩ := hrel
    have HS := hide hS
    have HM := hide hM
    have HSr := hide hs
    have ca := hS.c0
    have cb := hS.c1
    by_cases hlt : i < b
    · have HCr : Hid (∀ k, a ≤ k → k < i → (di k).2 < (di i).2) := fun k h1 h2 => by
        obtain ⟨k', e1, e2, e3⟩ := hM.mem h1 h2
        rw [hM.out i (by omega), ← e3]
        exact unhide HR k' i e1 e2 hlt
      clear hib hS hM hs S0
      go_wp2
      go_loopw [7] (fun vj wr => ∃ j : Nat, a ≤ j ∧ j ≤ i ∧ vj = .int .i64 j ∧ MSt h N bp bx cap w wr (Stab.rot di j i (i + 1)) ∧ (j < i → Stab.lx (di i) (di j))) (fun vj _ => (intOf vj).toNat)
      case atStart => exact ⟨i, by omega, Nat.le_refl _, rfl, by rw [Stab.rot_left]; exact unhide HS, fun h => by omega⟩
      case round =>
        obtain ⟨j, haj, hji, rfl, hS, hlo⟩ := hrel
        have HS2 := hide hS
        have HLO := hide hlo
        have ca2 := hS.c0
        have cb2 := hS.c1
        have hE : ((a < j → Stab.lx (di (j - 1)) (di i)) → Hid (Stab.Moved a (i + 1) d (Stab.rot di j i (i + 1)) ∧ Stab.Srt Stab.lx (Stab.rot di j i (i + 1)) a (i + 1))) := fun hl =>
          hide ⟨((unhide HM).wider (Nat.le_refl _) (by omega) (by omega)).trans ((Stab.moved_rot di j i (i + 1) hji (by omega)).wider haj (by omega) (Nat.le_refl _)), Stab.ins_last haj hji (unhide HSr) hl (unhide HLO)⟩
        clear hS hlo
        by_cases hja : a < j
        · have hjaI : (a : Int) < (j : Int) := by omega
          have E : Hid ((j : Int) - 1 = ((j - 1 : Nat) : Int)) := by unfold Hid; omega
          have eD1 : Stab.rot di j i (i + 1) j = di i := by
            unfold Stab.rot
            rw [if_pos (by omega)]
            congr 1; omega
          have eD2 : Stab.rot di j i (i + 1) (j - 1) = di (j - 1) := by
            unfold Stab.rot
            rw [if_neg (by omega), if_neg (by omega)]
          have hx := Stab.cross_less (unhide HCr (j - 1) (by omega) (by omega))
          have ED1 := hide eD1
          have ED2 := hide eD2
          have HX := hide hx
          have HRD := hide (Stab.rot_down di j i (by omega) hji)
          have HE := hide hE
          clear eD1 eD2 hx hE
          generalize Stab.rot di j i (i + 1) = D at *
          go_wp2_with fail
          rw [unhide E]
          refine (less_any N bp bx cap D _ j (j - 1) (by omega) (by omega) hN (unhide HS2).ps (unhide HS2).box).mono ?_
          rintro e w2 ⟨rfl, q, rfl⟩
          rw [unhide ED1, unhide ED2]
          cases hd : decide ((di i).1 < (di (j - 1)).1) with
          | true =>
            have HX2 := hide ((unhide HX).1 hd)
            have hrun := swap_run N bp cap D (wr.drewN q) j (j - 1) (by omega) (by omega) ((unhide HS2).ps.drewN q)
            rw [← unhide hh, ← unhide E] at hrun
            have HSW := hide (PS.sw ((unhide HS2).ps.drewN q) j (j - 1) (by omega) (by omega))
            have HGS := hide (grown_trans' (grown_drewN' (grown_refl' wr (some bp)) q) (grown_sw (wr.drewN q) bp D j (j - 1)))
            rw [unhide HRD] at HSW
            have HS3 := hide ((unhide HS2).next hbx hne (unhide HSW) (unhide HGS))
            clear hd HSW HGS HX HE HRD
            generalize swW (wr.drewN q) bp D j (j - 1) = w3 at *
            go_wp2
            go_roundw
            case rel => exact ⟨j - 1, by omega, by omega, congrArg (Value.int .i64) (by omega), unhide HS3, fun _ => unhide HX2⟩
            case measure => simp [intOf]; omega
          | false =>
            have HF := unhide HE (fun _ => (unhide HX).2 hd)
            have HS3 : Hid (MSt h N bp bx cap w (wr.drewN q) D) := (unhide HS2).next hbx hne ((unhide HS2).ps.drewN q) (grown_drewN' (grown_refl' _ _) q)
            clear hd HX HE HRD
            go_wp2
            go_roundw
            case rel => exact ⟨i + 1, D, by omega, .inl (by omega), by go_num, unhide HS3, (unhide HF).1, (unhide HF).2⟩
            case measure => simp [intOf]; omega
        · have hjaI : ¬ (a : Int) < (j : Int) := by omega
          have HF := hE (fun h => by omega)
          clear hE
          generalize Stab.rot di j i (i + 1) = D at *
          go_wp2
          go_roundw
          case rel => exact ⟨i + 1, D, by omega, .inl (by omega), by go_num, unhide HS2, (unhide HF).1, (unhide HF).2⟩
          case measure => simp [intOf]; omega
    · have HF : Hid (Stab.Moved a b d di ∧ Stab.Srt Stab.lx di a b) := by
        rcases hib with h1 | ⟨h1, h2⟩
        · have e : i = b := by omega
          rw [← e]
          exact ⟨hM, hs⟩
        · rw [h2]
          exact ⟨Stab.Moved.refl _ _ _, fun i j h1 h2 h3 => by omega⟩
      clear hib hS hM hs S0
      go_wp2
      go_end0
      exact ⟨rfl, di, (unhide HS).ps, (unhide HF).1, (unhide HF).2, (unhide HS).grown⟩
end Go.Proofs.YtekgcoajgbpniacGreat

/-
  The library's stable sort: blocks of twenty by insertion, then merged, two and two.
-/
namespace Go.Proofs.YtekgcoajgbpniacGreat
open Go.RowKit
set_option linter.unusedVariables false

set_option maxHeartbeats 4000000 in
set_option maxRecDepth 100000 in
theorem stable_any (h : Value) (hh : Hid (h = typeHandle Tryz.prog 125)) (N bp bx cap : Nat) (d : Nat → Int × Int) (w : World) (hN : N ≤ 288) (hbp : bp < w.heap.size) (hbx : bx < w.heap.size) (hne : bx ≠ bp)
    (hbox : w.cell? ⟨bx, 0, none⟩ = some (.slice (some ⟨bp, 0, none⟩) N cap)) (hP : PS N bp d w) (hr : Rise d 0 N) :
    Calls Tryz.prog 80 #[.agg #[LF bx, SF h N bp cap], .int .i64 N] w fun e w' => e = .returned (.tuple #[]) ∧ ∃ d', PS N bp d' w' ∧ Stab.Moved 0 N d d' ∧ Stab.Srt Stab.lx d' 0 N ∧ w.grownBy w' (some bp) := by
  have S0 : Hid (MSt h N bp bx cap w (w.alloc (.cells #[LF bx, SF h N bp cap] 157)) d) := ⟨hP.alloc hbp _, grown_alloc' (grown_refl' _ _) _, by simp, by simp, by rw [World.cell?_alloc_past _ _ _ hbx]; exact hbox, hbp⟩
  have HR := hide hr
  have HC0 : Hid (Part d d N 20 0) := ⟨fun s h => by omega, fun _ _ => rfl, fun s i j hi hj hn => hr i j (Nat.zero_le _) (by omega) hn⟩
  have HMG := hide (symMerge_any h hh N bp bx cap hN hne N)
  clear hP hbox hr
  go_enter Tryz.func80, Tryz.ntmps80
  go_wp2
  go_loopw [5, 6] (fun va vb wr => ∃ (t α : Nat) (dk : Nat → Int × Int), Hid (α = t * 20) ∧ α ≤ N ∧ va = .int .i64 α ∧ vb = .int .i64 ((α : Int) + 20) ∧ MSt h N bp bx cap w wr dk ∧ Stab.Moved 0 N d dk ∧ Part dk d N 20 t) (fun va _ _ => N + 1 - (intOf va).toNat)
  case atStart => exact ⟨0, 0, d, hide rfl, Nat.zero_le _, rfl, rfl, unhide S0, Stab.Moved.refl _ _ _, unhide HC0⟩
  case round =>
    obtain ⟨t, α, dk, hα, hαN, rfl, rfl, hS, hM, hPt⟩ := hrel
    have HS := hide hS
    have HM := hide hM
    have HPt := hide hPt
    have ca := hS.c0
    have cb := hS.c1
    have HRi : Hid (∀ e, e ≤ N → Rise dk α e) := fun e he i j h1 h2 h3 => by
      rw [unhide hα] at h1
      rw [hPt.rest i h1, hPt.rest j (by omega)]
      exact unhide HR i j (Nat.zero_le _) h2 (by omega)
    clear hS hM hPt S0 HC0
    by_cases hlt : α + 20 ≤ N
    · have hltI : (α : Int) + 20 ≤ (N : Int) := by omega
      have E : Hid ((α : Int) + 20 = ((α + 20 : Nat) : Int)) := by unfold Hid; omega
      go_wp2_with fail
      rw [unhide E]
      refine (insertion_any h hh N bp bx cap dk α (α + 20) _ hN (by omega) hlt (Nat.lt_of_lt_of_le hbp (unhide HS).grown.size) (Nat.lt_of_lt_of_le hbx (unhide HS).grown.size) hne (unhide HS).box (unhide HS).ps (unhide HRi (α + 20) hlt)).mono ?_
      rintro e w2 ⟨rfl, d', p2, m2, s2, g2⟩
      have HS2 := hide ((unhide HS).next hbx hne p2 g2)
      have HM2 := hide ((unhide HM).trans (m2.wider (Nat.zero_le _) (by omega) hlt))
      have HP2 : Hid (Part d' d N 20 (t + 1)) := by
        have ha := unhide hα
        rw [ha] at m2 s2 hlt
        exact (unhide HPt).step hlt m2 s2
      have hα2 : Hid (α + 20 = (t + 1) * 20) := by have := unhide hα; unfold Hid; omega
      clear p2 m2 s2 g2
      go_wp2
      go_roundw
      case rel => exact ⟨t + 1, α + 20, d', hα2, hlt, rfl, by go_num, unhide HS2, unhide HM2, unhide HP2⟩
      case measure => simp [intOf]; omega
    · have hltI : ¬ (α : Int) + 20 ≤ (N : Int) := by omega
      go_wp2_with fail
      refine (insertion_any h hh N bp bx cap dk α N _ hN hαN (Nat.le_refl _) (Nat.lt_of_lt_of_le hbp (unhide HS).grown.size) (Nat.lt_of_lt_of_le hbx (unhide HS).grown.size) hne (unhide HS).box (unhide HS).ps (unhide HRi N (Nat.le_refl _))).mono ?_
      rintro e w2 ⟨rfl, d', p2, m2, s2, g2⟩
      have HS2 := hide ((unhide HS).next hbx hne p2 g2)
      have HM2 := hide ((unhide HM).trans (m2.wider (Nat.zero_le _) hαN (Nat.le_refl _)))
      have HB2 : Hid (Blocks d' N 20 ∧ Cuts d' N 20) := by
        have ha := unhide hα
        rw [ha] at m2 s2
        exact (unhide HPt).last (by omega) (by omega) m2 s2
      clear p2 m2 s2 g2 HS HM HPt HRi ca cb hα hαN hlt hltI
      go_wp2
      go_loopw [4, 5, 6, 7] (fun vB _ _ _ wr => ∃ (B : Nat) (dB : Nat → Int × Int), 0 < B ∧ B ≤ 1000 ∧ vB = .int .i64 B ∧ MSt h N bp bx cap w wr dB ∧ Stab.Moved 0 N d dB ∧ Blocks dB N B ∧ Cuts dB N B) (fun vB _ _ _ _ => N - (intOf vB).toNat)
      case atStart => exact ⟨20, d', by omega, by omega, rfl, unhide HS2, unhide HM2, (unhide HB2).1, (unhide HB2).2⟩
      case round =>
        obtain ⟨B, dB, hB0, hB1, rfl, hS, hM, hbl, hcu⟩ := hrel
        have HS := hide hS
        have HM := hide hM
        have HBl := hide hbl
        have HCu := hide hcu
        have ca := hS.c0
        have cb := hS.c1
        have HP0 : Hid (Part dB dB N (2 * B) 0) := ⟨fun s h => by omega, fun _ _ => rfl, hcu.double⟩
        clear hS hM hbl hcu HS2 HM2 HB2
        by_cases hBN : B < N
        · go_wp2
          go_loopw [5, 6] (fun va vb wr => ∃ (t α : Nat) (dk : Nat → Int × Int), Hid (α = t * (2 * B)) ∧ α ≤ N ∧ va = .int .i64 α ∧ vb = .int .i64 ((α : Int) + 2 * (B : Int)) ∧ MSt h N bp bx cap w wr dk ∧ Stab.Moved 0 N d dk ∧ Part dk dB N (2 * B) t) (fun va _ _ => N + 1 - (intOf va).toNat)
          case atStart => exact ⟨0, 0, dB, hide (Nat.zero_mul _).symm, Nat.zero_le _, rfl, by go_num, unhide HS, unhide HM, unhide HP0⟩
          case round =>
            obtain ⟨t, α, dk, hα, hαN, rfl, rfl, hS, hM, hPt⟩ := hrel
            have HS1 := hide hS
            have HM1 := hide hM
            have HPt := hide hPt
            have ca1 := hS.c0
            have cb1 := hS.c1
            clear hS hM hPt HP0
            by_cases hlt : α + 2 * B ≤ N
            · have hltI : (α : Int) + 2 * (B : Int) ≤ (N : Int) := by omega
              have E : Hid ((α : Int) + 2 * (B : Int) = ((α + 2 * B : Nat) : Int)) := by unfold Hid; omega
              have E2 : Hid ((α : Int) + (B : Int) = ((α + B : Nat) : Int)) := by unfold Hid; omega
              have HRu : Hid (Stab.Srt Stab.lx dk α (α + B) ∧ Stab.Srt Stab.lx dk (α + B) (α + 2 * B) ∧ Stab.Cross dk α (α + B) (α + 2 * B)) := by
                have ha := unhide hα
                rw [ha]
                rw [ha] at hlt
                exact two_runs (unhide HBl) (unhide HCu) (unhide HPt).rest (by omega) (Nat.le_refl _) hlt (.inr rfl)
              go_wp2_with fail
              rw [unhide E, unhide E2]
              refine (unhide HMG dk α (α + B) (α + 2 * B) _ (by omega) (by omega) (by omega) hlt (Nat.lt_of_lt_of_le hbp (unhide HS1).grown.size) (Nat.lt_of_lt_of_le hbx (unhide HS1).grown.size) (unhide HS1).box (unhide HS1).ps (unhide HRu).1 (unhide HRu).2.1 (unhide HRu).2.2).mono ?_
              rintro e w3 ⟨rfl, d3, p3, m3, s3, g3⟩
              have HS3 := hide ((unhide HS1).next hbx hne p3 g3)
              have HM3 := hide ((unhide HM1).trans (m3.wider (Nat.zero_le _) (by omega) hlt))
              have HP3 : Hid (Part d3 dB N (2 * B) (t + 1)) := by
                have ha := unhide hα
                rw [ha] at m3 s3 hlt
                exact (unhide HPt).step hlt m3 s3
              have hα3 : Hid (α + 2 * B = (t + 1) * (2 * B)) := by have := unhide hα; unfold Hid; rw [Nat.succ_mul t (2 * B), ← this]
              clear p3 m3 s3 g3 HRu
              go_wp2
              go_roundw
              case rel => exact ⟨t + 1, α + 2 * B, d3, hα3, hlt, rfl, by go_num, unhide HS3, unhide HM3, unhide HP3⟩
              case measure => simp [intOf]; omega
            · have hltI : ¬ (α : Int) + 2 * (B : Int) ≤ (N : Int) := by omega
              by_cases hm : α + B < N
              · have hmI : (α : Int) + (B : Int) < (N : Int) := by omega
                have E2 : Hid ((α : Int) + (B : Int) = ((α + B : Nat) : Int)) := by unfold Hid; omega
                have HRu : Hid (Stab.Srt Stab.lx dk α (α + B) ∧ Stab.Srt Stab.lx dk (α + B) N ∧ Stab.Cross dk α (α + B) N) := by
                  have ha := unhide hα
                  rw [ha]
                  rw [ha] at hlt hm
                  exact two_runs (unhide HBl) (unhide HCu) (unhide HPt).rest hm (by omega) (Nat.le_refl _) (.inl rfl)
                go_wp2_with fail
                rw [unhide E2]
                refine (unhide HMG dk α (α + B) N _ (by omega) (by omega) hm (Nat.le_refl _) (Nat.lt_of_lt_of_le hbp (unhide HS1).grown.size) (Nat.lt_of_lt_of_le hbx (unhide HS1).grown.size) (unhide HS1).box (unhide HS1).ps (unhide HRu).1 (unhide HRu).2.1 (unhide HRu).2.2).mono ?_
                rintro e w3 ⟨rfl, d3, p3, m3, s3, g3⟩
                have HS3 := hide ((unhide HS1).next hbx hne p3 g3)
                have HM3 := hide ((unhide HM1).trans (m3.wider (Nat.zero_le _) hαN (Nat.le_refl _)))
                have HB3 : Hid (Blocks d3 N (2 * B) ∧ Cuts d3 N (2 * B)) := by
                  have ha := unhide hα
                  rw [ha] at m3 s3
                  exact (unhide HPt).last (by omega) (by omega) m3 s3
                clear p3 m3 s3 g3 HRu HPt hα
                go_wp2
                go_roundw
                case rel => exact ⟨2 * B, d3, by omega, by omega, congrArg (Value.int .i64) (by omega), unhide HS3, unhide HM3, (unhide HB3).1, (unhide HB3).2⟩
                case measure => simp [intOf]; omega
              · have hmI : ¬ (α : Int) + (B : Int) < (N : Int) := by omega
                have HB3 : Hid (Blocks dk N (2 * B) ∧ Cuts dk N (2 * B)) := by
                  have ha := unhide hα
                  rw [ha] at hlt hm hαN
                  exact (unhide HPt).last hαN (by omega) (Stab.Moved.refl _ _ _) (one_run (unhide HBl) (unhide HPt).rest (by omega))
                clear HPt hα
                go_wp2
                go_roundw
                case rel => exact ⟨2 * B, dk, by omega, by omega, congrArg (Value.int .i64) (by omega), unhide HS1, unhide HM1, (unhide HB3).1, (unhide HB3).2⟩
                case measure => simp [intOf]; omega
        · have HF : Hid (Stab.Srt Stab.lx dB 0 N) := by
            have := unhide HBl 0
            rw [Nat.zero_mul, Nat.min_eq_right (by omega)] at this
            exact this
          clear HP0
          go_wp2
          go_end0
          exact ⟨rfl, dB, (unhide HS).ps, unhide HM, unhide HF, (unhide HS).grown⟩
end Go.Proofs.YtekgcoajgbpniacGreat

/-
  The library's sort.SliceStable over the pairs that the document's own CodesOf sorts.
-/
namespace Go.Proofs.YtekgcoajgbpniacGreat
open Go.RowKit Go.Lib
set_option linter.unusedVariables false

theorem infoPs : (Tryz.prog.info? 123).map (·.desc) = some (.slice 125) := by kernel_rfl
theorem infoPl : (Tryz.prog.info? 125).map (fun i => (i.hasPointers, i.bytes)) = some (false, 16) := by kernel_rfl
theorem kindPl (w : World) : (Extern.Rtype.kind 125).run Tryz.prog w = .ok 25 w := by kernel_rfl
theorem packPs : Tryz.prog.packed 123 = false := by kernel_rfl

/-- the world in which stable_func is called: two new blocks -/
def stW (G : Nat) (p : Option Addr) (n c : Nat) (w : World) : World :=
  (w.alloc (.cells #[.slice p n c] 123)).alloc (.cells #[.pointer (some ⟨G, 123, none⟩), .pointer (some ⟨w.heap.size, 0, none⟩), .int .u64 151] 152)

set_option maxHeartbeats 1000000 in
set_option maxRecDepth 100000 in
theorem sliceStable_of (G : Nat) (hH : .pointer (some ⟨G, 123, none⟩) = typeHandle Tryz.prog 123) (ie : TypeInfo) (hie : Tryz.prog.info? 125 = some ie) (p : Option Addr) (n c f : Nat) (hf : Tryz.prog.funcs.findIdx? (·.name == "internal/reflectlite" ++ ".Swapper$" ++ toString (swapperK n ie 25)) = some f) (B : Array Value) (hB : B = if swapperK n ie 25 ≤ 2 then #[] else #[.slice p n c, typeHandle Tryz.prog 125])
    (lf : Fn) (la lb : Array Value) (w : World) (R : World → Prop) (hp : Hid (Calls Tryz.prog 80 #[.agg #[.func lf la lb, .func (.func f) #[] B], .int .i64 n] (stW G p n c w) fun e w' => e = .returned (.tuple #[]) ∧ R w')) :
    Calls Tryz.prog 58 #[.iface 123 (.slice p n c), .func lf la lb] w fun e w' => e = .returned (.tuple #[]) ∧ R w' := by
  obtain ⟨i, hi, hd⟩ := Option.map_eq_some_iff.1 infoPs
  have hv := run_valueOf_slice (P := Tryz.prog) 123 125 i hi hd p n c w
  have hs := fun w => run_swapper_slice (P := Tryz.prog) 123 125 i ie hi hd hie 25 kindPl p n c f hf w
  have hl := fun a w ha => run_valueLen_slice (P := Tryz.prog) 123 125 i hi hd packPs a p n c w ha
  rw [← hB] at hs
  rw [← hH] at hv hl
  have HV := hide hv
  have HSw := hide hs
  have HLn := hide hl
  clear hB hi hd hie hf hv hs hl hH
  go_enter Tryz.func58, Tryz.ntmps58
  go_wp2
  rw [run_callFunc_extern Tryz.func78 (by kernel_rfl) (by kernel_rfl) (by kernel_rfl) (e := fun args => Extern.ReflectliteValue.unpack (args.getD 0 (.tuple #[]))) (by kernel_rfl),
    show Sem.run Tryz.prog ((fun args : Array Value => Extern.ReflectliteValue.unpack (args.getD 0 (.tuple #[]))) #[.iface 123 (.slice p n c)]) w = _ from unhide HV]
  simp only [Result.andThen]
  rw [Oper.upon_value]
  go_wp2
  rw [run_callFunc_extern Tryz.func79 (by kernel_rfl) (by kernel_rfl) (by kernel_rfl) (e := Extern.ReflectliteSwapper.swapper "internal/reflectlite" (Extern.ReflectliteValue.valueError "Swapper")) (by kernel_rfl), unhide HSw]
  simp only [Result.andThen]
  rw [Oper.upon_value]
  go_wp2
  rw [run_callFunc_extern Tryz.func81 (by kernel_rfl) (by kernel_rfl) (by kernel_rfl) (e := Extern.ReflectliteValue.method (Extern.ReflectliteValue.valueError "reflectlite.Value.Len" 0) Extern.ReflectliteValue.len) (by kernel_rfl),
    unhide HLn _ _ (by simp)]
  simp only [Result.andThen]
  rw [Oper.upon_value]
  go_wp2_with (go_at_call 80; refine (unhide hp).mono ?_; rintro e w' ⟨rfl, hR⟩)
  go_end0
  exact ⟨rfl, hR⟩
end Go.Proofs.YtekgcoajgbpniacGreat
