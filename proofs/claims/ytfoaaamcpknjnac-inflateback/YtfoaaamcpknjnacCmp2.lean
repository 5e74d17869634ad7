/-
  The library's merge of two sorted runs of places: the two ways on which one of them is a single place.
-/
import Derived.Test.YtfoaaamcpknjnacQ6
namespace Go.Proofs.Ytfoaaamcpknjnac
open Go.RowKit
set_option linter.unusedVariables false

set_option maxHeartbeats 4000000 in
set_option maxRecDepth 100000 in
theorem mergeC_one (N bp cap bx bl ol ln lc : Nat) (l : List Int) (d : Nat → Int × Int) (a m b : Nat) (w : World) (hm : Hid (m = a + 1)) (hN : N ≤ 288) (hab : m < b) (hb : b ≤ N) (hX : Cx bp bx bl ol ln lc l w)
    (hP : PC N bp l d w) (sR : Stab.Srt Stab.lx d m b) (hc : Stab.Cross d a m b) :
    Calls Try.prog 159 #[.slice (some ⟨bp, 0, none⟩) N cap, .int .i64 a, .int .i64 m, .int .i64 b, CF bx] w fun e w' => e = .returned (.tuple #[]) ∧ ∃ d', PC N bp l d' w' ∧ Stab.Moved a b d d' ∧ Stab.Srt Stab.lx d' a b ∧ w.grownBy w' (some bp) := by
  have HP := hide hP
  have HS := hide sR
  have HC := hide hc
  have HX := hide hX
  have hone : ((m : Int) - (a : Int) == 1) = true := by rw [beq_iff_eq]; have := unhide hm; omega
  have ham : a < m := by have := unhide hm; omega
  clear hP sR hc hX
  go_enter Try.func159, Try.ntmps159
  go_wp2
  go_loopw [10, 11, 12] (fun vi vj vh wr => ∃ i j q : Nat, m ≤ i ∧ i ≤ j ∧ j ≤ b ∧ vi = .int .i64 i ∧ vj = .int .i64 j ∧ (m < i → Stab.lx (d (i - 1)) (d a)) ∧ (j < b → Stab.lx (d a) (d j)) ∧ wr = w.drewN q) (fun vi vj _ _ => (intOf vj).toNat - (intOf vi).toNat)
  case atStart => exact ⟨m, b, 0, Nat.le_refl _, by omega, Nat.le_refl _, rfl, rfl, fun h => by omega, fun h => by omega, rfl⟩
  case round =>
    obtain ⟨i, j, q, hi, hij, hj, rfl, rfl, hlo, hhi, hw⟩ := hrel
    have HW := hide hw
    have HLO := hide hlo
    have HHI := hide hhi
    clear hlo hhi hw
    by_cases hlt : i < j
    · obtain ⟨c, hcc⟩ : ∃ c, c = (i + j) / 2 := ⟨_, rfl⟩
      have hc1 : i ≤ c := by omega
      have hc2 : c < j := by omega
      have E : Hid (((i : Int) + (j : Int)) / 2 = (c : Int)) := by unfold Hid; omega
      have hx := hide (Stab.cross_less (unhide HC a c (Nat.le_refl _) ham (by omega) (by omega)))
      have P1 : PC N bp l d wr := by rw [unhide HW]; exact (unhide HP).drewN q
      have X1 : Cx bp bx bl ol ln lc l wr := by rw [unhide HW]; exact (unhide HX).drewN q
      have hCmp := fun n => cmp_at P1 X1 c a (by omega) (by omega) n
      have cc := (P1 c (by omega)).1.1
      have ca := (P1 a (by omega)).1.1
      generalize (d c).2 = y at *
      generalize (d a).2 = z at *
      have CM := hide hCmp
      clear hcc P1 X1 hCmp
      have hcN : (c : Int) < (N : Int) := by omega
      have haN : (a : Int) < (N : Int) := by omega
      go_wp2_with fail
      rw [unhide E]
      go_wp2_with fail
      go_quiet ((go_at_call 149; refine Calls.quiet_of (unhide CM _)))
      rw [cmp3_lt]
      cases hd : decide ((d c).1 < (d a).1) with
      | true =>
        have HX2 := hide ((unhide hx).1 hd)
        clear hx hd
        go_wp2
        go_roundw
        case rel => exact ⟨c + 1, j, _, by omega, by omega, hj, by go_num, rfl, fun _ => unhide HX2, unhide HHI, by rw [unhide HW, World.drewN_drewN]⟩
        case measure => simp [intOf]; omega
      | false =>
        have HX2 := hide ((unhide hx).2 hd)
        clear hx hd
        go_wp2
        go_roundw
        case rel => exact ⟨i, c, _, hi, by omega, by omega, rfl, rfl, unhide HLO, fun _ => unhide HX2, by rw [unhide HW, World.drewN_drewN]⟩
        case measure => simp [intOf]; omega
    · obtain rfl : i = j := by omega
      have hno : ¬ (i : Int) < (i : Int) := by omega
      have HA : Hid (Stab.rot d a (a + 1) (a + 1) = d) := Stab.rot_right d a (a + 1)
      have HW0 : Hid (PC N bp l d wr) := by rw [unhide HW]; exact (unhide HP).drewN q
      have HWG : Hid (w.grownBy wr (some bp)) := by rw [unhide HW]; exact grown_drewN (grown_refl _ _) q
      go_wp2
      go_loopw [13] (fun vk wq => ∃ k : Nat, a ≤ k ∧ k < i ∧ vk = .int .i64 k ∧ PC N bp l (Stab.rot d a (a + 1) (k + 1)) wq ∧ w.grownBy wq (some bp)) (fun vk _ => i - (intOf vk).toNat)
      case atStart => exact ⟨a, Nat.le_refl _, by omega, rfl, by rw [unhide HA]; exact unhide HW0, unhide HWG⟩
      case round =>
        obtain ⟨k, hk1, hk2, rfl, hPk, hg⟩ := hrel
        have HPk := hide hPk
        have HG := hide hg
        clear hPk hg
        by_cases hlt2 : k < i - 1
        · have hltI : (k : Int) < (i : Int) - 1 := by omega
          have HU := hide (Stab.rot_up d a k hk1)
          generalize Stab.rot d a (a + 1) (k + 1) = dk at *
          obtain ⟨t, ht⟩ : ∃ t, t = k + 1 := ⟨_, rfl⟩
          have hkN : k < N := by omega
          have htN : t < N := by omega
          have c1 := ((unhide HPk) k hkN).1.1
          have f1 := ((unhide HPk) k hkN).1.2
          have c2 := ((unhide HPk) t htN).1.1
          have f2 := ((unhide HPk) t htN).1.2
          have HSW := hide ((unhide HPk).sw k t hkN htN)
          have HGS := hide (grown_drew (grown_trans (unhide HG) (grown_swC wr bp (dk k).2 (dk t).2 k t)))
          obtain ⟨u, c3⟩ := PC.c2 (unhide HPk) k t hkN htN (.int .i64 (dk t).2)
          generalize (dk k).2 = x at *
          generalize (dk t).2 = y at *
          have ba : (k : Int) < (N : Int) := by omega
          have ec : ((k : Int) + 1).toNat = t := by omega
          have pc : (0 : Int) ≤ (k : Int) + 1 := by omega
          have bc : (k : Int) + 1 < (N : Int) := by omega
          have rc : IntKind.i64.wrap ((k : Int) + 1) = (k : Int) + 1 := by rw [IntKind.wrap_i64]; omega
          have HT := hide ht
          clear ht HPk
          go_wp2_with fail
          go_big_region
          clear c1 c2 c3 f1 f2
          unfold swC at HSW HGS
          go_wp2
          go_roundw
          case rel => exact ⟨k + 1, by omega, by omega, by go_num, by rw [← unhide HU, ← unhide HT]; exact unhide HSW, unhide HGS⟩
          case measure => simp [intOf]; omega
        · obtain rfl : k = i - 1 := by omega
          have hno2 : ¬ ((i - 1 : Nat) : Int) < (i : Int) - 1 := by omega
          have ei : i - 1 + 1 = i := by omega
          have HF : Hid (PC N bp l (Stab.rot d a (a + 1) i) wr) := by rw [ei] at HPk; exact HPk
          have hmv := hide ((Stab.moved_rot d a (a + 1) i (by omega) (by omega)).wider (Nat.le_refl _) (by omega) hj)
          have sR' := unhide HS
          rw [unhide hm] at sR' HLO
          have hsr := hide (Stab.ins_first (by omega) hj sR' (unhide HLO) (unhide HHI))
          clear ei sR' HPk
          go_wp2
          refine bodyPost_ret (results_none rfl _ _ _) rfl ?_
          exact ⟨rfl, _, unhide HF, unhide hmv, unhide hsr, unhide HG⟩

set_option maxHeartbeats 4000000 in
set_option maxRecDepth 100000 in
theorem mergeC_last (N bp cap bx bl ol ln lc : Nat) (l : List Int) (d : Nat → Int × Int) (a m b : Nat) (w : World) (hb1 : Hid (b = m + 1)) (hN : N ≤ 288) (ham : a + 1 < m) (hmb : m < b) (hb : b ≤ N) (hX : Cx bp bx bl ol ln lc l w)
    (hP : PC N bp l d w) (sL : Stab.Srt Stab.lx d a m) (hc : Stab.Cross d a m b) :
    Calls Try.prog 159 #[.slice (some ⟨bp, 0, none⟩) N cap, .int .i64 a, .int .i64 m, .int .i64 b, CF bx] w fun e w' => e = .returned (.tuple #[]) ∧ ∃ d', PC N bp l d' w' ∧ Stab.Moved a b d d' ∧ Stab.Srt Stab.lx d' a b ∧ w.grownBy w' (some bp) := by
  have HP := hide hP
  have HS := hide sL
  have HC := hide hc
  have HX := hide hX
  have hnot : ((m : Int) - (a : Int) == 1) = false := by rw [beq_eq_false_iff_ne]; omega
  have hone : ((b : Int) - (m : Int) == 1) = true := by rw [beq_iff_eq]; have := unhide hb1; omega
  clear hP sL hc hX
  go_enter Try.func159, Try.ntmps159
  go_wp2
  go_loopw [14, 15, 16] (fun vi vj vh wr => ∃ i j q : Nat, a ≤ i ∧ i ≤ j ∧ j ≤ m ∧ vi = .int .i64 i ∧ vj = .int .i64 j ∧ (a < i → Stab.lx (d (i - 1)) (d m)) ∧ (j < m → Stab.lx (d m) (d j)) ∧ wr = w.drewN q) (fun vi vj _ _ => (intOf vj).toNat - (intOf vi).toNat)
  case atStart => exact ⟨a, m, 0, Nat.le_refl _, by omega, Nat.le_refl _, rfl, rfl, fun h => by omega, fun h => by omega, rfl⟩
  case round =>
    obtain ⟨i, j, q, hi, hij, hj, rfl, rfl, hlo, hhi, hw⟩ := hrel
    have HW := hide hw
    have HLO := hide hlo
    have HHI := hide hhi
    clear hlo hhi hw
    by_cases hlt : i < j
    · obtain ⟨c, hcc⟩ : ∃ c, c = (i + j) / 2 := ⟨_, rfl⟩
      have hc1 : i ≤ c := by omega
      have hc2 : c < j := by omega
      have E : Hid (((i : Int) + (j : Int)) / 2 = (c : Int)) := by unfold Hid; omega
      have hx := hide (Stab.cross_less (unhide HC c m (by omega) (by omega) (Nat.le_refl _) hmb))
      have P1 : PC N bp l d wr := by rw [unhide HW]; exact (unhide HP).drewN q
      have X1 : Cx bp bx bl ol ln lc l wr := by rw [unhide HW]; exact (unhide HX).drewN q
      have hCmp := fun n => cmp_at P1 X1 m c (by omega) (by omega) n
      have cc := (P1 c (by omega)).1.1
      have ca := (P1 m (by omega)).1.1
      generalize (d c).2 = y at *
      generalize (d m).2 = z at *
      have CM := hide hCmp
      clear hcc P1 X1 hCmp
      have hcN : (c : Int) < (N : Int) := by omega
      have haN : (m : Int) < (N : Int) := by omega
      go_wp2_with fail
      rw [unhide E]
      go_wp2_with fail
      go_quiet ((go_at_call 149; refine Calls.quiet_of (unhide CM _)))
      rw [cmp3_lt]
      cases hd : decide ((d m).1 < (d c).1) with
      | true =>
        have HX2 := hide ((unhide hx).1 hd)
        clear hx hd
        go_wp2
        go_roundw
        case rel => exact ⟨i, c, _, hi, by omega, by omega, rfl, rfl, unhide HLO, fun _ => unhide HX2, by rw [unhide HW, World.drewN_drewN]⟩
        case measure => simp [intOf]; omega
      | false =>
        have HX2 := hide ((unhide hx).2 hd)
        clear hx hd
        go_wp2
        go_roundw
        case rel => exact ⟨c + 1, j, _, by omega, by omega, hj, by go_num, rfl, fun _ => unhide HX2, unhide HHI, by rw [unhide HW, World.drewN_drewN]⟩
        case measure => simp [intOf]; omega
    · obtain rfl : i = j := by omega
      have hno : ¬ (i : Int) < (i : Int) := by omega
      have HA : Hid (Stab.rot d m m (m + 1) = d) := Stab.rot_left d m (m + 1)
      have HW0 : Hid (PC N bp l d wr) := by rw [unhide HW]; exact (unhide HP).drewN q
      have HWG : Hid (w.grownBy wr (some bp)) := by rw [unhide HW]; exact grown_drewN (grown_refl _ _) q
      go_wp2
      go_loopw [17] (fun vk wq => ∃ k : Nat, i ≤ k ∧ k ≤ m ∧ vk = .int .i64 k ∧ PC N bp l (Stab.rot d k m (m + 1)) wq ∧ w.grownBy wq (some bp)) (fun vk _ => (intOf vk).toNat)
      case atStart => exact ⟨m, hj, Nat.le_refl _, rfl, by rw [unhide HA]; exact unhide HW0, unhide HWG⟩
      case round =>
        obtain ⟨k, hk1, hk2, rfl, hPk, hg⟩ := hrel
        have HPk := hide hPk
        have HG := hide hg
        clear hPk hg
        by_cases hlt2 : i < k
        · have HU := hide (Stab.rot_down d k m (by omega) hk2)
          generalize Stab.rot d k m (m + 1) = dk at *
          obtain ⟨t, ht⟩ : ∃ t, t = k - 1 := ⟨_, rfl⟩
          have hkN : k < N := by omega
          have htN : t < N := by omega
          have c1 := ((unhide HPk) k hkN).1.1
          have f1 := ((unhide HPk) k hkN).1.2
          have c2 := ((unhide HPk) t htN).1.1
          have f2 := ((unhide HPk) t htN).1.2
          have HSW := hide ((unhide HPk).sw k t hkN htN)
          have HGS := hide (grown_drew (grown_trans (unhide HG) (grown_swC wr bp (dk k).2 (dk t).2 k t)))
          obtain ⟨u, c3⟩ := PC.c2 (unhide HPk) k t hkN htN (.int .i64 (dk t).2)
          generalize (dk k).2 = x at *
          generalize (dk t).2 = y at *
          have ba : (k : Int) < (N : Int) := by omega
          have ec : ((k : Int) - 1).toNat = t := by omega
          have pc : (0 : Int) ≤ (k : Int) - 1 := by omega
          have bc : (k : Int) - 1 < (N : Int) := by omega
          have rc : IntKind.i64.wrap ((k : Int) - 1) = (k : Int) - 1 := by rw [IntKind.wrap_i64]; omega
          have HT := hide ht
          clear ht HPk
          go_wp2_with fail
          go_big_region
          clear c1 c2 c3 f1 f2
          unfold swC at HSW HGS
          go_wp2
          go_roundw
          case rel => exact ⟨k - 1, by omega, by omega, by go_num, by rw [← unhide HU, ← unhide HT]; exact unhide HSW, unhide HGS⟩
          case measure => simp [intOf]; omega
        · obtain rfl : k = i := by omega
          have hno2 : ¬ (k : Int) < (k : Int) := by omega
          have hmv0 := (Stab.moved_rot d k m (m + 1) hk2 (by omega)).wider hi (by omega) (Nat.le_refl _)
          have hsr0 := Stab.ins_last hi hk2 (unhide HS) (unhide HLO) (unhide HHI)
          rw [← unhide hb1] at hmv0 hsr0
          have hmv := hide hmv0
          have hsr := hide hsr0
          rw [← unhide hb1] at HPk
          clear hmv0 hsr0
          go_wp2
          refine bodyPost_ret (results_none rfl _ _ _) rfl ?_
          exact ⟨rfl, _, unhide HPk, unhide hmv, unhide hsr, unhide HG⟩
end Go.Proofs.Ytfoaaamcpknjnac
