/-
  The library's merge of two sorted runs: the two ways on which one of them is a single element.
-/
import Derived.Test.YtekgcoajgbpniacGreatQ0
import Derived.Test.YtekgcoajgbpniacGreatQ35
namespace Go.Proofs.YtekgcoajgbpniacGreat
open Go.RowKit
set_option linter.unusedVariables false

set_option maxHeartbeats 2000000 in
set_option maxRecDepth 100000 in
theorem symMerge_one (h : Value) (hh : Hid (h = typeHandle Tryz.prog 125)) (N bp bx cap : Nat) (d : Nat → Int × Int) (a m b : Nat) (w : World) (hm : Hid (m = a + 1)) (hN : N ≤ 288) (hab : m < b) (hb : b ≤ N) (hbp : bp < w.heap.size) (hbx : bx < w.heap.size) (hne : bx ≠ bp)
    (hbox : w.cell? ⟨bx, 0, none⟩ = some (.slice (some ⟨bp, 0, none⟩) N cap)) (hP : PS N bp d w) (sR : Stab.Srt Stab.lx d m b) (hc : Stab.Cross d a m b) :
    Calls Tryz.prog 107 #[.agg #[LF bx, SF h N bp cap], .int .i64 a, .int .i64 m, .int .i64 b] w fun e w' => e = .returned (.tuple #[]) ∧ ∃ d', PS N bp d' w' ∧ Stab.Moved a b d d' ∧ Stab.Srt Stab.lx d' a b ∧ w.grownBy w' (some bp) := by
  have HP := hide hP
  have HS := hide sR
  have HC := hide hc
  have HBX := hide hbox
  have hone : ((m : Int) - (a : Int) == 1) = true := by rw [beq_iff_eq]; have := unhide hm; omega
  have ham : a < m := by have := unhide hm; omega
  clear hP sR hc hbox
  go_enter Tryz.func107, Tryz.ntmps107
  go_wp2
  go_loopw [8, 9, 10] (fun vi vj vh wr => ∃ i j q : Nat, m ≤ i ∧ i ≤ j ∧ j ≤ b ∧ vi = .int .i64 i ∧ vj = .int .i64 j ∧ (m < i → Stab.lx (d (i - 1)) (d a)) ∧ (j < b → Stab.lx (d a) (d j)) ∧ wr = (w.alloc (.cells #[LF bx, SF h N bp cap] 157)).drewN q) (fun vi vj _ _ => (intOf vj).toNat - (intOf vi).toNat)
  case atStart => exact ⟨m, b, 0, Nat.le_refl _, by omega, Nat.le_refl _, rfl, rfl, fun h => by omega, fun h => by omega, rfl⟩
  case round =>
    obtain ⟨i, j, q, hi, hij, hj, rfl, rfl, hlo, hhi, rfl⟩ := hrel
    have HLO := hide hlo
    have HHI := hide hhi
    clear hlo hhi
    by_cases hlt : i < j
    · obtain ⟨c, hcc⟩ : ∃ c, c = (i + j) / 2 := ⟨_, rfl⟩
      have hc1 : i ≤ c := by omega
      have hc2 : c < j := by omega
      have E : Hid (((i : Int) + (j : Int)) / 2 = (c : Int)) := by unfold Hid; omega
      have hx := Stab.cross_less (unhide HC a c (Nat.le_refl _) ham (by omega) (by omega))
      clear hcc
      go_wp2_with fail
      rw [unhide E]
      refine (less_any N bp bx cap d _ c a (by omega) (by omega) hN (((unhide HP).alloc hbp _).drewN q) (by rw [World.cell?_drewN, World.cell?_alloc_past _ _ _ hbx]; exact unhide HBX)).mono ?_
      rintro e w2 ⟨rfl, q2, rfl⟩
      rw [World.drewN_drewN]
      cases hd : decide ((d c).1 < (d a).1) with
      | true =>
        have HX := hide (hx.1 hd)
        clear hx hd
        go_wp2
        go_roundw
        case rel => exact ⟨c + 1, j, _, by omega, by omega, hj, by go_num, rfl, fun _ => unhide HX, unhide HHI, rfl⟩
        case measure => simp [intOf]; omega
      | false =>
        have HX := hide (hx.2 hd)
        clear hx hd
        go_wp2
        go_roundw
        case rel => exact ⟨i, c, _, hi, by omega, by omega, rfl, rfl, unhide HLO, fun _ => unhide HX, rfl⟩
        case measure => simp [intOf]; omega
    · obtain rfl : i = j := by omega
      have hno : ¬ (i : Int) < (i : Int) := by omega
      have HA : Hid (Stab.rot d a (a + 1) (a + 1) = d) := Stab.rot_right d a (a + 1)
      have HW : Hid (PS N bp d ((w.alloc (.cells #[LF bx, SF h N bp cap] 157)).drewN q)) := ((unhide HP).alloc hbp _).drewN q
      have HWG : Hid (w.grownBy ((w.alloc (.cells #[LF bx, SF h N bp cap] 157)).drewN q) (some bp)) := grown_drewN' (grown_alloc' (grown_refl' _ _) _) q
      have hcl : ((w.alloc (.cells #[LF bx, SF h N bp cap] 157)).drewN q).cell? ⟨w.heap.size, 1, none⟩ = some (SF h N bp cap) := by simp
      have hzz : w.heap.size < ((w.alloc (.cells #[LF bx, SF h N bp cap] 157)).drewN q).heap.size := by simp
      generalize (w.alloc (.cells #[LF bx, SF h N bp cap] 157)).drewN q = w1 at *
      go_wp2
      go_loopw [11] (fun vk wq => ∃ k : Nat, a ≤ k ∧ k < i ∧ vk = .int .i64 k ∧ PS N bp (Stab.rot d a (a + 1) (k + 1)) wq ∧ w.grownBy wq (some bp) ∧ wq.cell? ⟨w.heap.size, 1, none⟩ = some (SF h N bp cap) ∧ w.heap.size < wq.heap.size) (fun vk _ => i - (intOf vk).toNat)
      case atStart => exact ⟨a, Nat.le_refl _, by omega, rfl, by rw [unhide HA]; exact unhide HW, unhide HWG, hcl, hzz⟩
      case round =>
        obtain ⟨k, hk1, hk2, rfl, hPk, hg, hc1, hz⟩ := hrel
        have HPk := hide hPk
        have HG := hide hg
        clear hPk hg
        by_cases hlt2 : k < i - 1
        · have hltI : (k : Int) < (i : Int) - 1 := by omega
          have HU := hide (Stab.rot_up d a k hk1)
          generalize Stab.rot d a (a + 1) (k + 1) = dk at *
          have hrun := swap_run N bp cap dk wr k (k + 1) (by omega) (by omega) (unhide HPk)
          rw [← unhide hh] at hrun
          push_cast at hrun
          have HSW := hide ((unhide HPk).sw k (k + 1) (by omega) (by omega))
          have hgs := grown_sw wr bp dk k (k + 1)
          have HGS := hide (grown_trans' (unhide HG) hgs)
          have hc2 := hgs.cell hc1 (by simp; omega)
          have hz2 := Nat.lt_of_lt_of_le hz hgs.size
          clear hgs
          generalize swW wr bp dk k (k + 1) = w2 at *
          go_wp2
          go_roundw
          case rel => exact ⟨k + 1, by omega, by omega, by go_num, by rw [← unhide HU]; exact unhide HSW, unhide HGS, hc2, hz2⟩
          case measure => simp [intOf]; omega
        · obtain rfl : k = i - 1 := by omega
          have hno2 : ¬ ((i - 1 : Nat) : Int) < (i : Int) - 1 := by omega
          have ei : i - 1 + 1 = i := by omega
          have HF : Hid (PS N bp (Stab.rot d a (a + 1) i) wr) := by rw [ei] at HPk; exact HPk
          have hmv := hide ((Stab.moved_rot d a (a + 1) i (by omega) (by omega)).wider (Nat.le_refl _) (by omega) hj)
          have sR' := unhide HS
          rw [unhide hm] at sR' HLO
          have hsr := hide (Stab.ins_first (by omega) hj sR' (unhide HLO) (unhide HHI))
          clear ei sR' HPk
          go_wp2
          refine bodyPost_ret (results_none rfl _ _ _) rfl ?_
          exact ⟨rfl, _, unhide HF, unhide hmv, unhide hsr, unhide HG⟩

set_option maxHeartbeats 2000000 in
set_option maxRecDepth 100000 in
theorem symMerge_last (h : Value) (hh : Hid (h = typeHandle Tryz.prog 125)) (N bp bx cap : Nat) (d : Nat → Int × Int) (a m b : Nat) (w : World) (hb1 : Hid (b = m + 1)) (hN : N ≤ 288) (ham : a + 1 < m) (hmb : m < b) (hb : b ≤ N) (hbp : bp < w.heap.size) (hbx : bx < w.heap.size) (hne : bx ≠ bp)
    (hbox : w.cell? ⟨bx, 0, none⟩ = some (.slice (some ⟨bp, 0, none⟩) N cap)) (hP : PS N bp d w) (sL : Stab.Srt Stab.lx d a m) (hc : Stab.Cross d a m b) :
    Calls Tryz.prog 107 #[.agg #[LF bx, SF h N bp cap], .int .i64 a, .int .i64 m, .int .i64 b] w fun e w' => e = .returned (.tuple #[]) ∧ ∃ d', PS N bp d' w' ∧ Stab.Moved a b d d' ∧ Stab.Srt Stab.lx d' a b ∧ w.grownBy w' (some bp) := by
  have HP := hide hP
  have HS := hide sL
  have HC := hide hc
  have HBX := hide hbox
  have hnot : ((m : Int) - (a : Int) == 1) = false := by rw [beq_eq_false_iff_ne]; omega
  have hone : ((b : Int) - (m : Int) == 1) = true := by rw [beq_iff_eq]; have := unhide hb1; omega
  clear hP sL hc hbox
  go_enter Tryz.func107, Tryz.ntmps107
  go_wp2
  go_loopw [12, 13, 14] (fun vi vj vh wr => ∃ i j q : Nat, a ≤ i ∧ i ≤ j ∧ j ≤ m ∧ vi = .int .i64 i ∧ vj = .int .i64 j ∧ (a < i → Stab.lx (d (i - 1)) (d m)) ∧ (j < m → Stab.lx (d m) (d j)) ∧ wr = (w.alloc (.cells #[LF bx, SF h N bp cap] 157)).drewN q) (fun vi vj _ _ => (intOf vj).toNat - (intOf vi).toNat)
  case atStart => exact ⟨a, m, 0, Nat.le_refl _, by omega, Nat.le_refl _, rfl, rfl, fun h => by omega, fun h => by omega, rfl⟩
  case round =>
    obtain ⟨i, j, q, hi, hij, hj, rfl, rfl, hlo, hhi, rfl⟩ := hrel
    have HLO := hide hlo
    have HHI := hide hhi
    clear hlo hhi
    by_cases hlt : i < j
    · obtain ⟨c, hcc⟩ : ∃ c, c = (i + j) / 2 := ⟨_, rfl⟩
      have hc1 : i ≤ c := by omega
      have hc2 : c < j := by omega
      have E : Hid (((i : Int) + (j : Int)) / 2 = (c : Int)) := by unfold Hid; omega
      have hx := Stab.cross_less (unhide HC c m (by omega) (by omega) (Nat.le_refl _) hmb)
      clear hcc
      go_wp2_with fail
      rw [unhide E]
      refine (less_any N bp bx cap d _ m c (by omega) (by omega) hN (((unhide HP).alloc hbp _).drewN q) (by rw [World.cell?_drewN, World.cell?_alloc_past _ _ _ hbx]; exact unhide HBX)).mono ?_
      rintro e w2 ⟨rfl, q2, rfl⟩
      rw [World.drewN_drewN]
      cases hd : decide ((d m).1 < (d c).1) with
      | true =>
        have HX := hide (hx.1 hd)
        clear hx hd
        go_wp2
        go_roundw
        case rel => exact ⟨i, c, _, hi, by omega, by omega, rfl, rfl, unhide HLO, fun _ => unhide HX, rfl⟩
        case measure => simp [intOf]; omega
      | false =>
        have HX := hide (hx.2 hd)
        clear hx hd
        go_wp2
        go_roundw
        case rel => exact ⟨c + 1, j, _, by omega, by omega, hj, by go_num, rfl, fun _ => unhide HX, unhide HHI, rfl⟩
        case measure => simp [intOf]; omega
    · obtain rfl : i = j := by omega
      have hno : ¬ (i : Int) < (i : Int) := by omega
      have HA : Hid (Stab.rot d m m (m + 1) = d) := Stab.rot_left d m (m + 1)
      have HW : Hid (PS N bp d ((w.alloc (.cells #[LF bx, SF h N bp cap] 157)).drewN q)) := ((unhide HP).alloc hbp _).drewN q
      have HWG : Hid (w.grownBy ((w.alloc (.cells #[LF bx, SF h N bp cap] 157)).drewN q) (some bp)) := grown_drewN' (grown_alloc' (grown_refl' _ _) _) q
      have hcl : ((w.alloc (.cells #[LF bx, SF h N bp cap] 157)).drewN q).cell? ⟨w.heap.size, 1, none⟩ = some (SF h N bp cap) := by simp
      have hzz : w.heap.size < ((w.alloc (.cells #[LF bx, SF h N bp cap] 157)).drewN q).heap.size := by simp
      generalize (w.alloc (.cells #[LF bx, SF h N bp cap] 157)).drewN q = w1 at *
      go_wp2
      go_loopw [15] (fun vk wq => ∃ k : Nat, i ≤ k ∧ k ≤ m ∧ vk = .int .i64 k ∧ PS N bp (Stab.rot d k m (m + 1)) wq ∧ w.grownBy wq (some bp) ∧ wq.cell? ⟨w.heap.size, 1, none⟩ = some (SF h N bp cap) ∧ w.heap.size < wq.heap.size) (fun vk _ => (intOf vk).toNat)
      case atStart => exact ⟨m, hj, Nat.le_refl _, rfl, by rw [unhide HA]; exact unhide HW, unhide HWG, hcl, hzz⟩
      case round =>
        obtain ⟨k, hk1, hk2, rfl, hPk, hg, hc1, hz⟩ := hrel
        have HPk := hide hPk
        have HG := hide hg
        clear hPk hg
        by_cases hlt2 : i < k
        · have HU := hide (Stab.rot_down d k m (by omega) hk2)
          generalize Stab.rot d k m (m + 1) = dk at *
          have hrun := swap_run N bp cap dk wr k (k - 1) (by omega) (by omega) (unhide HPk)
          rw [← unhide hh, show ((k - 1 : Nat) : Int) = (k : Int) - 1 by omega] at hrun
          have HSW := hide ((unhide HPk).sw k (k - 1) (by omega) (by omega))
          have hgs := grown_sw wr bp dk k (k - 1)
          have HGS := hide (grown_trans' (unhide HG) hgs)
          have hc2 := hgs.cell hc1 (by simp; omega)
          have hz2 := Nat.lt_of_lt_of_le hz hgs.size
          clear hgs
          generalize swW wr bp dk k (k - 1) = w2 at *
          go_wp2
          go_roundw
          case rel => exact ⟨k - 1, by omega, by omega, by go_num, by rw [← unhide HU]; exact unhide HSW, unhide HGS, hc2, hz2⟩
          case measure => simp [intOf]; omega
        · obtain rfl : k = i := by omega
          have hno2 : ¬ (k : Int) < (k : Int) := by omega
          have hmv0 := (Stab.moved_rot d k m (m + 1) hk2 (by omega)).wider hi (by omega) (Nat.le_refl _)
          have hsr0 := Stab.ins_last hi hk2 (unhide HS) (unhide HLO) (unhide HHI)
          rw [← unhide hb1] at hmv0 hsr0
          have hmv := hide hmv0
          have hsr := hide hsr0
          rw [← unhide hb1] at HPk
          clear hmv0 hsr0
          go_wp2
          refine bodyPost_ret (results_none rfl _ _ _) rfl ?_
          exact ⟨rfl, _, unhide HPk, unhide hmv, unhide hsr, unhide HG⟩
end Go.Proofs.YtekgcoajgbpniacGreat
