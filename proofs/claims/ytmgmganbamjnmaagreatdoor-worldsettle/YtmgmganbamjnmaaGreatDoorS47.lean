/-
  Rows of numbers, of lists and of messages that are alike; worlds that are alike.
-/
import Derived.Test.YtmgmganbamjnmaaGreatDoorS10
import Derived.Test.YtmgmganbamjnmaaGreatDoorS11
import Derived.Test.YtmgmganbamjnmaaGreatDoorS12
import Derived.Test.YtmgmganbamjnmaaGreatDoorS28
import Derived.Test.YtmgmganbamjnmaaGreatDoorS46
import Derived.Test.YtmgmganbamjnmaaGreatDoorS17
namespace Go.Proofs.YtmgmganbamjnmaaGreatDoor
open Go.RowKit
set_option linter.unusedVariables false
set_option linter.unusedSimpArgs false
set_option maxRecDepth 100000

set_option maxHeartbeats 2000000 in
theorem equalI_yes {w : World} {a1 a2 : Option Addr} {c1 c2 n : Nat} {xs : List Int} (h : CsIn w a1 c1 xs) (k : CsIn w a2 c2 xs) (hn : xs.length = n) : Calls Tryz.prog 23 #[.slice a1 n c1, .slice a2 n c2] w fun e w' => e = .returned (.bool true) ∧ Below w.heap.size w w' := by
  have HI := hide h
  have HK := hide k
  have HN := hide hn
  have hlim := h.lim
  rw [hn] at hlim
  have hnn : ((n : Int) != (n : Int)) = false := by simp
  clear h k hn
  go_enter Tryz.func23, Tryz.ntmps23
  go_wp2
  go_loopw [5, 13] (fun _ i wr => ∃ k : Nat, k ≤ n ∧ i = .int .i64 (k : Int) ∧ Hid (Below w.heap.size w wr)) (fun _ i _ => n - (intOf i).toNat)
  case atStart => exact ⟨0, Nat.zero_le _, rfl, Below.refl _ _⟩
  case round =>
    obtain ⟨k, hk, rfl, HB⟩ := hrel
    by_cases hlt : k < n
    · obtain ⟨x, hx⟩ := get_some (l := xs) (k := k) (by rw [unhide HN]; exact hlt)
      obtain ⟨b, o, hA, hb, c0⟩ := ((unhide HI).below (unhide HB)).get hx
      obtain ⟨b', o', hC, hb', d0⟩ := ((unhide HK).below (unhide HB)).get hx
      have hxx : (x != x) = false := by simp
      have hk0 : (0 : Int) ≤ (k : Int) := by omega
      have hk1 : (k : Int) < (n : Int) := by omega
      clear hx
      subst hA hC
      go_upto_region 6 with fail
      refine wp_region_held_drew (S := fun W => W = wr.drew) (by kernel_rfl) rfl (fun hHeld => ?_)
      refine wpAnyH_take (i := 0) (v := .slice (some ⟨b, o, none⟩) n c1) rfl (by kernel_rfl) (by kernel_rfl) (by kernel_rfl) (fun _ _ _ h => h) (Or.inl ⟨by rfl, fun W hS => by go_simp⟩) hHeld ?_
      simp only [Act.put, List.setIfInBounds_toArray, List.set_cons_zero, List.set_cons_succ]
      refine wpAnyH_take (i := 1) (v := .int .i64 (k : Int)) rfl (by kernel_rfl) (by kernel_rfl) (by kernel_rfl) (fun _ _ _ h => h) (Or.inl ⟨by rfl, fun W hS => by go_simp⟩) hHeld ?_
      simp only [Act.put, List.setIfInBounds_toArray, List.set_cons_zero, List.set_cons_succ]
      refine wpAnyH_take (i := 2) (v := .pointer (some ⟨b, o + k, none⟩)) rfl (by kernel_rfl) (by kernel_rfl) (by kernel_rfl) (fun _ _ _ h => h) (Or.inl ⟨by rfl, fun W hS => by go_simp⟩) hHeld ?_
      simp only [Act.put, List.setIfInBounds_toArray, List.set_cons_zero, List.set_cons_succ]
      refine wpAnyH_take (i := 3) (v := .int .i64 x) rfl (by kernel_rfl) (by kernel_rfl) (by kernel_rfl) (fun _ _ _ h => h) (Or.inl ⟨by rfl, fun W hS => by subst hS; have c0' : wr.drew.cell? ⟨b, o + k, none⟩ = some (.int .i64 x) := c0; go_simp⟩) hHeld ?_
      simp only [Act.put, List.setIfInBounds_toArray, List.set_cons_zero, List.set_cons_succ]
      refine wpAnyH_take (i := 4) (v := .slice (some ⟨b', o', none⟩) n c2) rfl (by kernel_rfl) (by kernel_rfl) (by kernel_rfl) (fun _ _ _ h => h) (Or.inl ⟨by rfl, fun W hS => by go_simp⟩) hHeld ?_
      simp only [Act.put, List.setIfInBounds_toArray, List.set_cons_zero, List.set_cons_succ]
      refine wpAnyH_take (i := 5) (v := .int .i64 (k : Int)) rfl (by kernel_rfl) (by kernel_rfl) (by kernel_rfl) (fun _ _ _ h => h) (Or.inl ⟨by rfl, fun W hS => by go_simp⟩) hHeld ?_
      simp only [Act.put, List.setIfInBounds_toArray, List.set_cons_zero, List.set_cons_succ]
      refine wpAnyH_take (i := 6) (v := .pointer (some ⟨b', o' + k, none⟩)) rfl (by kernel_rfl) (by kernel_rfl) (by kernel_rfl) (fun _ _ _ h => h) (Or.inl ⟨by rfl, fun W hS => by go_simp⟩) hHeld ?_
      simp only [Act.put, List.setIfInBounds_toArray, List.set_cons_zero, List.set_cons_succ]
      refine wpAnyH_take (i := 7) (v := .int .i64 x) rfl (by kernel_rfl) (by kernel_rfl) (by kernel_rfl) (fun _ _ _ h => h) (Or.inl ⟨by rfl, fun W hS => by subst hS; have d0' : wr.drew.cell? ⟨b', o' + k, none⟩ = some (.int .i64 x) := d0; go_simp⟩) hHeld ?_
      simp only [Act.put, List.setIfInBounds_toArray, List.set_cons_zero, List.set_cons_succ]
      refine wpAnyH_ready (rs := [8]) (by kernel_rfl) (by simp) (AllReadyH.cons rfl (fun K hK => ?_) AllReadyH.nil)
      go_simp
      refine hK.out _ _ hHeld (fun hHeld => ?_)
      clear hK K
      refine wpAnyH_done (by kernel_rfl) ?_ _
      clear hHeld
      have HB1 := hide (below_drewN (unhide HB) 1)
      go_wp2
      go_roundw
      case rel => exact ⟨k + 1, by omega, by go_num, HB1⟩
      case measure => simp [intOf]; omega
    · obtain rfl : n = k := by omega
      go_wp2
      go_ret
      exact ⟨rfl, unhide HB⟩
set_option maxHeartbeats 2000000 in
theorem equalE_yes {w : World} {a1 a2 : Option Addr} {c1 c2 n : Nat} {xs : List Int} (h : CsIn w a1 c1 xs) (k : CsIn w a2 c2 xs) (hn : xs.length = n) : Calls Tryz.prog 15 #[.slice a1 n c1, .slice a2 n c2] w fun e w' => e = .returned (.bool true) ∧ Below w.heap.size w w' := by
  have HI := hide h
  have HK := hide k
  have HN := hide hn
  have hlim := h.lim
  rw [hn] at hlim
  have hnn : ((n : Int) != (n : Int)) = false := by simp
  clear h k hn
  go_enter Tryz.func15, Tryz.ntmps15
  go_wp2
  go_loopw [5, 13] (fun _ i wr => ∃ k : Nat, k ≤ n ∧ i = .int .i64 (k : Int) ∧ Hid (Below w.heap.size w wr)) (fun _ i _ => n - (intOf i).toNat)
  case atStart => exact ⟨0, Nat.zero_le _, rfl, Below.refl _ _⟩
  case round =>
    obtain ⟨k, hk, rfl, HB⟩ := hrel
    by_cases hlt : k < n
    · obtain ⟨x, hx⟩ := get_some (l := xs) (k := k) (by rw [unhide HN]; exact hlt)
      obtain ⟨b, o, hA, hb, c0⟩ := ((unhide HI).below (unhide HB)).get hx
      obtain ⟨b', o', hC, hb', d0⟩ := ((unhide HK).below (unhide HB)).get hx
      have hxx : (x != x) = false := by simp
      have hk0 : (0 : Int) ≤ (k : Int) := by omega
      have hk1 : (k : Int) < (n : Int) := by omega
      clear hx
      subst hA hC
      go_upto_region 6 with fail
      refine wp_region_held_drew (S := fun W => W = wr.drew) (by kernel_rfl) rfl (fun hHeld => ?_)
      refine wpAnyH_take (i := 0) (v := .slice (some ⟨b, o, none⟩) n c1) rfl (by kernel_rfl) (by kernel_rfl) (by kernel_rfl) (fun _ _ _ h => h) (Or.inl ⟨by rfl, fun W hS => by go_simp⟩) hHeld ?_
      simp only [Act.put, List.setIfInBounds_toArray, List.set_cons_zero, List.set_cons_succ]
      refine wpAnyH_take (i := 1) (v := .int .i64 (k : Int)) rfl (by kernel_rfl) (by kernel_rfl) (by kernel_rfl) (fun _ _ _ h => h) (Or.inl ⟨by rfl, fun W hS => by go_simp⟩) hHeld ?_
      simp only [Act.put, List.setIfInBounds_toArray, List.set_cons_zero, List.set_cons_succ]
      refine wpAnyH_take (i := 2) (v := .pointer (some ⟨b, o + k, none⟩)) rfl (by kernel_rfl) (by kernel_rfl) (by kernel_rfl) (fun _ _ _ h => h) (Or.inl ⟨by rfl, fun W hS => by go_simp⟩) hHeld ?_
      simp only [Act.put, List.setIfInBounds_toArray, List.set_cons_zero, List.set_cons_succ]
      refine wpAnyH_take (i := 3) (v := .int .i64 x) rfl (by kernel_rfl) (by kernel_rfl) (by kernel_rfl) (fun _ _ _ h => h) (Or.inl ⟨by rfl, fun W hS => by subst hS; have c0' : wr.drew.cell? ⟨b, o + k, none⟩ = some (.int .i64 x) := c0; go_simp⟩) hHeld ?_
      simp only [Act.put, List.setIfInBounds_toArray, List.set_cons_zero, List.set_cons_succ]
      refine wpAnyH_take (i := 4) (v := .slice (some ⟨b', o', none⟩) n c2) rfl (by kernel_rfl) (by kernel_rfl) (by kernel_rfl) (fun _ _ _ h => h) (Or.inl ⟨by rfl, fun W hS => by go_simp⟩) hHeld ?_
      simp only [Act.put, List.setIfInBounds_toArray, List.set_cons_zero, List.set_cons_succ]
      refine wpAnyH_take (i := 5) (v := .int .i64 (k : Int)) rfl (by kernel_rfl) (by kernel_rfl) (by kernel_rfl) (fun _ _ _ h => h) (Or.inl ⟨by rfl, fun W hS => by go_simp⟩) hHeld ?_
      simp only [Act.put, List.setIfInBounds_toArray, List.set_cons_zero, List.set_cons_succ]
      refine wpAnyH_take (i := 6) (v := .pointer (some ⟨b', o' + k, none⟩)) rfl (by kernel_rfl) (by kernel_rfl) (by kernel_rfl) (fun _ _ _ h => h) (Or.inl ⟨by rfl, fun W hS => by go_simp⟩) hHeld ?_
      simp only [Act.put, List.setIfInBounds_toArray, List.set_cons_zero, List.set_cons_succ]
      refine wpAnyH_take (i := 7) (v := .int .i64 x) rfl (by kernel_rfl) (by kernel_rfl) (by kernel_rfl) (fun _ _ _ h => h) (Or.inl ⟨by rfl, fun W hS => by subst hS; have d0' : wr.drew.cell? ⟨b', o' + k, none⟩ = some (.int .i64 x) := d0; go_simp⟩) hHeld ?_
      simp only [Act.put, List.setIfInBounds_toArray, List.set_cons_zero, List.set_cons_succ]
      refine wpAnyH_ready (rs := [8]) (by kernel_rfl) (by simp) (AllReadyH.cons rfl (fun K hK => ?_) AllReadyH.nil)
      go_simp
      refine hK.out _ _ hHeld (fun hHeld => ?_)
      clear hK K
      refine wpAnyH_done (by kernel_rfl) ?_ _
      clear hHeld
      have HB1 := hide (below_drewN (unhide HB) 1)
      go_wp2
      go_roundw
      case rel => exact ⟨k + 1, by omega, by go_num, HB1⟩
      case measure => simp [intOf]; omega
    · obtain rfl : n = k := by omega
      go_wp2
      go_ret
      exact ⟨rfl, unhide HB⟩
set_option maxHeartbeats 2000000 in
theorem equalL_yes {w : World} {a1 a2 : Option Addr} {c1 c2 n : Nat} {ls : List (List Fl)} (h : NsIn w a1 c1 ls) (k : NsIn w a2 c2 ls) (hn : ls.length = n) : Calls Tryz.prog 27 #[.slice a1 n c1, .slice a2 n c2, .func (.func 18) #[] #[]] w fun e w' => e = .returned (.bool true) ∧ Below w.heap.size w w' := by
  have HI := hide h
  have HK := hide k
  have HN := hide hn
  have hlim := h.lim
  rw [hn] at hlim
  have hnn : ((n : Int) != (n : Int)) = false := by simp
  clear h k hn
  go_enter Tryz.func27, Tryz.ntmps27
  go_wp2
  go_loopw [7, 8, 9, 17] (fun _ _ _ i wr => ∃ k : Nat, k ≤ n ∧ i = .int .i64 (k : Int) ∧ Hid (Below w.heap.size w wr)) (fun _ _ _ i _ => n - (intOf i).toNat)
  case atStart => exact ⟨0, Nat.zero_le _, rfl, Below.refl _ _⟩
  case round =>
    obtain ⟨k, hk, rfl, HB⟩ := hrel
    by_cases hlt : k < n
    · obtain ⟨x, hx⟩ := get_some (l := ls) (k := k) (by rw [unhide HN]; exact hlt)
      obtain ⟨b, o, v, hA, hb, c0, hL⟩ := ((unhide HI).below (unhide HB)).get hx
      obtain ⟨b', o', v', hC, hb', d0, hM⟩ := ((unhide HK).below (unhide HB)).get hx
      have HS := hide (same_yes hL hM rfl)
      obtain ⟨l1, l2, e1⟩ := hL.shape
      obtain ⟨m1, m2, e2⟩ := hM.shape
      obtain ⟨q, hq⟩ : ∃ q, x.length = q := ⟨_, rfl⟩
      rw [hq] at e1 e2
      subst e1 e2
      clear hx hL hM hq
      subst hA hC
      go_wp2_with fail
      refine (unhide HS).mono ?_
      rintro e w1 ⟨rfl, hb1⟩
      have HB1 := hide ((unhide HB).trans (hb1.mono (unhide HB).size))
      clear hb1
      go_wp2
      go_roundw
      case rel => exact ⟨k + 1, by omega, by go_num, HB1⟩
      case measure => simp [intOf]; omega
    · obtain rfl : n = k := by omega
      go_wp2
      go_ret
      exact ⟨rfl, unhide HB⟩
theorem sameMsg_yes {w : World} {d : Int} {l1 l2 m1 m2 : Nat} {a1 a2 : Option Addr} {l : List Fl} (h : LIn w (.slice a1 l1 m1) l) (k : LIn w (.slice a2 l2 m2) l) : Calls Tryz.prog 29 #[.agg #[.int .i64 d, .slice a1 l1 m1], .agg #[.int .i64 d, .slice a2 l2 m2]] w fun e w' => e = .returned (.bool true) ∧ Below w.heap.size w w' := by
  have hB := bel_al (bel_al (Below.refl w.heap.size w) (mbox (.int .i64 d) (.slice a1 l1 m1))) (mbox (.int .i64 d) (.slice a2 l2 m2))
  have HS := hide (same_yes (h.below hB) (k.below hB) rfl)
  have HB := hide hB
  have hdd : (d == d) = true := by simp
  clear h k hB
  go_enter Tryz.func29, Tryz.ntmps29
  go_wp2_with fail
  refine (unhide HS).mono ?_
  rintro e w1 ⟨rfl, hb1⟩
  have HB1 := hide ((unhide HB).trans (hb1.mono (unhide HB).size))
  clear hb1
  go_wp2
  go_ret
  exact ⟨rfl, unhide HB1⟩
set_option maxHeartbeats 2000000 in
theorem equalM_yes {w : World} {a1 a2 : Option Addr} {c1 c2 n : Nat} {ms : List Ms} (h : MsIn w a1 c1 ms) (k : MsIn w a2 c2 ms) (hn : ms.length = n) : Calls Tryz.prog 28 #[.slice a1 n c1, .slice a2 n c2, .func (.func 29) #[] #[]] w fun e w' => e = .returned (.bool true) ∧ Below w.heap.size w w' := by
  have HI := hide h
  have HK := hide k
  have HN := hide hn
  have hlim := h.lim
  rw [hn] at hlim
  have hnn : ((n : Int) != (n : Int)) = false := by simp
  clear h k hn
  go_enter Tryz.func28, Tryz.ntmps28
  go_wp2
  go_loopw [7, 8, 9, 17] (fun _ _ _ i wr => ∃ k : Nat, k ≤ n ∧ i = .int .i64 (k : Int) ∧ Hid (Below w.heap.size w wr)) (fun _ _ _ i _ => n - (intOf i).toNat)
  case atStart => exact ⟨0, Nat.zero_le _, rfl, Below.refl _ _⟩
  case round =>
    obtain ⟨k, hk, rfl, HB⟩ := hrel
    by_cases hlt : k < n
    · obtain ⟨x, hx⟩ := get_some (l := ms) (k := k) (by rw [unhide HN]; exact hlt)
      obtain ⟨b, o, v, hA, hb, c0, c1', hL⟩ := ((unhide HI).below (unhide HB)).get hx
      obtain ⟨b', o', v', hC, hb', d0, d1, hM⟩ := ((unhide HK).below (unhide HB)).get hx
      obtain ⟨l1, l2, e1⟩ := hL.shape
      obtain ⟨m1, m2, e2⟩ := hM.shape
      obtain ⟨q, hq⟩ : ∃ q, x.files.length = q := ⟨_, rfl⟩
      obtain ⟨d, hd⟩ : ∃ d, x.dst = d := ⟨_, rfl⟩
      rw [hq] at e1 e2
      rw [hd] at c0 d0
      subst e1 e2
      have hB2 := bel_al (bel_al (Below.refl wr.heap.size wr) (mbox (.int .i64 d) (.slice l1 q l2))) (mbox (.int .i64 d) (.slice m1 q m2))
      have HS := hide (sameMsg_yes (d := d) (hL.below hB2) (hM.below hB2))
      have e0 := fun ob => cell_al (o := ob) d0
      have e1 := fun ob => cell_al (o := ob) d1
      have HB2 := hide ((unhide HB).trans (hB2.mono (unhide HB).size))
      clear hx hL hM hq hd hB2
      subst hA hC
      go_wp2_with fail
      refine (unhide HS).mono ?_
      rintro e w1 ⟨rfl, hb1⟩
      have HB1 := hide ((unhide HB2).trans (hb1.mono (unhide HB2).size))
      clear hb1
      go_wp2
      go_roundw
      case rel => exact ⟨k + 1, by omega, by go_num, HB1⟩
      case measure => simp [intOf]; omega
    · obtain rfl : n = k := by omega
      go_wp2
      go_ret
      exact ⟨rfl, unhide HB⟩
end Go.Proofs.YtmgmganbamjnmaaGreatDoor

/-
  Worlds, of lists alone: the law's closed fact.
-/
namespace Go.Proofs.YtmgmganbamjnmaaGreatDoor
open Go.RowKit
set_option linter.unusedVariables false
set_option linter.unusedSimpArgs false

def tF : Fl := ⟨[97], [120], 1, 0, false⟩
def tX : List Hp := [⟨1, 0, 0, [97], [120]⟩, ⟨3, 0, 1, [], []⟩, ⟨4, 0, 0, [], []⟩, ⟨4, 0, 0, [], []⟩]
theorem both_tF : bothE [] [tF] = 0 ∧ bothL [] [tF] = [tF] := by
  have e : tog [] [tF] = [tF] := tog_nil _
  have h : bothE [] [tF] = 0 := bothE_ok (by decide) (by rw [e]; decide)
  exact ⟨h, by rw [bothL_ok h, e]⟩
theorem newW_2 : newW 2 = ⟨[[], []], [0, 0], []⟩ := by decide
theorem t1 : doE ⟨[[], []], [0, 0], []⟩ ⟨1, 0, 0, [97], [120]⟩ = 0 ∧ doW ⟨[[], []], [0, 0], []⟩ ⟨1, 0, 0, [97], [120]⟩ = ⟨[[tF], []], [1, 0], []⟩ := by
  have hE : doE ⟨[[], []], [0, 0], []⟩ ⟨1, 0, 0, [97], [120]⟩ = 0 := by
    have h0 : errWd ⟨[[], []], [0, 0], []⟩ = 0 := by decide
    unfold doE
    rw [if_neg (by simp [h0])]
    exact both_tF.1
  refine ⟨hE, ?_⟩
  unfold doW
  rw [if_pos hE]
  show keepW 0 (bothL [] [tF]) ⟨[[], []], [0, 0], []⟩ = _
  rw [both_tF.2]
  decide
theorem t2 : doE ⟨[[tF], []], [1, 0], []⟩ ⟨3, 0, 1, [], []⟩ = 0 ∧ doW ⟨[[tF], []], [1, 0], []⟩ ⟨3, 0, 1, [], []⟩ = ⟨[[tF], []], [1, 0], [⟨1, [tF]⟩]⟩ := by decide
theorem t3 : doE ⟨[[tF], []], [1, 0], [⟨1, [tF]⟩]⟩ ⟨4, 0, 0, [], []⟩ = 0 ∧ doW ⟨[[tF], []], [1, 0], [⟨1, [tF]⟩]⟩ ⟨4, 0, 0, [], []⟩ = ⟨[[tF], [tF]], [1, 1], []⟩ := by
  have hE : doE ⟨[[tF], []], [1, 0], [⟨1, [tF]⟩]⟩ ⟨4, 0, 0, [], []⟩ = 0 := by
    have h0 : errWd ⟨[[tF], []], [1, 0], [⟨1, [tF]⟩]⟩ = 0 := by decide
    unfold doE
    rw [if_neg (by simp [h0])]
    exact both_tF.1
  refine ⟨hE, ?_⟩
  unfold doW
  rw [if_pos hE]
  show dropW 0 (keepW 1 (bothL [] [tF]) ⟨[[tF], []], [1, 0], [⟨1, [tF]⟩]⟩) = _
  rw [both_tF.2]
  decide
theorem t4 : doE ⟨[[tF], [tF]], [1, 1], []⟩ ⟨4, 0, 0, [], []⟩ = 5 := by decide
theorem told_run : runW (newW 2) tX = ⟨[[tF], [tF]], [1, 1], []⟩ ∧ runS (newW 2) tX = [0, 0, 0, 5] := by
  rw [newW_2]
  unfold tX
  simp only [runW, runS, t1.1, t1.2, if_true, t2.1, t2.2, t3.1, t3.2, t4]
  simp
end Go.Proofs.YtmgmganbamjnmaaGreatDoor
