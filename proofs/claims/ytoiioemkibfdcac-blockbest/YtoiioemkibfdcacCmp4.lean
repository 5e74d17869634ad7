/-
  The library's merge of places for all runs; its sort by insertion.
-/
import Derived.Test.YtoiioemkibfdcacCmp3
import Derived.Test.YtoiioemkibfdcacPBase
namespace Go.Proofs.Ytoiioemkibfdcac
open Go.RowKit
set_option linter.unusedVariables false

theorem mergeC_any (N bp cap bx bl ol ln lc : Nat) (l : List Int) (hN : N ≤ 288) : ∀ L, MergeC N bp cap bx bl ol ln lc l L
  | 0 => fun d a m b w hL ham hmb _ _ _ _ _ _ => by omega
  | L + 1 => fun d a m b w hL ham hmb hb hX hP sL sR hc => by
    by_cases h1 : m = a + 1
    · exact mergeC_one N bp cap bx bl ol ln lc l d a m b w (hide h1) hN hmb hb hX hP sR hc
    · by_cases h2 : b = m + 1
      · exact mergeC_last N bp cap bx bl ol ln lc l d a m b w (hide h2) hN (by omega) hmb hb hX hP sL hc
      · by_cases h3 : (a + b) / 2 < m
        · exact mergeC_both N bp cap bx bl ol ln lc l L (hide (mergeC_any N bp cap bx bl ol ln lc l hN L)) d a m b ((a + b) / 2) ((a + b) / 2 + m - b) ((a + b) / 2) w hN (by omega) (by omega) (by omega) hb (hide rfl) (hide (.inl ⟨h3, by omega, rfl⟩)) hX hP sL sR hc
        · exact mergeC_both N bp cap bx bl ol ln lc l L (hide (mergeC_any N bp cap bx bl ol ln lc l hN L)) d a m b ((a + b) / 2) a m w hN (by omega) (by omega) (by omega) hb (hide rfl) (hide (.inr ⟨by omega, rfl, rfl⟩)) hX hP sL sR hc

set_option maxHeartbeats 4000000 in
set_option maxRecDepth 100000 in
theorem insertionC (N bp cap bx bl ol ln lc : Nat) (l : List Int) (d : Nat → Int × Int) (a b : Nat) (w : World) (hN : N ≤ 288) (hab : a ≤ b) (hb : b ≤ N) (hX : Cx bp bx bl ol ln lc l w) (hP : PC N bp l d w) (hr : Rise d a b) :
    Calls Try.prog 158 #[.slice (some ⟨bp, 0, none⟩) N cap, .int .i64 a, .int .i64 b, CF bx] w fun e w' => e = .returned (.tuple #[]) ∧ ∃ d', PC N bp l d' w' ∧ Stab.Moved a b d d' ∧ Stab.Srt Stab.lx d' a b ∧ w.grownBy w' (some bp) := by
  have S0 : Hid (CSt N bp bx bl ol ln lc l w w d) := ⟨hP, grown_refl _ _, hX⟩
  have HR := hide hr
  clear hP hX hr
  go_enter Try.func158, Try.ntmps158
  go_wp2
  go_loopw [8] (fun vi wr => ∃ (i : Nat) (di : Nat → Int × Int), a < i ∧ (i ≤ b ∨ (i = a + 1 ∧ di = d)) ∧ vi = .int .i64 i ∧ CSt N bp bx bl ol ln lc l w wr di ∧ Stab.Moved a i d di ∧ Stab.Srt Stab.lx di a i) (fun vi _ => b + 2 - (intOf vi).toNat)
  case atStart => exact ⟨a + 1, d, by omega, .inr ⟨rfl, rfl⟩, by go_num, unhide S0, Stab.Moved.refl _ _ _, fun i j h1 h2 h3 => by omega⟩
  case round =>
    obtain ⟨i, di, hai, hib, rfl, hS, hM, hs⟩ := hrel
    have HS := hide hS
    have HM := hide hM
    have HSr := hide hs
    by_cases hlt : i < b
    · have HCr : Hid (∀ k, a ≤ k → k < i → (di k).2 < (di i).2) := fun k h1 h2 => by
        obtain ⟨k', e1, e2, e3⟩ := hM.mem h1 h2
        rw [hM.out i (by omega), ← e3]
        exact unhide HR k' i e1 e2 hlt
      clear hib hS hM hs S0
      go_wp2
      go_loopw [9] (fun vj wr => ∃ j : Nat, a ≤ j ∧ j ≤ i ∧ vj = .int .i64 j ∧ CSt N bp bx bl ol ln lc l w wr (Stab.rot di j i (i + 1)) ∧ (j < i → Stab.lx (di i) (di j))) (fun vj _ => (intOf vj).toNat)
      case atStart => exact ⟨i, by omega, Nat.le_refl _, rfl, by rw [Stab.rot_left]; exact unhide HS, fun h => by omega⟩
      case round =>
        obtain ⟨j, haj, hji, rfl, hS, hlo⟩ := hrel
        have HS2 := hide hS
        have HLO := hide hlo
        have hE : ((a < j → Stab.lx (di (j - 1)) (di i)) → Hid (Stab.Moved a (i + 1) d (Stab.rot di j i (i + 1)) ∧ Stab.Srt Stab.lx (Stab.rot di j i (i + 1)) a (i + 1))) := fun hl =>
          hide ⟨((unhide HM).wider (Nat.le_refl _) (by omega) (by omega)).trans ((Stab.moved_rot di j i (i + 1) hji (by omega)).wider haj (by omega) (Nat.le_refl _)), Stab.ins_last haj hji (unhide HSr) hl (unhide HLO)⟩
        clear hS hlo
        by_cases hja : a < j
        · obtain ⟨t, rfl⟩ : ∃ t, j = t + 1 := ⟨j - 1, by omega⟩
          rw [Nat.add_sub_cancel] at hE
          have eD1 : Stab.rot di (t + 1) i (i + 1) (t + 1) = di i := by
            unfold Stab.rot
            rw [if_pos (by omega)]
            congr 1; omega
          have eD2 : Stab.rot di (t + 1) i (i + 1) t = di t := by
            unfold Stab.rot
            rw [if_neg (by omega), if_neg (by omega)]
          have HX := hide (Stab.cross_less (unhide HCr t (by omega) (by omega)))
          have HRD0 := Stab.rot_down di (t + 1) i (by omega) hji
          rw [Nat.add_sub_cancel] at HRD0
          have HRD := hide HRD0
          have HE := hide hE
          have hCmp := fun n => cmp_at (unhide HS2).ps (unhide HS2).cx (t + 1) t (by omega) (by omega) n
          rw [eD1, eD2] at hCmp
          have CM := hide hCmp
          have c1 := ((unhide HS2).ps (t + 1) (by omega)).1.1
          have f1 := ((unhide HS2).ps (t + 1) (by omega)).1.2
          have c2 := ((unhide HS2).ps t (by omega)).1.1
          have f2 := ((unhide HS2).ps t (by omega)).1.2
          have HSW := hide (fun n => PC.sw ((unhide HS2).ps.drewN n) (t + 1) t (by omega) (by omega))
          have HC2 := hide (fun n => PC.c2 ((unhide HS2).ps.drewN n) (t + 1) t (by omega) (by omega) (.int .i64 (di t).2))
          rw [eD1] at c1 HSW
          rw [eD2] at c2 HSW
          clear eD1 eD2 hE HRD0 hCmp
          generalize Stab.rot di (t + 1) i (i + 1) = D at *
          obtain ⟨s, hs⟩ : ∃ s, s = t + 1 := ⟨_, rfl⟩
          have HT := hide hs
          rw [← hs] at c1 f1 HSW HC2
          generalize (di i).2 = x at *
          generalize (di t).2 = y at *
          have hja2 : (a : Int) < (t : Int) + 1 := by omega
          have hjb : decide ((t : Int) + 1 > (a : Int)) = true := decide_eq_true (by omega)
          have ea : ((t : Int) + 1).toNat = s := by omega
          have pa : (0 : Int) ≤ (t : Int) + 1 := by omega
          have ba : (t : Int) + 1 < (N : Int) := by omega
          have bc : (t : Int) < (N : Int) := by omega
          have rc : IntKind.i64.wrap (t : Int) = (t : Int) := by rw [IntKind.wrap_i64]; omega
          clear hs
          go_wp2_with fail
          go_quiet ((go_at_call 149; refine Calls.quiet_of (unhide CM _)))
          rw [cmp3_lt]
          cases hd : decide ((di i).1 < (di t).1) with
          | true =>
            have HX2 := hide ((unhide HX).1 hd)
            have HS3 : Hid (CSt N bp bx bl ol ln lc l w (swC (wr.drewN nq) bp x y s t).drew (Stab.rot di t i (i + 1))) := by
              have h1 := (unhide HSW) nq
              rw [unhide HT, unhide HRD, ← unhide HT] at h1
              exact (unhide HS2).next h1 (grown_drew (grown_trans (grown_drewN (grown_refl wr (some bp)) nq) (grown_swC (wr.drewN nq) bp x y s t)))
            obtain ⟨u, c3⟩ := (unhide HC2) nq
            have c1' : (wr.drewN nq).cell? ⟨bp, s, none⟩ = some (.int .i64 x) := c1
            have c2' : (wr.drewN nq).cell? ⟨bp, t, none⟩ = some (.int .i64 y) := c2
            have f1' : (wr.drewN nq).frozen? ⟨bp, s, none⟩ = false := f1
            have f2' : (wr.drewN nq).frozen? ⟨bp, t, none⟩ = false := f2
            unfold swC at HS3
            clear hd HSW HX HE HRD HC2 CM c1 c2 f1 f2
            generalize wr.drewN nq = wq at *
            go_wp2_with fail
            go_big_region
            clear c1' c2' f1' f2' c3
            go_wp2
            go_roundw
            case rel => exact ⟨t, by omega, by omega, by go_num, unhide HS3, fun _ => unhide HX2⟩
            case measure => simp [intOf]
          | false =>
            have HF := unhide HE (fun _ => (unhide HX).2 hd)
            have HS3 : Hid (CSt N bp bx bl ol ln lc l w (wr.drewN nq) D) := (unhide HS2).next ((unhide HS2).ps.drewN nq) (grown_drewN (grown_refl _ _) nq)
            clear hd HX HE HRD HSW HC2 CM c1 c2 f1 f2
            go_wp2
            go_roundw
            case rel => exact ⟨i + 1, D, by omega, .inl (by omega), by go_num, unhide HS3, (unhide HF).1, (unhide HF).2⟩
            case measure => simp [intOf]; omega
        · have hjaI : ¬ (a : Int) < (j : Int) := by omega
          have hjb : decide ((j : Int) > (a : Int)) = false := decide_eq_false (by omega)
          have HF := hE (fun h => by omega)
          clear hE
          generalize Stab.rot di j i (i + 1) = D at *
          have HS3 : Hid (CSt N bp bx bl ol ln lc l w wr.drew D) := (unhide HS2).next ((unhide HS2).ps.drewN 1) (grown_drew (grown_refl _ _))
          go_wp2_with fail
          go_big_region
          all_goals go_wp2
          go_roundw
          case rel => exact ⟨i + 1, D, by omega, .inl (by omega), by go_num, unhide HS3, (unhide HF).1, (unhide HF).2⟩
          case measure => simp [intOf]; omega
    · have HF : Hid (Stab.Moved a b d di ∧ Stab.Srt Stab.lx di a b) := by
        rcases hib with h1 | ⟨h1, h2⟩
        · have e : i = b := by omega
          rw [← e]
          exact ⟨hM, hs⟩
        · rw [h2]
          exact ⟨Stab.Moved.refl _ _ _, fun i j h1 h2 h3 => by omega⟩
      clear hib hS hM hs S0
      go_wp2
      go_end0
      exact ⟨rfl, di, (unhide HS).ps, (unhide HF).1, (unhide HF).2, (unhide HS).grown⟩
end Go.Proofs.Ytoiioemkibfdcac
