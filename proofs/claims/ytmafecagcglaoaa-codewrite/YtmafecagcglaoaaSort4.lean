/-
  The library's merge for all runs; its sort by insertion.
-/
import Derived.Test.YtmafecagcglaoaaSort3
import Derived.Test.YtmafecagcglaoaaStab3
namespace Go.Proofs.Ytmafecagcglaoaa
open Go.RowKit
set_option linter.unusedVariables false

theorem symMerge_any (h : Value) (hh : Hid (h = typeHandle Try.prog 82)) (N bp bx cap : Nat) (hN : N ≤ 288) (hne : bx ≠ bp) : ∀ L, MergeUpTo h N bp bx cap L
  | 0 => fun d a m b w hL ham hmb _ _ _ _ _ _ _ _ => by omega
  | L + 1 => fun d a m b w hL ham hmb hb hbp hbx hbox hP sL sR hc => by
    by_cases h1 : m = a + 1
    · exact symMerge_one h hh N bp bx cap d a m b w (hide h1) hN hmb hb hbp hbx hne hbox hP sR hc
    · by_cases h2 : b = m + 1
      · exact symMerge_last h hh N bp bx cap d a m b w (hide h2) hN (by omega) hmb hb hbp hbx hne hbox hP sL hc
      · by_cases h3 : (a + b) / 2 < m
        · exact symMerge_both h hh N bp bx cap L (hide (symMerge_any h hh N bp bx cap hN hne L)) d a m b ((a + b) / 2) ((a + b) / 2 + m - b) ((a + b) / 2) w hN (by omega) (by omega) (by omega) hb hbp hbx hne (hide rfl) (hide (.inl ⟨h3, by omega, rfl⟩)) hbox hP sL sR hc
        · exact symMerge_both h hh N bp bx cap L (hide (symMerge_any h hh N bp bx cap hN hne L)) d a m b ((a + b) / 2) a m w hN (by omega) (by omega) (by omega) hb hbp hbx hne (hide rfl) (hide (.inr ⟨by omega, rfl, rfl⟩)) hbox hP sL sR hc

set_option maxHeartbeats 4000000 in
set_option maxRecDepth 100000 in
theorem insertion_any (h : Value) (hh : Hid (h = typeHandle Try.prog 82)) (N bp bx cap : Nat) (d : Nat → Int × Int) (a b : Nat) (w : World) (hN : N ≤ 288) (hab : a ≤ b) (hb : b ≤ N) (hbp : bp < w.heap.size) (hbx : bx < w.heap.size) (hne : bx ≠ bp)
    (hbox : w.cell? ⟨bx, 0, none⟩ = some (.slice (some ⟨bp, 0, none⟩) N cap)) (hP : PS N bp d w) (hr : Rise d a b) :
    Calls Try.prog 73 #[.agg #[LF bx, SF h N bp cap], .int .i64 a, .int .i64 b] w fun e w' => e = .returned (.tuple #[]) ∧ ∃ d', PS N bp d' w' ∧ Stab.Moved a b d d' ∧ Stab.Srt Stab.lx d' a b ∧ w.grownBy w' (some bp) := by
  have S0 : Hid (MSt h N bp bx cap w (w.alloc (.cells #[LF bx, SF h N bp cap] 100)) d) := ⟨hP.alloc hbp _, grown_alloc' (grown_refl' _ _) _, by simp, by simp, by rw [World.cell?_alloc_past _ _ _ hbx]; exact hbox, hbp⟩
  have HR := hide hr
  clear hP hbox hr
  go_enter Try.func73, Try.ntmps73
  go_wp2
  go_loopw [6] (fun vi wr => ∃ (i : Nat) (di : Nat → Int × Int), a < i ∧ (i ≤ b ∨ (i = a + 1 ∧ di = d)) ∧ vi = .int .i64 i ∧ MSt h N bp bx cap w wr di ∧ Stab.Moved a i d di ∧ Stab.Srt Stab.lx di a i) (fun vi _ => b + 2 - (intOf vi).toNat)
  case atStart => exact ⟨a + 1, d, by omega, .inr ⟨rfl, rfl⟩, by go_num, unhide S0, Stab.Moved.refl _ _ _, fun i j h1 h2 h3 => by omega⟩
  case round =>
    obtain ⟨i, di, hai, hib, rfl, hS, hM, hs⟩ := hrel
    have HS := hide hS
    have HM := hide hM
    have HSr := hide hs
    have ca := hS.c0
    have cb := hS.c1
    by_cases hlt : i < b
    · have HCr : Hid (∀ k, a ≤ k → k < i → (di k).2 < (di i).2) := fun k h1 h2 => by
        obtain ⟨k', e1, e2, e3⟩ := hM.mem h1 h2
        rw [hM.out i (by omega), ← e3]
        exact unhide HR k' i e1 e2 hlt
      clear hib hS hM hs S0
      go_wp2
      go_loopw [7] (fun vj wr => ∃ j : Nat, a ≤ j ∧ j ≤ i ∧ vj = .int .i64 j ∧ MSt h N bp bx cap w wr (Stab.rot di j i (i + 1)) ∧ (j < i → Stab.lx (di i) (di j))) (fun vj _ => (intOf vj).toNat)
      case atStart => exact ⟨i, by omega, Nat.le_refl _, rfl, by rw [Stab.rot_left]; exact unhide HS, fun h => by omega⟩
      case round =>
        obtain ⟨j, haj, hji, rfl, hS, hlo⟩ := hrel
        have HS2 := hide hS
        have HLO := hide hlo
        have ca2 := hS.c0
        have cb2 := hS.c1
        have hE : ((a < j → Stab.lx (di (j - 1)) (di i)) → Hid (Stab.Moved a (i + 1) d (Stab.rot di j i (i + 1)) ∧ Stab.Srt Stab.lx (Stab.rot di j i (i + 1)) a (i + 1))) := fun hl =>
          hide ⟨((unhide HM).wider (Nat.le_refl _) (by omega) (by omega)).trans ((Stab.moved_rot di j i (i + 1) hji (by omega)).wider haj (by omega) (Nat.le_refl _)), Stab.ins_last haj hji (unhide HSr) hl (unhide HLO)⟩
        clear hS hlo
        by_cases hja : a < j
        · have hjaI : (a : Int) < (j : Int) := by omega
          have E : Hid ((j : Int) - 1 = ((j - 1 : Nat) : Int)) := by unfold Hid; omega
          have eD1 : Stab.rot di j i (i + 1) j = di i := by
            unfold Stab.rot
            rw [if_pos (by omega)]
            congr 1; omega
          have eD2 : Stab.rot di j i (i + 1) (j - 1) = di (j - 1) := by
            unfold Stab.rot
            rw [if_neg (by omega), if_neg (by omega)]
          have hx := Stab.cross_less (unhide HCr (j - 1) (by omega) (by omega))
          have ED1 := hide eD1
          have ED2 := hide eD2
          have HX := hide hx
          have HRD := hide (Stab.rot_down di j i (by omega) hji)
          have HE := hide hE
          clear eD1 eD2 hx hE
          generalize Stab.rot di j i (i + 1) = D at *
          go_wp2_with fail
          rw [unhide E]
          refine (less_any N bp bx cap D _ j (j - 1) (by omega) (by omega) hN (unhide HS2).ps (unhide HS2).box).mono ?_
          rintro e w2 ⟨rfl, q, rfl⟩
          rw [unhide ED1, unhide ED2]
          cases hd : decide ((di i).1 < (di (j - 1)).1) with
          | true =>
            have HX2 := hide ((unhide HX).1 hd)
            have hrun := swap_run N bp cap D (wr.drewN q) j (j - 1) (by omega) (by omega) ((unhide HS2).ps.drewN q)
            rw [← unhide hh, ← unhide E] at hrun
            have HSW := hide (PS.sw ((unhide HS2).ps.drewN q) j (j - 1) (by omega) (by omega))
            have HGS := hide (grown_trans' (grown_drewN' (grown_refl' wr (some bp)) q) (grown_sw (wr.drewN q) bp D j (j - 1)))
            rw [unhide HRD] at HSW
            have HS3 := hide ((unhide HS2).next hbx hne (unhide HSW) (unhide HGS))
            clear hd HSW HGS HX HE HRD
            generalize swW (wr.drewN q) bp D j (j - 1) = w3 at *
            go_wp2
            go_roundw
            case rel => exact ⟨j - 1, by omega, by omega, congrArg (Value.int .i64) (by omega), unhide HS3, fun _ => unhide HX2⟩
            case measure => simp [intOf]; omega
          | false =>
            have HF := unhide HE (fun _ => (unhide HX).2 hd)
            have HS3 : Hid (MSt h N bp bx cap w (wr.drewN q) D) := (unhide HS2).next hbx hne ((unhide HS2).ps.drewN q) (grown_drewN' (grown_refl' _ _) q)
            clear hd HX HE HRD
            go_wp2
            go_roundw
            case rel => exact ⟨i + 1, D, by omega, .inl (by omega), by go_num, unhide HS3, (unhide HF).1, (unhide HF).2⟩
            case measure => simp [intOf]; omega
        · have hjaI : ¬ (a : Int) < (j : Int) := by omega
          have HF := hE (fun h => by omega)
          clear hE
          generalize Stab.rot di j i (i + 1) = D at *
          go_wp2
          go_roundw
          case rel => exact ⟨i + 1, D, by omega, .inl (by omega), by go_num, unhide HS2, (unhide HF).1, (unhide HF).2⟩
          case measure => simp [intOf]; omega
    · have HF : Hid (Stab.Moved a b d di ∧ Stab.Srt Stab.lx di a b) := by
        rcases hib with h1 | ⟨h1, h2⟩
        · have e : i = b := by omega
          rw [← e]
          exact ⟨hM, hs⟩
        · rw [h2]
          exact ⟨Stab.Moved.refl _ _ _, fun i j h1 h2 h3 => by omega⟩
      clear hib hS hM hs S0
      go_wp2
      go_end0
      exact ⟨rfl, di, (unhide HS).ps, (unhide HF).1, (unhide HF).2, (unhide HS).grown⟩
end Go.Proofs.Ytmafecagcglaoaa
