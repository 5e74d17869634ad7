/-
  What the document's own CheckTokens answers.
-/
import Derived.Test.YtmafecagcglaoabMatch8
namespace Go.Proofs.Ytmafecagcglaoab
open Go.RowKit
set_option linter.unusedVariables false
set_option maxRecDepth 100000

theorem ref_many (a : Option Addr) (n cap : Nat) (w : World) (h : 3000 < n) : Calls Try.prog 27 #[.slice a n cap] w fun e w' => e = .returned (.int .i64 2) ∧ w' = w := by
  go_enter Try.func27, Try.ntmps27
  go_wp2
  go_ret
  exact ⟨rfl, rfl⟩

set_option maxHeartbeats 2000000 in
theorem ref_few (a : Option Addr) (n cap : Nat) (l : List Tk) (w : World) (hl : l.length = n) (hn : n ≤ 3000) (hT : TokIn w a l) (E : Int) (hE : Hid (chkF l 0 = E)) :
    Calls Try.prog 27 #[.slice a n cap] w fun e w' => e = .returned (.int .i64 E) ∧ w.grownBy w' none := by
  have HL := hide hl
  have HT := hide hT
  clear hT
  go_enter Try.func27, Try.ntmps27
  go_wp2
  go_loopw [3, 11] (fun v3 v11 wr => ∃ k ah : Nat, k ≤ n ∧ v11 = .int .i64 (k : Int) ∧ v3 = .int .i64 (ah : Int) ∧ chkF (l.drop k) ah = E ∧ ah ≤ 258 * k ∧ w.grownBy wr none) (fun _ v11 _ => n - (intOf v11).toNat)
  case atStart => exact ⟨0, 0, Nat.zero_le _, rfl, rfl, by simpa using unhide hE, Nat.le_refl _, grown_refl _ _⟩
  case round =>
    obtain ⟨k, ah, hk, rfl, rfl, hC, hah, hgr⟩ := hrel
    have HC := hide hC
    have HGr := hide hgr
    clear hC
    by_cases hlt : k < n
    · obtain ⟨tb, ts, tf, ht⟩ : ∃ tb ts tf, l.getD k (0, 0, 0) = (tb, ts, tf) := ⟨_, _, _, rfl⟩
      obtain ⟨b, o, rfl, hb, c1, c2, c3⟩ := tok_at (unhide HT) (fun b hb => hgr.block b hb (by simp)) (by omega) ht
      have hstep := chkF_step (l := l) (k := k) (n := ah) (by omega)
      rw [unhide HC, ht] at hstep
      have hdoc := errOne_doc (tb, ts, tf) ah
      simp only at hdoc
      have hw : wid (tb, ts, tf) = if ts = 0 then 1 else ts.toNat := rfl
      have HG1 := hide (ga (unhide HGr) (.cells #[.int .u8 (tb : Int), .int .i64 ts, .int .i64 tf] 59))
      clear hgr ht
      by_cases h1 : ts = 0
      · by_cases h2 : tf = 0
        · rw [if_neg (by omega), if_pos h1] at hdoc
          rw [if_pos h1] at hw
          rw [if_pos hdoc, hw] at hstep
          have HN := hide hstep
          subst h1 h2
          clear hstep hdoc hw
          go_wp2
          go_roundw
          case rel => exact ⟨k + 1, ah + 1, by omega, by go_num, by go_num, (unhide HN).symm, by omega, unhide HG1⟩
          case measure => simp [intOf]; omega
        · rw [if_pos (.inl ⟨h1, h2⟩)] at hdoc
          rw [hdoc, if_neg (by decide)] at hstep
          have HN := hide hstep
          have hb2 : (tf != 0) = true := by rw [bne_iff_ne]; exact h2
          subst h1
          clear hstep hdoc hw h2
          go_wp2
          go_ret
          exact ⟨ret_int (unhide HN).symm, unhide HG1⟩
      · have hb1 : (ts == 0) = false := by rw [beq_eq_false_iff_ne]; exact h1
        have hb1' : (ts != 0) = true := by rw [bne_iff_ne]; exact h1
        by_cases h3 : tb = 0
        · rw [if_neg (by omega), if_neg h1] at hdoc
          by_cases h4 : ts < 3 ∨ 258 < ts ∨ tf < 1
          · rw [if_pos h4] at hdoc
            rw [hdoc, if_neg (by decide)] at hstep
            have HN := hide hstep
            subst h3
            clear hstep hdoc hw h1
            rcases h4 with h4 | h4 | h4
            · go_wp2
              go_ret
              exact ⟨ret_int (unhide HN).symm, unhide HG1⟩
            · have h5 : ¬ ts < 3 := by omega
              go_wp2
              go_ret
              exact ⟨ret_int (unhide HN).symm, unhide HG1⟩
            · by_cases h5 : ts < 3
              · go_wp2
                go_ret
                exact ⟨ret_int (unhide HN).symm, unhide HG1⟩
              · by_cases h6 : 258 < ts
                · go_wp2
                  go_ret
                  exact ⟨ret_int (unhide HN).symm, unhide HG1⟩
                · go_wp2
                  go_ret
                  exact ⟨ret_int (unhide HN).symm, unhide HG1⟩
          · rw [if_neg h4] at hdoc
            have h5 : 3 ≤ ts ∧ ts ≤ 258 ∧ 1 ≤ tf := by omega
            obtain ⟨h51, h52, h53⟩ := h5
            by_cases h7 : (ah : Int) < tf
            · rw [if_pos h7] at hdoc
              rw [hdoc, if_neg (by decide)] at hstep
              have HN := hide hstep
              subst h3
              clear hstep hdoc hw h1 h4
              go_wp2
              go_ret
              exact ⟨ret_int (unhide HN).symm, unhide HG1⟩
            · rw [if_neg h7] at hdoc
              rw [if_neg h1] at hw
              rw [if_pos hdoc, hw] at hstep
              have HN := hide hstep
              obtain ⟨m, rfl⟩ := Int.eq_ofNat_of_zero_le (show 0 ≤ ts by omega)
              subst h3
              clear hstep hdoc hw h1 h4
              go_wp2
              go_roundw
              case rel => exact ⟨k + 1, ah + m, by omega, by go_num, by go_num, (unhide HN).symm, by omega, unhide HG1⟩
              case measure => simp [intOf]; omega
        · rw [if_pos (.inr ⟨h1, h3⟩)] at hdoc
          rw [hdoc, if_neg (by decide)] at hstep
          have HN := hide hstep
          have hb3 : ((tb : Int) != 0) = true := by rw [bne_iff_ne]; omega
          clear hstep hdoc hw h1 h3
          go_wp2
          go_ret
          exact ⟨ret_int (unhide HN).symm, unhide HG1⟩
    · obtain rfl : n = k := by omega
      have hend := unhide HC
      rw [List.drop_of_length_le (by rw [unhide HL]; exact Nat.le_refl _), chkF] at hend
      have HEnd := hide hend
      clear hend hgr
      by_cases h3 : 3000 < ah
      · have e := unhide HEnd
        rw [if_pos h3] at e
        go_wp2
        go_ret
        exact ⟨ret_int e, unhide HGr⟩
      · have e := unhide HEnd
        rw [if_neg h3] at e
        go_wp2
        go_ret
        exact ⟨ret_int e, unhide HGr⟩

theorem ref_any (a : Option Addr) (n cap : Nat) (l : List Tk) (w : World) (hl : l.length = n) (hT : TokIn w a l) (E : Int) (hE : Hid (errT l = E)) :
    Calls Try.prog 27 #[.slice a n cap] w fun e w' => e = .returned (.int .i64 E) ∧ w.grownBy w' none := by
  by_cases h : 3000 < n
  · have e := unhide hE
    unfold errT at e
    rw [if_pos (by omega)] at e
    subst e
    refine (ref_many a n cap w h).mono ?_
    rintro e w' ⟨rfl, rfl⟩
    exact ⟨rfl, grown_refl _ _⟩
  · have e := unhide hE
    unfold errT at e
    rw [if_neg (by omega)] at e
    exact ref_few a n cap l w hl (by omega) hT E e
end Go.Proofs.Ytmafecagcglaoab
