/-
  What Check answers.
-/
import Derived.Test.YtmafecagcglaoahMatch7
namespace Go.Proofs.Ytmafecagcglaoah
open Go.RowKit
set_option linter.unusedVariables false
set_option maxRecDepth 100000

theorem tok_at {w w' : World} {a : Option Addr} {l : List Tk} {k : Nat} (h : TokIn w a l) (hg : ∀ b, b < w.heap.size → w'.heap[b]? = w.heap[b]?) (hk : k < l.length) {tb : Nat} {ts tf : Int} (e : l.getD k (0, 0, 0) = (tb, ts, tf)) :
    ∃ b o, a = some ⟨b, o, none⟩ ∧ b < w.heap.size ∧ w'.cell? ⟨b, o + k * 3, none⟩ = some (.int .u8 (tb : Int)) ∧ w'.cell? ⟨b, o + k * 3 + 1, none⟩ = some (.int .i64 ts) ∧ w'.cell? ⟨b, o + k * 3 + 2, none⟩ = some (.int .i64 tf) := by
  rcases h with rfl | ⟨b, o, h1, h2, h3⟩
  · simp at hk
  · obtain ⟨c1, c2, c3⟩ := h3 k hk
    rw [e] at c1 c2 c3
    refine ⟨b, o, h1, h2, ?_, ?_, ?_⟩
    · unfold World.cell? at c1 ⊢; rw [hg b h2]; exact c1
    · unfold World.cell? at c2 ⊢; rw [hg b h2]; exact c2
    · unfold World.cell? at c3 ⊢; rw [hg b h2]; exact c3

theorem check_many (a : Option Addr) (n cap : Nat) (w : World) (h : 3000 < n) : Calls Try.prog 50 #[.slice a n cap] w fun e w' => e = .returned (.int .i64 2) ∧ w' = w := by
  go_enter Try.func50, Try.ntmps50
  go_wp2
  go_ret
  exact ⟨rfl, rfl⟩

set_option maxHeartbeats 2000000 in
theorem check_few (a : Option Addr) (n cap : Nat) (l : List Tk) (w : World) (hl : l.length = n) (hn : n ≤ 3000) (hT : TokIn w a l) (E : Int) (hE : Hid (chkF l 0 = E)) :
    Calls Try.prog 50 #[.slice a n cap] w fun e w' => e = .returned (.int .i64 E) ∧ w.grownBy w' none := by
  have HL := hide hl
  have HT := hide hT
  clear hT
  go_enter Try.func50, Try.ntmps50
  go_wp2
  go_loopw [3, 12] (fun v3 v12 wr => ∃ k ah : Nat, k ≤ n ∧ v12 = .int .i64 (k : Int) ∧ v3 = .int .i64 (ah : Int) ∧ chkF (l.drop k) ah = E ∧ ah ≤ 258 * k ∧ w.grownBy wr none) (fun _ v12 _ => n - (intOf v12).toNat)
  case atStart => exact ⟨0, 0, Nat.zero_le _, rfl, rfl, by simpa using unhide hE, Nat.le_refl _, grown_refl _ _⟩
  case round =>
    obtain ⟨k, ah, hk, rfl, rfl, hC, hah, hgr⟩ := hrel
    have HC := hide hC
    have HGr := hide hgr
    clear hC
    by_cases hlt : k < n
    · obtain ⟨tb, ts, tf, ht⟩ : ∃ tb ts tf, l.getD k (0, 0, 0) = (tb, ts, tf) := ⟨_, _, _, rfl⟩
      obtain ⟨b, o, rfl, hb, c1, c2, c3⟩ := tok_at (unhide HT) (fun b hb => hgr.block b hb (by simp)) (by omega) ht
      have hstep := chkF_step (l := l) (k := k) (n := ah) (by omega)
      rw [unhide HC, ht] at hstep
      obtain ⟨er, her⟩ : ∃ er, er = errOne (tb, ts, tf) ah := ⟨_, rfl⟩
      rw [← her] at hstep
      have HS := hide hstep
      have HCK := hide (fun W => checkToken_any tb ah ts tf W er her)
      have hwd : er = 0 → max ts 1 = ((wid (tb, ts, tf) : Nat) : Int) ∧ wid (tb, ts, tf) ≤ 258 := fun h => ⟨wid_max (t := (tb, ts, tf)) (by rw [← her]; exact h), (wid_le (by rw [← her]; exact h)).2⟩
      have HWD := hide hwd
      clear hgr ht hstep her hwd
      generalize wid (tb, ts, tf) = wd at *
      go_wp2_with fail
      refine (unhide HCK _).mono ?_
      rintro e w2 ⟨rfl, hg2⟩
      have q0 : w2.cell? ⟨wr.heap.size, 0, none⟩ = some (.int .u8 (tb : Int)) := hg2.cell (by simp) (by simp)
      have q1 : w2.cell? ⟨wr.heap.size, 1, none⟩ = some (.int .i64 ts) := hg2.cell (by simp) (by simp)
      have q2 : w2.cell? ⟨wr.heap.size, 2, none⟩ = some (.int .i64 tf) := hg2.cell (by simp) (by simp)
      have HG2 := hide (grown_trans (ga (unhide HGr) _) hg2)
      clear hg2 c1 c2 c3
      by_cases he : er = 0
      · obtain ⟨hw1, hw2⟩ := unhide HWD he
        have HSS := unhide HS
        rw [if_pos he] at HSS
        have HN := hide HSS
        subst he
        clear HSS
        go_wp2_with fail
        refine (bytesOf_any tb ts tf w2 wd hw1).mono ?_
        rintro e w3 ⟨rfl, hg3⟩
        have HG3 := hide (grown_trans (unhide HG2) hg3)
        clear hg3
        go_wp2
        go_roundw
        case rel => exact ⟨k + 1, ah + wd, by omega, by go_num, by go_num, (unhide HN).symm, by omega, unhide HG3⟩
        case measure => simp [intOf]; omega
      · have hb1 : (er != 0) = true := by rw [bne_iff_ne]; exact he
        have HSS := unhide HS
        rw [if_neg he] at HSS
        have HN := hide HSS
        clear HSS he
        go_wp2
        go_ret
        exact ⟨ret_int (unhide HN).symm, unhide HG2⟩
    · obtain rfl : n = k := by omega
      have hend := unhide HC
      rw [List.drop_of_length_le (by rw [unhide HL]; exact Nat.le_refl _), chkF] at hend
      have HEnd := hide hend
      clear hend hgr
      by_cases h3 : 3000 < ah
      · have e := unhide HEnd
        rw [if_pos h3] at e
        go_wp2
        go_ret
        exact ⟨ret_int e, unhide HGr⟩
      · have e := unhide HEnd
        rw [if_neg h3] at e
        go_wp2
        go_ret
        exact ⟨ret_int e, unhide HGr⟩

theorem check_any (a : Option Addr) (n cap : Nat) (l : List Tk) (w : World) (hl : l.length = n) (hT : TokIn w a l) (E : Int) (hE : Hid (errT l = E)) :
    Calls Try.prog 50 #[.slice a n cap] w fun e w' => e = .returned (.int .i64 E) ∧ w.grownBy w' none := by
  by_cases h : 3000 < n
  · have e := unhide hE
    unfold errT at e
    rw [if_pos (by omega)] at e
    subst e
    refine (check_many a n cap w h).mono ?_
    rintro e w' ⟨rfl, rfl⟩
    exact ⟨rfl, grown_refl _ _⟩
  · have e := unhide hE
    unfold errT at e
    rw [if_neg (by omega)] at e
    exact check_few a n cap l w hl (by omega) hT E e
end Go.Proofs.Ytmafecagcglaoah
