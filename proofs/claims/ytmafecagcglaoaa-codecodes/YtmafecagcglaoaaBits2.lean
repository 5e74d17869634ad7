/-
  What bits.Turn answers, what bits.take reads, what bits.put writes: as the plain functions turnL, takeL, putL say.
-/
import Derived.Test.YtmafecagcglaoaaBits1
import Derived.Test.YtmafecagcglaoaaIn
namespace Go.Proofs.Ytmafecagcglaoaa
open Go.RowKit
set_option linter.unusedVariables false

theorem turn_no (n s : Int) (w : World) (h : fitsB n s = false) :
    Calls Try.prog 18 #[.int .i64 n, .int .i64 s] w fun e w' => e = .returned (.tuple #[.int .i64 0, .int .i64 3]) ∧ w' = w := by
  go_enter Try.func18, Try.ntmps18
  go_wp2_with (go_at_call 33; refine (fits_any _ _ _).mono ?_; rintro e w' ⟨rfl, rfl⟩)
  go_ret2
  exact ⟨rfl, rfl⟩

theorem turnL_lt16 (n : Nat) {k : Nat} (h : k < 16) : turnL n k < 32768 := Nat.lt_of_lt_of_le (turnL_lt n k) (Nat.pow_le_pow_right (j := 15) (by decide) (by omega))

theorem turn_yes (n s : Nat) (w : World) (h : fitsB n s = true) (hs : s ≤ 16) (hn : n < 65536) :
    Calls Try.prog 18 #[.int .i64 n, .int .i64 s] w fun e w' => e = .returned (.tuple #[.int .i64 (turnL n s : Nat), .int .i64 0]) ∧ w' = w := by
  go_enter Try.func18, Try.ntmps18
  go_wp2_with (go_at_call 33; refine (fits_any _ _ _).mono ?_; rintro e w' ⟨rfl, rfl⟩)
  go_loop [6, 13] (fun t i => ∃ k : Nat, k ≤ s ∧ i = .int .i64 k ∧ t = .int .i64 (turnL n k : Nat)) (fun _ i => s - (intOf i).toNat)
  case atStart => exact ⟨0, Nat.zero_le _, rfl, rfl⟩
  case round =>
    obtain ⟨k, hk, rfl, rfl⟩ := hrel
    by_cases hlt : k < s
    · have hb := turnL_lt16 n (k := k) (by omega)
      have hst := turn_step (turnL n k) n k (by omega) (by omega)
      have H : Hid (turnL n (k + 1) = turnL n k * 2 ||| n / 2 ^ k % 2) := rfl
      have HS := hide hst
      clear hst
      generalize turnL n k = m at *
      go_wp2
      go_round
      case rel => exact ⟨k + 1, by omega, by go_num, by rw [H.out, unhide HS]⟩
      case measure => simp [intOf]; omega
    · have e : k = s := by omega
      subst e
      go_wp2
      go_ret2
      exact ⟨rfl, rfl⟩

theorem put_any (B b len cap : Nat) (xs : List Nat) (p n s : Nat) (w : World) (hl : xs.length = len) (hx : ∀ j, xs.getD j 0 < 256) (hm : len ≤ 6000) (hs : s ≤ 16) (hn : n < 65536) (hat : p + s ≤ 8 * len)
    (hown : w.ownsRow B 5 1 (.slice (some ⟨b, 0, none⟩) len cap) len (u8s xs)) :
    Calls Try.prog 34 #[.slice (some ⟨b, 0, none⟩) len cap, .int .i64 p, .int .i64 n, .int .i64 s] w fun e w' => e = .returned (.tuple #[]) ∧ w'.ownsRow B 5 1 (.slice (some ⟨b, 0, none⟩) len cap) len (u8s (putL xs p n s)) ∧ w.grownBy w' (some b) := by
  go_enter Try.func34, Try.ntmps34
  go_wp2
  go_loopw [11] (fun i wr => ∃ (k : Nat) (ys : List Nat), k ≤ s ∧ i = .int .i64 k ∧ ys = putL xs p n k ∧ wr.ownsRow B 5 1 (.slice (some ⟨b, 0, none⟩) len cap) len (u8s ys) ∧ w.grownBy wr (some b)) (fun i _ => s - (intOf i).toNat)
  case atStart => exact ⟨0, xs, Nat.zero_le _, rfl, rfl, hown, grown_refl _ _⟩
  case round =>
    obtain ⟨k, ys, hk, rfl, hys, hown1, hg⟩ := hrel
    have hyl : ys.length = len := by rw [hys, putL_length]; exact hl
    have hy : ∀ j, ys.getD j 0 < 256 := by rw [hys]; exact putL_lt xs p n hx k
    have HY := hide hys
    have HO := hide hown1
    have HG := hide hg
    by_cases hlt : k < s
    · have hj : (p + k) / 8 < len := by omega
      have c := hown1.cellAt ((p + k) / 8) (by omega)
      have f := hown1.frozenAt ((p + k) / 8)
      obtain ⟨x, hxx⟩ : ∃ x, ys.getD ((p + k) / 8) 0 = x := ⟨_, rfl⟩
      have c1 : wr.cell? ⟨b, (p + k) / 8, none⟩ = some (.int .u8 (x : Int)) := by
        rw [c, ← hxx]
        simp [List.getD, hyl, hj]
      have hx1 := hy ((p + k) / 8)
      rw [hxx] at hx1
      have HX := hide hxx
      have HS := hide (put_step x n k ((p + k) % 8) hx1 hn (by omega))
      clear hxx c hx hy hown hown1 hg hys
      go_wp2
      go_region
      all_goals go_wp2
      go_roundw
      case rel =>
        have hst := (unhide HO).stored ((p + k) / 8) (.int .u8 ((x ||| n / 2 ^ k % 2 * 2 ^ ((p + k) % 8) : Nat) : Int))
        refine ⟨k + 1, putL xs p n (k + 1), by omega, by go_num, rfl, ?_, ?_⟩
        · rw [unhide HS]
          have e : u8s (putL xs p n (k + 1)) = (u8s ys).set ((p + k) / 8) (.int .u8 ((x ||| n / 2 ^ k % 2 * 2 ^ ((p + k) % 8) : Nat) : Int)) := by
            rw [putL, ← unhide HY, unhide HX, u8s, List.map_set]
          rw [e]
          exact hst.1
        · rw [unhide HS]
          exact grown_drew (grown_trans (unhide HG) hst.2)
      case measure => simp [intOf]; omega
    · have e : k = s := by omega
      subst e
      clear hx hy hown hown1 hg hys
      go_wp2
      go_end0
      exact ⟨rfl, by rw [← unhide HY]; exact unhide HO, unhide HG⟩
end Go.Proofs.Ytmafecagcglaoaa
