/-
  What the struct past answers: same.
-/
import Derived.Test.YtoiioemkibfdcacMatch1
import Derived.Test.YtoiioemkibfdcacEntry
namespace Go.Proofs.Ytoiioemkibfdcac
open Go.RowKit
set_option linter.unusedVariables false
set_option maxRecDepth 100000

theorem drew_two (w : World) (q r : Nat) : (w.drewN q).drewN r = w.drewN (r + q) := by
  first | rfl | (simp [World.drewN]; try omega)
theorem below_refl_drewN {B : Nat} {w : World} (q : Nat) : Below B w (w.drewN q) := below_drewN (Below.refl B w) q

set_option maxHeartbeats 800000 in
theorem same_any (p b o n cap i k nn m : Nat) (bs : List Nat) (w : World) (c0 : w.cell? ⟨p, 0, none⟩ = some (.slice (some ⟨b, o, none⟩) n cap)) (hB : Bytes w b o bs) (hl : bs.length = n) (hn : n ≤ 3000) (hx : ∀ j, bs.getD j 0 < 256) (hik : i < k) (hnm : nn < m) (hkm : k + m ≤ n) (r : Nat) (hr : Hid (r = if bs.getD (i + nn) 0 = bs.getD (k + nn) 0 then lcp bs i k m else 0)) :
    Calls Try.prog 52 #[.pointer (some ⟨p, 0, none⟩), .int .i64 (i : Int), .int .i64 (k : Int), .int .i64 (nn : Int), .int .i64 (m : Int)] w fun e w' => e = .returned (.int .i64 (r : Int)) ∧ ∃ q, w' = w.drewN q := by
  have HL := hide hl
  have HX := hide hx
  have HB := hide hB
  have ci := hB (i + nn) (by omega)
  have ck := hB (k + nn) (by omega)
  clear hB hx
  rw [show o + (i + nn) = o + (i + nn) from rfl] at ci
  go_enter Try.func52, Try.ntmps52
  go_wp2
  by_cases he : bs.getD (i + nn) 0 = bs.getD (k + nn) 0
  · rw [if_pos he] at hr
    have hb1 : (((bs.getD (i + nn) 0 : Nat) : Int) != ((bs.getD (k + nn) 0 : Nat) : Int)) = false := by rw [he]; simp
    clear he
    generalize bs.getD (i + nn) 0 = x at *
    generalize bs.getD (k + nn) 0 = y at *
    go_quiet (fail)
    clear ci ck hb1
    go_wp2
    go_loopw [11] (fun s wr => ∃ j q : Nat, j ≤ m ∧ s = .int .i64 (j : Int) ∧ (∀ j', j' < j → bs.getD (i + j') 0 = bs.getD (k + j') 0) ∧ wr = w.drewN q) (fun s _ => m - (intOf s).toNat)
    case atStart => exact ⟨0, nq, Nat.zero_le _, rfl, fun j' h => by omega, rfl⟩
    case round =>
      obtain ⟨j, q, hj, rfl, hs, rfl⟩ := hrel
      have HS := hide hs
      clear hs
      by_cases hlt : j < m
      · have hd : decide ((j : Int) < (m : Int)) = true := decide_eq_true (by omega)
        have ci := (unhide HB) (i + j) (by omega)
        have ck := (unhide HB) (k + j) (by omega)
        by_cases he : bs.getD (i + j) 0 = bs.getD (k + j) 0
        · have HE := hide he
          have hb1 : (((bs.getD (i + j) 0 : Nat) : Int) == ((bs.getD (k + j) 0 : Nat) : Int)) = true := by rw [he]; simp
          clear he
          generalize bs.getD (i + j) 0 = x at ci ck hb1
          generalize bs.getD (k + j) 0 = y at ci ck hb1
          go_wp2
          go_quiet (fail)
          go_wp2
          go_roundw
          case rel => exact ⟨j + 1, _, by omega, by go_num, fun j' h => by
              by_cases c : j' = j
              · subst c; exact unhide HE
              · exact unhide HS j' (by omega), rfl⟩
          case measure => simp [intOf]; omega
        · have HE := hide he
          have hb1 : (((bs.getD (i + j) 0 : Nat) : Int) == ((bs.getD (k + j) 0 : Nat) : Int)) = false := by rw [beq_eq_false_iff_ne]; omega
          clear he
          generalize bs.getD (i + j) 0 = x at ci ck hb1
          generalize bs.getD (k + j) 0 = y at ci ck hb1
          go_wp2
          go_quiet (fail)
          go_wp2
          go_ret
          exact ⟨ret_int (by rw [unhide hr, lcp_eq hj (unhide HS) (.inr (unhide HE))]), _, drew_two w q nq⟩
      · obtain rfl : m = j := by omega
        have hd : decide ((m : Int) < (m : Int)) = false := decide_eq_false (by omega)
        go_wp2
        go_quiet (fail)
        go_wp2
        go_ret
        exact ⟨ret_int (by rw [unhide hr, lcp_eq (Nat.le_refl _) (unhide HS) (.inl rfl)]), _, drew_two w q nq⟩
  · rw [if_neg he] at hr
    have hb1 : (((bs.getD (i + nn) 0 : Nat) : Int) != ((bs.getD (k + nn) 0 : Nat) : Int)) = true := by rw [bne_iff_ne]; omega
    clear he
    generalize bs.getD (i + nn) 0 = x at *
    generalize bs.getD (k + nn) 0 = y at *
    obtain rfl := unhide hr
    go_quiet (fail)
    go_wp2
    go_ret
    exact ⟨rfl, nq, rfl⟩
end Go.Proofs.Ytoiioemkibfdcac
