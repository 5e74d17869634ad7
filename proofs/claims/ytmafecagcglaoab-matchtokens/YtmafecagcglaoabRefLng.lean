/-
  What the document's own LongestOf answers.
-/
import Derived.Test.YtmafecagcglaoabMatch2
namespace Go.Proofs.Ytmafecagcglaoab
open Go.RowKit
set_option linter.unusedVariables false
set_option maxRecDepth 100000

set_option maxHeartbeats 2000000 in
theorem longestOf_any (b o n cap k : Nat) (bs : List Nat) (w : World) (hl : bs.length = n) (hn : n ≤ 3000) (hB : Bytes w b o bs) (hk : k < n) (rn rf : Nat) (hr : Hid (lng bs k = (rn, rf))) :
    Calls Try.prog 34 #[.slice (some ⟨b, o, none⟩) n cap, .int .i64 (k : Int)] w fun e w' => e = .returned (.tuple #[.int .i64 (rn : Int), .int .i64 (rf : Int)]) ∧ ∃ q, w' = w.drewN q := by
  have HL := hide hl
  have HB := hide hB
  obtain ⟨M, hM⟩ : ∃ M, M = mst n k := ⟨_, rfl⟩
  have hM1 : k + M ≤ n := by rw [hM]; unfold mst; omega
  have hM2 : M ≤ 258 := by rw [hM]; unfold mst; omega
  have hM3 : k + M = n ∨ M = 258 := by rw [hM]; unfold mst; omega
  have hr2 : (if (bst bs k M k).1 < 3 then (0, 0) else bst bs k M k) = (rn, rf) := by
    rw [← unhide hr, hM, ← hl]; rfl
  have HR := hide hr2
  clear hB hr2 hM hr
  go_enter Try.func34, Try.ntmps34
  go_wp2
  go_loopw [4, 5, 6] (fun v4 v5 v6 wr => ∃ D x y q : Nat, D ≤ k ∧ v6 = .int .i64 ((D : Int) + 1) ∧ v4 = .int .i64 (x : Int) ∧ v5 = .int .i64 (y : Int) ∧ bst bs k M D = (x, y) ∧ x ≤ M ∧ wr = w.drewN q) (fun _ _ v6 _ => k + 1 - (intOf v6).toNat)
  case atStart => exact ⟨0, 0, 0, 0, Nat.zero_le _, rfl, rfl, rfl, rfl, Nat.zero_le _, rfl⟩
  case round =>
    obtain ⟨D, x, y, q, hD, rfl, rfl, rfl, hb, hxM, rfl⟩ := hrel
    have HBs := hide hb
    clear hb
    by_cases hlt : D < k
    · have HN : Hid (bst bs k M (D + 1) = if x < lcp bs (k - (D + 1)) k M then (lcp bs (k - (D + 1)) k M, D + 1) else (x, y)) := by
        rw [bst, unhide HBs]; rfl
      obtain ⟨z, hz⟩ : ∃ z, lcp bs (k - (D + 1)) k M = z := ⟨_, rfl⟩
      have hzM : z ≤ M := by rw [← hz]; exact lcp_le _ _ _ _
      rw [hz] at HN
      have HZ := hide hz
      clear hz
      go_wp2
      go_loopw [7] (fun v7 wr => ∃ j q' : Nat, j ≤ M ∧ v7 = .int .i64 (j : Int) ∧ (∀ j', j' < j → bs.getD (k - (D + 1) + j') 0 = bs.getD (k + j') 0) ∧ wr = w.drewN q') (fun v7 _ => M - (intOf v7).toNat)
      case atStart => exact ⟨0, q, Nat.zero_le _, rfl, fun j' h => by omega, rfl⟩
      case round =>
        obtain ⟨j, q', hj, rfl, hs, rfl⟩ := hrel
        have HS := hide hs
        clear hs
        have TAIL : Hid (z = j → ((j ≤ x → bst bs k M (D + 1) = (x, y)) ∧ (x < j → bst bs k M (D + 1) = (j, D + 1)))) := by
          intro e
          have := unhide HN
          rw [e] at this
          refine ⟨fun h => ?_, fun h => ?_⟩
          · rw [this, if_neg (by omega)]
          · rw [this, if_pos h]
        by_cases hjM : j < M
        · have hd1 : decide ((k : Int) + (j : Int) < (n : Int)) = true := decide_eq_true (by omega)
          have hd2 : decide ((j : Int) < 258) = true := decide_eq_true (by omega)
          have c1 := (unhide HB) (k + j) (by omega)
          have c2 := (unhide HB) (k - (D + 1) + j) (by omega)
          have hi1 : k - (D + 1) + j < n := by omega
          have hi2 : (k : Int) + (j : Int) - ((D : Int) + 1) = ((k - (D + 1) + j : Nat) : Int) := by omega
          by_cases he : bs.getD (k - (D + 1) + j) 0 = bs.getD (k + j) 0
          · have HE := hide he
            have hb1 : (((bs.getD (k + j) 0 : Nat) : Int) == ((bs.getD (k - (D + 1) + j) 0 : Nat) : Int)) = true := by rw [he]; simp
            clear he
            generalize bs.getD (k - (D + 1) + j) 0 = u at c1 c2 hb1
            generalize bs.getD (k + j) 0 = v at c1 c2 hb1
            go_wp2
            go_quiet (fail)
            go_wp2
            go_roundw
            case rel => exact ⟨j + 1, _, by omega, by go_num, fun j' h => by
                by_cases c : j' = j
                · subst c; exact unhide HE
                · exact unhide HS j' (by omega), rfl⟩
            case measure => simp [intOf]; omega
          · have hzj := (unhide TAIL) (by rw [← unhide HZ]; exact lcp_eq hj (unhide HS) (.inr he))
            have hb1 : (((bs.getD (k + j) 0 : Nat) : Int) == ((bs.getD (k - (D + 1) + j) 0 : Nat) : Int)) = false := by rw [beq_eq_false_iff_ne]; omega
            have HZJ := hide hzj
            clear he hzj
            generalize bs.getD (k - (D + 1) + j) 0 = u at c1 c2 hb1
            generalize bs.getD (k + j) 0 = v at c1 c2 hb1
            go_wp2
            go_quiet (fail)
            by_cases hxj : x < j
            · go_wp2
              go_roundw
              case rel => exact ⟨D + 1, j, D + 1, _, by omega, by go_num, rfl, by go_num, (unhide HZJ).2 hxj, by omega, rfl⟩
              case measure => simp [intOf]; omega
            · go_wp2
              go_roundw
              case rel => exact ⟨D + 1, x, y, _, by omega, by go_num, rfl, rfl, (unhide HZJ).1 (by omega), hxM, rfl⟩
              case measure => simp [intOf]; omega
        · obtain rfl : M = j := by omega
          have HZJ := hide ((unhide TAIL) (by rw [← unhide HZ]; exact lcp_eq (Nat.le_refl _) (unhide HS) (.inl rfl)))
          by_cases hkn : k + M = n
          · have hd1 : decide ((k : Int) + (M : Int) < (n : Int)) = false := decide_eq_false (by omega)
            go_wp2
            go_quiet (fail)
            by_cases hxj : x < M
            · go_wp2
              go_roundw
              case rel => exact ⟨D + 1, M, D + 1, _, by omega, by go_num, rfl, by go_num, (unhide HZJ).2 hxj, Nat.le_refl _, rfl⟩
              case measure => simp [intOf]; omega
            · go_wp2
              go_roundw
              case rel => exact ⟨D + 1, x, y, _, by omega, by go_num, rfl, rfl, (unhide HZJ).1 (by omega), hxM, rfl⟩
              case measure => simp [intOf]; omega
          · have hd1 : decide ((k : Int) + (M : Int) < (n : Int)) = true := decide_eq_true (by omega)
            have hd2 : decide ((M : Int) < 258) = false := decide_eq_false (by omega)
            go_wp2
            go_quiet (fail)
            by_cases hxj : x < M
            · go_wp2
              go_roundw
              case rel => exact ⟨D + 1, M, D + 1, _, by omega, by go_num, rfl, by go_num, (unhide HZJ).2 hxj, Nat.le_refl _, rfl⟩
              case measure => simp [intOf]; omega
            · go_wp2
              go_roundw
              case rel => exact ⟨D + 1, x, y, _, by omega, by go_num, rfl, rfl, (unhide HZJ).1 (by omega), hxM, rfl⟩
              case measure => simp [intOf]; omega
    · obtain rfl : k = D := by omega
      have hend := unhide HR
      rw [unhide HBs] at hend
      simp only at hend
      by_cases h3 : x < 3
      · rw [if_pos h3] at hend
        obtain ⟨rfl, rfl⟩ : 0 = rn ∧ 0 = rf := by simpa using hend
        go_wp2
        go_ret2
        exact ⟨rfl, q, rfl⟩
      · rw [if_neg h3] at hend
        obtain ⟨rfl, rfl⟩ : x = rn ∧ y = rf := by simpa using hend
        go_wp2
        go_ret2
        exact ⟨rfl, q, rfl⟩
end Go.Proofs.Ytmafecagcglaoab
