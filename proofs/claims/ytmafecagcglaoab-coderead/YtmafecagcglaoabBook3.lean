/-
  What the document's own Next answers.
-/
import Derived.Test.YtmafecagcglaoabBook2
namespace Go.Proofs.Ytmafecagcglaoab
open Go.RowKit Go.Maps
set_option linter.unusedVariables false
set_option maxRecDepth 100000

instance (l : List Int) (bs : List Nat) (p n : Nat) : Decidable (Hit l bs p n) := by unfold Hit; infer_instance
theorem zeroInt (w : World) : (zeroValue 3).run Try.prog w = .ok (.int .i64 0) w := by kernel_rfl
theorem text_take (l : List Bool) (n : Nat) : (text l).extract 0 n = text (l.take n) := by
  apply ByteArray.ext
  simp [text, List.map_take]

set_option maxHeartbeats 2000000 in
theorem next_any (l : List Int) (hG : Good l) (b nn : Nat) (bs : List Nat) (n2 p : Nat) (w : World) (hl2 : bs.length = n2) (hn2 : n2 ≤ 6000) (hp : p ≤ 8 * n2) (hM : BookIs w b nn (bookD l l.length)) :
    Calls Try.prog 14 #[.map (some b), .string (text ((rowB bs n2).drop p))] w fun e w' => ∃ (x u p' : Nat) (err : Int), e = .returned (.tuple #[.int .i64 (x : Int), .int .i64 (u : Int), .int .i64 err]) ∧ w' = w ∧ Outcome l bs p x err p' ∧ p' ≤ 8 * n2 ∧ (err = 0 → p' = p + u) := by
  have HG := hide hG
  have HM := hide hM
  have HL2 := hide hl2
  have hsz : (text ((rowB bs n2).drop p)).size = 8 * n2 - p := by rw [text_size, List.length_drop, rowB_length]
  have HPre : Hid (∀ n, p + n ≤ 8 * n2 → (text ((rowB bs n2).drop p)).extract 0 n = text (hb (codeAt bs p n) n)) := fun n h => by rw [text_take, pre_hb bs n2 p n h]
  have HKey : Hid (∀ n, n ≤ 15 → keyOf Try.prog 9 (.string (text (hb (codeAt bs p n) n))) = some (kT (hb (codeAt bs p n) n))) := fun n h => WideMaps.keyOf_string_mk Try.underlying9 (by rw [text_size, hb_length]; unfold maxLen; omega)
  have HHas : Hid (∀ n, 1 ≤ n → n ≤ 15 → Maps.has (bookD l l.length) (kT (hb (codeAt bs p n) n)) = decide (Hit l bs p n)) := fun n h1 h2 => by
    rw [book_has l _ (fun e => by have := congrArg List.length e; rw [hb_length] at this; simp at this; omega)]
    rw [Bool.eq_iff_iff]
    simp only [decide_eq_true_eq]
    exact (hit_iff l hG bs p n h1 h2).symm
  have HAt : Hid (∀ n, 1 ≤ n → n ≤ 15 → Hit l bs p n → ∃ q : Nat, (plcK l n l.length)[codeAt bs p n - firstN (cnt l) n]? = some q ∧ (bookD l l.length).atKey (kT (hb (codeAt bs p n) n)) (.lit (.int .i64 0)) = .lit (.int .i64 (q : Int))) := fun n h1 h2 hh => by
    obtain ⟨q, hq, e⟩ := (hit_iff l hG bs p n h1 h2).1 hh
    have hne : hb (codeAt bs p n) n ≠ [] := fun e => by have := congrArg List.length e; rw [hb_length] at this; simp at this; omega
    exact ⟨q, hit_place l hG bs p n q h1 hq e, book_at l _ hne (codeT_inj l hG _ hne) _ l.length (Nat.le_refl _) q hq e⟩
  clear hG hM
  generalize text ((rowB bs n2).drop p) = T at *
  generalize bookD l l.length = D at *
  go_enter Try.func14, Try.ntmps14
  go_wp2
  go_loop [7] (fun vi => ∃ k : Nat, k ≤ 15 ∧ vi = .int .i64 ((k : Int) + 1) ∧ p + k ≤ 8 * n2 ∧ ∀ j, 1 ≤ j → j ≤ k → ¬ Hit l bs p j) (fun vi => 16 - (intOf vi).toNat)
  case atStart => exact ⟨0, by omega, rfl, by omega, fun j h1 h2 => by omega⟩
  case round =>
    obtain ⟨k, hk, rfl, hpk, hno⟩ := hrel
    have HNo := hide hno
    clear hno
    by_cases hlt : k < 15
    · by_cases hend : p + k = 8 * n2
      · have hgt : ((8 * n2 - p : Nat) : Int) < (k : Int) + 1 := by omega
        have HOut : Hid (Outcome l bs p 0 7 (p + k)) := .inr (.inl ⟨k, hlt, unhide HNo, by rw [unhide HL2]; exact hend, rfl, rfl, rfl⟩)
        clear HPre HKey HHas HAt HNo
        go_wp2
        go_ret3
        exact ⟨0, 0, p + k, 7, rfl, rfl, unhide HOut, hpk, fun h => by cases h⟩
      · have hgt : ¬ ((8 * n2 - p : Nat) : Int) < (k : Int) + 1 := by omega
        have e1 := unhide HPre (k + 1) (by omega)
        have hkey := unhide HKey (k + 1) (by omega)
        have hhas := unhide HHas (k + 1) (by omega) (by omega)
        have HE1 := hide e1
        have HKk := hide hkey
        have HHk := hide hhas
        have HAk := hide (unhide HAt (k + 1) (by omega) (by omega))
        have HNoN : Hid (¬ Hit l bs p (k + 1) → ∀ j, 1 ≤ j → j ≤ k + 1 → ¬ Hit l bs p j) := fun hh j a1 a2 => by
          by_cases e : j = k + 1
          · rw [e]; exact hh
          · exact unhide HNo j a1 (by omega)
        have HOutN : Hid (∀ x, Hit l bs p (k + 1) → (plcK l (k + 1) l.length)[codeAt bs p (k + 1) - firstN (cnt l) (k + 1)]? = some x → Outcome l bs p x 0 (p + (k + 1))) := fun x hh hx =>
          .inl ⟨k + 1, by omega, by omega, fun j a1 a2 => unhide HNo j a1 (by omega), by rw [unhide HL2]; omega, hh, rfl, rfl, hx⟩
        have hpk2 : p + (k + 1) ≤ 8 * n2 := by omega
        clear e1 hkey hhas HPre HKey HHas HAt HNo
        generalize text (hb (codeAt bs p (k + 1)) (k + 1)) = S at *
        generalize kT (hb (codeAt bs p (k + 1)) (k + 1)) = KK at *
        have hk8 : (k : Int) + 1 ≤ ((8 * n2 - p : Nat) : Int) := by omega
        have hex : T.extract 0 (k + 1) = S := unhide HE1
        go_wp2_with (at_lookup; refine wpList_lookup_own_ok_int _ rfl _ _ 29 rfl 9 3 .i64 klaw Try.underlying29 Try.underlying3 (zeroInt _) b nn D rfl (unhide HM) _ _ rfl (unhide HKk) ?_)
        intro c hat hwc
        have HAT := hide hat
        clear hat hwc
        rw [unhide HHk]
        by_cases hh : Hit l bs p (k + 1)
        · obtain ⟨q, hq1, hq2⟩ := unhide HAk hh
          have hc : c = (q : Int) := by
            have := (unhide HAT).symm.trans hq2
            simpa using this
          have HO := hide (unhide HOutN q hh hq1)
          rw [decide_eq_true hh]
          subst hc
          clear hh hq1 hq2 HOutN HNoN HAk HHk HAT
          go_wp2
          go_ret3
          exact ⟨q, k + 1, p + (k + 1), 0, rfl, rfl, unhide HO, hpk2, fun _ => rfl⟩
        · have HN2 := hide (unhide HNoN hh)
          rw [decide_eq_false hh]
          clear hh HOutN HNoN HAk HHk HAT
          go_wp2
          go_round
          case rel => exact ⟨k + 1, by omega, by go_num, hpk2, unhide HN2⟩
          case measure => simp [intOf]; omega
    · obtain rfl : k = 15 := by omega
      have HOut : Hid (Outcome l bs p 0 8 (p + 15)) := .inr (.inr ⟨unhide HNo, by rw [unhide HL2]; exact hpk, rfl, rfl, rfl⟩)
      clear HPre HKey HHas HAt HNo
      go_wp2
      go_ret3
      exact ⟨0, 0, p + 15, 8, rfl, rfl, unhide HOut, hpk, fun h => by cases h⟩
end Go.Proofs.Ytmafecagcglaoab
