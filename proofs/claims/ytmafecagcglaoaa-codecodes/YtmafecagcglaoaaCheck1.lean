/-
  What the document's own Room and CheckLengths answer, code.Check, and slices.Contains.
-/
import Derived.Test.YtmafecagcglaoaaCodesNum
import Derived.Test.YtmafecagcglaoaaIn0
namespace Go.Proofs.Ytmafecagcglaoaa
open Go.RowKit
set_option linter.unusedVariables false
set_option maxRecDepth 100000

/-- what the first k lengths take -/
def roomN (l : List Int) : Nat → Nat
  | 0 => 0
  | k + 1 => roomN l k + (if 0 < l.getD k 0 then 2 ^ (15 - (l.getD k 0).toNat) else 0)
theorem roomN_le (l : List Int) : ∀ k, roomN l k ≤ 32768 * k
  | 0 => by simp [roomN]
  | k + 1 => by
    have ih := roomN_le l k
    have : 2 ^ (15 - (l.getD k 0).toNat) ≤ 32768 := by
      have := Nat.pow_le_pow_right (n := 2) (by decide) (show 15 - (l.getD k 0).toNat ≤ 15 by omega)
      omega
    rw [roomN]
    split <;> omega
theorem roomN_taken (l : List Int) (hok : ∀ j, j < l.length → 0 ≤ l.getD j 0 ∧ l.getD j 0 ≤ 15) : ∀ k, k ≤ l.length → roomN l k = takenN (cnt (l.take k)) 15
  | 0, _ => by
    show 0 = takenN (cnt []) 15
    decide
  | k + 1, hk => by
    have ih := roomN_taken l hok k (by omega)
    have hkl : k < l.length := by omega
    obtain ⟨m, hm⟩ := Int.eq_ofNat_of_zero_le (hok k hkl).1
    have h15 := (hok k hkl).2
    rw [roomN, ih, ← cnt_next l hkl hm, hm]
    rw [hm] at h15
    by_cases h0 : m = 0
    · subst h0
      rw [taken_upd0]; simp
    · rw [taken_upd _ m (by omega) (by omega) 15 (by omega), if_pos (show (0 : Int) < (m : Int) by omega), if_pos (by omega), Int.toNat_natCast]
theorem shr_step (m : Nat) (hm : m ≤ 15) : (32768 : Int) / 2 ^ m = ((2 ^ (15 - m) : Nat) : Int) := by
  have h : (2 : Nat) ^ (15 - m) * 2 ^ m = 32768 := by rw [← Nat.pow_add, show 15 - m + m = 15 by omega]
  have h2 : ((2 ^ (15 - m) : Nat) : Int) * ((2 ^ m : Nat) : Int) = 32768 := by exact_mod_cast h
  have hp : (0 : Int) < ((2 ^ m : Nat) : Int) := by exact_mod_cast Nat.pow_pos (n := m) (show 0 < 2 by decide)
  have e : (2 : Int) ^ m = ((2 ^ m : Nat) : Int) := by push_cast; rfl
  rw [e, ← h2, Int.mul_ediv_cancel _ (by omega)]

theorem room_any (a : Option Addr) (len cap : Nat) (l : List Int) (w : World) (hl : l.length = len) (hlen : len ≤ 288) (hR : RowIn .i64 w a l) (hok : ∀ j, j < l.length → 0 ≤ l.getD j 0 ∧ l.getD j 0 ≤ 15) :
    Calls Try.prog 27 #[.slice a len cap] w fun e w' => e = .returned (.int .i64 ((takenN (cnt l) 15 : Nat) : Int)) ∧ w' = w := by
  have HR := hide hR
  have HOK := hide hok
  have HF : Hid (roomN l len = takenN (cnt l) 15) := by
    have := roomN_taken l hok l.length (Nat.le_refl _)
    rw [List.take_length] at this
    rw [← hl]; exact this
  clear hR hok
  go_enter Try.func27, Try.ntmps27
  go_wp2
  go_loop [3, 8] (fun s i => ∃ k : Nat, k ≤ len ∧ i = .int .i64 (k : Int) ∧ s = .int .i64 ((roomN l k : Nat) : Int)) (fun _ i => len - (intOf i).toNat)
  case atStart => exact ⟨0, Nat.zero_le _, rfl, rfl⟩
  case round =>
    obtain ⟨k, hk, rfl, rfl⟩ := hrel
    by_cases hlt : k < len
    · have hlk : k < l.length := by omega
      obtain ⟨b, o, rfl, hb, hRw⟩ : ∃ b o, a = some ⟨b, o, none⟩ ∧ b < w.heap.size ∧ Row .i64 w b o l := by
        rcases unhide HR with rfl | h
        · simp at hlk
        · exact h
      have c1 := hRw k hlk
      obtain ⟨m, hm⟩ := Int.eq_ofNat_of_zero_le (unhide HOK k hlk).1
      have h15 := (unhide HOK k hlk).2
      have HU : Hid (roomN l (k + 1) = roomN l k + (if 0 < l.getD k 0 then 2 ^ (15 - (l.getD k 0).toNat) else 0)) := rfl
      have hle := roomN_le l k
      rw [hm] at c1 h15 HU
      rw [Int.toNat_natCast] at HU
      have hm15 : m ≤ 15 := by omega
      have hsh := shr_step m hm15
      have hp15 : 2 ^ (15 - m) ≤ 32768 := by
        have := Nat.pow_le_pow_right (n := 2) (by decide) (show 15 - m ≤ 15 by omega)
        omega
      clear hRw hm
      generalize roomN l k = u at *
      generalize 2 ^ (15 - m) = z at *
      by_cases hx0 : (0 : Int) < (m : Int)
      · rw [if_pos hx0] at HU
        go_wp2
        go_round
        case rel => exact ⟨k + 1, by omega, by go_num, by rw [unhide HU]; go_num⟩
        case measure => simp [intOf]; omega
      · rw [if_neg hx0] at HU
        go_wp2
        go_round
        case rel => exact ⟨k + 1, by omega, by go_num, by rw [unhide HU]; rfl⟩
        case measure => simp [intOf]; omega
    · obtain rfl : k = len := by omega
      go_wp2
      go_ret
      exact ⟨ret_int (by rw [unhide HF]), rfl⟩

theorem checkLengths_any (a : Option Addr) (len cap : Nat) (l : List Int) (w : World) (hl : l.length = len) (hM : len ≤ 9223372036854775807) (hR : RowIn .i64 w a l) :
    Calls Try.prog 24 #[.slice a len cap] w fun e w' => e = .returned (.int .i64 (errL l)) ∧ w' = w := by
  by_cases hm : 288 < len
  · have e : errL l = 2 := by unfold errL; rw [if_pos (by omega)]
    rw [e]
    clear e hR
    go_enter Try.func24, Try.ntmps24
    go_wp2
    go_ret
    exact ⟨rfl, rfl⟩
  · rcases first_bad (fun j => okLen (l.getD j 0)) len with hf | ⟨j0, hj0, hbad, hf⟩
    · have hn : ¬ ∃ j, j < l.length ∧ okLen (l.getD j 0) = false := by
        rintro ⟨j, hj, e⟩
        have := hf j (by omega)
        simp only [e] at this
        cases this
      have e : errL l = if 32768 < takenN (cnt l) 15 then 8 else 0 := by unfold errL; rw [if_neg (by omega), if_neg hn]
      have HRoom := hide (room_any a len cap l w hl (by omega) hR (fun j hj => okLen_true (hf j (by omega))))
      have HR := hide hR
      have HOK : Hid (∀ j, j < len → 0 ≤ l.getD j 0 ∧ l.getD j 0 ≤ 15) := fun j hj => okLen_true (hf j hj)
      rw [e]
      clear hR hf hn e
      go_enter Try.func24, Try.ntmps24
      go_wp2
      go_loop [10] (fun i => ∃ k : Nat, k ≤ len ∧ i = .int .i64 (k : Int)) (fun i => len - (intOf i).toNat)
      case atStart => exact ⟨0, Nat.zero_le _, rfl⟩
      case round =>
        obtain ⟨k, hk, rfl⟩ := hrel
        by_cases hlt : k < len
        · have hlk : k < l.length := by omega
          obtain ⟨b, o, rfl, hb, hRw⟩ : ∃ b o, a = some ⟨b, o, none⟩ ∧ b < w.heap.size ∧ Row .i64 w b o l := by
            rcases unhide HR with rfl | h
            · simp at hlk
            · exact h
          have c1 := hRw k hlk
          obtain ⟨h1, h2⟩ := unhide HOK k hlt
          clear hRw
          generalize l.getD k 0 = x at *
          have h1' : ¬ x < 0 := by omega
          have h2' : ¬ 15 < x := by omega
          go_wp2
          go_round
          case rel => exact ⟨k + 1, by omega, by go_num⟩
          case measure => simp [intOf]; omega
        · obtain rfl : k = len := by omega
          go_wp2_with fail
          refine (unhide HRoom).mono ?_
          rintro e w1 ⟨rfl, rfl⟩
          by_cases ht : 32768 < takenN (cnt l) 15
          · go_wp2
            go_ret
            exact ⟨by first | rfl | (rw [if_pos ht]; rfl), rfl⟩
          · go_wp2
            go_ret
            exact ⟨by first | rfl | (rw [if_neg ht]; rfl), rfl⟩
    · have e : errL l = 3 := by unfold errL; rw [if_neg (by omega), if_pos ⟨j0, by omega, hbad⟩]
      rw [e]
      obtain ⟨b, o, rfl, hb, hRw⟩ : ∃ b o, a = some ⟨b, o, none⟩ ∧ b < w.heap.size ∧ Row .i64 w b o l := by
        rcases hR with rfl | h
        · simp at hl; omega
        · exact h
      have HRw := hide hRw
      have HF : Hid (∀ j, j < j0 → 0 ≤ l.getD j 0 ∧ l.getD j 0 ≤ 15) := fun j hj => okLen_true (hf j hj)
      have HBad := hide (okLen_false hbad)
      clear hR hf hbad e hRw
      go_enter Try.func24, Try.ntmps24
      go_wp2
      go_loop [10] (fun i => ∃ k : Nat, k ≤ j0 ∧ i = .int .i64 (k : Int)) (fun i => len - (intOf i).toNat)
      case atStart => exact ⟨0, Nat.zero_le _, rfl⟩
      case round =>
        obtain ⟨k, hk, rfl⟩ := hrel
        have c1 := unhide HRw k (by omega)
        by_cases hlt : k < j0
        · obtain ⟨h1, h2⟩ := unhide HF k hlt
          generalize l.getD k 0 = x at *
          have h1' : ¬ x < 0 := by omega
          have h2' : ¬ 15 < x := by omega
          go_wp2
          go_round
          case rel => exact ⟨k + 1, by omega, by go_num⟩
          case measure => simp [intOf]; omega
        · obtain rfl : k = j0 := by omega
          have hb2 := unhide HBad
          generalize l.getD k 0 = x at *
          by_cases h1 : x < 0
          · clear hb2
            go_wp2
            go_ret
            exact ⟨rfl, rfl⟩
          · have h2 : 15 < x := by omega
            clear hb2
            go_wp2
            go_ret
            exact ⟨rfl, rfl⟩

end Go.Proofs.Ytmafecagcglaoaa
