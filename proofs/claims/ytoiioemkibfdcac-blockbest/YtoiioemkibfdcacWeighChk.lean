/-
  check; what Cost answers, of lists alone.
-/
import Derived.Test.YtoiioemkibfdcacPBase
import Derived.Test.YtoiioemkibfdcacIn0
namespace Go.Proofs.Ytoiioemkibfdcac
open Go.RowKit
set_option linter.unusedVariables false

theorem check_many (a : Option Addr) (len cap : Nat) (most : Int) (w : World) (hm : 288 < len) (hM : len ≤ 9223372036854775807) :
    Calls Try.prog 126 #[.slice a len cap, .int .i64 most] w fun e w' => e = .returned (.int .i64 2) ∧ w' = w := by
  have h : (288 : Int) < (len : Int) := by omega
  go_enter Try.func126, Try.ntmps126
  go_wp2
  go_ret
  exact ⟨rfl, rfl⟩

theorem check_bad (a : Option Addr) (len cap : Nat) (l : List Int) (most : Int) (w : World) (hl : l.length = len) (hm : len ≤ 288) (hR : RowIn .i64 w a l) (j0 : Nat) (hj0 : j0 < len) (hbad : okW (l.getD j0 0) = false) (hf : ∀ j, j < j0 → okW (l.getD j 0) = true) :
    Calls Try.prog 126 #[.slice a len cap, .int .i64 most] w fun e w' => e = .returned (.int .i64 3) ∧ w' = w := by
  obtain ⟨b, o, rfl, hb, hR⟩ : ∃ b o, a = some ⟨b, o, none⟩ ∧ b < w.heap.size ∧ Row .i64 w b o l := by
    rcases hR with rfl | h
    · simp at hl; omega
    · exact h
  have HR := hide hR
  have HF := hide hf
  clear hR hf
  go_enter Try.func126, Try.ntmps126
  go_wp2
  go_loop [5, 7, 13] (fun u y i => ∃ k : Nat, k ≤ j0 ∧ i = .int .i64 (k : Int) ∧ u = .int .i64 (((wpl l k).length : Nat) : Int)) (fun _ _ i => len - (intOf i).toNat)
  case atStart => exact ⟨0, Nat.zero_le _, rfl, rfl⟩
  case round =>
    obtain ⟨k, hk, rfl, rfl⟩ := hrel
    have hle := wpl_le l k
    have c1 := unhide HR k (by omega)
    by_cases hlt : k < j0
    · have hx := okW_true (unhide HF k hlt)
      have HU : Hid ((wpl l (k + 1)).length = (wpl l k).length + (if 0 < l.getD k 0 then 1 else 0)) := by rw [wpl, List.length_append]; unfold Hid; split <;> simp
      generalize l.getD k 0 = x at *
      generalize (wpl l k).length = u at *
      obtain ⟨hx1, hx2⟩ := hx
      by_cases h0 : 0 < x
      · rw [if_pos h0] at HU
        go_wp2
        go_round
        case rel => exact ⟨k + 1, by omega, by go_num, by rw [unhide HU]; go_num⟩
        case measure => simp [intOf]; omega
      · rw [if_neg h0] at HU
        go_wp2
        go_round
        case rel => exact ⟨k + 1, by omega, by go_num, by rw [unhide HU]; rfl⟩
        case measure => simp [intOf]; omega
    · obtain rfl : k = j0 := by omega
      generalize l.getD k 0 = x at *
      generalize (wpl l k).length = u at *
      have hno := okW_false hbad
      have hg : x < 0 ∨ 1000000 < x := by omega
      clear hno hbad
      rcases hg with hg | hg
      · go_wp2
        go_ret
        exact ⟨rfl, rfl⟩
      · have hg0 : ¬ (x < 0) := by omega
        go_wp2
        go_ret
        exact ⟨rfl, rfl⟩

set_option maxHeartbeats 1000000 in
theorem check_good (a : Option Addr) (len cap : Nat) (l : List Int) (most : Int) (w : World) (hl : l.length = len) (hm : len ≤ 288) (hR : RowIn .i64 w a l) (hf : ∀ j, j < len → okW (l.getD j 0) = true) (r : Int) (hr : Hid (r = if ¬ (1 ≤ most ∧ most ≤ 15) then 3 else if 2 ^ most.toNat < (wpl l len).length then 11 else 0)) :
    Calls Try.prog 126 #[.slice a len cap, .int .i64 most] w fun e w' => e = .returned (.int .i64 r) ∧ w' = w := by
  have HR := hide hR
  have HF := hide hf
  clear hR hf
  go_enter Try.func126, Try.ntmps126
  go_wp2
  go_loop [5, 7, 13] (fun u y i => ∃ k : Nat, k ≤ len ∧ i = .int .i64 (k : Int) ∧ u = .int .i64 (((wpl l k).length : Nat) : Int)) (fun _ _ i => len - (intOf i).toNat)
  case atStart => exact ⟨0, Nat.zero_le _, rfl, rfl⟩
  case round =>
    obtain ⟨k, hk, rfl, rfl⟩ := hrel
    have hle := wpl_le l k
    by_cases hlt : k < len
    · have hlk : k < l.length := by omega
      obtain ⟨b, o, rfl, hb, hRw⟩ : ∃ b o, a = some ⟨b, o, none⟩ ∧ b < w.heap.size ∧ Row .i64 w b o l := by
        rcases unhide HR with rfl | h
        · simp at hlk
        · exact h
      have c1 := hRw k hlk
      have hx := okW_true (unhide HF k hlt)
      have HU : Hid ((wpl l (k + 1)).length = (wpl l k).length + (if 0 < l.getD k 0 then 1 else 0)) := by rw [wpl, List.length_append]; unfold Hid; split <;> simp
      clear hRw
      generalize l.getD k 0 = x at *
      generalize (wpl l k).length = u at *
      obtain ⟨hx1, hx2⟩ := hx
      by_cases h0 : 0 < x
      · rw [if_pos h0] at HU
        go_wp2
        go_round
        case rel => exact ⟨k + 1, by omega, by go_num, by rw [unhide HU]; go_num⟩
        case measure => simp [intOf]; omega
      · rw [if_neg h0] at HU
        go_wp2
        go_round
        case rel => exact ⟨k + 1, by omega, by go_num, by rw [unhide HU]; rfl⟩
        case measure => simp [intOf]; omega
    · obtain rfl : k = len := by omega
      generalize (wpl l k).length = u at *
      by_cases hlo : most < 1
      · have HE : Hid (r = 3) := by rw [unhide hr, if_pos (by omega)]; exact rfl
        go_wp2
        go_ret
        exact ⟨by rw [unhide HE]; rfl, rfl⟩
      · by_cases hhi : 15 < most
        · have HE : Hid (r = 3) := by rw [unhide hr, if_pos (by omega)]; exact rfl
          go_wp2
          go_ret
          exact ⟨by rw [unhide HE]; rfl, rfl⟩
        · obtain ⟨m, rfl⟩ := Int.eq_ofNat_of_zero_le (show 0 ≤ most by omega)
          rw [if_neg (by omega)] at hr
          have HW : Hid (wrap64 (2 ^ m) = ((2 ^ m : Nat) : Int)) := by
            have h1 : 2 ^ m ≤ 2 ^ 15 := Nat.pow_le_pow_right (by decide) (by omega)
            have h2 : ((2 : Int) ^ m) = ((2 ^ m : Nat) : Int) := by push_cast; rfl
            unfold Hid
            rw [h2]
            generalize 2 ^ m = q at *
            unfold wrap64
            omega
          go_wp2
          · have h5 : wrap64 (2 ^ m) < (u : Int) := by assumption
            rw [unhide HW] at h5
            have HE : r = 11 := by rw [unhide hr, if_pos (by simp; omega)]
            go_ret
            exact ⟨by rw [HE]; rfl, rfl⟩
          · have h5 : (u : Int) ≤ wrap64 (2 ^ m) := by assumption
            rw [unhide HW] at h5
            have HE : r = 0 := by rw [unhide hr, if_neg (by simp; omega)]
            go_ret
            exact ⟨by rw [HE]; rfl, rfl⟩

theorem check_any (a : Option Addr) (len cap : Nat) (l : List Int) (most : Int) (w : World) (hl : l.length = len) (hM : len ≤ 9223372036854775807) (hR : RowIn .i64 w a l) :
    Calls Try.prog 126 #[.slice a len cap, .int .i64 most] w fun e w' => e = .returned (.int .i64 (errW l most)) ∧ w' = w := by
  by_cases hm : 288 < len
  · have e : errW l most = 2 := by unfold errW; rw [if_pos (by omega)]
    rw [e]
    exact check_many a len cap most w hm hM
  · rcases first_bad (fun j => okW (l.getD j 0)) len with hf | ⟨j0, hj0, hbad, hf⟩
    · have hn : ¬ ∃ j, j < l.length ∧ okW (l.getD j 0) = false := by
        rintro ⟨j, hj, e⟩
        have := hf j (by omega)
        simp only [e] at this
        cases this
      exact check_good a len cap l most w hl (by omega) hR hf _ (by unfold errW; rw [if_neg (by omega), if_neg hn, hl]; exact rfl)
    · have e : errW l most = 3 := by unfold errW; rw [if_neg (by omega), if_pos ⟨j0, by omega, hbad⟩]
      rw [e]
      exact check_bad a len cap l most w hl (by omega) hR j0 hj0 hbad hf

/-- how many bits all that is wanted takes, of the first k places -/
def costK (l s : List Int) : Nat → Int
  | 0 => 0
  | k + 1 => costK l s k + l.getD k 0 * s.getD k 0
/-- a length that Cost takes -/
def okC (x n : Int) : Bool := decide (0 ≤ n ∧ n ≤ 15 ∧ (n = 0 → ¬ 0 < x))
/-- Cost's error -/
def errC (l s : List Int) : Int := if l.length ≠ s.length then 4 else if errW l 15 ≠ 0 then errW l 15 else if ∃ j, j < l.length ∧ okC (l.getD j 0) (s.getD j 0) = false then 3 else 0

theorem costK_le (l s : List Int) (hl : ∀ j, j < l.length → 0 ≤ l.getD j 0 ∧ l.getD j 0 ≤ 1000000) (hs : ∀ j, j < l.length → 0 ≤ s.getD j 0 ∧ s.getD j 0 ≤ 15) : ∀ k, k ≤ l.length → 0 ≤ costK l s k ∧ costK l s k ≤ 15000000 * k
  | 0, _ => by simp [costK]
  | k + 1, hk => by
    have ih := costK_le l s hl hs k (by omega)
    have h1 := hl k (by omega)
    have h2 := hs k (by omega)
    have h3 : 0 ≤ l.getD k 0 * s.getD k 0 := Int.mul_nonneg h1.1 h2.1
    have h4 : l.getD k 0 * s.getD k 0 ≤ 1000000 * 15 := Int.le_trans (Int.mul_le_mul_of_nonneg_right h1.2 h2.1) (Int.mul_le_mul_of_nonneg_left h2.2 (by decide))
    rw [costK]
    omega
end Go.Proofs.Ytoiioemkibfdcac
