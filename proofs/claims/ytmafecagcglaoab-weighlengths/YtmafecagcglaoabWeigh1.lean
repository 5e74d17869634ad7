/-
  What weigh.check and weigh.Cost answer.
-/
import Derived.Test.YtmafecagcglaoabWeigh0
import Derived.Test.YtmafecagcglaoabIn
namespace Go.Proofs.Ytmafecagcglaoab
open Go.RowKit
set_option linter.unusedVariables false

theorem check_many (a : Option Addr) (len cap : Nat) (most : Int) (w : World) (hm : 288 < len) (hM : len ≤ 9223372036854775807) :
    Calls Try.prog 47 #[.slice a len cap, .int .i64 most] w fun e w' => e = .returned (.int .i64 2) ∧ w' = w := by
  have h : (288 : Int) < (len : Int) := by omega
  go_enter Try.func47, Try.ntmps47
  go_wp2
  go_ret
  exact ⟨rfl, rfl⟩

theorem check_bad (a : Option Addr) (len cap : Nat) (l : List Int) (most : Int) (w : World) (hl : l.length = len) (hm : len ≤ 288) (hR : RowIn .i64 w a l) (j0 : Nat) (hj0 : j0 < len) (hbad : okW (l.getD j0 0) = false) (hf : ∀ j, j < j0 → okW (l.getD j 0) = true) :
    Calls Try.prog 47 #[.slice a len cap, .int .i64 most] w fun e w' => e = .returned (.int .i64 3) ∧ w' = w := by
  obtain ⟨b, o, rfl, hb, hR⟩ : ∃ b o, a = some ⟨b, o, none⟩ ∧ b < w.heap.size ∧ Row .i64 w b o l := by
    rcases hR with rfl | h
    · simp at hl; omega
    · exact h
  have HR := hide hR
  have HF := hide hf
  clear hR hf
  go_enter Try.func47, Try.ntmps47
  go_wp2
  go_loop [5, 7, 13] (fun u y i => ∃ k : Nat, k ≤ j0 ∧ i = .int .i64 (k : Int) ∧ u = .int .i64 (((wpl l k).length : Nat) : Int)) (fun _ _ i => len - (intOf i).toNat)
  case atStart => exact ⟨0, Nat.zero_le _, rfl, rfl⟩
  case round =>
    obtain ⟨k, hk, rfl, rfl⟩ := hrel
    have hle := wpl_le l k
    have c1 := unhide HR k (by omega)
    by_cases hlt : k < j0
    · have hx := okW_true (unhide HF k hlt)
      have HU : Hid ((wpl l (k + 1)).length = (wpl l k).length + (if 0 < l.getD k 0 then 1 else 0)) := by rw [wpl, List.length_append]; unfold Hid; split <;> simp
      generalize l.getD k 0 = x at *
      generalize (wpl l k).length = u at *
      obtain ⟨hx1, hx2⟩ := hx
      by_cases h0 : 0 < x
      · rw [if_pos h0] at HU
        go_wp2
        go_round
        case rel => exact ⟨k + 1, by omega, by go_num, by rw [unhide HU]; go_num⟩
        case measure => simp [intOf]; omega
      · rw [if_neg h0] at HU
        go_wp2
        go_round
        case rel => exact ⟨k + 1, by omega, by go_num, by rw [unhide HU]; rfl⟩
        case measure => simp [intOf]; omega
    · obtain rfl : k = j0 := by omega
      generalize l.getD k 0 = x at *
      generalize (wpl l k).length = u at *
      have hno := okW_false hbad
      have hg : x < 0 ∨ 1000000 < x := by omega
      clear hno hbad
      rcases hg with hg | hg
      · go_wp2
        go_ret
        exact ⟨rfl, rfl⟩
      · have hg0 : ¬ (x < 0) := by omega
        go_wp2
        go_ret
        exact ⟨rfl, rfl⟩

set_option maxHeartbeats 1000000 in
theorem check_good (a : Option Addr) (len cap : Nat) (l : List Int) (most : Int) (w : World) (hl : l.length = len) (hm : len ≤ 288) (hR : RowIn .i64 w a l) (hf : ∀ j, j < len → okW (l.getD j 0) = true) (r : Int) (hr : Hid (r = if ¬ (1 ≤ most ∧ most ≤ 15) then 3 else if 2 ^ most.toNat < (wpl l len).length then 11 else 0)) :
    Calls Try.prog 47 #[.slice a len cap, .int .i64 most] w fun e w' => e = .returned (.int .i64 r) ∧ w' = w := by
  have HR := hide hR
  have HF := hide hf
  clear hR hf
  go_enter Try.func47, Try.ntmps47
  go_wp2
  go_loop [5, 7, 13] (fun u y i => ∃ k : Nat, k ≤ len ∧ i = .int .i64 (k : Int) ∧ u = .int .i64 (((wpl l k).length : Nat) : Int)) (fun _ _ i => len - (intOf i).toNat)
  case atStart => exact ⟨0, Nat.zero_le _, rfl, rfl⟩
  case round =>
    obtain ⟨k, hk, rfl, rfl⟩ := hrel
    have hle := wpl_le l k
    by_cases hlt : k < len
    · have hlk : k < l.length := by omega
      obtain ⟨b, o, rfl, hb, hRw⟩ : ∃ b o, a = some ⟨b, o, none⟩ ∧ b < w.heap.size ∧ Row .i64 w b o l := by
        rcases unhide HR with rfl | h
        · simp at hlk
        · exact h
      have c1 := hRw k hlk
      have hx := okW_true (unhide HF k hlt)
      have HU : Hid ((wpl l (k + 1)).length = (wpl l k).length + (if 0 < l.getD k 0 then 1 else 0)) := by rw [wpl, List.length_append]; unfold Hid; split <;> simp
      clear hRw
      generalize l.getD k 0 = x at *
      generalize (wpl l k).length = u at *
      obtain ⟨hx1, hx2⟩ := hx
      by_cases h0 : 0 < x
      · rw [if_pos h0] at HU
        go_wp2
        go_round
        case rel => exact ⟨k + 1, by omega, by go_num, by rw [unhide HU]; go_num⟩
        case measure => simp [intOf]; omega
      · rw [if_neg h0] at HU
        go_wp2
        go_round
        case rel => exact ⟨k + 1, by omega, by go_num, by rw [unhide HU]; rfl⟩
        case measure => simp [intOf]; omega
    · obtain rfl : k = len := by omega
      generalize (wpl l k).length = u at *
      by_cases hlo : most < 1
      · have HE : Hid (r = 3) := by rw [unhide hr, if_pos (by omega)]; exact rfl
        go_wp2
        go_ret
        exact ⟨by rw [unhide HE]; rfl, rfl⟩
      · by_cases hhi : 15 < most
        · have HE : Hid (r = 3) := by rw [unhide hr, if_pos (by omega)]; exact rfl
          go_wp2
          go_ret
          exact ⟨by rw [unhide HE]; rfl, rfl⟩
        · obtain ⟨m, rfl⟩ := Int.eq_ofNat_of_zero_le (show 0 ≤ most by omega)
          rw [if_neg (by omega)] at hr
          have HW : Hid (wrap64 (2 ^ m) = ((2 ^ m : Nat) : Int)) := by
            have h1 : 2 ^ m ≤ 2 ^ 15 := Nat.pow_le_pow_right (by decide) (by omega)
            have h2 : ((2 : Int) ^ m) = ((2 ^ m : Nat) : Int) := by push_cast; rfl
            unfold Hid
            rw [h2]
            generalize 2 ^ m = q at *
            unfold wrap64
            omega
          go_wp2
          · have h5 : wrap64 (2 ^ m) < (u : Int) := by assumption
            rw [unhide HW] at h5
            have HE : r = 11 := by rw [unhide hr, if_pos (by simp; omega)]
            go_ret
            exact ⟨by rw [HE]; rfl, rfl⟩
          · have h5 : (u : Int) ≤ wrap64 (2 ^ m) := by assumption
            rw [unhide HW] at h5
            have HE : r = 0 := by rw [unhide hr, if_neg (by simp; omega)]
            go_ret
            exact ⟨by rw [HE]; rfl, rfl⟩

theorem check_any (a : Option Addr) (len cap : Nat) (l : List Int) (most : Int) (w : World) (hl : l.length = len) (hM : len ≤ 9223372036854775807) (hR : RowIn .i64 w a l) :
    Calls Try.prog 47 #[.slice a len cap, .int .i64 most] w fun e w' => e = .returned (.int .i64 (errW l most)) ∧ w' = w := by
  by_cases hm : 288 < len
  · have e : errW l most = 2 := by unfold errW; rw [if_pos (by omega)]
    rw [e]
    exact check_many a len cap most w hm hM
  · rcases first_bad (fun j => okW (l.getD j 0)) len with hf | ⟨j0, hj0, hbad, hf⟩
    · have hn : ¬ ∃ j, j < l.length ∧ okW (l.getD j 0) = false := by
        rintro ⟨j, hj, e⟩
        have := hf j (by omega)
        simp only [e] at this
        cases this
      exact check_good a len cap l most w hl (by omega) hR hf _ (by unfold errW; rw [if_neg (by omega), if_neg hn, hl]; exact rfl)
    · have e : errW l most = 3 := by unfold errW; rw [if_neg (by omega), if_pos ⟨j0, by omega, hbad⟩]
      rw [e]
      exact check_bad a len cap l most w hl (by omega) hR j0 hj0 hbad hf

/-- how many bits all that is wanted takes, of the first k places -/
def costK (l s : List Int) : Nat → Int
  | 0 => 0
  | k + 1 => costK l s k + l.getD k 0 * s.getD k 0
/-- a length that Cost takes -/
def okC (x n : Int) : Bool := decide (0 ≤ n ∧ n ≤ 15 ∧ (n = 0 → ¬ 0 < x))
/-- Cost's error -/
def errC (l s : List Int) : Int := if l.length ≠ s.length then 4 else if errW l 15 ≠ 0 then errW l 15 else if ∃ j, j < l.length ∧ okC (l.getD j 0) (s.getD j 0) = false then 3 else 0

theorem cost_form (a a2 : Option Addr) (len cap n2 c2 : Nat) (w : World) (h : len ≠ n2) (h1 : len ≤ 9223372036854775807) (h2 : n2 ≤ 9223372036854775807) :
    Calls Try.prog 19 #[.slice a len cap, .slice a2 n2 c2] w fun e w' => e = .returned (.tuple #[.int .i64 0, .int .i64 4]) ∧ w' = w := by
  have h : ((len : Int) != (n2 : Int)) = true := by rw [bne_iff_ne]; omega
  go_enter Try.func19, Try.ntmps19
  go_wp2
  go_ret2
  exact ⟨rfl, rfl⟩
theorem cost_err (a a2 : Option Addr) (len cap c2 : Nat) (l : List Int) (w : World) (hl : l.length = len) (hM : len ≤ 9223372036854775807) (hR : RowIn .i64 w a l) (he : errW l 15 ≠ 0) :
    Calls Try.prog 19 #[.slice a len cap, .slice a2 len c2] w fun e w' => e = .returned (.tuple #[.int .i64 0, .int .i64 (errW l 15)]) ∧ w' = w := by
  have h : ((len : Int) != (len : Int)) = false := by simp
  have HC := hide (check_any a len cap l 15 w hl hM hR)
  have hb : (errW l 15 != 0) = true := by rw [bne_iff_ne]; exact he
  clear hR he
  generalize errW l 15 = r at *
  go_enter Try.func19, Try.ntmps19
  go_wp2_with fail
  refine (unhide HC).mono ?_
  rintro e w1 ⟨rfl, rfl⟩
  go_wp2
  go_ret2
  exact ⟨rfl, rfl⟩

theorem costK_le (l s : List Int) (hl : ∀ j, j < l.length → 0 ≤ l.getD j 0 ∧ l.getD j 0 ≤ 1000000) (hs : ∀ j, j < l.length → 0 ≤ s.getD j 0 ∧ s.getD j 0 ≤ 15) : ∀ k, k ≤ l.length → 0 ≤ costK l s k ∧ costK l s k ≤ 15000000 * k
  | 0, _ => by simp [costK]
  | k + 1, hk => by
    have ih := costK_le l s hl hs k (by omega)
    have h1 := hl k (by omega)
    have h2 := hs k (by omega)
    have h3 : 0 ≤ l.getD k 0 * s.getD k 0 := Int.mul_nonneg h1.1 h2.1
    have h4 : l.getD k 0 * s.getD k 0 ≤ 1000000 * 15 := Int.le_trans (Int.mul_le_mul_of_nonneg_right h1.2 h2.1) (Int.mul_le_mul_of_nonneg_left h2.2 (by decide))
    rw [costK]
    omega

/-- the loop of Cost, up to place j0, where it may end -/
theorem cost_loop (a a2 : Option Addr) (len cap c2 : Nat) (l s : List Int) (w : World) (hl : l.length = len) (hs : s.length = len) (hR : RowIn .i64 w a l) (hR2 : RowIn .i64 w a2 s) (he : errW l 15 = 0) (hG : GoodW l 15)
    (j0 : Nat) (hj0 : j0 ≤ len) (hf : ∀ j, j < j0 → okC (l.getD j 0) (s.getD j 0) = true) (c r : Int)
    (hend : Hid ((j0 = len ∧ c = costK l s len ∧ r = 0) ∨ (j0 < len ∧ okC (l.getD j0 0) (s.getD j0 0) = false ∧ c = 0 ∧ r = 3))) :
    Calls Try.prog 19 #[.slice a len cap, .slice a2 len c2] w fun e w' => e = .returned (.tuple #[.int .i64 c, .int .i64 r]) ∧ w' = w := by
  have h : ((len : Int) != (len : Int)) = false := by simp
  have hlen := hG.len
  have HOK := hide hG.ok
  have HC := check_any a len cap l 15 w hl (by omega) hR
  rw [he] at HC
  have HC := hide HC
  have HR := hide hR
  have HR2 := hide hR2
  have HF := hide hf
  clear hR hR2 he hG hf
  go_enter Try.func19, Try.ntmps19
  go_wp2_with fail
  refine (unhide HC).mono ?_
  rintro e w1 ⟨rfl, rfl⟩
  go_wp2
  go_loop [7, 8, 9, 22] (fun u _ _ i => ∃ k : Nat, k ≤ j0 ∧ i = .int .i64 (k : Int) ∧ u = .int .i64 (costK l s k) ∧ 0 ≤ costK l s k ∧ costK l s k ≤ 15000000 * k) (fun _ _ _ i => len - (intOf i).toNat)
  case atStart => exact ⟨0, Nat.zero_le _, rfl, rfl, by simp [costK], by simp [costK]⟩
  case round =>
    obtain ⟨k, hk, rfl, rfl, hc1, hc2⟩ := hrel
    by_cases hlt : k < len
    · have hlk : k < l.length := by omega
      have hsk : k < s.length := by omega
      obtain ⟨b, o, rfl, hb, hRw⟩ : ∃ b o, a = some ⟨b, o, none⟩ ∧ b < w1.heap.size ∧ Row .i64 w1 b o l := by
        rcases unhide HR with rfl | h
        · simp at hlk
        · exact h
      obtain ⟨b2, o2, rfl, hb2, hRw2⟩ : ∃ b o, a2 = some ⟨b, o, none⟩ ∧ b < w1.heap.size ∧ Row .i64 w1 b o s := by
        rcases unhide HR2 with rfl | h
        · simp at hsk
        · exact h
      have d1 := hRw k hlk
      have d2 := hRw2 k hsk
      have hx := unhide HOK k hlk
      have HU : Hid (costK l s (k + 1) = costK l s k + l.getD k 0 * s.getD k 0) := rfl
      clear hRw hRw2
      by_cases hk0 : k < j0
      · have hy := of_decide_eq_true (unhide HF k hk0)
        generalize l.getD k 0 = x at *
        generalize s.getD k 0 = y at *
        generalize costK l s k = u at *
        obtain ⟨hx1, hx2⟩ := hx
        obtain ⟨hy1, hy2, hy3⟩ := hy
        have m1 : 0 ≤ x * y := Int.mul_nonneg hx1 hy1
        have m2 : x * y ≤ 1000000 * 15 := Int.le_trans (Int.mul_le_mul_of_nonneg_right hx2 hy1) (Int.mul_le_mul_of_nonneg_left hy2 (by decide))
        by_cases hy0 : y = 0
        · have hx0 := hy3 hy0
          subst hy0
          clear hy3
          go_wp2
          go_round
          case rel => exact ⟨k + 1, by omega, by go_num, by first | (rw [unhide HU]; go_num) | rw [unhide HU], by rw [unhide HU]; omega, by rw [unhide HU]; omega⟩
          case measure => simp [intOf]; omega
        · have hyb : (y == 0) = false := by rw [beq_eq_false_iff_ne]; exact hy0
          clear hy3
          go_wp2
          go_round
          case rel => exact ⟨k + 1, by omega, by go_num, by first | (rw [unhide HU]; go_num) | rw [unhide HU], by rw [unhide HU]; omega, by rw [unhide HU]; omega⟩
          case measure => simp [intOf]; omega
      · obtain rfl : k = j0 := by omega
        have hE : okC (l.getD k 0) (s.getD k 0) = false ∧ c = 0 ∧ r = 3 := by
          rcases unhide hend with h1 | h1
          · omega
          · exact h1.2
        obtain ⟨hE, rfl, rfl⟩ := hE
        have hno := of_decide_eq_false hE
        generalize l.getD k 0 = x at *
        generalize s.getD k 0 = y at *
        generalize costK l s k = u at *
        obtain ⟨hx1, hx2⟩ := hx
        clear hend hE
        have hway : y < 0 ∨ 15 < y ∨ (y = 0 ∧ 0 < x) := by
          by_cases h1 : y < 0
          · exact .inl h1
          · by_cases h2 : 15 < y
            · exact .inr (.inl h2)
            · by_cases h3 : y = 0 ∧ 0 < x
              · exact .inr (.inr h3)
              · exact absurd ⟨by omega, by omega, fun h4 h5 => h3 ⟨h4, h5⟩⟩ hno
        clear hno
        rcases hway with h1 | h1 | ⟨h1, h2⟩
        · go_wp2
          go_ret2
          exact ⟨rfl, rfl⟩
        · have h0 : ¬ y < 0 := by omega
          go_wp2
          go_ret2
          exact ⟨rfl, rfl⟩
        · subst h1
          go_wp2
          go_ret2
          exact ⟨rfl, rfl⟩
    · obtain rfl : k = len := by omega
      have hE : c = costK l s k ∧ r = 0 := by
        rcases unhide hend with h1 | h1
        · exact h1.2
        · omega
      have HE1 := hide hE.1
      have HE2 := hide hE.2
      clear hend hE
      generalize costK l s k = u at *
      go_wp2
      go_ret2
      exact ⟨by rw [unhide HE1, unhide HE2]; rfl, rfl⟩

theorem cost_any (a a2 : Option Addr) (len cap n2 c2 : Nat) (l s : List Int) (w : World) (hl : l.length = len) (hs : s.length = n2) (h1 : len ≤ 9223372036854775807) (h2 : n2 ≤ 9223372036854775807) (hR : RowIn .i64 w a l) (hR2 : RowIn .i64 w a2 s) :
    Calls Try.prog 19 #[.slice a len cap, .slice a2 n2 c2] w fun e w' => e = .returned (.tuple #[.int .i64 (if errC l s = 0 then costK l s l.length else 0), .int .i64 (errC l s)]) ∧ w' = w := by
  by_cases hn : len = n2
  · subst hn
    by_cases he : errW l 15 = 0
    · obtain ⟨m, hm, hG⟩ := errW_good he
      obtain rfl : m = 15 := by omega
      rcases first_bad (fun j => okC (l.getD j 0) (s.getD j 0)) len with hf | ⟨j0, hj0, hbad, hf⟩
      · have e : errC l s = 0 := by
          unfold errC
          rw [if_neg (by omega), if_neg (by omega), if_neg]
          rintro ⟨j, hj, e⟩
          have := hf j (by omega)
          simp only [e] at this
          cases this
        rw [e, if_pos rfl]
        exact cost_loop a a2 len cap c2 l s w hl hs hR hR2 he hG len (Nat.le_refl _) hf _ _ (hide (.inl ⟨rfl, by rw [hl], rfl⟩))
      · have e : errC l s = 3 := by
          unfold errC
          rw [if_neg (by omega), if_neg (by omega), if_pos ⟨j0, by omega, hbad⟩]
        rw [e, if_neg (by decide)]
        exact cost_loop a a2 len cap c2 l s w hl hs hR hR2 he hG j0 (by omega) hf _ _ (hide (.inr ⟨hj0, hbad, rfl, rfl⟩))
    · have e : errC l s = errW l 15 := by unfold errC; rw [if_neg (by omega), if_pos he]
      rw [e, if_neg he]
      exact cost_err a a2 len cap c2 l w hl h1 hR he
  · have e : errC l s = 4 := by unfold errC; rw [if_pos (by omega)]
    rw [e, if_neg (by decide)]
    exact cost_form a a2 len cap n2 c2 w hn h1 h2
end Go.Proofs.Ytmafecagcglaoab
