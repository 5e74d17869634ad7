/-
  What bits.isSize and bits.fits answer, for whatever numbers.
-/
import Derived.Test.YtoiioemkibfdcacPBase
namespace Go.Proofs.Ytoiioemkibfdcac
open Go.RowKit
set_option linter.unusedVariables false

def sizeB (s : Int) : Bool := decide (0 ≤ s ∧ s ≤ 16)
def fitsB (n s : Int) : Bool := decide (0 ≤ s ∧ s ≤ 16 ∧ 0 ≤ n ∧ n < 2 ^ s.toNat)

theorem sizeB_true {s : Int} (h : sizeB s = true) : 0 ≤ s ∧ s ≤ 16 := of_decide_eq_true h
theorem sizeB_false {s : Int} (h : sizeB s = false) : ¬ (0 ≤ s ∧ s ≤ 16) := of_decide_eq_false h
theorem fitsB_true {n s : Int} (h : fitsB n s = true) : 0 ≤ s ∧ s ≤ 16 ∧ 0 ≤ n ∧ n < 2 ^ s.toNat := of_decide_eq_true h
theorem fitsB_false {n s : Int} (h : fitsB n s = false) : ¬ (0 ≤ s ∧ s ≤ 16 ∧ 0 ≤ n ∧ n < 2 ^ s.toNat) := of_decide_eq_false h

theorem isSize_any (s : Int) (w : World) :
    Calls Try.prog 147 #[.int .i64 s] w fun e w' => e = .returned (.bool (sizeB s)) ∧ w' = w := by
  by_cases h1 : 0 ≤ s
  · by_cases h2 : s ≤ 16
    · have hd : sizeB s = true := decide_eq_true ⟨h1, h2⟩
      rw [hd]
      clear hd
      go_enter Try.func147, Try.ntmps147
      go_wp2
      go_ret
      exact ⟨by simp, rfl⟩
    · have hd : sizeB s = false := decide_eq_false (by omega)
      rw [hd]
      clear hd
      go_enter Try.func147, Try.ntmps147
      go_wp2
      go_ret
      exact ⟨by simp, rfl⟩
  · have hd : sizeB s = false := decide_eq_false (by omega)
    rw [hd]
    clear hd
    go_enter Try.func147, Try.ntmps147
    go_wp2
    go_ret
    exact ⟨rfl, rfl⟩

theorem wrap_pow {s : Int} (h : s ≤ 16) : wrap64 (2 ^ s.toNat) = 2 ^ s.toNat := by
  have h1 : s.toNat ≤ 16 := by omega
  have h2 : (2 : Int) ^ s.toNat ≤ 2 ^ 16 := by
    have := Nat.pow_le_pow_right (n := 2) (by decide) h1
    exact_mod_cast this
  have h3 : (0 : Int) ≤ 2 ^ s.toNat := by
    have := Nat.zero_le (2 ^ s.toNat)
    exact_mod_cast this
  unfold wrap64; omega

theorem fits_any (n s : Int) (w : World) :
    Calls Try.prog 125 #[.int .i64 n, .int .i64 s] w fun e w' => e = .returned (.bool (fitsB n s)) ∧ w' = w := by
  by_cases h1 : sizeB s = true
  · obtain ⟨h0, h2⟩ := sizeB_true h1
    by_cases h3 : 0 ≤ n
    · go_enter Try.func125, Try.ntmps125
      go_wp2_with (go_at_call 147; refine (isSize_any _ _).mono ?_; rintro e w' ⟨rfl, rfl⟩)
      go_ret
      refine ⟨ret_bool ?_, rfl⟩
      rw [wrap_pow h2]
      simp [fitsB, h0, h2, h3]
    · have hd : fitsB n s = false := decide_eq_false (by omega)
      rw [hd]
      clear hd
      go_enter Try.func125, Try.ntmps125
      go_wp2_with (go_at_call 147; refine (isSize_any _ _).mono ?_; rintro e w' ⟨rfl, rfl⟩)
      go_ret
      exact ⟨rfl, rfl⟩
  · have h4 : sizeB s = false := by simpa using h1
    have hd : fitsB n s = false := decide_eq_false (by have := sizeB_false h4; omega)
    rw [hd]
    clear hd h1
    go_enter Try.func125, Try.ntmps125
    go_wp2_with (go_at_call 147; refine (isSize_any _ _).mono ?_; rintro e w' ⟨rfl, rfl⟩)
    go_ret
    exact ⟨rfl, rfl⟩
end Go.Proofs.Ytoiioemkibfdcac
