/-
  The walk of the law BitsBack.
-/
import Derived.Test.YtmafecagcglaoaaRowed
import Derived.Deep.RegionHeld3
import Derived.Deep.AppendLies
namespace Go.Proofs.Ytmafecagcglaoaa
open Go.RowKit
set_option linter.unusedVariables false
set_option maxRecDepth 100000

/-- Turn, and Turn of what it answers -/
theorem turn_any (n s : Int) (w : World) : Calls Try.prog 18 #[.int .i64 n, .int .i64 s] w fun e w' => ∃ m f : Int, e = .returned (.tuple #[.int .i64 m, .int .i64 f]) ∧ w' = w ∧ ((f == 0) = false ∨ ((f == 0) = true ∧
    Hid (∀ w2 : World, Calls Try.prog 18 #[.int .i64 m, .int .i64 s] w2 fun e w' => e = .returned (.tuple #[.int .i64 n, .int .i64 0]) ∧ w' = w2))) := by
  by_cases h : fitsB n s = true
  · obtain ⟨h1, h2, h3, h4⟩ := fitsB_true h
    obtain ⟨s, rfl⟩ := Int.eq_ofNat_of_zero_le h1
    obtain ⟨n, rfl⟩ := Int.eq_ofNat_of_zero_le h3
    rw [Int.toNat_natCast] at h4
    have h4' : n < 2 ^ s := by
      have : ((n : Nat) : Int) < ((2 ^ s : Nat) : Int) := by push_cast; exact h4
      omega
    have hp := pow_le_16 (k := s) (by omega)
    refine (turn_yes n s w h (by omega) (by omega)).mono ?_
    rintro e w' ⟨rfl, rfl⟩
    refine ⟨_, _, rfl, rfl, .inr ⟨rfl, ?_⟩⟩
    have hlt := turnL_lt n s
    have hf2 : fitsB (turnL n s : Nat) s = true := decide_eq_true ⟨h1, h2, by omega, by
      rw [Int.toNat_natCast]
      have : ((turnL n s : Nat) : Int) < ((2 ^ s : Nat) : Int) := by omega
      push_cast at this
      exact this⟩
    intro w2
    have := turn_yes (turnL n s) s w2 hf2 (by omega) (by omega)
    rw [turn_turn n s h4'] at this
    exact this
  · refine (turn_no n s w (by simpa using h)).mono ?_
    rintro e w' ⟨rfl, rfl⟩
    exact ⟨_, _, rfl, rfl, .inl rfl⟩

set_option maxHeartbeats 1000000 in
theorem back_err (v : Value) (n s pe : Int) (w : World) (hpe : (pe != 0) = true) (hpack : Hid (Calls Try.prog 10 #[v] w fun e w' => e = .returned (.tuple #[.slice none 0 0, .int .i64 pe]) ∧ Below w.heap.size w w')) :
    Calls Try.prog 6 #[v, .int .i64 n, .int .i64 s] w fun e w' => e = .returned (.bool true) ∧ Below w.heap.size w w' := by
  go_enter Try.func6, Try.ntmps6
  go_wp2_with fail
  refine (unhide hpack).mono ?_
  rintro e w1 ⟨rfl, hB1⟩
  have HB1 := hide hB1
  have hz1 := hB1.size
  clear hB1
  go_wp2_with fail
  refine (turn_any _ _ _).mono ?_
  rintro e w2 ⟨m, f, rfl, rfl, hf⟩
  go_wp2_with fail
  refine (rowed_any _).mono ?_
  rintro e w3 ⟨rfl, hB3⟩
  have HB3 := hide hB3
  have hz3 := hB3.size
  clear hB3
  have HBB := hide ((unhide HB1).trans ((unhide HB3).mono hz1))
  rcases hf with hf | ⟨hf, hT⟩
  · go_wp2
    go_ret
    exact ⟨rfl, unhide HBB⟩
  · have hnn : (n != n) = false := by simp
    go_wp2_with fail
    refine (unhide hT _).mono ?_
    rintro e w4 ⟨rfl, rfl⟩
    go_wp2
    go_ret
    exact ⟨rfl, unhide HBB⟩
end Go.Proofs.Ytmafecagcglaoaa
