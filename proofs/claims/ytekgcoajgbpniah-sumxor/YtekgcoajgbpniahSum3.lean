/-
  Package sum: Adler; the closed fact summed().
-/
import Derived.Test.YtekgcoajgbpniahSum2
import Derived.Lib.SlBytesConst
namespace Go.Proofs.Ytekgcoajgbpniah
open Go.RowKit
set_option linter.unusedVariables false
set_option maxRecDepth 100000

theorem adler_many (a : Option Addr) (n cap : Nat) (w : World) (hn : 12000 < n) :
    Calls Try.prog 49 #[.slice a n cap] w fun e w' => e = .returned (.tuple #[.int .u32 0, .int .i64 2]) ∧ w' = w := by
  have h : (12000 : Int) < (n : Int) := by omega
  go_enter Try.func49, Try.ntmps49
  go_wp2
  go_ret2
  trivial

theorem orU {s1 s2 : Nat} (h1 : s1 < 65521) (h2 : s2 < 65521) : bits .or .u32 ((s2 : Int) * 65536) (s1 : Int) = ((s2 * 65536 ||| s1 : Nat) : Int) :=
  u32_or_nat (s2 * 65536) s1 (by omega) (by omega)
theorem adler_ok (a : Option Addr) (n cap : Nat) (bs : List Nat) (w : World) (hl : bs.length = n) (hn : n ≤ 12000) (hby : BytesIn w a bs) (hv : ∀ j, bs.getD j 0 < 256) :
    Calls Try.prog 49 #[.slice a n cap] w fun e w' => e = .returned (.tuple #[.int .u32 (adlN bs : Nat), .int .i64 0]) ∧ Below w.heap.size w w' := by
  have h : ¬ (12000 : Int) < (n : Int) := by omega
  have HBY := hide hby
  have HV := hide hv
  have HL := hide hl
  clear hby hv hl
  go_enter Try.func49, Try.ntmps49
  go_wp2
  go_loopw [13] (fun i wr => ∃ k : Nat, k ≤ n ∧ i = .int .i64 (k : Int) ∧ wr = w.alloc (.cells #[.int .u32 ((adlS (1, 0) (bs.take k)).1 : Nat), .int .u32 ((adlS (1, 0) (bs.take k)).2 : Nat)] 118)) (fun i _ => n - (intOf i).toNat)
  case atStart => exact ⟨0, by omega, rfl, rfl⟩
  case round =>
    obtain ⟨k, hk, rfl, rfl⟩ := hrel
    obtain ⟨hs1, hs2⟩ := adlS_lt (bs.take k) (1, 0) (by decide) (by decide)
    by_cases hlt : k < n
    · have hkl : k < bs.length := by rw [unhide HL]; exact hlt
      obtain ⟨b, o, rfl, hb, hc⟩ := bytes_at (unhide HBY) hkl
      have hx := unhide HV k
      have HC : Hid (adlS (1, 0) (bs.take (k + 1)) = _) := hide (by rw [take_next hkl, adlS_snoc])
      generalize adlS (1, 0) (bs.take k) = s at *
      obtain ⟨s1, s2⟩ := s
      generalize bs.getD k 0 = x at *
      simp only at *
      clear hkl
      go_wp2
      have e1 : ((s1 : Int) + (x : Int)) % 65521 = (((s1 + x) % 65521 : Nat) : Int) := by omega
      have e2 : ((s2 : Int) + ((s1 : Int) + (x : Int))) % 65521 = (((s2 + (s1 + x) % 65521) % 65521 : Nat) : Int) := by omega
      go_roundw
      case rel => exact ⟨k + 1, by omega, by go_num, by rw [unhide HC, e1, e2]⟩
      case measure => simp [intOf]; omega
    · have e : k = n := by omega
      subst e
      have HE : Hid ((adlS (1, 0) (bs.take k)).2 * 65536 ||| (adlS (1, 0) (bs.take k)).1 = adlN bs) := hide (by rw [List.take_of_length_le (by rw [unhide HL]; exact Nat.le_refl _)]; exact adlN_or bs)
      generalize adlS (1, 0) (bs.take k) = s at *
      obtain ⟨s1, s2⟩ := s
      simp only at *
      have HO := hide (orU hs1 hs2)
      go_wp2
      go_ret2
      exact ⟨by rw [unhide HO, unhide HE]; rfl, (Below.refl _ _).alloc (Nat.le_refl _) _⟩

theorem bytes_const (w : World) (xs : List Nat) (t : TypeId) (f : Nat × Nat) (A : Array Value) (hA : A = (u8s xs).toArray) : BytesIn (w.alloc (.cells A t f)) (some ⟨w.heap.size, 0, none⟩) xs := by
  refine .inr ⟨_, 0, rfl, by simp, ?_⟩
  intro j hj
  rw [cell_of_row _ _ _ _ _ _ (heap_alloc_new w _), hA]
  simp [u8s, List.getD, hj]
theorem small_all (xs : List Nat) (h : xs.all (· < 256) = true) : ∀ j, xs.getD j 0 < 256 := by
  intro j
  by_cases hj : j < xs.length
  · rw [List.getD, List.getElem?_eq_getElem hj]
    have := List.all_eq_true.1 h xs[j] (List.getElem_mem hj)
    simpa using this
  · rw [List.getD, List.getElem?_eq_none (by omega)]
    exact (by decide : (0 : Nat) < 256)
theorem summed_any (w : World) :
    Calls Try.prog 27 #[] w fun e w' => e = .returned (.bool true) ∧ Below w.heap.size w w' := by
  have kc := fun (w : World) (C : Array Value) (n c : Nat) => Lib.run_convert_bytes_const (P := Try.prog) w 23 5 C n c Try.underlying23 Try.underlying5
  go_enter Try.func27, Try.ntmps27
  go_wp2_with fail
  refine (crc_ok 0 _ 9 9 [49, 50, 51, 52, 53, 54, 55, 56, 57] _ rfl (by decide) (by decide) (bytes_const w _ _ _ _ rfl) (small_all _ (by decide))).mono ?_
  rintro e w1 ⟨rfl, hB1⟩
  rw [nine_digits]
  have HB1 := hide (((Below.refl w.heap.size w).alloc (Nat.le_refl _) _).trans (hB1.mono (by simp)))
  clear hB1
  go_wp2_with fail
  refine (adler_ok _ 9 9 [87, 105, 107, 105, 112, 101, 100, 105, 97] _ rfl (by decide) (bytes_const w1 _ _ _ _ rfl) (small_all _ (by decide))).mono ?_
  rintro e w2 ⟨rfl, hB2⟩
  rw [a_word]
  have HB2 := hide (((unhide HB1).alloc (unhide HB1).size _).trans (hB2.mono (by have := (unhide HB1).size; simp; omega)))
  clear hB2
  go_wp2
  go_ret
  exact ⟨rfl, unhide HB2⟩
end Go.Proofs.Ytekgcoajgbpniah
