/-
  Package sum: CRC, Both.
-/
import Derived.Test.YtekgcoajgbpniahSum1
namespace Go.Proofs.Ytekgcoajgbpniah
open Go.RowKit
set_option linter.unusedVariables false
set_option maxRecDepth 100000

theorem bytes_at {w : World} {a : Option Addr} {bs : List Nat} (h : BytesIn w a bs) {j : Nat} (hj : j < bs.length) : ∃ b o, a = some ⟨b, o, none⟩ ∧ b < w.heap.size ∧ w.cell? ⟨b, o + j, none⟩ = some (.int .u8 ((bs.getD j 0 : Nat) : Int)) := by
  rcases h with h | ⟨b, o, h1, h2, h3⟩
  · subst h; simp at hj
  · exact ⟨b, o, h1, h2, h3 j hj⟩
theorem notU {n : Nat} (h : n < 4294967296) : bits .xor .u32 IntKind.u32.max (n : Int) = ((n ^^^ 4294967295 : Nat) : Int) := by
  have := u32_xor_nat 4294967295 n (by decide) h
  rw [Nat.xor_comm] at this
  exact this
/-- where the table is looked up -/
theorem low_xor {n x : Nat} (hn : n < 4294967296) (hx : x < 256) : bits .xor .u8 ((n : Int) % 256) (x : Int) = (((n ^^^ x) % 256 : Nat) : Int) := by
  have h := u8_xor_nat (n % 256) x (Nat.mod_lt _ (by decide)) hx
  have e : ((n % 256 : Nat) : Int) = (n : Int) % 256 := rfl
  rw [e] at h
  rw [h]
  have h2 : (n ^^^ x) % 2 ^ 8 = n % 2 ^ 8 ^^^ x % 2 ^ 8 := Nat.xor_mod_two_pow
  rw [show (256 : Nat) = 2 ^ 8 from rfl, h2, Nat.mod_eq_of_lt (a := x) (by simpa using hx)]
theorem high_xor {n m : Nat} (hn : n < 4294967296) (hm : m < 4294967296) : bits .xor .u32 (m : Int) ((n : Int) / 256) = ((m ^^^ n / 256 : Nat) : Int) := u32_xor_nat m (n / 256) hm (by omega)
theorem crcS_is {n x : Nat} (hx : x < 256) : lfts 8 ((n ^^^ x) % 256) ^^^ n / 256 = crcS n x := by
  unfold crcS
  rw [lfts_table (n ^^^ x)]
  congr 1
  have h2 : (n ^^^ x) / 2 ^ 8 = n / 2 ^ 8 ^^^ x / 2 ^ 8 := by simpa [Nat.shiftRight_eq_div_pow] using Nat.shiftRight_xor_distrib (a := n) (b := x) (i := 8)
  rw [show (256 : Nat) = 2 ^ 8 from rfl, h2, Nat.div_eq_of_lt (a := x) (by simpa using hx), Nat.xor_zero]
theorem take_next {bs : List Nat} {k : Nat} (h : k < bs.length) : bs.take (k + 1) = bs.take k ++ [bs.getD k 0] := by
  rw [List.take_add_one]
  simp [List.getD, h]

theorem crc_many (p : Nat) (a : Option Addr) (n cap : Nat) (w : World) (hn : 12000 < n) :
    Calls Try.prog 26 #[.int .u32 (p : Int), .slice a n cap] w fun e w' => e = .returned (.tuple #[.int .u32 0, .int .i64 2]) ∧ w' = w := by
  have h : (12000 : Int) < (n : Int) := by omega
  go_enter Try.func26, Try.ntmps26
  go_wp2
  go_ret2
  trivial

theorem crc_ok (p : Nat) (a : Option Addr) (n cap : Nat) (bs : List Nat) (w : World) (hl : bs.length = n) (hn : n ≤ 12000) (hp : p < 4294967296) (hby : BytesIn w a bs) (hv : ∀ j, bs.getD j 0 < 256) :
    Calls Try.prog 26 #[.int .u32 (p : Int), .slice a n cap] w fun e w' => e = .returned (.tuple #[.int .u32 (crcN p bs : Nat), .int .i64 0]) ∧ Below w.heap.size w w' := by
  have hz := zero_tab
  have h : ¬ (12000 : Int) < (n : Int) := by omega
  have HBY := hide hby
  have HV := hide hv
  have HL := hide hl
  clear hby hv hl
  go_enter Try.func26, Try.ntmps26
  go_wp2_with fail
  refine (allMoved_any w).mono ?_
  rintro e w1 ⟨rfl, hB1⟩
  have HB1 := hide hB1
  clear hB1
  have HN : Hid (Tab (w1.alloc (.cells (tab (fun _ => 0)) 93)) w1.heap.size (fun _ => 0)) := hide (heap_alloc_new _ _)
  go_wp2_with (refine store_tab rfl (.tmp 6) (.tmp 13) rfl _ _ (lfts 8) rfl rfl (unhide HN) ?_)
  have HT := hide ((unhide HN).setRow (lfts 8))
  have HB : Hid (Below w.heap.size w ((w1.alloc (.cells (tab (fun _ => 0)) 93)).setRow w1.heap.size (tab (lfts 8)))) := hide (below_setRow' ((unhide HB1).alloc (unhide HB1).size _) (unhide HB1).size _)
  have HP := hide (notU hp)
  rw [unhide HP]
  go_loopw [7, 18] (fun r i wr => ∃ k : Nat, k ≤ n ∧ i = .int .i64 (k : Int) ∧ r = .int .u32 (crcR (p ^^^ 4294967295) (bs.take k) : Nat) ∧ Hid (Tab wr w1.heap.size (lfts 8) ∧ Below w.heap.size w wr)) (fun _ i _ => n - (intOf i).toNat)
  case atStart => exact ⟨0, by omega, rfl, rfl, hide ⟨unhide HT, unhide HB⟩⟩
  case round =>
    obtain ⟨k, hk, rfl, rfl, hW⟩ := hrel
    by_cases hlt : k < n
    · have hkl : k < bs.length := by rw [unhide HL]; exact hlt
      obtain ⟨b, o, rfl, hb, hc⟩ := bytes_at (unhide HBY) hkl
      have c0 := ((unhide hW).2.cell (p := ⟨b, o + k, none⟩) hb).trans hc
      have hx := unhide HV k
      have hr : crcR (p ^^^ 4294967295) (bs.take k) < 4294967296 := crcR_lt _ _ (fun y hy => by
        obtain ⟨i, hi, rfl⟩ := List.getElem_of_mem hy
        have := unhide HV i
        rw [List.length_take] at hi
        rw [List.getElem_take]
        rw [List.getD, List.getElem?_eq_getElem (by omega)] at this
        exact this) (not_lt hp)
      have HC : Hid (crcR (p ^^^ 4294967295) (bs.take (k + 1)) = crcS (crcR (p ^^^ 4294967295) (bs.take k)) (bs.getD k 0)) := hide (by rw [take_next hkl, crcR_snoc])
      generalize crcR (p ^^^ 4294967295) (bs.take k) = r at *
      generalize bs.getD k 0 = x at *
      have hi := low_xor hr hx
      have hlo : (r ^^^ x) % 256 < 256 := Nat.mod_lt _ (by decide)
      have c1 := (unhide hW).1.cell hlo
      have HS := hide (crcS_is (n := r) hx)
      have ht := lfts_lt 8 (show (r ^^^ x) % 256 < 4294967296 by omega)
      have HH := hide (high_xor hr ht)
      generalize (r ^^^ x) % 256 = q at *
      clear hc hb hkl HT HB HN HB1
      go_wp2
      go_roundw
      case rel => exact ⟨k + 1, by omega, by go_num, by rw [unhide HH, unhide HS, unhide HC], hW⟩
      case measure => simp [intOf]; omega
    · have e : k = n := by omega
      subst e
      have HE : Hid (crcR (p ^^^ 4294967295) (bs.take k) ^^^ 4294967295 = crcN p bs) := hide (by rw [List.take_of_length_le (by rw [unhide HL]; exact Nat.le_refl _)]; rfl)
      have hr : crcR (p ^^^ 4294967295) (bs.take k) < 4294967296 := crcR_lt _ _ (fun y hy => by
        obtain ⟨i, hi, rfl⟩ := List.getElem_of_mem hy
        have := unhide HV i
        rw [List.length_take] at hi
        rw [List.getElem_take]
        rw [List.getD, List.getElem?_eq_getElem (by omega)] at this
        exact this) (not_lt hp)
      have HNN := hide (notU hr)
      clear hr
      go_wp2
      go_ret2
      exact ⟨by rw [unhide HNN, unhide HE]; rfl, (unhide hW).2⟩

end Go.Proofs.Ytekgcoajgbpniah
