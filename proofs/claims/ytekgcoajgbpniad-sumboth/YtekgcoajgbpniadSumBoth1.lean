/-
  The law SumBoth, walked: written by tools/mk_sumboth.py.
-/
import Derived.Test.YtekgcoajgbpniadSum3
import Derived.Test.YtekgcoajgbpniadConcatB1
namespace Go.Proofs.Ytekgcoajgbpniad
open Go.RowKit
set_option linter.unusedVariables false
set_option maxRecDepth 100000

theorem crc_any (p : Nat) (a : Option Addr) (n cap : Nat) (bs : List Nat) (w : World) (hl : bs.length = n) (hp : p < 4294967296) (hby : BytesIn w a bs) (hv : ∀ j, bs.getD j 0 < 256) :
    Calls Try.prog 6 #[.int .u32 (p : Int), .slice a n cap] w fun e w' => ∃ (c : Nat) (x : Int), e = .returned (.tuple #[.int .u32 (c : Int), .int .i64 x]) ∧ (n ≤ 12000 → x = 0 ∧ c = crcN p bs) ∧ (12000 < n → x = 2 ∧ c = 0) ∧ Below w.heap.size w w' := by
  by_cases h : n ≤ 12000
  · refine (crc_ok p a n cap bs w hl h hp hby hv).mono ?_
    rintro e w' ⟨rfl, hB⟩
    exact ⟨_, _, rfl, fun _ => ⟨rfl, rfl⟩, fun h2 => absurd h2 (by omega), hB⟩
  · refine (crc_many p a n cap w (by omega)).mono ?_
    rintro e w' ⟨rfl, rfl⟩
    exact ⟨0, 2, rfl, fun h2 => absurd h2 h, fun _ => ⟨rfl, rfl⟩, Below.refl _ _⟩
theorem mem_lt' {l : List Nat} (h : ∀ j, l.getD j 0 < 256) : ∀ y ∈ l, y < 256 := by
  intro y hy
  obtain ⟨i, hi, rfl⟩ := List.getElem_of_mem hy
  have := h i
  rw [List.getD, List.getElem?_eq_getElem hi] at this
  exact this
theorem app_lt {xs ys : List Nat} (h1 : ∀ j, xs.getD j 0 < 256) (h2 : ∀ j, ys.getD j 0 < 256) : ∀ j, (xs ++ ys).getD j 0 < 256 := by
  intro j
  by_cases hj : j < xs.length
  · have := h1 j
    rw [List.getD, List.getElem?_append_left hj]
    exact this
  · have := h2 (j - xs.length)
    rw [List.getD, List.getElem?_append_right (by omega)]
    exact this
theorem two_cells (w : World) (v0 v1 : Value) (t : TypeId) : (w.alloc (.cells #[v0, v1] t)).cell? ⟨w.heap.size, 0 + 0, none⟩ = some v0 ∧ (w.alloc (.cells #[v0, v1] t)).cell? ⟨w.heap.size, 0 + 1, none⟩ = some v1 := by
  constructor <;> rw [cell_of_row _ _ _ _ _ _ (heap_alloc_new w _)] <;> rfl
theorem both_rows (w : World) (a b : Option Addr) (la lb ca cb cap : Nat) (xs ys : List Nat) (t : TypeId) (hla : xs.length = la) (hlb : ys.length = lb) (hba : BytesIn w a xs) (hbb : BytesIn w b ys) (hs : la + lb ≤ 281474976710656) :
    Calls Try.prog 11 #[.slice (some ⟨w.heap.size, 0, none⟩) 2 cap] (w.alloc (.cells #[.slice a la ca, .slice b lb cb] t)) fun e w' => ∃ x c, la + lb ≤ c ∧ e = .returned (.slice x (la + lb) c) ∧ BytesIn w' x (xs ++ ys) ∧ Below w.heap.size w w' := by
  subst hla hlb
  have e : catB [(a, ca, xs), (b, cb, ys)] 2 = xs ++ ys := by simp [catB]
  have hl : (catB [(a, ca, xs), (b, cb, ys)] 2).length = xs.length + ys.length := by rw [e, List.length_append]
  refine (concatB_any w.heap.size 0 2 cap [(a, ca, xs), (b, cb, ys)] _ (by simp) ?_ ?_ (by rw [hl]; exact hs) (by decide)).mono ?_
  · intro j hj
    have h := two_cells w (.slice a xs.length ca) (.slice b ys.length cb) t
    have : j = 0 ∨ j = 1 := by omega
    rcases this with rfl | rfl
    · exact h.1
    · exact h.2
  · intro j hj
    have : j = 0 ∨ j = 1 := by omega
    rcases this with rfl | rfl
    · exact hba.alloc _
    · exact hbb.alloc _
  · rintro e' w' ⟨x, c, h1, rfl, h2, h3⟩
    rw [hl] at h1
    rw [e] at h2
    exact ⟨x, c, h1, by rw [hl], h2, ((Below.refl w.heap.size w).alloc (Nat.le_refl _) _).trans (h3.mono (by simp))⟩

set_option maxHeartbeats 4000000 in
theorem sumBoth_zero_few (a b : Option Addr) (la lb ca cb : Nat) (xs ys : List Nat) (x y : Nat)  (w : World) (hla : xs.length = la) (hlb : ys.length = lb) (hx : x < 4294967296) (hy : y < 4294967296) (hs : la + lb ≤ 12000)
    (hba : BytesIn w a xs) (hbb : BytesIn w b ys) (hva : ∀ j, xs.getD j 0 < 256) (hvb : ∀ j, ys.getD j 0 < 256) :
    Calls Try.prog 4 #[.slice a la ca, .slice b lb cb, .int .u32 (x : Int), .int .u32 (y : Int), .int .i64 0] w fun e w' => e = .returned (.bool true) ∧ Below w.heap.size w w' := by
  have HA := hide hba
  have HB := hide hbb
  have VA := hide hva
  have VB := hide hvb
  have LA := hide hla
  have LB := hide hlb
  clear hba hbb hva hvb hla hlb
  go_enter Try.func4, Try.ntmps4
  go_wp2_with fail
  refine (crc_ok 0 a la ca (xs) w (unhide LA) (by omega) (by decide) (unhide HA) (unhide VA)).mono ?_
  rintro e w1 ⟨rfl, hB⟩
  have W1 := hide (hB)
  clear hB
  go_wp2_with fail
  refine (crc_ok 0 b lb cb (ys) w1 (unhide LB) (by omega) (by decide) ((unhide HB).below (unhide W1) (Nat.le_refl _)) (unhide VB)).mono ?_
  rintro e w2 ⟨rfl, hB⟩
  have W2 := hide ((unhide W1).trans (hB.mono (unhide W1).size))
  clear hB
  have C1 := hide (crcN_lt (p := 0) (mem_lt' (unhide VA)) (by decide))
  have C2 := hide (crcN_lt (p := 0) (mem_lt' (unhide VB)) (by decide))
  have BC := hide (bothN_crc xs ys (mem_lt' (unhide VB)) 0)
  have AC := hide (crcN_append xs ys 0)
  go_wp2_with fail
  refine (both_rows w2 a b la lb ca cb _ xs ys _ (unhide LA) (unhide LB) ((unhide HA).below (unhide W2) (Nat.le_refl _)) ((unhide HB).below (unhide W2) (Nat.le_refl _)) (by omega)).mono ?_
  rintro e w3 ⟨ax, cx, hcx, rfl, hX, hB⟩
  have W3 := hide ((unhide W2).trans (hB.mono (unhide W2).size))
  have HX := hide hX
  clear hB hX
  go_wp2_with fail
  refine (crc_ok 0 ax (la + lb) cx (xs ++ ys) w3 (by rw [List.length_append, unhide LA, unhide LB]) (by omega) (by decide) (unhide HX) (app_lt (unhide VA) (unhide VB))).mono ?_
  rintro e w4 ⟨rfl, hB⟩
  have W4 := hide ((unhide W3).trans (hB.mono (unhide W3).size))
  clear hB
  rw [unhide AC]
  generalize crcN 0 xs = P at *
  generalize crcN 0 ys = Q at *
  go_wp2_with fail
  refine (both_ok x y 0 w4 (by omega) hx hy).mono ?_
  rintro e w5 ⟨rfl, hB⟩
  have W5 := hide ((unhide W4).trans (hB.mono (unhide W4).size))
  clear hB
  rw [bothN_zero]
  have hxy := u32_xor_nat x y hx hy
  generalize x ^^^ y = N at *
  go_wp2_with fail
  refine (summed_any w5).mono ?_
  rintro e w6 ⟨rfl, hB⟩
  have W6 := hide ((unhide W5).trans (hB.mono (unhide W5).size))
  clear hB
  go_wp2_with fail
  refine (both_ok P Q lb w6 (by omega) (unhide C1) (unhide C2)).mono ?_
  rintro e w7 ⟨rfl, hB⟩
  have W7 := hide ((unhide W6).trans (hB.mono (unhide W6).size))
  clear hB
  rw [show bothN P Q lb = crcN P ys by rw [← unhide LB, unhide BC, unhide AC]]
  go_wp2_with fail
  refine (crc_ok P b lb cb ys w7 (unhide LB) (by omega) (unhide C1) ((unhide HB).below (unhide W7) (Nat.le_refl _)) (unhide VB)).mono ?_
  rintro e w8 ⟨rfl, hB⟩
  have W8 := hide ((unhide W7).trans (hB.mono (unhide W7).size))
  clear hB
  generalize crcN P ys = C at *
  go_wp2
  go_ret
  exact ⟨rfl, unhide W8⟩

set_option maxHeartbeats 4000000 in
theorem sumBoth_zero_many (a b : Option Addr) (la lb ca cb : Nat) (xs ys : List Nat) (x y : Nat)  (w : World) (hla : xs.length = la) (hlb : ys.length = lb) (hx : x < 4294967296) (hy : y < 4294967296) (hs : 12000 < la + lb) (hs2 : la + lb ≤ 281474976710656)
    (hba : BytesIn w a xs) (hbb : BytesIn w b ys) (hva : ∀ j, xs.getD j 0 < 256) (hvb : ∀ j, ys.getD j 0 < 256) :
    Calls Try.prog 4 #[.slice a la ca, .slice b lb cb, .int .u32 (x : Int), .int .u32 (y : Int), .int .i64 0] w fun e w' => e = .returned (.bool true) ∧ Below w.heap.size w w' := by
  have HA := hide hba
  have HB := hide hbb
  have VA := hide hva
  have VB := hide hvb
  have LA := hide hla
  have LB := hide hlb
  clear hba hbb hva hvb hla hlb
  go_enter Try.func4, Try.ntmps4
  go_wp2_with fail
  refine (crc_any 0 a la ca (xs) w (unhide LA) (by decide) (unhide HA) (unhide VA)).mono ?_
  rintro e w1 ⟨c1, x1, rfl, ho1, hm1, hB⟩
  have W1 := hide (hB)
  have Q1 := hide ho1
  have R1 := hide hm1
  clear hB ho1 hm1
  go_wp2_with fail
  refine (crc_any 0 b lb cb (ys) w1 (unhide LB) (by decide) ((unhide HB).below (unhide W1) (Nat.le_refl _)) (unhide VB)).mono ?_
  rintro e w2 ⟨c2, x2, rfl, ho2, hm2, hB⟩
  have W2 := hide ((unhide W1).trans (hB.mono (unhide W1).size))
  have Q2 := hide ho2
  have R2 := hide hm2
  clear hB ho2 hm2
  go_wp2_with fail
  refine (both_rows w2 a b la lb ca cb _ xs ys _ (unhide LA) (unhide LB) ((unhide HA).below (unhide W2) (Nat.le_refl _)) ((unhide HB).below (unhide W2) (Nat.le_refl _)) (by omega)).mono ?_
  rintro e w3 ⟨ax, cx, hcx, rfl, hX, hB⟩
  have W3 := hide ((unhide W2).trans (hB.mono (unhide W2).size))
  have HX := hide hX
  clear hB hX
  go_wp2_with fail
  refine (crc_any 0 ax (la + lb) cx (xs ++ ys) w3 (by rw [List.length_append, unhide LA, unhide LB]) (by decide) (unhide HX) (app_lt (unhide VA) (unhide VB))).mono ?_
  rintro e w4 ⟨c3, x3, rfl, ho3, hm3, hB⟩
  have W4 := hide ((unhide W3).trans (hB.mono (unhide W3).size))
  have Q3 := hide ho3
  have R3 := hide hm3
  clear hB ho3 hm3
  obtain ⟨rfl, rfl⟩ := unhide R3 hs
  go_wp2_with fail
  refine (both_ok x y 0 w4 (by omega) hx hy).mono ?_
  rintro e w5 ⟨rfl, hB⟩
  have W5 := hide ((unhide W4).trans (hB.mono (unhide W4).size))
  clear hB
  rw [bothN_zero]
  have hxy := u32_xor_nat x y hx hy
  generalize x ^^^ y = N at *
  go_wp2_with fail
  refine (summed_any w5).mono ?_
  rintro e w6 ⟨rfl, hB⟩
  have W6 := hide ((unhide W5).trans (hB.mono (unhide W5).size))
  clear hB
  go_wp2
  all_goals go_ret
  all_goals exact ⟨rfl, unhide W6⟩

set_option maxHeartbeats 4000000 in
theorem sumBoth_in_few (a b : Option Addr) (la lb ca cb : Nat) (xs ys : List Nat) (x y : Nat) (m : Nat) (hm : m ≤ 1000000) (hm0 : 0 < m) (w : World) (hla : xs.length = la) (hlb : ys.length = lb) (hx : x < 4294967296) (hy : y < 4294967296) (hs : la + lb ≤ 12000)
    (hba : BytesIn w a xs) (hbb : BytesIn w b ys) (hva : ∀ j, xs.getD j 0 < 256) (hvb : ∀ j, ys.getD j 0 < 256) :
    Calls Try.prog 4 #[.slice a la ca, .slice b lb cb, .int .u32 (x : Int), .int .u32 (y : Int), .int .i64 (m : Int)] w fun e w' => e = .returned (.bool true) ∧ Below w.heap.size w w' := by
  have HA := hide hba
  have HB := hide hbb
  have VA := hide hva
  have VB := hide hvb
  have LA := hide hla
  have LB := hide hlb
  clear hba hbb hva hvb hla hlb
  go_enter Try.func4, Try.ntmps4
  go_wp2_with fail
  refine (crc_ok 0 a la ca (xs) w (unhide LA) (by omega) (by decide) (unhide HA) (unhide VA)).mono ?_
  rintro e w1 ⟨rfl, hB⟩
  have W1 := hide (hB)
  clear hB
  go_wp2_with fail
  refine (crc_ok 0 b lb cb (ys) w1 (unhide LB) (by omega) (by decide) ((unhide HB).below (unhide W1) (Nat.le_refl _)) (unhide VB)).mono ?_
  rintro e w2 ⟨rfl, hB⟩
  have W2 := hide ((unhide W1).trans (hB.mono (unhide W1).size))
  clear hB
  have C1 := hide (crcN_lt (p := 0) (mem_lt' (unhide VA)) (by decide))
  have C2 := hide (crcN_lt (p := 0) (mem_lt' (unhide VB)) (by decide))
  have BC := hide (bothN_crc xs ys (mem_lt' (unhide VB)) 0)
  have AC := hide (crcN_append xs ys 0)
  go_wp2_with fail
  refine (both_rows w2 a b la lb ca cb _ xs ys _ (unhide LA) (unhide LB) ((unhide HA).below (unhide W2) (Nat.le_refl _)) ((unhide HB).below (unhide W2) (Nat.le_refl _)) (by omega)).mono ?_
  rintro e w3 ⟨ax, cx, hcx, rfl, hX, hB⟩
  have W3 := hide ((unhide W2).trans (hB.mono (unhide W2).size))
  have HX := hide hX
  clear hB hX
  go_wp2_with fail
  refine (crc_ok 0 ax (la + lb) cx (xs ++ ys) w3 (by rw [List.length_append, unhide LA, unhide LB]) (by omega) (by decide) (unhide HX) (app_lt (unhide VA) (unhide VB))).mono ?_
  rintro e w4 ⟨rfl, hB⟩
  have W4 := hide ((unhide W3).trans (hB.mono (unhide W3).size))
  clear hB
  rw [unhide AC]
  generalize crcN 0 xs = P at *
  generalize crcN 0 ys = Q at *
  go_wp2_with fail
  refine (both_ok x y m w4 (by omega) hx hy).mono ?_
  rintro e w5 ⟨rfl, hB⟩
  have W5 := hide ((unhide W4).trans (hB.mono (unhide W4).size))
  clear hB
  generalize bothN x y m = N
  have hme : ((m : Int) == 0) = false := by rw [beq_eq_false_iff_ne]; omega
  have hml : ¬ (m : Int) < 0 := by omega
  have hmg : ¬ (1000000 : Int) < (m : Int) := by omega
  go_wp2_with fail
  refine (summed_any w5).mono ?_
  rintro e w6 ⟨rfl, hB⟩
  have W6 := hide ((unhide W5).trans (hB.mono (unhide W5).size))
  clear hB
  go_wp2_with fail
  refine (both_ok P Q lb w6 (by omega) (unhide C1) (unhide C2)).mono ?_
  rintro e w7 ⟨rfl, hB⟩
  have W7 := hide ((unhide W6).trans (hB.mono (unhide W6).size))
  clear hB
  rw [show bothN P Q lb = crcN P ys by rw [← unhide LB, unhide BC, unhide AC]]
  go_wp2_with fail
  refine (crc_ok P b lb cb ys w7 (unhide LB) (by omega) (unhide C1) ((unhide HB).below (unhide W7) (Nat.le_refl _)) (unhide VB)).mono ?_
  rintro e w8 ⟨rfl, hB⟩
  have W8 := hide ((unhide W7).trans (hB.mono (unhide W7).size))
  clear hB
  generalize crcN P ys = C at *
  go_wp2
  go_ret
  exact ⟨rfl, unhide W8⟩

set_option maxHeartbeats 4000000 in
theorem sumBoth_in_many (a b : Option Addr) (la lb ca cb : Nat) (xs ys : List Nat) (x y : Nat) (m : Nat) (hm : m ≤ 1000000) (hm0 : 0 < m) (w : World) (hla : xs.length = la) (hlb : ys.length = lb) (hx : x < 4294967296) (hy : y < 4294967296) (hs : 12000 < la + lb) (hs2 : la + lb ≤ 281474976710656)
    (hba : BytesIn w a xs) (hbb : BytesIn w b ys) (hva : ∀ j, xs.getD j 0 < 256) (hvb : ∀ j, ys.getD j 0 < 256) :
    Calls Try.prog 4 #[.slice a la ca, .slice b lb cb, .int .u32 (x : Int), .int .u32 (y : Int), .int .i64 (m : Int)] w fun e w' => e = .returned (.bool true) ∧ Below w.heap.size w w' := by
  have HA := hide hba
  have HB := hide hbb
  have VA := hide hva
  have VB := hide hvb
  have LA := hide hla
  have LB := hide hlb
  clear hba hbb hva hvb hla hlb
  go_enter Try.func4, Try.ntmps4
  go_wp2_with fail
  refine (crc_any 0 a la ca (xs) w (unhide LA) (by decide) (unhide HA) (unhide VA)).mono ?_
  rintro e w1 ⟨c1, x1, rfl, ho1, hm1, hB⟩
  have W1 := hide (hB)
  have Q1 := hide ho1
  have R1 := hide hm1
  clear hB ho1 hm1
  go_wp2_with fail
  refine (crc_any 0 b lb cb (ys) w1 (unhide LB) (by decide) ((unhide HB).below (unhide W1) (Nat.le_refl _)) (unhide VB)).mono ?_
  rintro e w2 ⟨c2, x2, rfl, ho2, hm2, hB⟩
  have W2 := hide ((unhide W1).trans (hB.mono (unhide W1).size))
  have Q2 := hide ho2
  have R2 := hide hm2
  clear hB ho2 hm2
  go_wp2_with fail
  refine (both_rows w2 a b la lb ca cb _ xs ys _ (unhide LA) (unhide LB) ((unhide HA).below (unhide W2) (Nat.le_refl _)) ((unhide HB).below (unhide W2) (Nat.le_refl _)) (by omega)).mono ?_
  rintro e w3 ⟨ax, cx, hcx, rfl, hX, hB⟩
  have W3 := hide ((unhide W2).trans (hB.mono (unhide W2).size))
  have HX := hide hX
  clear hB hX
  go_wp2_with fail
  refine (crc_any 0 ax (la + lb) cx (xs ++ ys) w3 (by rw [List.length_append, unhide LA, unhide LB]) (by decide) (unhide HX) (app_lt (unhide VA) (unhide VB))).mono ?_
  rintro e w4 ⟨c3, x3, rfl, ho3, hm3, hB⟩
  have W4 := hide ((unhide W3).trans (hB.mono (unhide W3).size))
  have Q3 := hide ho3
  have R3 := hide hm3
  clear hB ho3 hm3
  obtain ⟨rfl, rfl⟩ := unhide R3 hs
  go_wp2_with fail
  refine (both_ok x y m w4 (by omega) hx hy).mono ?_
  rintro e w5 ⟨rfl, hB⟩
  have W5 := hide ((unhide W4).trans (hB.mono (unhide W4).size))
  clear hB
  generalize bothN x y m = N
  have hme : ((m : Int) == 0) = false := by rw [beq_eq_false_iff_ne]; omega
  have hml : ¬ (m : Int) < 0 := by omega
  have hmg : ¬ (1000000 : Int) < (m : Int) := by omega
  go_wp2_with fail
  refine (summed_any w5).mono ?_
  rintro e w6 ⟨rfl, hB⟩
  have W6 := hide ((unhide W5).trans (hB.mono (unhide W5).size))
  clear hB
  go_wp2
  all_goals go_ret
  all_goals exact ⟨rfl, unhide W6⟩

set_option maxHeartbeats 4000000 in
theorem sumBoth_below_few (a b : Option Addr) (la lb ca cb : Nat) (xs ys : List Nat) (x y : Nat) (long : Int) (hlong : long < 0) (w : World) (hla : xs.length = la) (hlb : ys.length = lb) (hx : x < 4294967296) (hy : y < 4294967296) (hs : la + lb ≤ 12000)
    (hba : BytesIn w a xs) (hbb : BytesIn w b ys) (hva : ∀ j, xs.getD j 0 < 256) (hvb : ∀ j, ys.getD j 0 < 256) :
    Calls Try.prog 4 #[.slice a la ca, .slice b lb cb, .int .u32 (x : Int), .int .u32 (y : Int), .int .i64 long] w fun e w' => e = .returned (.bool true) ∧ Below w.heap.size w w' := by
  have HA := hide hba
  have HB := hide hbb
  have VA := hide hva
  have VB := hide hvb
  have LA := hide hla
  have LB := hide hlb
  clear hba hbb hva hvb hla hlb
  go_enter Try.func4, Try.ntmps4
  go_wp2_with fail
  refine (crc_ok 0 a la ca (xs) w (unhide LA) (by omega) (by decide) (unhide HA) (unhide VA)).mono ?_
  rintro e w1 ⟨rfl, hB⟩
  have W1 := hide (hB)
  clear hB
  go_wp2_with fail
  refine (crc_ok 0 b lb cb (ys) w1 (unhide LB) (by omega) (by decide) ((unhide HB).below (unhide W1) (Nat.le_refl _)) (unhide VB)).mono ?_
  rintro e w2 ⟨rfl, hB⟩
  have W2 := hide ((unhide W1).trans (hB.mono (unhide W1).size))
  clear hB
  have C1 := hide (crcN_lt (p := 0) (mem_lt' (unhide VA)) (by decide))
  have C2 := hide (crcN_lt (p := 0) (mem_lt' (unhide VB)) (by decide))
  have BC := hide (bothN_crc xs ys (mem_lt' (unhide VB)) 0)
  have AC := hide (crcN_append xs ys 0)
  go_wp2_with fail
  refine (both_rows w2 a b la lb ca cb _ xs ys _ (unhide LA) (unhide LB) ((unhide HA).below (unhide W2) (Nat.le_refl _)) ((unhide HB).below (unhide W2) (Nat.le_refl _)) (by omega)).mono ?_
  rintro e w3 ⟨ax, cx, hcx, rfl, hX, hB⟩
  have W3 := hide ((unhide W2).trans (hB.mono (unhide W2).size))
  have HX := hide hX
  clear hB hX
  go_wp2_with fail
  refine (crc_ok 0 ax (la + lb) cx (xs ++ ys) w3 (by rw [List.length_append, unhide LA, unhide LB]) (by omega) (by decide) (unhide HX) (app_lt (unhide VA) (unhide VB))).mono ?_
  rintro e w4 ⟨rfl, hB⟩
  have W4 := hide ((unhide W3).trans (hB.mono (unhide W3).size))
  clear hB
  rw [unhide AC]
  generalize crcN 0 xs = P at *
  generalize crcN 0 ys = Q at *
  go_wp2_with fail
  refine (both_bad x y long w4 (by omega)).mono ?_
  rintro e w5 ⟨rfl, rfl⟩
  have W5 := W4
  have hme : (long == 0) = false := by rw [beq_eq_false_iff_ne]; omega
  go_wp2_with fail
  refine (summed_any w5).mono ?_
  rintro e w6 ⟨rfl, hB⟩
  have W6 := hide ((unhide W5).trans (hB.mono (unhide W5).size))
  clear hB
  go_wp2_with fail
  refine (both_ok P Q lb w6 (by omega) (unhide C1) (unhide C2)).mono ?_
  rintro e w7 ⟨rfl, hB⟩
  have W7 := hide ((unhide W6).trans (hB.mono (unhide W6).size))
  clear hB
  rw [show bothN P Q lb = crcN P ys by rw [← unhide LB, unhide BC, unhide AC]]
  go_wp2_with fail
  refine (crc_ok P b lb cb ys w7 (unhide LB) (by omega) (unhide C1) ((unhide HB).below (unhide W7) (Nat.le_refl _)) (unhide VB)).mono ?_
  rintro e w8 ⟨rfl, hB⟩
  have W8 := hide ((unhide W7).trans (hB.mono (unhide W7).size))
  clear hB
  generalize crcN P ys = C at *
  go_wp2
  go_ret
  exact ⟨rfl, unhide W8⟩

set_option maxHeartbeats 4000000 in
theorem sumBoth_below_many (a b : Option Addr) (la lb ca cb : Nat) (xs ys : List Nat) (x y : Nat) (long : Int) (hlong : long < 0) (w : World) (hla : xs.length = la) (hlb : ys.length = lb) (hx : x < 4294967296) (hy : y < 4294967296) (hs : 12000 < la + lb) (hs2 : la + lb ≤ 281474976710656)
    (hba : BytesIn w a xs) (hbb : BytesIn w b ys) (hva : ∀ j, xs.getD j 0 < 256) (hvb : ∀ j, ys.getD j 0 < 256) :
    Calls Try.prog 4 #[.slice a la ca, .slice b lb cb, .int .u32 (x : Int), .int .u32 (y : Int), .int .i64 long] w fun e w' => e = .returned (.bool true) ∧ Below w.heap.size w w' := by
  have HA := hide hba
  have HB := hide hbb
  have VA := hide hva
  have VB := hide hvb
  have LA := hide hla
  have LB := hide hlb
  clear hba hbb hva hvb hla hlb
  go_enter Try.func4, Try.ntmps4
  go_wp2_with fail
  refine (crc_any 0 a la ca (xs) w (unhide LA) (by decide) (unhide HA) (unhide VA)).mono ?_
  rintro e w1 ⟨c1, x1, rfl, ho1, hm1, hB⟩
  have W1 := hide (hB)
  have Q1 := hide ho1
  have R1 := hide hm1
  clear hB ho1 hm1
  go_wp2_with fail
  refine (crc_any 0 b lb cb (ys) w1 (unhide LB) (by decide) ((unhide HB).below (unhide W1) (Nat.le_refl _)) (unhide VB)).mono ?_
  rintro e w2 ⟨c2, x2, rfl, ho2, hm2, hB⟩
  have W2 := hide ((unhide W1).trans (hB.mono (unhide W1).size))
  have Q2 := hide ho2
  have R2 := hide hm2
  clear hB ho2 hm2
  go_wp2_with fail
  refine (both_rows w2 a b la lb ca cb _ xs ys _ (unhide LA) (unhide LB) ((unhide HA).below (unhide W2) (Nat.le_refl _)) ((unhide HB).below (unhide W2) (Nat.le_refl _)) (by omega)).mono ?_
  rintro e w3 ⟨ax, cx, hcx, rfl, hX, hB⟩
  have W3 := hide ((unhide W2).trans (hB.mono (unhide W2).size))
  have HX := hide hX
  clear hB hX
  go_wp2_with fail
  refine (crc_any 0 ax (la + lb) cx (xs ++ ys) w3 (by rw [List.length_append, unhide LA, unhide LB]) (by decide) (unhide HX) (app_lt (unhide VA) (unhide VB))).mono ?_
  rintro e w4 ⟨c3, x3, rfl, ho3, hm3, hB⟩
  have W4 := hide ((unhide W3).trans (hB.mono (unhide W3).size))
  have Q3 := hide ho3
  have R3 := hide hm3
  clear hB ho3 hm3
  obtain ⟨rfl, rfl⟩ := unhide R3 hs
  go_wp2_with fail
  refine (both_bad x y long w4 (by omega)).mono ?_
  rintro e w5 ⟨rfl, rfl⟩
  have W5 := W4
  have hme : (long == 0) = false := by rw [beq_eq_false_iff_ne]; omega
  go_wp2_with fail
  refine (summed_any w5).mono ?_
  rintro e w6 ⟨rfl, hB⟩
  have W6 := hide ((unhide W5).trans (hB.mono (unhide W5).size))
  clear hB
  go_wp2
  all_goals go_ret
  all_goals exact ⟨rfl, unhide W6⟩

set_option maxHeartbeats 4000000 in
theorem sumBoth_above_few (a b : Option Addr) (la lb ca cb : Nat) (xs ys : List Nat) (x y : Nat) (long : Int) (hlong : 1000000 < long) (w : World) (hla : xs.length = la) (hlb : ys.length = lb) (hx : x < 4294967296) (hy : y < 4294967296) (hs : la + lb ≤ 12000)
    (hba : BytesIn w a xs) (hbb : BytesIn w b ys) (hva : ∀ j, xs.getD j 0 < 256) (hvb : ∀ j, ys.getD j 0 < 256) :
    Calls Try.prog 4 #[.slice a la ca, .slice b lb cb, .int .u32 (x : Int), .int .u32 (y : Int), .int .i64 long] w fun e w' => e = .returned (.bool true) ∧ Below w.heap.size w w' := by
  have HA := hide hba
  have HB := hide hbb
  have VA := hide hva
  have VB := hide hvb
  have LA := hide hla
  have LB := hide hlb
  clear hba hbb hva hvb hla hlb
  go_enter Try.func4, Try.ntmps4
  go_wp2_with fail
  refine (crc_ok 0 a la ca (xs) w (unhide LA) (by omega) (by decide) (unhide HA) (unhide VA)).mono ?_
  rintro e w1 ⟨rfl, hB⟩
  have W1 := hide (hB)
  clear hB
  go_wp2_with fail
  refine (crc_ok 0 b lb cb (ys) w1 (unhide LB) (by omega) (by decide) ((unhide HB).below (unhide W1) (Nat.le_refl _)) (unhide VB)).mono ?_
  rintro e w2 ⟨rfl, hB⟩
  have W2 := hide ((unhide W1).trans (hB.mono (unhide W1).size))
  clear hB
  have C1 := hide (crcN_lt (p := 0) (mem_lt' (unhide VA)) (by decide))
  have C2 := hide (crcN_lt (p := 0) (mem_lt' (unhide VB)) (by decide))
  have BC := hide (bothN_crc xs ys (mem_lt' (unhide VB)) 0)
  have AC := hide (crcN_append xs ys 0)
  go_wp2_with fail
  refine (both_rows w2 a b la lb ca cb _ xs ys _ (unhide LA) (unhide LB) ((unhide HA).below (unhide W2) (Nat.le_refl _)) ((unhide HB).below (unhide W2) (Nat.le_refl _)) (by omega)).mono ?_
  rintro e w3 ⟨ax, cx, hcx, rfl, hX, hB⟩
  have W3 := hide ((unhide W2).trans (hB.mono (unhide W2).size))
  have HX := hide hX
  clear hB hX
  go_wp2_with fail
  refine (crc_ok 0 ax (la + lb) cx (xs ++ ys) w3 (by rw [List.length_append, unhide LA, unhide LB]) (by omega) (by decide) (unhide HX) (app_lt (unhide VA) (unhide VB))).mono ?_
  rintro e w4 ⟨rfl, hB⟩
  have W4 := hide ((unhide W3).trans (hB.mono (unhide W3).size))
  clear hB
  rw [unhide AC]
  generalize crcN 0 xs = P at *
  generalize crcN 0 ys = Q at *
  go_wp2_with fail
  refine (both_bad x y long w4 (by omega)).mono ?_
  rintro e w5 ⟨rfl, rfl⟩
  have W5 := W4
  have hme : (long == 0) = false := by rw [beq_eq_false_iff_ne]; omega
  go_wp2_with fail
  refine (summed_any w5).mono ?_
  rintro e w6 ⟨rfl, hB⟩
  have W6 := hide ((unhide W5).trans (hB.mono (unhide W5).size))
  clear hB
  go_wp2_with fail
  refine (both_ok P Q lb w6 (by omega) (unhide C1) (unhide C2)).mono ?_
  rintro e w7 ⟨rfl, hB⟩
  have W7 := hide ((unhide W6).trans (hB.mono (unhide W6).size))
  clear hB
  rw [show bothN P Q lb = crcN P ys by rw [← unhide LB, unhide BC, unhide AC]]
  go_wp2_with fail
  refine (crc_ok P b lb cb ys w7 (unhide LB) (by omega) (unhide C1) ((unhide HB).below (unhide W7) (Nat.le_refl _)) (unhide VB)).mono ?_
  rintro e w8 ⟨rfl, hB⟩
  have W8 := hide ((unhide W7).trans (hB.mono (unhide W7).size))
  clear hB
  generalize crcN P ys = C at *
  go_wp2
  go_ret
  exact ⟨rfl, unhide W8⟩

set_option maxHeartbeats 4000000 in
theorem sumBoth_above_many (a b : Option Addr) (la lb ca cb : Nat) (xs ys : List Nat) (x y : Nat) (long : Int) (hlong : 1000000 < long) (w : World) (hla : xs.length = la) (hlb : ys.length = lb) (hx : x < 4294967296) (hy : y < 4294967296) (hs : 12000 < la + lb) (hs2 : la + lb ≤ 281474976710656)
    (hba : BytesIn w a xs) (hbb : BytesIn w b ys) (hva : ∀ j, xs.getD j 0 < 256) (hvb : ∀ j, ys.getD j 0 < 256) :
    Calls Try.prog 4 #[.slice a la ca, .slice b lb cb, .int .u32 (x : Int), .int .u32 (y : Int), .int .i64 long] w fun e w' => e = .returned (.bool true) ∧ Below w.heap.size w w' := by
  have HA := hide hba
  have HB := hide hbb
  have VA := hide hva
  have VB := hide hvb
  have LA := hide hla
  have LB := hide hlb
  clear hba hbb hva hvb hla hlb
  go_enter Try.func4, Try.ntmps4
  go_wp2_with fail
  refine (crc_any 0 a la ca (xs) w (unhide LA) (by decide) (unhide HA) (unhide VA)).mono ?_
  rintro e w1 ⟨c1, x1, rfl, ho1, hm1, hB⟩
  have W1 := hide (hB)
  have Q1 := hide ho1
  have R1 := hide hm1
  clear hB ho1 hm1
  go_wp2_with fail
  refine (crc_any 0 b lb cb (ys) w1 (unhide LB) (by decide) ((unhide HB).below (unhide W1) (Nat.le_refl _)) (unhide VB)).mono ?_
  rintro e w2 ⟨c2, x2, rfl, ho2, hm2, hB⟩
  have W2 := hide ((unhide W1).trans (hB.mono (unhide W1).size))
  have Q2 := hide ho2
  have R2 := hide hm2
  clear hB ho2 hm2
  go_wp2_with fail
  refine (both_rows w2 a b la lb ca cb _ xs ys _ (unhide LA) (unhide LB) ((unhide HA).below (unhide W2) (Nat.le_refl _)) ((unhide HB).below (unhide W2) (Nat.le_refl _)) (by omega)).mono ?_
  rintro e w3 ⟨ax, cx, hcx, rfl, hX, hB⟩
  have W3 := hide ((unhide W2).trans (hB.mono (unhide W2).size))
  have HX := hide hX
  clear hB hX
  go_wp2_with fail
  refine (crc_any 0 ax (la + lb) cx (xs ++ ys) w3 (by rw [List.length_append, unhide LA, unhide LB]) (by decide) (unhide HX) (app_lt (unhide VA) (unhide VB))).mono ?_
  rintro e w4 ⟨c3, x3, rfl, ho3, hm3, hB⟩
  have W4 := hide ((unhide W3).trans (hB.mono (unhide W3).size))
  have Q3 := hide ho3
  have R3 := hide hm3
  clear hB ho3 hm3
  obtain ⟨rfl, rfl⟩ := unhide R3 hs
  go_wp2_with fail
  refine (both_bad x y long w4 (by omega)).mono ?_
  rintro e w5 ⟨rfl, rfl⟩
  have W5 := W4
  have hme : (long == 0) = false := by rw [beq_eq_false_iff_ne]; omega
  go_wp2_with fail
  refine (summed_any w5).mono ?_
  rintro e w6 ⟨rfl, hB⟩
  have W6 := hide ((unhide W5).trans (hB.mono (unhide W5).size))
  clear hB
  go_wp2
  all_goals go_ret
  all_goals exact ⟨rfl, unhide W6⟩
end Go.Proofs.Ytekgcoajgbpniad
