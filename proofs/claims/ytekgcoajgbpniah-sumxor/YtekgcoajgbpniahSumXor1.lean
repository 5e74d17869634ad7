/-
  The law SumXor.
-/
import Derived.Test.YtekgcoajgbpniahSum3
namespace Go.Proofs.Ytekgcoajgbpniah
open Go.RowKit
set_option linter.unusedVariables false
set_option maxRecDepth 100000

/-- the row so far -/
def xorTo (xs ys zs : List Nat) (n k : Nat) : List Nat := (List.range n).map fun j => if j < k then xs.getD j 0 ^^^ ys.getD j 0 ^^^ zs.getD j 0 else 0
theorem xorTo_len (xs ys zs : List Nat) (n k : Nat) : (xorTo xs ys zs n k).length = n := by simp [xorTo]
theorem xorTo_at (xs ys zs : List Nat) {n j : Nat} (k : Nat) (h : j < n) : (xorTo xs ys zs n k).getD j 0 = if j < k then xs.getD j 0 ^^^ ys.getD j 0 ^^^ zs.getD j 0 else 0 := by
  simp [xorTo, List.getD, h]
theorem xorTo_next (xs ys zs : List Nat) {n k : Nat} (h : k < n) : xorTo xs ys zs n (k + 1) = (xorTo xs ys zs n k).set k (xs.getD k 0 ^^^ ys.getD k 0 ^^^ zs.getD k 0) := by
  apply List.ext_getElem?
  intro j
  rw [List.getElem?_set]
  by_cases hj : j < n
  · by_cases e : k = j
    · subst e
      rw [if_pos rfl, xorTo_len, if_pos h]
      simp [xorTo, h]
    · rw [if_neg e]
      simp only [xorTo, List.getElem?_map, List.getElem?_range hj, Option.map_some]
      congr 1
      by_cases h2 : j < k
      · rw [if_pos h2, if_pos (by omega)]
      · rw [if_neg h2, if_neg (by omega)]
  · have h1 : ∀ q, (xorTo xs ys zs n q)[j]? = none := fun q => List.getElem?_eq_none (by rw [xorTo_len]; omega)
    rw [h1, h1, if_neg (by omega)]
theorem xorTo_zero (xs ys zs : List Nat) (n : Nat) : xorTo xs ys zs n 0 = List.replicate n 0 := by
  apply List.ext_getElem?
  intro j
  by_cases hj : j < n
  · simp [xorTo, hj]
  · rw [List.getElem?_eq_none (by rw [xorTo_len]; omega), List.getElem?_eq_none (by simp; omega)]
theorem xor8 {x y z : Nat} (hx : x < 256) (hy : y < 256) (hz : z < 256) : bits .xor .u8 (bits .xor .u8 (x : Int) (y : Int)) (z : Int) = ((x ^^^ y ^^^ z : Nat) : Int) := by
  rw [u8_xor_nat x y hx hy]
  exact u8_xor_nat _ z (Nat.xor_lt_two_pow (n := 8) hx hy) hz

theorem xor32 {x y z : Nat} (hx : x < 4294967296) (hy : y < 4294967296) (hz : z < 4294967296) : bits .xor .u32 (bits .xor .u32 (x : Int) (y : Int)) (z : Int) = ((x ^^^ y ^^^ z : Nat) : Int) := by
  rw [u32_xor_nat x y hx hy]
  exact u32_xor_nat _ z (Nat.xor_lt_two_pow (n := 32) hx hy) hz
theorem take_at {l : List Nat} {i k : Nat} (h : i < k) : (l.take k).getD i 0 = l.getD i 0 := by simp [List.getD, h]
theorem take_lt {l : List Nat} {k : Nat} (h : ∀ j, l.getD j 0 < 256) : ∀ j, (l.take k).getD j 0 < 256 := by
  intro j
  by_cases hj : j < k
  · rw [take_at hj]; exact h j
  · rw [List.getD, List.getElem?_eq_none (by rw [List.length_take]; omega)]; exact (by decide : (0 : Nat) < 256)
theorem mem_lt {l : List Nat} (h : ∀ j, l.getD j 0 < 256) : ∀ y ∈ l, y < 256 := by
  intro y hy
  obtain ⟨i, hi, rfl⟩ := List.getElem_of_mem hy
  have := h i
  rw [List.getD, List.getElem?_eq_getElem hi] at this
  exact this
theorem bytes_take {w : World} {a : Option Addr} {xs : List Nat} (h : BytesIn w a xs) (k : Nat) : BytesIn w a (xs.take k) := by
  rcases h with h | ⟨b, o, h1, h2, h3⟩
  · exact .inl (by rw [h]; simp)
  · refine .inr ⟨b, o, h1, h2, fun j hj => ?_⟩
    rw [List.length_take] at hj
    rw [take_at (by omega)]
    exact h3 j (by omega)

set_option maxHeartbeats 1000000 in
theorem sumXor_any (a b c : Option Addr) (la lb lc ca cb cc : Nat) (xs ys zs : List Nat) (w : World) (hla : xs.length = la) (hlb : ys.length = lb) (hlc : zs.length = lc) (hca : la ≤ ca) (hcb : lb ≤ cb) (hcc : lc ≤ cc) (hma : la ≤ maxLen) (hmb : lb ≤ maxLen) (hmc : lc ≤ maxLen)
    (hba : BytesIn w a xs) (hbb : BytesIn w b ys) (hbc : BytesIn w c zs) (hva : ∀ j, xs.getD j 0 < 256) (hvb : ∀ j, ys.getD j 0 < 256) (hvc : ∀ j, zs.getD j 0 < 256) (n : Nat) (hna : n ≤ la) (hnb : n ≤ lb) (hnc : n ≤ lc) (hn : n ≤ 12000)
    (hmin : ∀ w : World, (Builtin.min_ #[3, 3, 3, 3] 3 #[.int .i64 la, .int .i64 lb, .int .i64 lc, .int .i64 12000]).run Try.prog w = .ok (.int .i64 (n : Int)) w) :
    Calls Try.prog 7 #[.slice a la ca, .slice b lb cb, .slice c lc cc] w fun e w' => e = .returned (.bool true) ∧ Below w.heap.size w w' := by
  have HA := hide hba
  have HB := hide hbb
  have HC := hide hbc
  have VA := hide hva
  have VB := hide hvb
  have VC := hide hvc
  have LA := hide hla
  have LB := hide hlb
  have LC := hide hlc
  clear hba hbb hbc hva hvb hvc hla hlb hlc
  unfold maxLen at *
  obtain ⟨i0, hi, hz0, hz1, hz2⟩ := info_parts info_u8
  go_enter Try.func7, Try.ntmps7
  go_wp2_with (at_make; refine wpList_make_full _ rfl _ _ 23 rfl w.heap.size 5 i0 (.int .u8 0) 1 Try.underlying23 hi hz0 hz1 _ _ _ _ n rfl rfl rfl rfl (by rw [hz2]; omega) (by unfold maxLen; omega) (by simp) ?_)
  intro w1 hown1 hgrow1
  have e0 : (madeCells #[Value.int .u8 0] n).toList = u8s (xorTo xs ys zs n 0) := by rw [xorTo_zero, ← made_u8, Nat.mul_one]; rfl
  rw [e0] at hown1
  have HO := hide hown1
  have HB1 := hide ((Below.refl w.heap.size w).grown hgrow1 (Nat.le_refl _) (fun j h => by cases h))
  have hg1 := (hown1.lt w.heap.size rfl).2
  clear hown1 hgrow1 e0
  go_wp2
  go_loopw [28] (fun i wq => ∃ k : Nat, k ≤ n ∧ i = .int .i64 (k : Int) ∧ Hid (w.heap.size < wq.heap.size) ∧ Hid (Below w.heap.size w wq) ∧ Hid (wq.ownsRow w.heap.size 5 1 (.slice (some ⟨w.heap.size, 0, none⟩) n n) n (u8s (xorTo xs ys zs n k)))) (fun i _ => n - (intOf i).toNat)
  case atStart => exact ⟨0, Nat.zero_le _, rfl, hide hg1, HB1, HO⟩
  case round =>
    obtain ⟨k, hk, rfl, hG, hBq, hOq⟩ := hrel
    by_cases hlt : k < n
    · obtain ⟨ba, oa, rfl, hb1, c1⟩ := bytes_at (unhide HA) (j := k) (by rw [unhide LA]; omega)
      obtain ⟨bb, ob, rfl, hb2, c2⟩ := bytes_at (unhide HB) (j := k) (by rw [unhide LB]; omega)
      obtain ⟨bc, oc, rfl, hb3, c3⟩ := bytes_at (unhide HC) (j := k) (by rw [unhide LC]; omega)
      have d1 := ((unhide hBq).cell (p := ⟨ba, oa + k, none⟩) hb1).trans c1
      have d2 := ((unhide hBq).cell (p := ⟨bb, ob + k, none⟩) hb2).trans c2
      have d3 := ((unhide hBq).cell (p := ⟨bc, oc + k, none⟩) hb3).trans c3
      have hx := unhide VA k
      have hy := unhide VB k
      have hz := unhide VC k
      have HN := hide (xorTo_next xs ys zs hlt)
      have f0 := (unhide hOq).frozenAt k
      have c0 := (unhide hOq).cellAt k (by omega)
      rw [show (u8s (xorTo xs ys zs n k))[k]? = some (.int .u8 ((0 : Nat) : Int)) by simp [u8s, xorTo, hlt]] at c0
      generalize xs.getD k 0 = x at *
      generalize ys.getD k 0 = y at *
      generalize zs.getD k 0 = z at *
      have HX := hide (xor8 hx hy hz)
      clear c1 c2 c3
      go_wp2
      go_region
      all_goals go_wp2
      go_roundw
      case rel =>
        have hst := (unhide hOq).stored k (.int .u8 ((x ^^^ y ^^^ z : Nat) : Int))
        rw [unhide HX]
        refine ⟨k + 1, by omega, by go_num, hide ?_, hide ?_, hide ?_⟩
        · have := hst.2.size
          exact Nat.lt_of_lt_of_le (unhide hG) this
        · exact ((unhide hBq).setCell (Nat.le_refl _) _).drew
        · have e : u8s (xorTo xs ys zs n (k + 1)) = (u8s (xorTo xs ys zs n k)).set k (.int .u8 ((x ^^^ y ^^^ z : Nat) : Int)) := by
            rw [unhide HN, u8s, List.map_set]
          rw [e]
          exact hst.1
      case measure => simp [intOf]; omega
    · have e : k = n := by omega
      subst e
      clear HB1 HO
      have tl : ∀ (l : List Nat) (m : Nat), l.length = m → k ≤ m → (l.take k).length = k := fun l m h1 h2 => by rw [List.length_take]; omega
      have hxl := xorTo_len xs ys zs k k
      have hxv : ∀ j, (xorTo xs ys zs k k).getD j 0 < 256 := by
        intro j
        by_cases hj : j < k
        · rw [xorTo_at _ _ _ _ hj, if_pos hj]
          exact Nat.xor_lt_two_pow (n := 8) (Nat.xor_lt_two_pow (n := 8) (unhide VA j) (unhide VB j)) (unhide VC j)
        · rw [List.getD, List.getElem?_eq_none (by omega)]; exact (by decide : (0 : Nat) < 256)
      have HXX := hide (crcN_xor3 (xs.take k) (ys.take k) (zs.take k) (xorTo xs ys zs k k) ((tl _ _ (unhide LA) hna).trans (tl _ _ (unhide LB) hnb).symm) ((tl _ _ (unhide LA) hna).trans (tl _ _ (unhide LC) hnc).symm)
        (mem_lt (take_lt (unhide VA))) (mem_lt (take_lt (unhide VB))) (mem_lt (take_lt (unhide VC))) (mem_lt hxv) (hxl.trans (tl _ _ (unhide LA) hna).symm) (fun i hi => by
          have hik : i < k := by rw [tl _ _ (unhide LA) hna] at hi; exact hi
          rw [xorTo_at _ _ _ _ hik, if_pos hik, take_at hik, take_at hik, take_at hik]))
      have L1 := hide (crcN_lt (p := 0) (mem_lt (take_lt (k := k) (unhide VA))) (by decide))
      have L2 := hide (crcN_lt (p := 0) (mem_lt (take_lt (k := k) (unhide VB))) (by decide))
      have L3 := hide (crcN_lt (p := 0) (mem_lt (take_lt (k := k) (unhide VC))) (by decide))
      have HXL := hide hxl
      have HXV := hide hxv
      have TL := hide tl
      have hs0 := (unhide hBq).size
      clear hxl hxv tl
      go_wp2_with fail
      refine (crc_ok 0 a k ca (xs.take k) wr (unhide TL _ _ (unhide LA) hna) hn (by decide) ((bytes_take (unhide HA) k).below (unhide hBq) (Nat.le_refl _)) (take_lt (unhide VA))).mono ?_
      rintro e w2 ⟨rfl, hB2⟩
      have HB2 := hide hB2
      have HW2 := hide ((unhide hBq).trans (hB2.mono hs0))
      clear hB2
      generalize crcN 0 (xs.take k) = P at *
      go_wp2_with fail
      refine (crc_ok 0 b k cb (ys.take k) w2 (unhide TL _ _ (unhide LB) hnb) hn (by decide) ((bytes_take (unhide HB) k).below (unhide HW2) (Nat.le_refl _)) (take_lt (unhide VB))).mono ?_
      rintro e w3 ⟨rfl, hB3⟩
      have HB3 := hide ((unhide HB2).trans (hB3.mono (unhide HB2).size))
      have HW3 := hide ((unhide HW2).trans (hB3.mono (unhide HW2).size))
      clear hB3
      generalize crcN 0 (ys.take k) = Q at *
      go_wp2_with fail
      refine (crc_ok 0 c k cc (zs.take k) w3 (unhide TL _ _ (unhide LC) hnc) hn (by decide) ((bytes_take (unhide HC) k).below (unhide HW3) (Nat.le_refl _)) (take_lt (unhide VC))).mono ?_
      rintro e w4 ⟨rfl, hB4⟩
      have HB4 := hide ((unhide HB3).trans (hB4.mono (unhide HB3).size))
      have HW4 := hide ((unhide HW3).trans (hB4.mono (unhide HW3).size))
      clear hB4
      generalize crcN 0 (zs.take k) = R at *
      go_wp2_with fail
      refine (crc_ok 0 _ k k (xorTo xs ys zs k k) w4 (unhide HXL) hn (by decide) ((BytesIn.own (unhide hOq)).below (unhide HB4) (Nat.le_refl _)) (unhide HXV)).mono ?_
      rintro e w5 ⟨rfl, hB5⟩
      have HW5 := hide ((unhide HW4).trans (hB5.mono (unhide HW4).size))
      clear hB5
      rw [← unhide HXX]
      go_wp2_with fail
      refine (summed_any w5).mono ?_
      rintro e w6 ⟨rfl, hB6⟩
      have HW6 := hide ((unhide HW5).trans (hB6.mono (unhide HW5).size))
      clear hB6
      have hq := xor32 (unhide L1) (unhide L2) (unhide L3)
      go_wp2
      go_ret
      exact ⟨rfl, unhide HW6⟩
end Go.Proofs.Ytekgcoajgbpniah
