/-
  The library's slices.Repeat of one number.
-/
import Derived.Test.YtekgcoajgbpniacGreatQ4
import Derived.Laws.CopyOwn
import Derived.Laws.BitsAllLaws
import Derived.Deep.RegionHeld3
import Derived.OwnWalk
import Derived.Test.YtekgcoajgbpniacGreatQ25
namespace Go.Proofs.YtekgcoajgbpniacGreat
open Go.RowKit
set_option linter.unusedVariables false
set_option maxRecDepth 100000

theorem mask32 (n : Nat) (hn : n < 4294967296) : bits .and .u64 (n : Int) 4294967295 = (n : Int) := by
  have h := u64_and_nat n 4294967295 (by omega) (by omega)
  have e : n &&& 4294967295 = n := by
    rw [show (4294967295 : Nat) = 2 ^ 32 - 1 by rfl, Nat.and_two_pow_sub_one_eq_mod]
    exact Nat.mod_eq_of_lt hn
  rw [e] at h
  simpa using h
theorem mul64_one (n : Nat) (w : World) (hn : n < 4294967296) : Calls Tryz.prog 77 #[.int .u64 1, .int .u64 (n : Int)] w fun e w' => e = .returned (.tuple #[.int .u64 0, .int .u64 (n : Int)]) ∧ w' = w := by
  have hA : bits .and .u64 1 4294967295 = 1 := by simpa using mask32 1 (by omega)
  have hC : bits .and .u64 0 4294967295 = 0 := by simpa using mask32 0 (by omega)
  have hB := mask32 n hn
  have hD : (n : Int) / 4294967296 = 0 := by omega
  have hW : IntKind.u64.wrap (n : Int) = (n : Int) := by simp [IntKind.wrap, IntKind.signed, IntKind.bits]; omega
  have hW0 : IntKind.u64.wrap 0 = 0 := by decide
  go_enter Tryz.func77, Tryz.ntmps77
  go_wp2
  go_ret2
  exact ⟨rfl, rfl⟩
theorem mul_one (n : Nat) (w : World) (hn : n < 4294967296) : Calls Tryz.prog 56 #[.int .u64 1, .int .u64 (n : Int)] w fun e w' => e = .returned (.tuple #[.int .u64 0, .int .u64 (n : Int)]) ∧ w' = w := by
  go_enter Tryz.func56, Tryz.ntmps56
  go_wp2_with fail
  refine (mul64_one n w hn).mono ?_
  rintro e w' ⟨rfl, rfl⟩
  go_wp2
  go_ret2
  exact ⟨rfl, rfl⟩

/-- c of n numbers are written -/
def rowC (x : Int) (c n : Nat) : List Value := iv (List.replicate c x ++ List.replicate (n - c) 0)
theorem rowC_length (x : Int) (c n : Nat) (h : c ≤ n) : (rowC x c n).length = n := by simp [rowC]; omega
theorem rowC_splice (x : Int) (c d n : Nat) (h : c + d ≤ n) : splice (rowC x c n) c (iv (List.replicate d x)) = rowC x (c + d) n := by
  unfold splice rowC iv
  rw [List.map_append, List.take_left' (by simp), List.length_map, List.length_replicate]
  have e : List.drop (c + d) (List.map (Value.int .i64) (List.replicate c x) ++ List.map (Value.int .i64) (List.replicate (n - c) 0)) = List.map (Value.int .i64) (List.replicate (n - (c + d)) 0) := by
    rw [List.drop_append]
    simp
    omega
  rw [e, ← List.append_assoc, ← List.map_append, ← List.map_append]
  congr 2
  rw [List.replicate_append_replicate]
theorem rowC_cell {w : World} {g n c : Nat} {x : Int} (h : w.heap[g]? = some (.cells (rowC x c n).toArray 3 (0, 0))) (d : Nat) (hd : d ≤ c) : ∀ j v, (iv (List.replicate d x))[j]? = some v → w.cell? ((⟨g, 0, none⟩ : Addr).add j) = some v := by
  intro j v hj
  have e : (⟨g, 0, none⟩ : Addr).add j = ⟨g, j, none⟩ := by unfold Addr.add; split <;> simp_all
  rw [e, cell_of_row w g j _ _ _ h]
  have hj2 : j < d := by
    by_cases c' : j < d
    · exact c'
    · rw [List.getElem?_eq_none (by simp; omega)] at hj; cases hj
  simp [hj2] at hj
  subst hj
  simp [rowC, List.getElem?_append, show j < c by omega]

set_option maxHeartbeats 2000000 in
theorem repeat_one (b o cc : Nat) (x : Int) (n : Nat) (w : World) (hb : b < w.heap.size) (hc : w.cell? ⟨b, o, none⟩ = some (.int .i64 x)) (h1 : 1 ≤ n) (hn : n ≤ 1000) :
    Calls Tryz.prog 43 #[.slice (some ⟨b, o, none⟩) 1 cc, .int .i64 (n : Int)] w fun e w' => e = .returned (.slice (some ⟨w.heap.size, 0, none⟩) n n) ∧ w'.heap[w.heap.size]? = some (.cells (rowC x n n).toArray 3 (0, 0)) ∧ Below w.heap.size w w' := by
  obtain ⟨i0, hi, hz0, hz1, hz2⟩ := info_parts info_int
  have hsz : (Tryz.prog.info? 3).map (·.size) = some 1 := by rw [hi]; simp [hz1]
  have hW : IntKind.u64.wrap (n : Int) = (n : Int) := by simp [IntKind.wrap, IntKind.signed, IntKind.bits]; omega
  have hW1 : IntKind.u64.wrap 1 = 1 := by decide
  go_enter Tryz.func43, Tryz.ntmps43
  go_wp2_with fail
  refine (mul_one n w (by omega)).mono ?_
  rintro e w1 ⟨rfl, rfl⟩
  go_wp2_with (at_make; refine wpList_make_full _ rfl _ _ 23 rfl w1.heap.size 3 i0 (.int .i64 0) 1 Tryz.underlying23 hi hz0 hz1 _ _ _ _ n rfl rfl rfl rfl (by rw [hz2]; omega) (by unfold maxLen; omega) (Nat.le_refl _) ?_)
  intro w2 hO2 hg2
  have hg2' : w2.heap[w1.heap.size]? = some (.cells (rowC x 0 n).toArray 3 (0, 0)) := by
    rcases hO2.2 with ⟨h, _⟩ | ⟨g, cap, cur, h, _, h3, h4, h5, h6, h7⟩
    · cases h
    · simp only [Value.slice.injEq, Option.some.injEq, Addr.mk.injEq] at h
      obtain ⟨⟨rfl, _⟩, _, rfl⟩ := h
      rw [h3]
      congr 2
      have e1 : cur.toList.take (n * 1) = cur.toList := List.take_of_length_le (by simp [h6])
      rw [e1] at h7
      have e2 : cur.toList = rowC x 0 n := by
        rw [h7]
        show (madeCells #[Value.int .i64 0] n).toList = _
        rw [toList_madeCells_one]
        simp [rowC]
      rw [← e2]
  have HG2 := hide hg2'
  have HB2 := hide (below_none (Below.refl w1.heap.size w1) hg2 (Nat.le_refl _))
  have hc2 : w2.cell? ⟨b, o, none⟩ = some (.int .i64 x) := hg2.cell hc (by simp)
  have hz2' := hg2.size
  clear hO2 hg2 hg2' hc
  have hs1 : ∀ j v, (iv (List.replicate 1 x))[j]? = some v → w2.cell? ((⟨b, o, none⟩ : Addr).add j) = some v := by
    intro j v hj
    match j, hj with
    | 0, hj =>
      simp at hj
      subst hj
      simpa [Addr.add] using hc2
  have hs2 : (iv (List.replicate 1 x)).length = Nat.min 1 n := by
    show 1 = min 1 n
    omega
  have hs3 : 0 + (iv (List.replicate 1 x)).length ≤ (rowC x 0 n).length := by
    rw [rowC_length x 0 n (Nat.zero_le _)]
    show 0 + 1 ≤ n
    omega
  have hs4 : ∀ v ∈ iv (List.replicate 1 x), v.oneCell' = true := by intro v hv; simp at hv; subst hv; rfl
  have HS1 := hide hs1
  have HS2 := hide hs2
  have HS3 := hide hs3
  have HS4 := hide hs4
  clear hs1 hs2 hs3 hs4
  go_wp2_with (refine wpList_copy_splice rfl (.tmp 31) (.tmp 32) 23 23 rfl 3 Tryz.underlying23 hsz (some ⟨w1.heap.size, 0, none⟩) (some ⟨b, o, none⟩) n n 1 cc rfl rfl w1.heap.size 0 (rowC x 0 n) 3 (unhide HG2) (iv (List.replicate 1 x)) (unhide HS2) (fun _ => ⟨rfl, _, rfl, unhide HS1⟩) (unhide HS3) (unhide HS4) w1.heap.size w1 (unhide HB2) (Nat.le_refl _) ?_)
  intro w3 hg3 hb3
  have HG3 : Hid (w3.heap[w1.heap.size]? = some (.cells (rowC x 1 n).toArray 3 (0, 0))) := by
    have e := rowC_splice x 0 1 n (by omega)
    rw [Nat.zero_add] at e
    rw [← e]
    exact hg3
  have HB3 := hide hb3
  clear hg3 hb3 hc2
  go_wp2
  go_loopw [8] (fun v8 wr => ∃ c : Nat, 1 ≤ c ∧ c ≤ n ∧ v8 = .int .i64 (c : Int) ∧ wr.heap[w1.heap.size]? = some (.cells (rowC x c n).toArray 3 (0, 0)) ∧ Below w1.heap.size w1 wr) (fun v8 _ => n - (intOf v8).toNat)
  case atStart => exact ⟨1, Nat.le_refl _, h1, rfl, unhide HG3, unhide HB3⟩
  case round =>
    obtain ⟨c, hc1, hcn, rfl, hG, hBr⟩ := hrel
    have HG := hide hG
    have HBr := hide hBr
    clear hG hBr
    by_cases hlt : c < n
    · obtain ⟨d, hd⟩ : ∃ d, d = Nat.min c (n - c) := ⟨_, rfl⟩
      have hd1 : d ≤ c ∧ c + d ≤ n ∧ 1 ≤ d := by
        have hd' : d = min c (n - c) := hd
        omega
      obtain ⟨hd1, hd2, hd3⟩ := hd1
      have hcn2 : ¬ n = c := by omega
      have hn0 : ¬ n = 0 := by omega
      have HD := hide hd
      have ht2 : (iv (List.replicate d x)).length = Nat.min c (n - c) := by simp [hd]
      have ht3 : c + (iv (List.replicate d x)).length ≤ (rowC x c n).length := by rw [rowC_length x c n hcn]; simp; omega
      have ht4 : ∀ v ∈ iv (List.replicate d x), v.oneCell' = true := by intro v hv; simp at hv; obtain ⟨_, rfl⟩ := hv; rfl
      have HT2 := hide ht2
      have HT3 := hide ht3
      have HT4 := hide ht4
      clear hd ht2 ht3 ht4
      go_wp2
      go_region_held3 (fun _ => True) (trivial) (first | (refine step_copy_splice rfl (.tmp 41) (.tmp 44) 23 23 rfl 3 Tryz.underlying23 hsz (some ⟨w1.heap.size, c, none⟩) (some ⟨w1.heap.size, 0, none⟩) (n - c) (n - c) c n (by simp [Act.eval]) (by simp [Act.eval]) w1.heap.size c (rowC x c n) 3 (unhide HG) (iv (List.replicate d x)) (unhide HT2) (fun _ => ⟨rfl, _, rfl, rowC_cell (unhide HG) d hd1⟩) (unhide HT3) (unhide HT4) w1.heap.size w1 (below_drewN (unhide HBr) 1) (Nat.le_refl _) ?_; intro w4 hg4 hb4))
      have HG4 : Hid (w4.heap[w1.heap.size]? = some (.cells (rowC x (c + d) n).toArray 3 (0, 0))) := by
        rw [← rowC_splice x c d n hd2]; exact hg4
      have HB4 := hide hb4
      clear hg4 hb4
      have hwr : IntKind.i64.wrap ((c : Int) + (d : Int)) = ((c + d : Nat) : Int) := by
        simp [IntKind.wrap, IntKind.signed, IntKind.bits]; omega
      go_wp2
      go_roundw
      case rel => exact ⟨c + d, by omega, by omega, by rw [hwr], unhide HG4, unhide HB4⟩
      case measure => rw [hwr]; simp [intOf]; omega
    · obtain rfl : n = c := by omega
      go_wp2
      go_ret
      exact ⟨rfl, unhide HG, unhide HBr⟩
end Go.Proofs.YtekgcoajgbpniacGreat

/-
  What the document's own FixedLengths answers.
-/
namespace Go.Proofs.YtekgcoajgbpniacGreat
open Go.RowKit
set_option linter.unusedVariables false
set_option maxRecDepth 100000

theorem row_repeat {w : World} {g n : Nat} {x : Int} (h : w.heap[g]? = some (.cells (rowC x n n).toArray 3 (0, 0))) : RowIn .i64 w (some ⟨g, 0, none⟩) (List.replicate n x) := by
  refine .inr ⟨g, 0, rfl, (Array.getElem?_eq_some_iff.1 h).1, ?_⟩
  intro j hj
  rw [Nat.zero_add, cell_of_row w g j _ _ _ h]
  have hj' : j < n := by simpa using hj
  simp [rowC, List.getD, hj']
/-- []int{x}, repeated -/
theorem repeat_new (x : Int) (n : Nat) (w : World) (h1 : 1 ≤ n) (hn : n ≤ 1000) :
    Calls Tryz.prog 43 #[.slice (some ⟨w.heap.size, 0, none⟩) 1 1, .int .i64 (n : Int)] (w.alloc (.cells #[.int .i64 x] 3)) fun e w' => e = .returned (.slice (some ⟨w.heap.size + 1, 0, none⟩) n n) ∧ RowIn .i64 w' (some ⟨w.heap.size + 1, 0, none⟩) (List.replicate n x) ∧ Below w.heap.size w w' ∧ w.heap.size + 1 < w'.heap.size := by
  refine (repeat_one w.heap.size 0 1 x n _ (by simp) (by simp) h1 hn).mono ?_
  rintro e w' ⟨rfl, hg, hB⟩
  rw [World.size_alloc] at hg hB
  exact ⟨by rw [World.size_alloc], row_repeat hg, ((Below.refl w.heap.size w).alloc (Nat.le_refl _) _).trans (hB.mono (by omega)), (Array.getElem?_eq_some_iff.1 hg).1⟩

def four (g1 g2 g3 g4 : Nat) : List (Nat × List Int) := [(g1, List.replicate 144 8), (g2, List.replicate 112 9), (g3, List.replicate 24 7), (g4, List.replicate 8 8)]
theorem cat_four (g1 g2 g3 g4 : Nat) : catK (four g1 g2 g3 g4) 4 = fixA := rfl
theorem cat_len (g1 g2 g3 g4 : Nat) : ∀ k, k ≤ 4 → (catK (four g1 g2 g3 g4) k).length ≤ 1000 := by
  intro k hk
  match k, hk with
  | 0, _ => simp [catK]
  | 1, _ => simp [catK, four]
  | 2, _ => simp [catK, four]
  | 3, _ => simp [catK, four]
  | 4, _ => simp [catK, four]

set_option maxHeartbeats 2000000 in
theorem fixed_any (w : World) : Calls Tryz.prog 24 #[] w fun e w' => ∃ g1 c1 g2, e = .returned (.tuple #[.slice (some ⟨g1, 0, none⟩) 288 c1, .slice (some ⟨g2, 0, none⟩) 32 32]) ∧ w.heap.size ≤ g1 ∧ w.heap.size ≤ g2 ∧ RowIn .i64 w' (some ⟨g1, 0, none⟩) fixA ∧ RowIn .i64 w' (some ⟨g2, 0, none⟩) fixB ∧ Below w.heap.size w w' := by
  go_enter Tryz.func24, Tryz.ntmps24
  go_wp2_with fail
  refine (repeat_new 8 144 w (by omega) (by omega)).mono ?_
  rintro e w1 ⟨rfl, hR1, hB1, hs1⟩
  have HR1 := hide hR1
  have HB1 := hide hB1
  have hz1 := hB1.size
  clear hR1 hB1
  go_wp2_with fail
  refine (repeat_new 9 112 w1 (by omega) (by omega)).mono ?_
  rintro e w2 ⟨rfl, hR2, hB2, hs2⟩
  have HRa2 := hide ((unhide HR1).below hB2 (Nat.le_refl _))
  have HRb2 := hide hR2
  have HB2 := hide ((unhide HB1).trans (hB2.mono hz1))
  have hz2 := Nat.le_trans hz1 hB2.size
  have hz12 := hB2.size
  clear hR2 hB2 HR1 HB1
  go_wp2_with fail
  refine (repeat_new 7 24 w2 (by omega) (by omega)).mono ?_
  rintro e w3 ⟨rfl, hR3, hB3, hs3⟩
  have HRa3 := hide ((unhide HRa2).below hB3 (Nat.le_refl _))
  have HRb3 := hide ((unhide HRb2).below hB3 (Nat.le_refl _))
  have HRc3 := hide hR3
  have HB3 := hide ((unhide HB2).trans (hB3.mono hz2))
  have hz3 := Nat.le_trans hz2 hB3.size
  have hz23 := hB3.size
  clear hR3 hB3 HRa2 HRb2 HB2
  go_wp2_with fail
  refine (repeat_new 8 8 w3 (by omega) (by omega)).mono ?_
  rintro e w4 ⟨rfl, hR4, hB4, hs4⟩
  have HRa4 := hide ((unhide HRa3).below hB4 (Nat.le_refl _))
  have HRb4 := hide ((unhide HRb3).below hB4 (Nat.le_refl _))
  have HRc4 := hide ((unhide HRc3).below hB4 (Nat.le_refl _))
  have HRd4 := hide hR4
  have HB4 := hide ((unhide HB3).trans (hB4.mono hz3))
  have hz4 := Nat.le_trans hz3 hB4.size
  clear hR4 hB4 HRa3 HRb3 HRc3 HB3
  generalize hg1 : w.heap.size + 1 = g1 at *
  generalize hg2 : w1.heap.size + 1 = g2 at *
  generalize hg3 : w2.heap.size + 1 = g3 at *
  generalize hg4 : w3.heap.size + 1 = g4 at *
  have HBc := hide ((unhide HB4).alloc hz4 (.cells #[.slice (some ⟨g1, 0, none⟩) 144 144, .slice (some ⟨g2, 0, none⟩) 112 112, .slice (some ⟨g3, 0, none⟩) 24 24, .slice (some ⟨g4, 0, none⟩) 8 8] 23))
  have HC := hide (concat_any w4.heap.size 0 4 4 (four g1 g2 g3 g4) (w4.alloc (.cells #[.slice (some ⟨g1, 0, none⟩) 144 144, .slice (some ⟨g2, 0, none⟩) 112 112, .slice (some ⟨g3, 0, none⟩) 24 24, .slice (some ⟨g4, 0, none⟩) 8 8] 23)) (by simp) (by
    intro j hj
    match j, hj with
    | 0, _ => simp [four]
    | 1, _ => simp [four]
    | 2, _ => simp [four]
    | 3, _ => simp [four]) (by
    intro j hj
    match j, hj with
    | 0, _ => exact (unhide HRa4).alloc _
    | 1, _ => exact (unhide HRb4).alloc _
    | 2, _ => exact (unhide HRc4).alloc _
    | 3, _ => exact (unhide HRd4).alloc _) (cat_len g1 g2 g3 g4) (by rw [cat_four]; simp [fixA]) (by omega))
  rw [cat_four] at HC
  have hlenA : fixA.length = 288 := by simp [fixA]
  rw [hlenA] at HC
  clear hg1 hg2 hg3 hg4
  go_wp2_with fail
  refine (unhide HC).mono ?_
  rintro e w5 ⟨v5, rfl, hO5, hB5⟩
  obtain ⟨g5, c5, rfl, hg5, hg5'⟩ := own_shape hO5 (by omega)
  have HR5 := hide (RowIn.iv hO5)
  have HB5 := hide ((unhide HBc).trans (hB5.mono (by simp; omega)))
  have hz5 := hB5.size
  simp only [World.size_alloc] at hz5 hg5
  clear hO5 hB5 HC HBc HRa4 HRb4 HRc4 HRd4 HB4
  go_wp2_with fail
  refine (repeat_new 5 32 w5 (by omega) (by omega)).mono ?_
  rintro e w6 ⟨rfl, hR6, hB6, hs6⟩
  have HRa6 := hide ((unhide HR5).below hB6 (Nat.le_refl _))
  have HRb6 : Hid (RowIn .i64 w6 (some ⟨w5.heap.size + 1, 0, none⟩) fixB) := hR6
  have HB6 := hide ((unhide HB5).trans (hB6.mono (by omega)))
  clear hR6 hB6 HR5 HB5
  go_wp2
  go_ret2
  exact ⟨g5, c5, w5.heap.size + 1, rfl, by omega, by omega, unhide HRa6, unhide HRb6, unhide HB6⟩
end Go.Proofs.YtekgcoajgbpniacGreat
