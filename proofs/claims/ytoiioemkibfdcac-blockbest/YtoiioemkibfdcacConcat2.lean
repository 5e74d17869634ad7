/-
  The library's slices.Concat of rows of numbers; the document's own FixedLengths.
-/
import Derived.Test.YtoiioemkibfdcacConcat1
import Derived.Test.YtoiioemkibfdcacPBase
namespace Go.Proofs.Ytoiioemkibfdcac
open Go.RowKit
set_option linter.unusedVariables false
set_option maxRecDepth 100000

/-- the numbers of the first k rows -/
def catK (ps : List (Nat × List Int)) : Nat → List Int
  | 0 => []
  | k + 1 => catK ps k ++ (ps.getD k (0, [])).2
theorem row_cells {w : World} {g : Nat} {xs : List Int} (h : RowIn .i64 w (some ⟨g, 0, none⟩) xs) : ∀ j u, (iv xs)[j]? = some u → w.cell? ((⟨g, 0, none⟩ : Addr).add j) = some u := by
  intro j u hj
  have e : (⟨g, 0, none⟩ : Addr).add j = ⟨g, j, none⟩ := by unfold Addr.add; split <;> simp_all
  rcases h with rfl | ⟨b, o, e1, _, h⟩
  · simp at hj
  · cases e1
    have hj2 : j < xs.length := by
      by_cases c : j < xs.length
      · exact c
      · rw [List.getElem?_eq_none (by simp; omega)] at hj; cases hj
    have := h j hj2
    rw [e]
    simp [hj2] at hj
    subst hj
    simpa [List.getD, hj2] using this
theorem iv_one' (xs : List Int) : ∀ u ∈ iv xs, u.oneCell' = true := by intro u hu; obtain ⟨x, _, rfl⟩ := List.mem_map.1 hu; rfl

set_option maxHeartbeats 2000000 in
theorem concat_cap (b o len cap : Nat) (cp : Nat → Nat) (ps : List (Nat × List Int)) (w : World) (hb : b < w.heap.size) (hc : ∀ j, j < len → w.cell? ⟨b, o + j, none⟩ = some (.slice (some ⟨(ps.getD j (0, [])).1, 0, none⟩) (ps.getD j (0, [])).2.length (cp j))) (hr : ∀ j, j < len → RowIn .i64 w (some ⟨(ps.getD j (0, [])).1, 0, none⟩) (ps.getD j (0, [])).2)
    (hsum : ∀ k, k ≤ len → (catK ps k).length ≤ 1000) (hpos : 0 < (catK ps len).length) (hlen : len ≤ 100) :
    Calls Try.prog 69 #[.slice (some ⟨b, o, none⟩) len cap] w fun e w' => ∃ v, e = .returned v ∧ w'.ownsRow w.heap.size 3 1 v (catK ps len).length (iv (catK ps len)) ∧ Below w.heap.size w w' := by
  obtain ⟨i0, hi, hz0, hz1, hz2⟩ := info_parts info_int
  have HC := hide hc
  have HR := hide hr
  have HS := hide hsum
  obtain ⟨T, hT⟩ : ∃ T, (catK ps len).length = T := ⟨_, rfl⟩
  have hT1 : 0 < T ∧ T ≤ 1000 := by have := hsum len (Nat.le_refl _); omega
  obtain ⟨hT0, hT1⟩ := hT1
  have HTT := hide hT
  clear hc hr hsum hpos hT
  go_enter Try.func69, Try.ntmps69
  go_wp2
  go_loop [3, 11] (fun v3 v11 => ∃ k : Nat, k ≤ len ∧ v11 = .int .i64 (k : Int) ∧ v3 = .int .i64 ((catK ps k).length : Int)) (fun _ v11 => len - (intOf v11).toNat)
  case atStart => exact ⟨0, Nat.zero_le _, rfl, rfl⟩
  case round =>
    obtain ⟨k, hk, rfl, rfl⟩ := hrel
    by_cases hlt : k < len
    · have c1 := unhide HC k hlt
      have hs := unhide HS (k + 1) (by omega)
      have HN : Hid ((catK ps (k + 1)).length = (catK ps k).length + (ps.getD k (0, [])).2.length) := hide (by rw [catK, List.length_append])
      rw [unhide HN] at hs
      generalize (ps.getD k (0, [])).2.length = m at *
      generalize cp k = mc at *
      generalize (ps.getD k (0, [])).1 = g at *
      generalize (catK ps k).length = L at *
      go_wp2
      go_round
      case rel => exact ⟨k + 1, by omega, by go_num, by rw [unhide HN]; go_num⟩
      case measure => simp [intOf]; omega
    · obtain rfl : len = k := by omega
      rw [unhide HTT]
      go_wp2_with fail
      refine (grow_nil T w hT0 (by omega)).mono ?_
      rintro e w2 ⟨c, rfl, hO2, hB2⟩
      have HO2 := hide hO2
      have HB2 := hide hB2
      clear hO2 hB2
      go_wp2
      go_loopw [6, 27] (fun v6 v27 wr => ∃ k : Nat, k ≤ len ∧ v27 = .int .i64 (k : Int) ∧ wr.ownsRow w.heap.size 3 1 v6 (catK ps k).length (iv (catK ps k)) ∧ Below w.heap.size w wr) (fun _ v27 _ => len - (intOf v27).toNat)
      case atStart => exact ⟨0, Nat.zero_le _, rfl, unhide HO2, unhide HB2⟩
      case round =>
        obtain ⟨k, hk2, rfl, hO, hBr⟩ := hrel
        have HO := hide hO
        have HBr := hide hBr
        have hzr := hBr.size
        by_cases hlt2 : k < len
        · have c1 := (hBr.cell (p := ⟨b, o + k, none⟩) hb).trans (unhide HC k hlt2)
          have hrow := (unhide HR k hlt2).below hBr (Nat.le_refl _)
          have HRC := hide (row_cells hrow)
          have hs := unhide HS (k + 1) (by omega)
          have HN : Hid (catK ps (k + 1) = catK ps k ++ (ps.getD k (0, [])).2) := hide rfl
          rw [unhide HN, List.length_append] at hs
          generalize (ps.getD k (0, [])).2 = xs at *
          generalize (ps.getD k (0, [])).1 = g at *
          generalize cp k = mc at *
          obtain ⟨m, hm⟩ : ∃ m, xs.length = m := ⟨_, rfl⟩
          obtain ⟨L, hL⟩ : ∃ L, (catK ps k).length = L := ⟨_, rfl⟩
          rw [hm] at c1 hs
          rw [hL] at hs HO
          have HM := hide hm
          have HLL := hide hL
          clear hO hBr hrow hm hL
          go_wp2_with (at_builtin; refine wpList_append_own_at _ rfl _ _ 36 rfl w.heap.size 3 i0 (.int .i64 0) 1 8 Try.underlying36 hi hz0 hz1 hz2 rfl (by decide) u6 L (iv (catK ps k)) rfl (unhide HO) ⟨g, 0, none⟩ m mc (iv xs) rfl (by rw [List.length_map, unhide HM, Nat.mul_one]) (unhide HRC) (iv_one' xs) (by unfold maxLen; omega) (by omega) (by omega) ?_)
          intro v' w4 hO4 hgrow _ hspot
          have HO4 : Hid (w4.ownsRow w.heap.size 3 1 v' (catK ps (k + 1)).length (iv (catK ps (k + 1)))) := by
            rw [unhide HN, List.length_append, unhide HLL, unhide HM]
            show w4.ownsRow w.heap.size 3 1 v' (L + m) (List.map (Value.int .i64) (catK ps k ++ xs))
            rw [List.map_append]
            exact hO4
          have HB4 := hide ((unhide HBr).grown hgrow (by omega) (fun g e => ((unhide HO).lt g e).1))
          clear hO4 hgrow hspot c1 HRC
          go_wp2
          go_roundw
          case rel => exact ⟨k + 1, by omega, by go_num, unhide HO4, unhide HB4⟩
          case measure => simp [intOf]; omega
        · obtain rfl : len = k := by omega
          clear hO hBr
          go_wp2
          go_ret
          exact ⟨u6, rfl, unhide HO, unhide HBr⟩
theorem concat_any (b o len cap : Nat) (ps : List (Nat × List Int)) (w : World) (hb : b < w.heap.size) (hc : ∀ j, j < len → w.cell? ⟨b, o + j, none⟩ = some (.slice (some ⟨(ps.getD j (0, [])).1, 0, none⟩) (ps.getD j (0, [])).2.length (ps.getD j (0, [])).2.length)) (hr : ∀ j, j < len → RowIn .i64 w (some ⟨(ps.getD j (0, [])).1, 0, none⟩) (ps.getD j (0, [])).2)
    (hsum : ∀ k, k ≤ len → (catK ps k).length ≤ 1000) (hpos : 0 < (catK ps len).length) (hlen : len ≤ 100) :
    Calls Try.prog 69 #[.slice (some ⟨b, o, none⟩) len cap] w fun e w' => ∃ v, e = .returned v ∧ w'.ownsRow w.heap.size 3 1 v (catK ps len).length (iv (catK ps len)) ∧ Below w.heap.size w w' := concat_cap b o len cap (fun j => (ps.getD j (0, [])).2.length) ps w hb hc hr hsum hpos hlen
end Go.Proofs.Ytoiioemkibfdcac
