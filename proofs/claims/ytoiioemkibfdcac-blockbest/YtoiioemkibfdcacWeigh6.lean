/-
  What weigh.stepsOf answers.
-/
import Derived.Test.YtoiioemkibfdcacWeigh5
namespace Go.Proofs.Ytoiioemkibfdcac
open Go.RowKit
set_option linter.unusedVariables false

theorem info_step3 : (Try.prog.info? 201).map (fun i => (i.zero, i.size, i.bytes)) = some (some (.agg #[.slice none 0 0, .slice none 0 0]), 2, 48) := by kernel_rfl

/-- what the steps are made of at the first -/
theorem StSt.made {w W : World} {m : Nat} (Ws : List Int) (A B : Nat → Nat) (hO : W.ownsRow w.heap.size 201 2 (.slice (some ⟨w.heap.size, 0, none⟩) m m) m (madeCells #[.slice none 0 0, .slice none 0 0] (m * 2)).toList) (hg : w.grownBy W none) : StSt w W w.heap.size m Ws 0 A B := by
  have hc : ∀ j, j < m * 2 → W.cell? ⟨w.heap.size, j, none⟩ = some (.slice none 0 0) := by
    intro j hj
    rw [hO.cellAt j hj]
    have h2 : j % 2 = 0 ∨ j % 2 = 1 := by omega
    rcases h2 with h2 | h2 <;> simp [madeCells, hj, h2]
  refine ⟨Nat.le_refl _, (hO.lt _ rfl).2, fun j => hO.frozenAt j, fun i hi => by omega, fun i _ hi => ⟨hc _ (by omega), hc _ (by omega)⟩, fun i hi => by omega, fun i hi => by omega, (Below.refl w.heap.size w).grown hg (Nat.le_refl _) (fun j h => by cases h)⟩

set_option maxHeartbeats 2000000 in
set_option maxRecDepth 100000 in
theorem stepsOf_any (gw n c m : Nat) (Ws : List Int) (w : World) (hl : Ws.length = n) (hn : n ≤ 288) (hc : n ≤ c) (hcm : c ≤ maxLen) (hm : m ≤ 15) (hb : ∀ x ∈ Ws, 0 ≤ x ∧ x ≤ 1000000) (hW : WRow w gw Ws) :
    Calls Try.prog 129 #[.slice (some ⟨gw, 0, none⟩) n c, .int .i64 m] w fun e w' => ∃ g A B, e = .returned (.slice (some ⟨g, 0, none⟩) m m) ∧ StSt w w' g m Ws m A B := by
  obtain ⟨i0, hi, hz0, hz1, hz2⟩ := info_parts info_step3
  have HW := hide hW
  have HBd := hide hb
  have hgw := hW.lt
  clear hW hb
  go_enter Try.func129, Try.ntmps129
  go_wp2_with (at_make; refine wpList_make_full _ rfl _ _ 196 rfl w.heap.size 201 i0 (.agg #[.slice none 0 0, .slice none 0 0]) 2 Try.underlying196 hi hz0 hz1 _ _ _ _ m rfl rfl rfl rfl (by rw [hz2]; omega) (by unfold maxLen; omega) (by simp) ?_)
  intro w1 hown hgrow
  have H0 := hide (StSt.made Ws (fun _ => 0) (fun _ => 0) hown hgrow)
  clear hown hgrow
  generalize hgg : w.heap.size = g at *
  have HGG := hide hgg
  clear hgg
  go_wp2
  go_loopw [6, 7, 11] (fun va _ i wr => ∃ (k : Nat) (A B : Nat → Nat), k ≤ m ∧ i = .int .i64 k ∧ StSt w wr g m Ws k A B ∧ ((k = 0 ∧ va = .slice none 0 0) ∨ (0 < k ∧ va = .slice (some ⟨A (k - 1), 0, none⟩) (rowAt Ws (k - 1)).length (rowAt Ws (k - 1)).length))) (fun _ _ i _ => m - (intOf i).toNat)
  case atStart => exact ⟨0, _, _, Nat.zero_le _, rfl, unhide H0, .inl ⟨rfl, rfl⟩⟩
  case round =>
    obtain ⟨k, A, B, hk, rfl, hS, hva⟩ := hrel
    have HS := hide hS
    by_cases hlt : k < m
    · -- the row ahead
      obtain ⟨a0, N0, ys, hv, hlen, hN0, hRy, hby, hrow⟩ : ∃ (a0 : Option Addr) (N0 : Nat) (ys : List Int), u6 = .slice a0 N0 N0 ∧ ys.length = N0 ∧ N0 ≤ 576 ∧ RowIn .i64 wr a0 ys ∧ (∀ j, 0 ≤ ys.getD j 0 ∧ ys.getD j 0 ≤ 1000000000000) ∧ rowAt Ws k = mrg Ws (prs ys) := by
        rcases hva with ⟨h1, h2⟩ | ⟨h1, h2⟩
        · exact ⟨none, 0, [], h2, rfl, by omega, .inl rfl, fun j => by simp, by rw [h1, rowAt]; rfl⟩
        · refine ⟨some ⟨A (k - 1), 0, none⟩, (rowAt Ws (k - 1)).length, (rowAt Ws (k - 1)).map Prod.fst, h2, by simp, ?_, (hS.ws (k - 1) (by omega)).2.2.row, rowAt_small Ws (unhide HBd) (k - 1) (by omega), ?_⟩
          · have := rowAt_length Ws (k - 1); omega
          · obtain ⟨q, rfl⟩ : ∃ q, k = q + 1 := ⟨k - 1, by omega⟩
            rw [Nat.add_sub_cancel, rowAt]
      subst hv
      have HRy := hide hRy
      have HBy := hide hby
      have HRow := hide hrow
      have HLen := hide hlen
      have hz : w.heap.size ≤ wr.heap.size := hS.bel.size
      have HWr : Hid (WRow wr gw Ws) := (unhide HW).below hS.bel (unhide HW).lt
      clear hva hRy hby hrow hS H0
      go_wp2_with fail
      refine (pairs_any a0 N0 N0 ys wr hlen (by omega) (unhide HRy) (unhide HBy)).mono ?_
      rintro e w2 ⟨gp, rfl, hWp, hBp, hgp⟩
      have HS2 := hide ((unhide HS).below hBp)
      have HWw := hide ((unhide HWr).below hBp (unhide HWr).lt)
      have HWp := hide hWp
      have hz2' := hBp.size
      have hle : (prs ys).length = N0 / 2 := by rw [prs_length, hlen]
      have HLe := hide hle
      have hN1 : N0 / 2 ≤ 288 := by omega
      clear hWp hBp
      go_wp2_with fail
      refine (merge_any gw 0 gp 0 n c (N0 / 2) (N0 / 2) Ws (prs ys) w2 hl (unhide HLe) (by omega) (by omega) hc (Nat.le_refl _) hcm (by unfold maxLen; omega) (unhide HWw).lt (unhide HWp).lt (fun j hj => by rw [Nat.zero_add]; exact ((unhide HWw).at_ j hj).1) (fun j hj => by rw [Nat.zero_add]; exact ((unhide HWp).at_ j hj).1)).mono ?_
      rintro e w3 ⟨g1, g2, rfl, hW3, hF3, hB3, hg1, hg2⟩
      have hS3 := (unhide HS2).below hB3
      rw [← unhide HRow] at hW3 hF3
      have hLL : n + N0 / 2 = (rowAt Ws k).length := by rw [unhide HRow, mrg_length, hl, unhide HLe]
      have hgl := (unhide HS2).ghi
      have hglo := (unhide HS2).glo
      have hN := hide (hS3.next hlt g1 g2 ⟨by omega, by omega⟩ ⟨by omega, by omega⟩ hW3 hF3 (n + N0 / 2) hLL)
      have c0 := (hS3.todo k (Nat.le_refl _) hlt).1
      have c1 := (hS3.todo k (Nat.le_refl _) hlt).2
      have f0 := hS3.fz (k * 2)
      have f1 := hS3.fz (k * 2 + 1)
      have q0 := ((unhide hN).done k (by omega)).1
      simp only [if_true] at q0
      rw [← hLL] at q0
      have HLL := hide hLL
      have hkm : (k : Int) < (m : Int) := by omega
      clear hW3 hF3 hB3 hS3 hLL HS HS2
      generalize hLg : n + N0 / 2 = L at *
      clear hLg
      go_wp2
      go_roundw
      case rel =>
        refine ⟨k + 1, _, _, by omega, by go_num, unhide hN, .inr ⟨by omega, ?_⟩⟩
        simp only [Nat.add_sub_cancel, if_true]
        rw [unhide HLL]
      case measure => simp [intOf]; omega
    · obtain rfl : k = m := by omega
      clear hS hva
      go_wp2
      go_ret
      exact ⟨g, A, B, rfl, unhide HS⟩
end Go.Proofs.Ytoiioemkibfdcac
