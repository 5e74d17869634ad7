/-
  What weigh.stepsOf answers.
-/
import Derived.Test.YtfoaaamcpknjnacQ12
import Derived.Test.YtfoaaamcpknjnacQ13
import Derived.Test.YtfoaaamcpknjnacQ22
import Derived.Laws.CopyRow
namespace Go.Proofs.Ytfoaaamcpknjnac
open Go.RowKit
set_option linter.unusedVariables false

theorem info_step3 : (Try.prog.info? 201).map (fun i => (i.zero, i.size, i.bytes)) = some (some (.agg #[.slice none 0 0, .slice none 0 0]), 2, 48) := by kernel_rfl

/-- what the steps are made of at the first -/
theorem StSt.made {w W : World} {m : Nat} (Ws : List Int) (A B : Nat → Nat) (hO : W.ownsRow w.heap.size 201 2 (.slice (some ⟨w.heap.size, 0, none⟩) m m) m (madeCells #[.slice none 0 0, .slice none 0 0] (m * 2)).toList) (hg : w.grownBy W none) : StSt w W w.heap.size m Ws 0 A B := by
  have hc : ∀ j, j < m * 2 → W.cell? ⟨w.heap.size, j, none⟩ = some (.slice none 0 0) := by
    intro j hj
    rw [hO.cellAt j hj]
    have h2 : j % 2 = 0 ∨ j % 2 = 1 := by omega
    rcases h2 with h2 | h2 <;> simp [madeCells, hj, h2]
  refine ⟨Nat.le_refl _, (hO.lt _ rfl).2, fun j => hO.frozenAt j, fun i hi => by omega, fun i _ hi => ⟨hc _ (by omega), hc _ (by omega)⟩, fun i hi => by omega, fun i hi => by omega, (Below.refl w.heap.size w).grown hg (Nat.le_refl _) (fun j h => by cases h)⟩

set_option maxHeartbeats 2000000 in
set_option maxRecDepth 100000 in
theorem stepsOf_any (gw n c m : Nat) (Ws : List Int) (w : World) (hl : Ws.length = n) (hn : n ≤ 288) (hc : n ≤ c) (hcm : c ≤ maxLen) (hm : m ≤ 15) (hb : ∀ x ∈ Ws, 0 ≤ x ∧ x ≤ 1000000) (hW : WRow w gw Ws) :
    Calls Try.prog 129 #[.slice (some ⟨gw, 0, none⟩) n c, .int .i64 m] w fun e w' => ∃ g A B, e = .returned (.slice (some ⟨g, 0, none⟩) m m) ∧ StSt w w' g m Ws m A B := by
  obtain ⟨i0, hi, hz0, hz1, hz2⟩ := info_parts info_step3
  have HW := hide hW
  have HBd := hide hb
  have hgw := hW.lt
  clear hW hb
  go_enter Try.func129, Try.ntmps129
  go_wp2_with (at_make; refine wpList_make_full _ rfl _ _ 196 rfl w.heap.size 201 i0 (.agg #[.slice none 0 0, .slice none 0 0]) 2 Try.underlying196 hi hz0 hz1 _ _ _ _ m rfl rfl rfl rfl (by rw [hz2]; omega) (by unfold maxLen; omega) (by simp) ?_)
  intro w1 hown hgrow
  have H0 := hide (StSt.made Ws (fun _ => 0) (fun _ => 0) hown hgrow)
  clear hown hgrow
  generalize hgg : w.heap.size = g at *
  have HGG := hide hgg
  clear hgg
  go_wp2
  go_loopw [6, 7, 11] (fun va _ i wr => ∃ (k : Nat) (A B : Nat → Nat), k ≤ m ∧ i = .int .i64 k ∧ StSt w wr g m Ws k A B ∧ ((k = 0 ∧ va = .slice none 0 0) ∨ (0 < k ∧ va = .slice (some ⟨A (k - 1), 0, none⟩) (rowAt Ws (k - 1)).length (rowAt Ws (k - 1)).length))) (fun _ _ i _ => m - (intOf i).toNat)
  case atStart => exact ⟨0, _, _, Nat.zero_le _, rfl, unhide H0, .inl ⟨rfl, rfl⟩⟩
  case round =>
    obtain ⟨k, A, B, hk, rfl, hS, hva⟩ := hrel
    have HS := hide hS
    by_cases hlt : k < m
    · -- the row ahead
      obtain ⟨a0, N0, ys, hv, hlen, hN0, hRy, hby, hrow⟩ : ∃ (a0 : Option Addr) (N0 : Nat) (ys : List Int), u6 = .slice a0 N0 N0 ∧ ys.length = N0 ∧ N0 ≤ 576 ∧ RowIn .i64 wr a0 ys ∧ (∀ j, 0 ≤ ys.getD j 0 ∧ ys.getD j 0 ≤ 1000000000000) ∧ rowAt Ws k = mrg Ws (prs ys) := by
        rcases hva with ⟨h1, h2⟩ | ⟨h1, h2⟩
        · exact ⟨none, 0, [], h2, rfl, by omega, .inl rfl, fun j => by simp, by rw [h1, rowAt]; rfl⟩
        · refine ⟨some ⟨A (k - 1), 0, none⟩, (rowAt Ws (k - 1)).length, (rowAt Ws (k - 1)).map Prod.fst, h2, by simp, ?_, (hS.ws (k - 1) (by omega)).2.2.row, rowAt_small Ws (unhide HBd) (k - 1) (by omega), ?_⟩
          · have := rowAt_length Ws (k - 1); omega
          · obtain ⟨q, rfl⟩ : ∃ q, k = q + 1 := ⟨k - 1, by omega⟩
            rw [Nat.add_sub_cancel, rowAt]
      subst hv
      have HRy := hide hRy
      have HBy := hide hby
      have HRow := hide hrow
      have HLen := hide hlen
      have hz : w.heap.size ≤ wr.heap.size := hS.bel.size
      have HWr : Hid (WRow wr gw Ws) := (unhide HW).below hS.bel (unhide HW).lt
      clear hva hRy hby hrow hS H0
      go_wp2_with fail
      refine (pairs_any a0 N0 N0 ys wr hlen (by omega) (unhide HRy) (unhide HBy)).mono ?_
      rintro e w2 ⟨gp, rfl, hWp, hBp, hgp⟩
      have HS2 := hide ((unhide HS).below hBp)
      have HWw := hide ((unhide HWr).below hBp (unhide HWr).lt)
      have HWp := hide hWp
      have hz2' := hBp.size
      have hle : (prs ys).length = N0 / 2 := by rw [prs_length, hlen]
      have HLe := hide hle
      have hN1 : N0 / 2 ≤ 288 := by omega
      clear hWp hBp
      go_wp2_with fail
      refine (merge_any gw 0 gp 0 n c (N0 / 2) (N0 / 2) Ws (prs ys) w2 hl (unhide HLe) (by omega) (by omega) hc (Nat.le_refl _) hcm (by unfold maxLen; omega) (unhide HWw).lt (unhide HWp).lt (fun j hj => by rw [Nat.zero_add]; exact ((unhide HWw).at_ j hj).1) (fun j hj => by rw [Nat.zero_add]; exact ((unhide HWp).at_ j hj).1)).mono ?_
      rintro e w3 ⟨g1, g2, rfl, hW3, hF3, hB3, hg1, hg2⟩
      have hS3 := (unhide HS2).below hB3
      rw [← unhide HRow] at hW3 hF3
      have hLL : n + N0 / 2 = (rowAt Ws k).length := by rw [unhide HRow, mrg_length, hl, unhide HLe]
      have hgl := (unhide HS2).ghi
      have hglo := (unhide HS2).glo
      have hN := hide (hS3.next hlt g1 g2 ⟨by omega, by omega⟩ ⟨by omega, by omega⟩ hW3 hF3 (n + N0 / 2) hLL)
      have c0 := (hS3.todo k (Nat.le_refl _) hlt).1
      have c1 := (hS3.todo k (Nat.le_refl _) hlt).2
      have f0 := hS3.fz (k * 2)
      have f1 := hS3.fz (k * 2 + 1)
      have q0 := ((unhide hN).done k (by omega)).1
      simp only [if_true] at q0
      rw [← hLL] at q0
      have HLL := hide hLL
      have hkm : (k : Int) < (m : Int) := by omega
      clear hW3 hF3 hB3 hS3 hLL HS HS2
      generalize hLg : n + N0 / 2 = L at *
      clear hLg
      go_wp2
      go_roundw
      case rel =>
        refine ⟨k + 1, _, _, by omega, by go_num, unhide hN, .inr ⟨by omega, ?_⟩⟩
        simp only [Nat.add_sub_cancel, if_true]
        rw [unhide HLL]
      case measure => simp [intOf]; omega
    · obtain rfl : k = m := by omega
      clear hS hva
      go_wp2
      go_ret
      exact ⟨g, A, B, rfl, unhide HS⟩
end Go.Proofs.Ytfoaaamcpknjnac

/-
  What weigh.Lengths answers.
-/
namespace Go.Proofs.Ytfoaaamcpknjnac
open Go.RowKit
set_option linter.unusedVariables false

theorem lengths_err (a : Option Addr) (len cap : Nat) (l : List Int) (most : Int) (w : World) (hl : l.length = len) (hM : len ≤ 9223372036854775807) (hR : RowIn .i64 w a l) (he : errW l most ≠ 0) :
    Calls Try.prog 103 #[.slice a len cap, .int .i64 most] w fun e w' => e = .returned (.tuple #[.slice none 0 0, .int .i64 (errW l most)]) ∧ w' = w := by
  have HC := hide (check_any a len cap l most w hl hM hR)
  have hb : (errW l most != 0) = true := by rw [bne_iff_ne]; exact he
  clear hR he
  generalize errW l most = r at *
  go_enter Try.func103, Try.ntmps103
  go_wp2_with fail
  refine (unhide HC).mono ?_
  rintro e w1 ⟨rfl, rfl⟩
  go_wp2
  go_ret2
  exact ⟨rfl, rfl⟩

theorem grown_of_below {w w' : World} (h : Below w.heap.size w w') (r : Option Nat) : w.grownBy w' r := ⟨h.os, h.tape, h.output, h.size, fun i hi _ => h.block i hi⟩
theorem StSt.grown {w W W' : World} {g m : Nat} {Ws : List Int} {k : Nat} {A B : Nat → Nat} {r : Nat} (h : StSt w W g m Ws k A B) (hg : W.grownBy W' (some r)) (hr : r < w.heap.size) :
    (∀ i, i < k → W'.cell? ⟨g, i * 2, none⟩ = some (.slice (some ⟨A i, 0, none⟩) (rowAt Ws i).length (rowAt Ws i).length) ∧ W'.cell? ⟨g, i * 2 + 1, none⟩ = some (.slice (some ⟨B i, 0, none⟩) (rowAt Ws i).length (rowAt Ws i).length)) ∧ (∀ i, i < k → BRow W' (B i) ((rowAt Ws i).map Prod.snd)) := by
  have hgl := h.glo
  refine ⟨fun i hi => ⟨hg.cell (h.done i hi).1 (by simp; omega), hg.cell (h.done i hi).2 (by simp; omega)⟩, fun i hi => ?_⟩
  obtain ⟨q1, q2, q3⟩ := h.fs i hi
  exact q3.grown hg (by simp; omega)

set_option maxHeartbeats 4000000 in
set_option maxRecDepth 100000 in
theorem lengths_ok (a : Option Addr) (len cap : Nat) (l : List Int) (m : Nat) (w : World) (hl : l.length = len) (hR : RowIn .i64 w a l) (hG : GoodW l m) :
    Calls Try.prog 103 #[.slice a len cap, .int .i64 m] w fun e w' => ∃ g s, e = .returned (.tuple #[.slice (some ⟨g, 0, none⟩) len len, .int .i64 0]) ∧ IsLens l m s ∧ s.length = len ∧ WRow w' g s ∧ Below w.heap.size w w' ∧ w.heap.size ≤ g := by
  obtain ⟨i0, hi, hz0, hz1, hz2⟩ := info_parts info_int
  have hlen := hG.len
  have hm1 := hG.lo
  have hm15 := hG.hi
  have HG := hide hG
  have HR := hide hR
  have HL := hide hl
  have HC0 := check_any a len cap l m w hl (by omega) hR
  rw [good_errW hG] at HC0
  have HC := hide HC0
  clear hR hG HC0
  go_enter Try.func103, Try.ntmps103
  go_wp2_with fail
  refine (unhide HC).mono ?_
  rintro e w1 ⟨rfl, rfl⟩
  clear HC
  go_wp2_with (at_make; refine wpList_make_full _ rfl _ _ 36 rfl w1.heap.size 3 i0 (.int .i64 0) 1 Try.underlying36 hi hz0 hz1 _ _ _ _ len rfl rfl rfl rfl (by rw [hz2]; omega) (by unfold maxLen; omega) (by simp) ?_)
  intro w2 hown hgrow
  have e0 : (madeCells #[Value.int .i64 0] len).toList = iv (List.replicate len 0) := made_iv len
  rw [e0] at hown
  have HW := hide (WRow.own hown)
  have HB := hide ((Below.refl w1.heap.size w1).grown hgrow (Nat.le_refl _) (fun j h => by cases h))
  clear hown hgrow e0
  obtain ⟨g0, hg0⟩ : ∃ g0, w1.heap.size = g0 := ⟨_, rfl⟩
  rw [hg0] at HW
  rw [hg0]
  have HG0 := hide hg0
  have hg2 := (unhide HW).lt
  clear hg0
  go_wp2_with fail
  refine (rising_any a len cap l w2 hl (by omega) ((unhide HR).below (unhide HB) (Nat.le_refl _))).mono ?_
  rintro e w3 ⟨vP, P, rfl, hRi, hB3, hP⟩
  have HRi := hide hRi
  have hPlt := hRi.lt
  have hPlen := hRi.length
  have hwle := wpl_le l l.length
  have HB3 := hide ((unhide HB).trans (hB3.mono (unhide HB).size))
  have HW3 := hide ((unhide HW).below hB3 (unhide HW).lt)
  have hz3 := hB3.size
  have HPlt := hide hPlt
  have HPlen := hide hPlen
  have hP288 : P.length ≤ 288 := by omega
  clear hRi hPlt hB3 HW HB
  rcases hP with ⟨rfl, rfl⟩ | ⟨gP, cP, rfl, hcP, hcm, hgP, hWP⟩
  · -- nothing is wanted
    go_wp2_with fail
    refine (lengthen_any g0 len len (List.replicate len 0) none 0 0 [] w3 (by simp) rfl (by omega) (by omega) (unhide HW3) (.inl rfl) (fun b o h => by cases h) (fun p h => by cases h) (fun j => by by_cases h : j < len <;> simp [List.getD, h])).mono ?_
    rintro e w4 ⟨rfl, hW4, hg4⟩
    have HW4 := hide hW4
    have HB4 : Hid (Below w1.heap.size w1 w4) := (unhide HB3).grown hg4 (unhide HB3).size (fun j h => by cases h; exact Nat.le_of_eq (unhide HG0))
    clear hW4 hg4
    go_wp2
    go_ret2
    exact ⟨g0, _, rfl, ⟨[], unhide HRi, by unfold lensOf; rw [if_pos (by simp), hl]⟩, by rw [bumps_length]; simp, unhide HW4, unhide HB4, Nat.le_of_eq (unhide HG0)⟩
  · have HWP := hide hWP
    have hgPlt := hWP.lt
    clear hWP
    obtain ⟨N, hN⟩ : ∃ N, P.length = N := ⟨_, rfl⟩
    rw [hN] at hcP hP288
    rw [hN]
    have HN := hide hN
    clear hN hPlen
    by_cases h2 : N < 2
    · -- one alone
      have h2I : (N : Int) < 2 := by omega
      have HLn := hide (lengthen_any g0 len len (List.replicate len 0) (some ⟨gP, 0, none⟩) N cP P w3 (by simp) (unhide HN) (by omega) (by omega) (unhide HW3) (unhide HWP).row (fun b o h => by cases h; omega) (fun p hp => by have := unhide HPlt p hp; omega) (fun j => by by_cases h : j < len <;> simp [List.getD, h]))
      go_wp2_with fail
      refine (unhide HLn).mono ?_
      rintro e w4 ⟨rfl, hW4, hg4⟩
      have HW4 := hide hW4
      have HB4 : Hid (Below w1.heap.size w1 w4) := (unhide HB3).grown hg4 (unhide HB3).size (fun j h => by cases h; exact Nat.le_of_eq (unhide HG0))
      clear hW4 hg4
      go_wp2
      go_ret2
      exact ⟨g0, _, rfl, ⟨P, unhide HRi, by unfold lensOf; rw [if_pos (by rw [unhide HN]; exact h2), hl]⟩, by rw [bumps_length]; simp, unhide HW4, unhide HB4, Nat.le_of_eq (unhide HG0)⟩
    · have h2I : ¬ (N : Int) < 2 := by omega
      have HWt := hide (weightsOf_any a len cap l (some ⟨gP, 0, none⟩) N cP P w3 hl (unhide HN) (by omega) (by omega) ((unhide HR).below (unhide HB3) (Nat.le_refl _)) (unhide HWP).row (fun p hp => by have := unhide HPlt p hp; omega))
      go_wp2_with fail
      refine (unhide HWt).mono ?_
      rintro e w4 ⟨gw, rfl, hWw, hB4, hgw⟩
      have HWw := hide hWw
      have hz4 := hB4.size
      have HB4 := hide ((unhide HB3).trans (hB4.mono (unhide HB3).size))
      have HW4 := hide ((unhide HW3).below hB4 (unhide HW3).lt)
      have HWP4 := hide ((unhide HWP).below hB4 (unhide HWP).lt)
      have hWsb : ∀ x ∈ (P.map fun p => l.getD p 0), 0 ≤ x ∧ x ≤ 1000000 := by
        intro x hx
        obtain ⟨p, hp, rfl⟩ := List.mem_map.1 hx
        exact (unhide HG).ok p (unhide HPlt p hp)
      have HWsb := hide hWsb
      have HLO : Hid (lensOf l P m = lensAt len P (P.map fun p => l.getD p 0) m m) := by unfold Hid lensOf; rw [if_neg (by rw [unhide HN]; exact h2), hl]
      have HWl : Hid ((P.map fun p => l.getD p 0).length = N) := by rw [List.length_map]; exact HN
      have HRoom : Hid (N ≤ 2 ^ m) := by have h := (unhide HG).room; rw [← unhide HPlen, unhide HN] at h; exact h
      clear hWw hB4 hWsb HW3 HWP HB3 HWt
      generalize (P.map fun p => l.getD p 0) = Ws at *
      have HSs := hide (stepsOf_any gw N N m Ws w4 (unhide HWl) (by omega) (Nat.le_refl _) (by unfold maxLen; omega) hm15 (unhide HWsb) (unhide HWw))
      go_wp2_with fail
      refine (unhide HSs).mono ?_
      rintro e w5 ⟨gs, A, B, rfl, hSt⟩
      have HSt := hide hSt
      have HW5 := hide ((unhide HW4).below hSt.bel (by omega))
      have HWP5 := hide ((unhide HWP4).below hSt.bel (by omega))
      have HB5 := hide ((unhide HB4).trans (hSt.bel.mono (unhide HB4).size))
      have hz5 := hSt.bel.size
      have E0 : Hid (2 * ((N : Int) - 1) = ((takeAt Ws m 0 : Nat) : Int)) := by unfold Hid; rw [takeAt, unhide HWl]; omega
      clear hSt HW4 HWP4 HB4 HWw HSs
      unfold maxLen at hcm
      go_wp2
      go_loopw [10, 11, 12, 41] (fun vt _ _ vi wr => ∃ i : Nat, i ≤ m ∧ vi = .int .i64 i ∧ vt = .int .i64 ((takeAt Ws m i : Nat) : Int) ∧ w5.grownBy wr (some g0) ∧ WRow wr g0 (lensAt len P Ws m i)) (fun _ _ _ vi _ => m - (intOf vi).toNat)
      case atStart => exact ⟨0, Nat.zero_le _, rfl, congrArg (Value.int .i64) (unhide E0), grown_refl _ _, unhide HW5⟩
      case round =>
        obtain ⟨i, him, rfl, rfl, hgr, hWi⟩ := hrel
        have HGr := hide hgr
        have HWi := hide hWi
        by_cases hlt : i < m
        · obtain ⟨q, hq⟩ : ∃ q, q = m - 1 - i := ⟨_, rfl⟩
          obtain ⟨hcells, hfs⟩ := (unhide HSt).grown hgr (by omega)
          have c0 := (hcells q (by omega)).1
          have c1 := (hcells q (by omega)).2
          have HFq := hide (hfs q (by omega))
          have HWPi := hide ((unhide HWP5).grown hgr (by simp; omega))
          have hW1 : 1 ≤ Ws.length := by rw [unhide HWl]; omega
          have hTL := takeAt_le Ws m hW1 hm1 (by rw [unhide HWl]; exact unhide HRoom) i hlt
          have hAT := aloneAt_take Ws m i
          have hAN := aloneAt_le Ws m i
          rw [unhide HWl] at hAN
          have hEA : aloneB ((rowAt Ws q).map Prod.snd) (takeAt Ws m i) = aloneAt Ws m i := by
            unfold aloneAt
            rw [← hq]
            rw [← hq] at hTL
            exact (alone_aloneB _ _ hTL).symm
          have HEA := hide hEA
          rw [← hq] at hTL
          have hrl := rowAt_length Ws q
          rw [unhide HWl] at hrl
          have HT : Hid (takeAt Ws m (i + 1) = 2 * (takeAt Ws m i - aloneAt Ws m i)) := rfl
          have HLs : Hid (lensAt len P Ws m (i + 1) = bumps (lensAt len P Ws m i) (P.take (aloneAt Ws m i))) := rfl
          have HBd := hide (lensAt_bound len P Ws m (by rw [unhide HN]; omega) i)
          have HLl := hide (lensAt_length len P Ws m i)
          have HFl : Hid (((rowAt Ws q).map Prod.snd).length = (rowAt Ws q).length) := by unfold Hid; simp
          have ea : ((m : Int) - 1 - (i : Int)).toNat = q := by omega
          have pa : (0 : Int) ≤ (m : Int) - 1 - (i : Int) := by omega
          have ba : (m : Int) - 1 - (i : Int) < (m : Int) := by omega
          clear hgr hWi hcells hfs hEA hq
          generalize takeAt Ws m i = T at *
          generalize aloneAt Ws m i = al at *
          generalize (rowAt Ws q).length = Lq at *
          generalize (rowAt Ws q).map Prod.snd = fs at *
          generalize lensAt len P Ws m i = li at *
          generalize A q = Aq at *
          generalize B q = Bq at *
          have HAl := hide (aloneAmong_any (.slice (some ⟨Aq, 0, none⟩) Lq Lq) rfl Bq Lq Lq T fs wr (unhide HFl) hTL (by omega) (unhide HFq))
          go_wp2_with fail
          refine (unhide HAl).mono ?_
          rintro e w6 ⟨rfl, hB6⟩
          rw [unhide HEA]
          have HGr6 := hide (grown_trans (unhide HGr) (grown_of_below hB6 (some g0)))
          have HWi6 := hide ((unhide HWi).below hB6 (unhide HWi).lt)
          have HWP6 := hide ((unhide HWPi).below hB6 (unhide HWPi).lt)
          have hpt : RowIn .i64 w6 (some ⟨gP, 0, none⟩) (ni (P.take al)) := .inr ⟨gP, 0, rfl, (unhide HWP6).lt, fun j hj => by
            have hj' : j < al ∧ j < P.length := by simp at hj; omega
            rw [Nat.zero_add, ((unhide HWP6).at_ j (by simpa using hj'.2)).1]
            simp [List.getD, hj'.1, hj'.2]⟩
          have HLn := hide (lengthen_any g0 len len li (some ⟨gP, 0, none⟩) al cP (P.take al) w6 (unhide HLl) (by rw [List.length_take, unhide HN]; omega) (by omega) (by omega) (unhide HWi6) hpt (fun b o h => by cases h; omega) (fun p hp => by have := unhide HPlt p (List.mem_of_mem_take hp); omega) (fun j => by have := unhide HBd j; omega))
          have hal : (al : Int) ≤ (cP : Int) := by omega
          have halN : al ≤ N := hAN
          clear hB6 hpt HAl c0 c1 ea pa ba
          go_wp2_with fail
          refine (unhide HLn).mono ?_
          rintro e w7 ⟨rfl, hW7, hg7⟩
          have HW7 := hide hW7
          have HG7 := hide (grown_trans (unhide HGr6) hg7)
          clear hW7 hg7 HLn
          go_wp2
          go_roundw
          case rel => exact ⟨i + 1, by omega, by go_num, by rw [unhide HT]; go_num, unhide HG7, by rw [unhide HLs]; exact unhide HW7⟩
          case measure => simp [intOf]; omega
        · obtain rfl : i = m := by omega
          have HBf : Hid (Below w1.heap.size w1 wr) := (unhide HB5).grown hgr (unhide HB5).size (fun j h => by cases h; exact Nat.le_of_eq (unhide HG0))
          clear hgr hWi
          go_wp2
          go_ret2
          exact ⟨g0, _, rfl, ⟨P, unhide HRi, (unhide HLO).symm⟩, lensAt_length _ _ _ _ _, unhide HWi, unhide HBf, Nat.le_of_eq (unhide HG0)⟩
end Go.Proofs.Ytfoaaamcpknjnac

/-
  count; lengthsOf.
-/
namespace Go.Proofs.Ytfoaaamcpknjnac
open Go.RowKit
set_option linter.unusedVariables false
set_option maxRecDepth 100000

theorem info286 : (Try.prog.info? 131).map (·.size) = some 286 := by kernel_rfl
theorem info30 : (Try.prog.info? 132).map (·.size) = some 30 := by kernel_rfl
set_option maxHeartbeats 2000000 in
theorem count_tok (a : Option Addr) (len cap : Nat) (ts : List Tk) (w : World) (hl : ts.length = len) (hlen : len ≤ 3000) (hV : ∀ t ∈ ts, VT t) (hT : TokIn w a ts) :
    Calls Try.prog 77 #[.slice a len cap] w fun e w' => e = .returned (.tuple #[.agg (iv (symC (itsOf ts))).toArray, .agg (iv (farC (itsOf ts))).toArray]) ∧ Below w.heap.size w w' := by
  have hTn : ∀ b o, a = some ⟨b, o, none⟩ → ts ≠ [] → b < w.heap.size := by
    intro b o e hne
    rcases hT with h | ⟨b', o', h1, h2, _⟩
    · exact absurd h hne
    · rw [h1] at e; have := Option.some.inj e; cases this; exact h2
  have HT := hide hT
  have HV := hide hV
  have HL := hide hl
  clear hT hV hl
  go_enter Try.func77, Try.ntmps77
  go_wp2_with fail
  have hi := itsOf_len ts
  refine (pass_any (KJ w.heap.size w.heap.size (w.heap.size + 1)) (fun g => g < w.heap.size) w.heap.size 100 101 102 #[.pointer (some ⟨w.heap.size, 0, none⟩)] #[.pointer (some ⟨w.heap.size + 1, 0, none⟩)] #[] a len cap ts _ (count_snk w.heap.size w.heap.size (w.heap.size + 1) (itsOf ts) (itsOf_vi (unhide HV)) (by rw [unhide HL] at hi; omega)) (unhide HL) hlen (unhide HV) ((unhide HT).alloc _ |>.alloc _) hTn (by simp; omega) ?_ (fun g hg => by simp at hg; omega)).mono ?_
  · refine ⟨⟨by omega, by omega⟩, by omega, ⟨by omega, by omega⟩, ?_, ?_⟩
    · exact (Below.heap_alloc _ _ _ (by simp)).trans ((heap_alloc_new _ _).trans (by kernel_rfl))
    · have e : w.heap.size + 1 = (w.alloc (.cells (iv (List.replicate 286 0)).toArray 131)).heap.size := by simp
      rw [e]
      exact (heap_alloc_new _ _).trans (by kernel_rfl)
  rintro e w1 ⟨rfl, hJ, hB, hK⟩
  have hs := hJ.s
  have hf := hJ.f
  have hBw : Below w.heap.size w w1 := ((((Below.refl w.heap.size w).alloc (Nat.le_refl _) _).alloc (by simp) _)).trans hB
  have HB := hide hBw
  have hls := symC_len (itsOf ts)
  have hlf := farC_len (itsOf ts)
  clear hJ hB hK hTn hBw hi
  obtain ⟨xs, hxs⟩ : ∃ xs, symC (itsOf ts) = xs := ⟨_, rfl⟩
  obtain ⟨ys, hys⟩ : ∃ ys, farC (itsOf ts) = ys := ⟨_, rfl⟩
  rw [hxs] at hs hls
  rw [hys] at hf hlf
  have HXS := hide hxs
  have HYS := hide hys
  clear hxs hys
  have hi1 : (Try.prog.info? 131).map (·.size) = some (iv xs).length := by rw [info286]; simp [hls]
  have hi2 : (Try.prog.info? 132).map (·.size) = some (iv ys).length := by rw [info30]; simp [hlf]
  have hi1' : (Try.prog.info? 131).map (·.size) = some (iv xs).toArray.size := by rw [info286]; simp [hls]
  have hi2' : (Try.prog.info? 132).map (·.size) = some (iv ys).toArray.size := by rw [info30]; simp [hlf]
  have hu1 := Try.underlying131
  have hu2 := Try.underlying132
  go_wp2
  refine wp_region_held_drew (S := fun w' => ARow 131 w' w.heap.size xs ∧ ARow 132 w' (w.heap.size + 1) ys) (by kernel_rfl) ⟨hs, hf⟩ (fun hHeld => ?_)
  refine wpAnyH_take (i := 0) (oi := { dst := some 9, op := .load 131 (.tmp 2), type := 131, pos := "dynamic.go:71", after := #[], guard := none }) (v := _) rfl (by kernel_rfl) (by kernel_rfl) (by kernel_rfl) (fun _ _ _ h => h) (yieldsIf_load_mid (by rfl) _ _ rfl _ _ rfl _ _ (fun _ h => h.1.range) hu1 rfl hi1) hHeld ?_
  simp only [Act.put, List.setIfInBounds_toArray, List.set_cons_zero, List.set_cons_succ]
  refine wpAnyH_take (i := 1) (oi := { dst := some 10, op := .load 132 (.tmp 3), type := 132, pos := "dynamic.go:71", after := #[], guard := none }) (v := _) rfl (by kernel_rfl) (by kernel_rfl) (by kernel_rfl) (fun _ _ _ h => h) (yieldsIf_load_mid (by rfl) _ _ rfl _ _ rfl _ _ (fun _ h => h.2.range) hu2 rfl hi2) hHeld ?_
  simp only [Act.put, List.setIfInBounds_toArray, List.set_cons_zero, List.set_cons_succ]
  refine wpAnyH_ready (rs := [2]) (by kernel_rfl) (by simp) (AllReadyH.cons rfl (fun K hK => ?_) AllReadyH.nil)
  refine step_store_same rfl 131 (.tmp 2) (.tmp 9) rfl w.heap.size xs rfl rfl hHeld.1 hi1' ?_
  simp only [Act.put]
  refine hK.out _ _ hHeld (fun hHeld1 => ?_)
  clear hK K hHeld
  refine wpAnyH_ready (rs := [3]) (by kernel_rfl) (by simp) (AllReadyH.cons rfl (fun K hK => ?_) AllReadyH.nil)
  refine step_store_same rfl 132 (.tmp 3) (.tmp 10) rfl (w.heap.size + 1) ys rfl rfl hHeld1.2 hi2' ?_
  simp only [Act.put]
  refine hK.out _ _ hHeld1 (fun hHeld2 => ?_)
  clear hK K hHeld1
  refine wpAnyH_done (by kernel_rfl) ?_ _
  go_wp2
  refine bodyPost_ret (v := .tuple #[.agg (iv xs).toArray, .agg (iv ys).toArray]) ?_ rfl ⟨by rw [unhide HXS, unhide HYS], (unhide HB).drew⟩
  exact results_cells rfl _ _ w.heap.size (w.heap.size + 1) _ _ rfl rfl (hHeld2.1.load hu1 rfl hi1') (hHeld2.2.load hu2 rfl hi2')

set_option maxHeartbeats 1000000 in
theorem lengthsOf_any (a : Option Addr) (len cap : Nat) (l : List Int) (m least : Nat) (w : World) (hl : l.length = len) (hR : RowIn .i64 w a l) (hG : GoodW l m) (hle : least ≤ len) (n : Nat) (hn : Hid (trimF (lensD l m) least len = n)) :
    Calls Try.prog 78 #[.slice a len cap, .int .i64 (m : Int), .int .i64 (least : Int)] w fun e w' => ∃ g, e = .returned (.slice (some ⟨g, 0, none⟩) n len) ∧ IsLens l m (lensD l m) ∧ w.heap.size ≤ g ∧ g < w'.heap.size ∧ Row .i64 w' g 0 (trimL (lensD l m) least) ∧ Below w.heap.size w w' := by
  have hlen := hG.len
  go_enter Try.func78, Try.ntmps78
  go_wp2_with fail
  refine (lengths_ok a len cap l m w hl hR hG).mono ?_
  rintro e w1 ⟨g, s, rfl, hI, hs, hW, hB, hg⟩
  have hD := lensD_eq hI
  rw [hD] at hn
  have HI : Hid (IsLens l m (lensD l m)) := hide (by rw [hD]; exact hI)
  have HD := hide hD
  have HW := hide hW
  have HB := hide hB
  have HS := hide hs
  have hrow : ∀ j, j < len → w1.cell? ⟨g, j, none⟩ = some (.int .i64 (s.getD j 0)) := fun j hj => (hW.at_ j (by omega)).1
  have HRW := hide hrow
  have hgl := hW.lt
  have HTR : Hid (Row .i64 w1 g 0 (trimL (lensD l m) least)) := fun j hj => by
    rw [Nat.zero_add, hD, trimL_at]
    refine hrow j ?_
    rw [hD, trimL_length] at hj
    have := trimF_le s least s.length
    omega
  clear hI hD hW hB hs hR hG hrow
  go_wp2
  go_loop [9] (fun v => ∃ k : Nat, k ≤ len ∧ least ≤ k ∧ v = .int .i64 (k : Int) ∧ Hid (trimF s least k = n)) (fun v => (intOf v).toNat)
  case atStart => exact ⟨len, Nat.le_refl _, hle, rfl, hn⟩
  case round =>
    obtain ⟨k, hk, hk2, rfl, ht⟩ := hrel
    by_cases h1 : least < k
    · obtain ⟨q, rfl⟩ : ∃ q, k = q + 1 := ⟨k - 1, by omega⟩
      have c := unhide HRW q (by omega)
      have h1I : (least : Int) < ((q + 1 : Nat) : Int) := by omega
      have i1 : (((q + 1 : Nat) : Int) - 1).toNat = q := by omega
      have i2 : (0 : Int) ≤ ((q + 1 : Nat) : Int) - 1 := by omega
      have i3 : ((q + 1 : Nat) : Int) - 1 < (len : Int) := by omega
      by_cases h0 : s.getD q 0 = 0
      · rw [h0] at c
        have HT : Hid (trimF s least q = n) := hide (by have := unhide ht; rw [trimF, if_pos ⟨h1, h0⟩] at this; exact this)
        clear h0 ht
        go_wp2
        go_round
        case rel => exact ⟨q, by omega, by omega, by go_num, HT⟩
        case measure => simp [intOf]
      · have HT : Hid (q + 1 = n) := hide (by have := unhide ht; rw [trimF, if_neg (fun h => h0 h.2)] at this; exact this)
        have hb : (s.getD q 0 == 0) = false := by rw [beq_eq_false_iff_ne]; exact h0
        generalize s.getD q 0 = x at c hb
        clear h0 ht
        go_wp2
        go_ret
        exact ⟨g, by rw [← unhide HT]; rfl, unhide HI, hg, hgl, unhide HTR, unhide HB⟩
    · have HT : Hid (k = n) := hide (by
        have := unhide ht
        cases k with
        | zero => rw [trimF] at this; exact this
        | succ k => rw [trimF, if_neg (fun h => h1 h.1)] at this; exact this)
      have h1I : ¬ (least : Int) < (k : Int) := by omega
      clear ht
      go_wp2
      go_ret
      exact ⟨g, by rw [← unhide HT]; rfl, unhide HI, hg, hgl, unhide HTR, unhide HB⟩
end Go.Proofs.Ytfoaaamcpknjnac
