/-
  What weigh.Lengths answers.
-/
import Derived.Test.YtoiioemkibfdcacWeighChk
import Derived.Test.YtoiioemkibfdcacWeigh6
import Derived.Test.YtoiioemkibfdcacPWeigh
namespace Go.Proofs.Ytoiioemkibfdcac
open Go.RowKit
set_option linter.unusedVariables false

theorem lengths_err (a : Option Addr) (len cap : Nat) (l : List Int) (most : Int) (w : World) (hl : l.length = len) (hM : len ≤ 9223372036854775807) (hR : RowIn .i64 w a l) (he : errW l most ≠ 0) :
    Calls Try.prog 103 #[.slice a len cap, .int .i64 most] w fun e w' => e = .returned (.tuple #[.slice none 0 0, .int .i64 (errW l most)]) ∧ w' = w := by
  have HC := hide (check_any a len cap l most w hl hM hR)
  have hb : (errW l most != 0) = true := by rw [bne_iff_ne]; exact he
  clear hR he
  generalize errW l most = r at *
  go_enter Try.func103, Try.ntmps103
  go_wp2_with fail
  refine (unhide HC).mono ?_
  rintro e w1 ⟨rfl, rfl⟩
  go_wp2
  go_ret2
  exact ⟨rfl, rfl⟩

theorem grown_of_below {w w' : World} (h : Below w.heap.size w w') (r : Option Nat) : w.grownBy w' r := ⟨h.os, h.tape, h.output, h.size, fun i hi _ => h.block i hi⟩
theorem StSt.grown {w W W' : World} {g m : Nat} {Ws : List Int} {k : Nat} {A B : Nat → Nat} {r : Nat} (h : StSt w W g m Ws k A B) (hg : W.grownBy W' (some r)) (hr : r < w.heap.size) :
    (∀ i, i < k → W'.cell? ⟨g, i * 2, none⟩ = some (.slice (some ⟨A i, 0, none⟩) (rowAt Ws i).length (rowAt Ws i).length) ∧ W'.cell? ⟨g, i * 2 + 1, none⟩ = some (.slice (some ⟨B i, 0, none⟩) (rowAt Ws i).length (rowAt Ws i).length)) ∧ (∀ i, i < k → BRow W' (B i) ((rowAt Ws i).map Prod.snd)) := by
  have hgl := h.glo
  refine ⟨fun i hi => ⟨hg.cell (h.done i hi).1 (by simp; omega), hg.cell (h.done i hi).2 (by simp; omega)⟩, fun i hi => ?_⟩
  obtain ⟨q1, q2, q3⟩ := h.fs i hi
  exact q3.grown hg (by simp; omega)

set_option maxHeartbeats 4000000 in
set_option maxRecDepth 100000 in
theorem lengths_ok (a : Option Addr) (len cap : Nat) (l : List Int) (m : Nat) (w : World) (hl : l.length = len) (hR : RowIn .i64 w a l) (hG : GoodW l m) :
    Calls Try.prog 103 #[.slice a len cap, .int .i64 m] w fun e w' => ∃ g s, e = .returned (.tuple #[.slice (some ⟨g, 0, none⟩) len len, .int .i64 0]) ∧ IsLens l m s ∧ s.length = len ∧ WRow w' g s ∧ Below w.heap.size w w' ∧ w.heap.size ≤ g := by
  obtain ⟨i0, hi, hz0, hz1, hz2⟩ := info_parts info_int
  have hlen := hG.len
  have hm1 := hG.lo
  have hm15 := hG.hi
  have HG := hide hG
  have HR := hide hR
  have HL := hide hl
  have HC0 := check_any a len cap l m w hl (by omega) hR
  rw [good_errW hG] at HC0
  have HC := hide HC0
  clear hR hG HC0
  go_enter Try.func103, Try.ntmps103
  go_wp2_with fail
  refine (unhide HC).mono ?_
  rintro e w1 ⟨rfl, rfl⟩
  clear HC
  go_wp2_with (at_make; refine wpList_make_full _ rfl _ _ 36 rfl w1.heap.size 3 i0 (.int .i64 0) 1 Try.underlying36 hi hz0 hz1 _ _ _ _ len rfl rfl rfl rfl (by rw [hz2]; omega) (by unfold maxLen; omega) (by simp) ?_)
  intro w2 hown hgrow
  have e0 : (madeCells #[Value.int .i64 0] len).toList = iv (List.replicate len 0) := made_iv len
  rw [e0] at hown
  have HW := hide (WRow.own hown)
  have HB := hide ((Below.refl w1.heap.size w1).grown hgrow (Nat.le_refl _) (fun j h => by cases h))
  clear hown hgrow e0
  obtain ⟨g0, hg0⟩ : ∃ g0, w1.heap.size = g0 := ⟨_, rfl⟩
  rw [hg0] at HW
  rw [hg0]
  have HG0 := hide hg0
  have hg2 := (unhide HW).lt
  clear hg0
  go_wp2_with fail
  refine (rising_any a len cap l w2 hl (by omega) ((unhide HR).below (unhide HB) (Nat.le_refl _))).mono ?_
  rintro e w3 ⟨vP, P, rfl, hRi, hB3, hP⟩
  have HRi := hide hRi
  have hPlt := hRi.lt
  have hPlen := hRi.length
  have hwle := wpl_le l l.length
  have HB3 := hide ((unhide HB).trans (hB3.mono (unhide HB).size))
  have HW3 := hide ((unhide HW).below hB3 (unhide HW).lt)
  have hz3 := hB3.size
  have HPlt := hide hPlt
  have HPlen := hide hPlen
  have hP288 : P.length ≤ 288 := by omega
  clear hRi hPlt hB3 HW HB
  rcases hP with ⟨rfl, rfl⟩ | ⟨gP, cP, rfl, hcP, hcm, hgP, hWP⟩
  · -- nothing is wanted
    go_wp2_with fail
    refine (lengthen_any g0 len len (List.replicate len 0) none 0 0 [] w3 (by simp) rfl (by omega) (by omega) (unhide HW3) (.inl rfl) (fun b o h => by cases h) (fun p h => by cases h) (fun j => by by_cases h : j < len <;> simp [List.getD, h])).mono ?_
    rintro e w4 ⟨rfl, hW4, hg4⟩
    have HW4 := hide hW4
    have HB4 : Hid (Below w1.heap.size w1 w4) := (unhide HB3).grown hg4 (unhide HB3).size (fun j h => by cases h; exact Nat.le_of_eq (unhide HG0))
    clear hW4 hg4
    go_wp2
    go_ret2
    exact ⟨g0, _, rfl, ⟨[], unhide HRi, by unfold lensOf; rw [if_pos (by simp), hl]⟩, by rw [bumps_length]; simp, unhide HW4, unhide HB4, Nat.le_of_eq (unhide HG0)⟩
  · have HWP := hide hWP
    have hgPlt := hWP.lt
    clear hWP
    obtain ⟨N, hN⟩ : ∃ N, P.length = N := ⟨_, rfl⟩
    rw [hN] at hcP hP288
    rw [hN]
    have HN := hide hN
    clear hN hPlen
    by_cases h2 : N < 2
    · -- one alone
      have h2I : (N : Int) < 2 := by omega
      have HLn := hide (lengthen_any g0 len len (List.replicate len 0) (some ⟨gP, 0, none⟩) N cP P w3 (by simp) (unhide HN) (by omega) (by omega) (unhide HW3) (unhide HWP).row (fun b o h => by cases h; omega) (fun p hp => by have := unhide HPlt p hp; omega) (fun j => by by_cases h : j < len <;> simp [List.getD, h]))
      go_wp2_with fail
      refine (unhide HLn).mono ?_
      rintro e w4 ⟨rfl, hW4, hg4⟩
      have HW4 := hide hW4
      have HB4 : Hid (Below w1.heap.size w1 w4) := (unhide HB3).grown hg4 (unhide HB3).size (fun j h => by cases h; exact Nat.le_of_eq (unhide HG0))
      clear hW4 hg4
      go_wp2
      go_ret2
      exact ⟨g0, _, rfl, ⟨P, unhide HRi, by unfold lensOf; rw [if_pos (by rw [unhide HN]; exact h2), hl]⟩, by rw [bumps_length]; simp, unhide HW4, unhide HB4, Nat.le_of_eq (unhide HG0)⟩
    · have h2I : ¬ (N : Int) < 2 := by omega
      have HWt := hide (weightsOf_any a len cap l (some ⟨gP, 0, none⟩) N cP P w3 hl (unhide HN) (by omega) (by omega) ((unhide HR).below (unhide HB3) (Nat.le_refl _)) (unhide HWP).row (fun p hp => by have := unhide HPlt p hp; omega))
      go_wp2_with fail
      refine (unhide HWt).mono ?_
      rintro e w4 ⟨gw, rfl, hWw, hB4, hgw⟩
      have HWw := hide hWw
      have hz4 := hB4.size
      have HB4 := hide ((unhide HB3).trans (hB4.mono (unhide HB3).size))
      have HW4 := hide ((unhide HW3).below hB4 (unhide HW3).lt)
      have HWP4 := hide ((unhide HWP).below hB4 (unhide HWP).lt)
      have hWsb : ∀ x ∈ (P.map fun p => l.getD p 0), 0 ≤ x ∧ x ≤ 1000000 := by
        intro x hx
        obtain ⟨p, hp, rfl⟩ := List.mem_map.1 hx
        exact (unhide HG).ok p (unhide HPlt p hp)
      have HWsb := hide hWsb
      have HLO : Hid (lensOf l P m = lensAt len P (P.map fun p => l.getD p 0) m m) := by unfold Hid lensOf; rw [if_neg (by rw [unhide HN]; exact h2), hl]
      have HWl : Hid ((P.map fun p => l.getD p 0).length = N) := by rw [List.length_map]; exact HN
      have HRoom : Hid (N ≤ 2 ^ m) := by have h := (unhide HG).room; rw [← unhide HPlen, unhide HN] at h; exact h
      clear hWw hB4 hWsb HW3 HWP HB3 HWt
      generalize (P.map fun p => l.getD p 0) = Ws at *
      have HSs := hide (stepsOf_any gw N N m Ws w4 (unhide HWl) (by omega) (Nat.le_refl _) (by unfold maxLen; omega) hm15 (unhide HWsb) (unhide HWw))
      go_wp2_with fail
      refine (unhide HSs).mono ?_
      rintro e w5 ⟨gs, A, B, rfl, hSt⟩
      have HSt := hide hSt
      have HW5 := hide ((unhide HW4).below hSt.bel (by omega))
      have HWP5 := hide ((unhide HWP4).below hSt.bel (by omega))
      have HB5 := hide ((unhide HB4).trans (hSt.bel.mono (unhide HB4).size))
      have hz5 := hSt.bel.size
      have E0 : Hid (2 * ((N : Int) - 1) = ((takeAt Ws m 0 : Nat) : Int)) := by unfold Hid; rw [takeAt, unhide HWl]; omega
      clear hSt HW4 HWP4 HB4 HWw HSs
      unfold maxLen at hcm
      go_wp2
      go_loopw [10, 11, 12, 41] (fun vt _ _ vi wr => ∃ i : Nat, i ≤ m ∧ vi = .int .i64 i ∧ vt = .int .i64 ((takeAt Ws m i : Nat) : Int) ∧ w5.grownBy wr (some g0) ∧ WRow wr g0 (lensAt len P Ws m i)) (fun _ _ _ vi _ => m - (intOf vi).toNat)
      case atStart => exact ⟨0, Nat.zero_le _, rfl, congrArg (Value.int .i64) (unhide E0), grown_refl _ _, unhide HW5⟩
      case round =>
        obtain ⟨i, him, rfl, rfl, hgr, hWi⟩ := hrel
        have HGr := hide hgr
        have HWi := hide hWi
        by_cases hlt : i < m
        · obtain ⟨q, hq⟩ : ∃ q, q = m - 1 - i := ⟨_, rfl⟩
          obtain ⟨hcells, hfs⟩ := (unhide HSt).grown hgr (by omega)
          have c0 := (hcells q (by omega)).1
          have c1 := (hcells q (by omega)).2
          have HFq := hide (hfs q (by omega))
          have HWPi := hide ((unhide HWP5).grown hgr (by simp; omega))
          have hW1 : 1 ≤ Ws.length := by rw [unhide HWl]; omega
          have hTL := takeAt_le Ws m hW1 hm1 (by rw [unhide HWl]; exact unhide HRoom) i hlt
          have hAT := aloneAt_take Ws m i
          have hAN := aloneAt_le Ws m i
          rw [unhide HWl] at hAN
          have hEA : aloneB ((rowAt Ws q).map Prod.snd) (takeAt Ws m i) = aloneAt Ws m i := by
            unfold aloneAt
            rw [← hq]
            rw [← hq] at hTL
            exact (alone_aloneB _ _ hTL).symm
          have HEA := hide hEA
          rw [← hq] at hTL
          have hrl := rowAt_length Ws q
          rw [unhide HWl] at hrl
          have HT : Hid (takeAt Ws m (i + 1) = 2 * (takeAt Ws m i - aloneAt Ws m i)) := rfl
          have HLs : Hid (lensAt len P Ws m (i + 1) = bumps (lensAt len P Ws m i) (P.take (aloneAt Ws m i))) := rfl
          have HBd := hide (lensAt_bound len P Ws m (by rw [unhide HN]; omega) i)
          have HLl := hide (lensAt_length len P Ws m i)
          have HFl : Hid (((rowAt Ws q).map Prod.snd).length = (rowAt Ws q).length) := by unfold Hid; simp
          have ea : ((m : Int) - 1 - (i : Int)).toNat = q := by omega
          have pa : (0 : Int) ≤ (m : Int) - 1 - (i : Int) := by omega
          have ba : (m : Int) - 1 - (i : Int) < (m : Int) := by omega
          clear hgr hWi hcells hfs hEA hq
          generalize takeAt Ws m i = T at *
          generalize aloneAt Ws m i = al at *
          generalize (rowAt Ws q).length = Lq at *
          generalize (rowAt Ws q).map Prod.snd = fs at *
          generalize lensAt len P Ws m i = li at *
          generalize A q = Aq at *
          generalize B q = Bq at *
          have HAl := hide (aloneAmong_any (.slice (some ⟨Aq, 0, none⟩) Lq Lq) rfl Bq Lq Lq T fs wr (unhide HFl) hTL (by omega) (unhide HFq))
          go_wp2_with fail
          refine (unhide HAl).mono ?_
          rintro e w6 ⟨rfl, hB6⟩
          rw [unhide HEA]
          have HGr6 := hide (grown_trans (unhide HGr) (grown_of_below hB6 (some g0)))
          have HWi6 := hide ((unhide HWi).below hB6 (unhide HWi).lt)
          have HWP6 := hide ((unhide HWPi).below hB6 (unhide HWPi).lt)
          have hpt : RowIn .i64 w6 (some ⟨gP, 0, none⟩) (ni (P.take al)) := .inr ⟨gP, 0, rfl, (unhide HWP6).lt, fun j hj => by
            have hj' : j < al ∧ j < P.length := by simp at hj; omega
            rw [Nat.zero_add, ((unhide HWP6).at_ j (by simpa using hj'.2)).1]
            simp [List.getD, hj'.1, hj'.2]⟩
          have HLn := hide (lengthen_any g0 len len li (some ⟨gP, 0, none⟩) al cP (P.take al) w6 (unhide HLl) (by rw [List.length_take, unhide HN]; omega) (by omega) (by omega) (unhide HWi6) hpt (fun b o h => by cases h; omega) (fun p hp => by have := unhide HPlt p (List.mem_of_mem_take hp); omega) (fun j => by have := unhide HBd j; omega))
          have hal : (al : Int) ≤ (cP : Int) := by omega
          have halN : al ≤ N := hAN
          clear hB6 hpt HAl c0 c1 ea pa ba
          go_wp2_with fail
          refine (unhide HLn).mono ?_
          rintro e w7 ⟨rfl, hW7, hg7⟩
          have HW7 := hide hW7
          have HG7 := hide (grown_trans (unhide HGr6) hg7)
          clear hW7 hg7 HLn
          go_wp2
          go_roundw
          case rel => exact ⟨i + 1, by omega, by go_num, by rw [unhide HT]; go_num, unhide HG7, by rw [unhide HLs]; exact unhide HW7⟩
          case measure => simp [intOf]; omega
        · obtain rfl : i = m := by omega
          have HBf : Hid (Below w1.heap.size w1 wr) := (unhide HB5).grown hgr (unhide HB5).size (fun j h => by cases h; exact Nat.le_of_eq (unhide HG0))
          clear hgr hWi
          go_wp2
          go_ret2
          exact ⟨g0, _, rfl, ⟨P, unhide HRi, (unhide HLO).symm⟩, lensAt_length _ _ _ _ _, unhide HWi, unhide HBf, Nat.le_of_eq (unhide HG0)⟩
end Go.Proofs.Ytoiioemkibfdcac
