/-
  The law SumBurst.
-/
import Derived.Test.YtekgcoajgbpniadSum3
import Derived.OwnWalk
import Derived.Maps.AppendAt
namespace Go.Proofs.Ytekgcoajgbpniad
open Go.RowKit
set_option linter.unusedVariables false
set_option maxRecDepth 100000

theorem at2_burst (x : Int) (n : Nat) (w : World) (h0 : 0 < n) (hn : n ≤ 100000) : Calls Try.prog 13 #[.int .i64 x, .int .i64 (n : Int)] w fun e w' => ∃ t : Nat, e = .returned (.int .i64 t) ∧ t < n ∧ w' = w := by
  have hp : (0 : Int) < (n : Int) := by omega
  have h1 : -(n : Int) < x.tmod n := by have := Int.lt_tmod_of_pos x hp; omega
  have h2 : x.tmod n < n := Int.tmod_lt_of_pos x hp
  have hz : ((n : Int) == 0) = false := by rw [beq_eq_false_iff_ne]; omega
  go_enter Try.func13, Try.ntmps13
  by_cases hn : x.tmod n < 0
  · go_wp2
    go_ret
    refine ⟨(x.tmod n + n).toNat, ?_, by omega, rfl⟩
    have : ((x.tmod n + n).toNat : Int) = x.tmod n + n := by omega
    rw [this]
    rfl
  · go_wp2
    go_ret
    refine ⟨(x.tmod n).toNat, ?_, by omega, rfl⟩
    have : ((x.tmod n).toNat : Int) = x.tmod n := by omega
    rw [this]
    rfl

theorem sumBurst_many (a : Option Addr) (n cap : Nat) (at' t : Int) (w : World) (hn : 12000 < n) :
    Calls Try.prog 5 #[.slice a n cap, .int .i64 at', .int .u32 t] w fun e w' => e = .returned (.bool true) ∧ Below w.heap.size w w' := by
  go_enter Try.func5, Try.ntmps5
  go_wp2_with fail
  refine (crc_many 0 a n cap w hn).mono ?_
  rintro e w1 ⟨rfl, rfl⟩
  go_wp2_with fail
  refine (summed_any w1).mono ?_
  rintro e w2 ⟨rfl, hB⟩
  have HB := hide hB
  clear hB
  go_wp2_with fail
  refine (summed_any w2).mono ?_
  rintro e w3 ⟨rfl, hB2⟩
  have HB2 := hide ((unhide HB).trans (hB2.mono (unhide HB).size))
  clear hB2
  go_wp2
  go_ret
  exact ⟨rfl, unhide HB2⟩
theorem sumBurst_none (a : Option Addr) (n cap : Nat) (at' : Int) (t : Nat) (bs : List Nat) (w : World) (hl : bs.length = n) (hn : n ≤ 12000) (hby : BytesIn w a bs) (hv : ∀ j, bs.getD j 0 < 256) (h : n < 5 ∨ t = 0) :
    Calls Try.prog 5 #[.slice a n cap, .int .i64 at', .int .u32 (t : Int)] w fun e w' => e = .returned (.bool true) ∧ Below w.heap.size w w' := by
  have HC := hide (crc_ok 0 a n cap bs w hl hn (by decide) hby hv)
  clear hby hv hl
  by_cases h5 : n < 5
  · have h5' : (n : Int) < 5 := by omega
    go_enter Try.func5, Try.ntmps5
    go_wp2_with fail
    refine (unhide HC).mono ?_
    rintro e w1 ⟨rfl, hB1⟩
    have HB1 := hide hB1
    clear hB1
    go_wp2_with fail
    refine (summed_any w1).mono ?_
    rintro e w2 ⟨rfl, hB⟩
    have HB := hide ((unhide HB1).trans (hB.mono (unhide HB1).size))
    clear hB
    go_wp2_with fail
    refine (summed_any w2).mono ?_
    rintro e w3 ⟨rfl, hB2⟩
    have HB2 := hide ((unhide HB).trans (hB2.mono (unhide HB).size))
    clear hB2
    go_wp2
    go_ret
    exact ⟨rfl, unhide HB2⟩
  · have h5' : ¬ (n : Int) < 5 := by omega
    obtain rfl : t = 0 := by omega
    go_enter Try.func5, Try.ntmps5
    go_wp2_with fail
    refine (unhide HC).mono ?_
    rintro e w1 ⟨rfl, hB1⟩
    have HB1 := hide hB1
    clear hB1
    go_wp2_with fail
    refine (summed_any w1).mono ?_
    rintro e w2 ⟨rfl, hB⟩
    have HB := hide ((unhide HB1).trans (hB.mono (unhide HB1).size))
    clear hB
    go_wp2_with fail
    refine (summed_any w2).mono ?_
    rintro e w3 ⟨rfl, hB2⟩
    have HB2 := hide ((unhide HB).trans (hB2.mono (unhide HB).size))
    clear hB2
    go_wp2
    go_ret
    exact ⟨rfl, unhide HB2⟩

theorem bytes_cells' {w : World} {b o : Nat} {xs : List Nat} (h : Bytes w b o xs) : ∀ j u, (u8s xs)[j]? = some u → w.cell? ((⟨b, o, none⟩ : Addr).add j) = some u := by
  intro j u hj
  have e : (⟨b, o, none⟩ : Addr).add j = ⟨b, o + j, none⟩ := by unfold Addr.add; split <;> simp_all
  have hj2 : j < xs.length := by
    by_cases c : j < xs.length
    · exact c
    · rw [List.getElem?_eq_none (by simp [u8s]; omega)] at hj; cases hj
  have := h j hj2
  rw [e, this]
  simp [u8s, hj2] at hj
  subst hj
  simp [List.getD, hj2]
theorem u8s_one' (xs : List Nat) : ∀ u ∈ u8s xs, u.oneCell' = true := by intro u hu; obtain ⟨x, _, rfl⟩ := List.mem_map.1 hu; rfl
theorem mem_lt2 {l : List Nat} (h : ∀ j, l.getD j 0 < 256) : ∀ y ∈ l, y < 256 := by
  intro y hy
  obtain ⟨i, hi, rfl⟩ := List.getElem_of_mem hy
  have := h i
  rw [List.getD, List.getElem?_eq_getElem hi] at this
  exact this
theorem xor_bit {x j : Nat} (hx : x < 256) (hj : j < 8) : bits .xor .u8 (x : Int) ((2 : Int) ^ j % 256) = ((x ^^^ 2 ^ j : Nat) : Int) := by
  have h : 2 ^ j < 2 ^ 8 := Nat.pow_lt_pow_right (by decide) hj
  rw [show (2 : Nat) ^ 8 = 256 from rfl] at h
  have e : (2 : Int) ^ j % 256 = ((2 ^ j : Nat) : Int) := by
    rw [show (2 : Int) ^ j = ((2 ^ j : Nat) : Int) by push_cast; rfl]
    generalize 2 ^ j = q at *
    omega
  rw [e]
  exact u8_xor_nat x _ hx h
/-- the row so far: as many bytes; the first k bits of t are turned, from the place p on -/
structure Bst (bs : List Nat) (t p k : Nat) (X : List Nat) : Prop where
  len : X.length = bs.length
  small : ∀ j, X.getD j 0 < 256
  val : valB X = valB bs ^^^ t % 2 ^ k * 2 ^ p

set_option maxHeartbeats 2000000 in
theorem sumBurst_some (b0 o0 : Nat) (n cap : Nat) (at' : Int) (t : Nat) (bs : List Nat) (w : World) (hl : bs.length = n) (hn : n ≤ 12000) (hb0 : b0 < w.heap.size) (hby : Bytes w b0 o0 bs) (hv : ∀ j, bs.getD j 0 < 256) (h5 : 5 ≤ n) (ht0 : t ≠ 0) (ht : t < 4294967296) :
    Calls Try.prog 5 #[.slice (some ⟨b0, o0, none⟩) n cap, .int .i64 at', .int .u32 (t : Int)] w fun e w' => e = .returned (.bool true) ∧ Below w.heap.size w w' := by
  obtain ⟨i0, hi, hz0, hz1, hz2⟩ := info_parts info_u8
  have h5' : ¬ (n : Int) < 5 := by omega
  have htz : ((t : Int) == 0) = false := by rw [beq_eq_false_iff_ne]; omega
  have HC := hide (crc_ok 0 _ n cap bs w hl hn (by decide) (.inr ⟨b0, o0, rfl, hb0, hby⟩) hv)
  have HBY := hide hby
  have HV := hide hv
  have HL := hide hl
  clear hby hv hl
  go_enter Try.func5, Try.ntmps5
  go_wp2_with fail
  refine (unhide HC).mono ?_
  rintro e w1 ⟨rfl, hB1⟩
  have HB1 := hide hB1
  clear hB1
  go_wp2_with fail
  refine (summed_any w1).mono ?_
  rintro e w2 ⟨rfl, hB⟩
  have HB2 := hide ((unhide HB1).trans (hB.mono (unhide HB1).size))
  clear hB
  have e31 : 8 * (n : Int) - 31 = ((8 * n - 31 : Nat) : Int) := by omega
  go_wp2_with fail
  refine (at2_burst at' (8 * n - 31) w2 (by omega) (by omega)).mono ?_
  rintro e w3 ⟨p, rfl, hp, rfl⟩
  have hsz := (unhide HB2).size
  have HO0 : Hid ((w3.alloc (.cells #[] 5)).ownsRow w.heap.size 5 1 (.slice (some ⟨w3.heap.size, 0, none⟩) 0 0) 0 (u8s [])) := hide ⟨rfl, .inr ⟨w3.heap.size, 0, #[], rfl, hsz, heap_alloc_new _ _, Nat.le_refl _, Nat.zero_le _, rfl, rfl⟩⟩
  have HW := hide ((unhide HB2).alloc hsz (.cells #[] 5))
  have HRC := hide (bytes_cells' ((unhide HBY).below (unhide HW) hb0))
  go_wp2_with (at_builtin; refine wpList_append_own_at _ rfl (.tmp 39) (.tmp 40) 23 rfl w.heap.size 5 i0 (.int .u8 0) 1 1 Try.underlying23 hi hz0 hz1 hz2 rfl (by decide) _ 0 (u8s []) rfl (unhide HO0) ⟨b0, o0, none⟩ n cap (u8s bs) rfl (by simp [u8s, unhide HL]) (unhide HRC) (u8s_one' bs) (by unfold maxLen; omega) (by omega) (by simp; omega) ?_)
  intro v' w4 hO4 hgrow _ _
  have HW4 := hide ((unhide HW).grown hgrow (unhide HW).size (fun g e => by cases e; exact hsz))
  obtain ⟨g, cg, rfl, hg, hcg⟩ : ∃ g cg, v' = .slice (some ⟨g, 0, none⟩) n cg ∧ w.heap.size ≤ g ∧ n ≤ cg := by
    rcases hO4.2 with ⟨_, h0⟩ | ⟨g, cg, _, h1, h2, _, h3, _⟩
    · omega
    · exact ⟨g, cg, h1, h2, h3⟩
  have HO4 := hide hO4
  clear hO4 hgrow HO0 HW HRC HC
  go_wp2
  go_loopw [42] (fun i wq => ∃ (k : Nat) (X : List Nat), k ≤ 32 ∧ i = .int .i64 (k : Int) ∧ Hid (Bst bs t p k X) ∧ Hid (Below w.heap.size w wq) ∧ Hid (wq.ownsRow w.heap.size 5 1 (.slice (some ⟨g, 0, none⟩) n cg) n (u8s X))) (fun i _ => 32 - (intOf i).toNat)
  case atStart => exact ⟨0, bs, Nat.zero_le _, rfl, hide ⟨rfl, unhide HV, by simp [Nat.mod_one]⟩, HW4, HO4⟩
  case round =>
    obtain ⟨k, X, hk, rfl, hX, hBq, hOq⟩ := hrel
    by_cases hlt : k < 32
    · have hj : (p + k) / 8 < n := by omega
      have c := (unhide hOq).cellAt ((p + k) / 8) (by omega)
      have f := (unhide hOq).frozenAt ((p + k) / 8)
      obtain ⟨x, hxx⟩ : ∃ x, X.getD ((p + k) / 8) 0 = x := ⟨_, rfl⟩
      have c1 : wr.cell? ⟨g, (p + k) / 8, none⟩ = some (.int .u8 (x : Int)) := by
        rw [c, ← hxx]
        have hXl : (p + k) / 8 < X.length := by rw [(unhide hX).len, unhide HL]; exact hj
        simp [u8s, List.getD, hXl]
      have hx1 := (unhide hX).small ((p + k) / 8)
      rw [hxx] at hx1
      have HXX := hide hxx
      clear c hxx
      by_cases hbit : t / 2 ^ k % 2 = 1
      · have h1 : (bits .and .u32 ((t : Int) / 2 ^ k) 1 == 1) = true := by
          have e : (t : Int) / 2 ^ k = ((t / 2 ^ k : Nat) : Int) := by push_cast; rfl
          rw [e, and1 (Nat.lt_of_le_of_lt (Nat.div_le_self _ _) ht), hbit]
          rfl
        go_wp2
        go_region
        all_goals go_wp2
        go_roundw
        case rel =>
          have hst := (unhide hOq).stored ((p + k) / 8) (.int .u8 ((x ^^^ 2 ^ ((p + k) % 8) : Nat) : Int))
          rw [xor_bit hx1 (Nat.mod_lt _ (by decide))]
          refine ⟨k + 1, X.set ((p + k) / 8) (x ^^^ 2 ^ ((p + k) % 8)), by omega, by go_num, hide ?_, hide ?_, hide ?_⟩
          · have hp8 : 8 * ((p + k) / 8) + (p + k) % 8 = p + k := by omega
            have hlen := (unhide hX).len
            refine ⟨by rw [List.length_set]; exact hlen, fun j => ?_, ?_⟩
            · by_cases e : (p + k) / 8 = j
              · rw [List.getD, List.getElem?_set, if_pos e]
                split
                · exact Nat.xor_lt_two_pow (n := 8) hx1 (Nat.pow_lt_pow_right (by decide) (Nat.mod_lt _ (by decide)))
                · exact (by decide : (0 : Nat) < 256)
              · have := (unhide hX).small j
                rw [List.getD, List.getElem?_set, if_neg e]
                exact this
            · have hv := valB_turn X ((p + k) / 8) ((p + k) % 8) (mem_lt2 (unhide hX).small) (by rw [hlen, unhide HL]; exact hj) (Nat.mod_lt _ (by decide))
              rw [unhide HXX, hp8] at hv
              rw [hv, (unhide hX).val, burst_next, if_pos hbit, Nat.xor_assoc]
          · exact ((unhide hBq).setCell hg _).drew
          · have e : u8s (X.set ((p + k) / 8) (x ^^^ 2 ^ ((p + k) % 8))) = (u8s X).set ((p + k) / 8) (.int .u8 ((x ^^^ 2 ^ ((p + k) % 8) : Nat) : Int)) := by rw [u8s, List.map_set]
            rw [e]
            exact hst.1
        case measure => simp [intOf]; omega
      · have h1 : (bits .and .u32 ((t : Int) / 2 ^ k) 1 == 1) = false := by
          have e : (t : Int) / 2 ^ k = ((t / 2 ^ k : Nat) : Int) := by push_cast; rfl
          rw [e, and1 (Nat.lt_of_le_of_lt (Nat.div_le_self _ _) ht), show t / 2 ^ k % 2 = 0 by omega]
          rfl
        go_wp2
        go_roundw
        case rel => exact ⟨k + 1, X, by omega, by go_num, hide ⟨(unhide hX).len, (unhide hX).small, by rw [(unhide hX).val, burst_next, if_neg hbit]⟩, hBq, hOq⟩
        case measure => simp [intOf]; omega
    · obtain rfl : k = 32 := by omega
      have HNE := hide (crcN_burst bs X t p (mem_lt2 (unhide HV)) (mem_lt2 (unhide hX).small) (unhide hX).len (by rw [(unhide hX).val, Nat.mod_eq_of_lt (by simpa using ht)]) ht ht0 (by rw [unhide HL]; omega))
      go_wp2_with fail
      refine (crc_ok 0 _ n cg X wr ((unhide hX).len.trans (unhide HL)) hn (by decide) (BytesIn.own (unhide hOq)) (unhide hX).small).mono ?_
      rintro e w5 ⟨rfl, hB5⟩
      have HW5 := hide ((unhide hBq).trans (hB5.mono (unhide hBq).size))
      clear hB5
      have hne : (((crcN 0 bs : Nat) : Int) != ((crcN 0 X : Nat) : Int)) = true := by
        rw [bne_iff_ne]
        intro e
        exact unhide HNE (Int.ofNat.inj e)
      generalize crcN 0 bs = P at *
      generalize crcN 0 X = Q at *
      go_wp2
      go_ret
      exact ⟨rfl, unhide HW5⟩
end Go.Proofs.Ytekgcoajgbpniad
