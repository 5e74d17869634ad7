/-
  The walk of the law MatchNear.
-/
import Derived.Test.YtmafecagcglaoahMatchNear1
import Derived.Test.YtmafecagcglaoahMatchIn
namespace Go.Proofs.Ytmafecagcglaoah
open Go.RowKit
set_option linter.unusedVariables false
set_option maxRecDepth 100000

set_option maxHeartbeats 1000000 in
theorem near_many (a : Option Addr) (n cap : Nat) (w : World) (h : 3000 < n) : Calls Try.prog 5 #[.slice a n cap] w fun e w' => e = .returned (.bool true) ∧ Below w.heap.size w w' := by
  go_enter Try.func5, Try.ntmps5
  go_wp2_with fail
  refine (tokens_many a n cap w h).mono ?_
  rintro e w1 ⟨rfl, rfl⟩
  go_wp2_with fail
  refine (matched_any _).mono ?_
  rintro e w2 ⟨rfl, hB2⟩
  have HB2 := hide hB2
  have hz2 := hB2.size
  clear hB2
  go_wp2_with fail
  refine (matched_any _).mono ?_
  rintro e w3 ⟨rfl, hB3⟩
  have HB3 := hide ((unhide HB2).trans (hB3.mono hz2))
  clear hB3
  go_wp2
  go_ret
  exact ⟨rfl, unhide HB3⟩

set_option maxHeartbeats 4000000 in
theorem near_few (a : Option Addr) (n cap : Nat) (bs : List Nat) (w : World) (hl : bs.length = n) (hn : n ≤ 3000) (hcap : n ≤ cap) (hB : BytesIn w a bs) (hx : ∀ j, bs.getD j 0 < 256) : Calls Try.prog 5 #[.slice a n cap] w fun e w' => e = .returned (.bool true) ∧ Below w.heap.size w w' := by
  obtain ⟨L, hL⟩ : ∃ L, (toks bs).length = L := ⟨_, rfl⟩
  have hLn : L ≤ 3000 := by have := toks_len bs; omega
  have HT := hide (tokens_ok a n cap bs w hl hn hcap hB hx L hL)
  have HB := hide hB
  have HX := hide hx
  have HLn := hide hl
  have HD0 : Hid ((toks bs).drop 0 = tks bs n 0) := hide (by rw [List.drop_zero]; unfold toks; rw [hl])
  obtain ⟨T, hT⟩ : ∃ T, toks bs = T := ⟨_, rfl⟩
  rw [hT] at HT hL HD0
  have HL := hide hL
  clear hL hB hx hT
  go_enter Try.func5, Try.ntmps5
  go_wp2_with fail
  refine (unhide HT).mono ?_
  rintro e w1 ⟨a1, c1, rfl, hT1, hB1⟩
  have HT1 := hide hT1
  have HB1 := hide hB1
  have hz1 := hB1.size
  clear hT1 hB1 HT
  go_wp2_with fail
  refine (matched_any _).mono ?_
  rintro e w2 ⟨rfl, hB2⟩
  have hz2 := Nat.le_trans hz1 hB2.size
  have HT2 := hide ((unhide HT1).below hB2 (Nat.le_refl _))
  have HB2 := hide ((unhide HB1).trans (hB2.mono hz1))
  clear hB2 HT1 HB1
  have HY2 := hide ((unhide HB).below (unhide HB2) (Nat.le_refl _))
  go_wp2
  go_loopw [5, 27] (fun v5 v27 wr => ∃ i pos fuel : Nat, i ≤ L ∧ pos ≤ n ∧ v27 = .int .i64 (i : Int) ∧ v5 = .int .i64 (pos : Int) ∧ T.drop i = tks bs fuel pos ∧ n ≤ pos + fuel ∧ Below w2.heap.size w2 wr) (fun _ v27 _ => L - (intOf v27).toNat)
  case atStart => exact ⟨0, 0, n, Nat.zero_le _, Nat.zero_le _, rfl, rfl, unhide HD0, by omega, Below.refl _ _⟩
  case round =>
    obtain ⟨i, pos, fuel, hi, hpos, rfl, rfl, hD, hf, hBr⟩ := hrel
    have HD := hide hD
    have HBr := hide hBr
    have hzr := hBr.size
    clear hD
    by_cases hlt : i < L
    · obtain ⟨hpn, hget, fuel', hnext, hf'⟩ := near_step (unhide HD) (by rw [unhide HLn]; exact hf) (by rw [unhide HL]; exact hlt)
      rw [unhide HLn] at hpn hf'
      obtain ⟨tb, ts, tf, ht⟩ : ∃ tb ts tf, tkAt bs pos = (tb, ts, tf) := ⟨_, _, _, rfl⟩
      obtain ⟨b1, o1, rfl, hb1, c1', c2', c3'⟩ := tok_at (unhide HT2) (fun b hb => hBr.block b hb) (by rw [unhide HL]; exact hlt) (hget.trans ht)
      obtain ⟨b, o, rfl, hb, hBy⟩ := bytesIn_some (unhide HY2) (by rw [unhide HLn]; omega)
      have hw := tkAt_wid bs pos (by rw [unhide HLn]; exact hpn)
      rw [unhide HLn] at hw
      have HN := hide hnext
      have HBy : Hid (Bytes wr b o bs) := hBy.below hBr hb
      have hbr : b < wr.heap.size := by omega
      have HBa := hide ((unhide HBr).alloc hzr (.cells #[.int .u8 (tb : Int), .int .i64 ts, .int .i64 tf] 43))
      have his := tkAt_is bs pos (by rw [unhide HLn]; exact hpn)
      clear hBr hget hnext hBy
      rcases his with ⟨e1, e2⟩ | ⟨n1, f1, hLng, hlng, e1, e2⟩
      · rw [ht] at e1
        rw [e2] at hw HN hf'
        obtain ⟨h1, rfl, rfl⟩ : tb = bs.getD pos 0 ∧ ts = 0 ∧ tf = 0 := by simpa using e1
        have ck := unhide HBy pos (by rw [unhide HLn]; exact hpn)
        rw [← h1] at ck
        have hd1 : decide ((n : Int) ≤ (pos : Int)) = false := decide_eq_false (by omega)
        have htt : ((tb : Int) != (tb : Int)) = false := by simp
        clear h1 e1 e2 ht
        go_wp2
        go_quiet (fail)
        go_wp2
        go_roundw
        case rel => exact ⟨i + 1, pos + 1, fuel', by omega, by omega, by go_num, by go_num, unhide HN, by omega, below_drewN (unhide HBa) nq⟩
        case measure => simp [intOf]; omega
      · rw [ht] at e1
        rw [e2] at hw HN hf'
        obtain ⟨rfl, rfl, rfl⟩ : 0 = tb ∧ (n1 : Int) = ts ∧ (f1 : Int) = tf := by
          simp only [Prod.mk.injEq] at e1
          exact ⟨e1.1.symm, e1.2.1.symm, e1.2.2.symm⟩
        have h3 := hLng.three
        have h258 := hLng.le.1
        have h1f := hLng.one
        have hfp := hLng.ahead
        have HG := hide hLng
        have hb0 : ((n1 : Int) == 0) = false := by rw [beq_eq_false_iff_ne]; omega
        have he1 : ((n1 : Int) != (n1 : Int)) = false := by simp
        have he2 : ((f1 : Int) != (f1 : Int)) = false := by simp
        have HK := hide (longest_some b o n cap pos bs _ (unhide HLn) hn hcap (show b < (wr.alloc (.cells #[.int .u8 ((0 : Nat) : Int), .int .i64 (n1 : Int), .int .i64 (f1 : Int)] 43)).heap.size by simp; omega) (fun j hj => by rw [World.cell?_alloc_past _ _ _ hbr]; exact unhide HBy j hj) (unhide HX) hpn n1 f1 hlng)
        clear hLng e1 e2 ht hlng
        go_wp2_with fail
        refine (unhide HK).mono ?_
        rintro e w4 ⟨rfl, hB4⟩
        have q0 : w4.cell? ⟨wr.heap.size, 0, none⟩ = some (.int .u8 0) := (hB4.cell (p := ⟨wr.heap.size, 0, none⟩) (by simp)).trans (by simp)
        have q1 : w4.cell? ⟨wr.heap.size, 1, none⟩ = some (.int .i64 (n1 : Int)) := (hB4.cell (p := ⟨wr.heap.size, 1, none⟩) (by simp)).trans (by simp)
        have q2 : w4.cell? ⟨wr.heap.size, 2, none⟩ = some (.int .i64 (f1 : Int)) := (hB4.cell (p := ⟨wr.heap.size, 2, none⟩) (by simp)).trans (by simp)
        have HB4 := hide ((unhide HBa).trans (hB4.mono (by simp; omega)))
        have HY4 : Hid (Bytes w4 b o bs) := (show Bytes (wr.alloc (.cells #[.int .u8 ((0 : Nat) : Int), .int .i64 (n1 : Int), .int .i64 (f1 : Int)] 43)) b o bs from fun j hj => by rw [World.cell?_alloc_past _ _ _ hbr]; exact unhide HBy j hj).below hB4 (by simp; omega)
        have hb4 : b < w4.heap.size := by have := hB4.size; simp at this; omega
        clear hB4 HK HBa HBr HBy c1' c2' c3'
        generalize wr.heap.size = b7 at *
        go_wp2
        go_loopw [105] (fun v105 wr => ∃ j q : Nat, j ≤ n1 ∧ v105 = .int .i64 (j : Int) ∧ wr = w4.drewN q) (fun v105 _ => n1 - (intOf v105).toNat)
        case atStart => exact ⟨0, 0, Nat.zero_le _, rfl, rfl⟩
        case round =>
          obtain ⟨j, q, hj, rfl, rfl⟩ := hrel
          by_cases hjn : j < n1
          · have ca := unhide HY4 (pos + j) (by rw [unhide HLn]; omega)
            have cb := unhide HY4 (pos - f1 + j) (by rw [unhide HLn]; omega)
            rw [← (unhide HG).same hjn] at cb
            have hi2 : (pos : Int) + (j : Int) - (f1 : Int) = ((pos - f1 + j : Nat) : Int) := by omega
            have hi3 : pos - f1 + j < n := by omega
            have hi4 : pos + j < n := by omega
            generalize bs.getD (pos + j) 0 = x at ca cb
            have hxx : ((x : Int) != (x : Int)) = false := by simp
            go_wp2
            go_quiet (fail)
            go_wp2
            go_roundw
            case rel => exact ⟨j + 1, _, by omega, by go_num, rfl⟩
            case measure => simp [intOf]; omega
          · obtain rfl : n1 = j := by omega
            by_cases hfar : 1 < f1 ∧ n1 < 258
            · obtain ⟨hfar1, hfar2⟩ := hfar
              go_wp2
              go_loopw [12] (fun v12 wr => ∃ d q : Nat, 1 ≤ d ∧ d ≤ f1 ∧ v12 = .int .i64 (d : Int) ∧ wr = w4.drewN q) (fun v12 _ => f1 - (intOf v12).toNat)
              case atStart => exact ⟨1, q, Nat.le_refl _, h1f, rfl, rfl⟩
              case round =>
                obtain ⟨d, q3, hd1, hd2, rfl, hw3⟩ := hrel
                have HYr : Hid (Bytes wr b o bs) := by rw [hw3]; exact unhide HY4
                have hbr4 : b < wr.heap.size := by rw [hw3]; exact hb4
                have p1 : wr.cell? ⟨b7, 1, none⟩ = some (.int .i64 (n1 : Int)) := by rw [hw3]; exact q1
                have HW3 := hide hw3
                clear hw3
                by_cases hdf : d < f1
                · have hpd : ((pos : Int) - (d : Int)).toNat = pos - d := by omega
                  have hdp : d ≤ pos := by omega
                  have hc1 : ¬ cap = pos - d := by omega
                  have hc2 : ¬ cap = pos := by omega
                  have hle1 : pos - d ≤ n := by omega
                  have HPX := hide (fun (W : World) (hY : Bytes W b o bs) (hbW : b < W.heap.size) => hasPrefix_no b (o + (pos - d)) (n - (pos - d)) (cap - (pos - d)) (o + pos) n1 (cap - pos) ((bs.drop (pos - d)).take n1) ((bs.drop pos).take n1) W hbW (part_length (by rw [unhide HLn]; omega)) (part_length (by rw [unhide HLn]; omega)) (by omega) (by omega) (by omega) (hY.part (pos - d) n1 (by rw [unhide HLn]; omega)) (hY.part pos n1 (by rw [unhide HLn]; omega)) (part_lt (unhide HX) _ _) (part_lt (unhide HX) _ _) (far_ne (unhide HG) hd1 hdf))
                  go_wp2
                  go_quiet ((go_at_call 19; refine Calls.quiet_of_same (unhide HPX _ (unhide HYr) hbr4)))
                  go_wp2
                  go_roundw
                  case rel => exact ⟨d + 1, _, by omega, by omega, by go_num, by rw [unhide HW3, World.drewN_drewN]⟩
                  case measure => simp [intOf]; omega
                · obtain rfl : f1 = d := by omega
                  go_wp2
                  go_roundw
                  case rel => exact ⟨i + 1, pos + n1, fuel', by omega, by omega, by go_num, by go_num, unhide HN, by omega, by rw [unhide HW3]; exact below_drewN (unhide HB4) q3⟩
                  case measure => simp [intOf]; omega
            · by_cases hfar1 : 1 < f1
              · have hfar2 : ¬ n1 < 258 := fun h => hfar ⟨hfar1, h⟩
                clear hfar
                go_wp2
                go_roundw
                case rel => exact ⟨i + 1, pos + n1, fuel', by omega, by omega, by go_num, by go_num, unhide HN, by omega, below_drewN (unhide HB4) q⟩
                case measure => simp [intOf]; omega
              · clear hfar
                go_wp2
                go_roundw
                case rel => exact ⟨i + 1, pos + n1, fuel', by omega, by omega, by go_num, by go_num, unhide HN, by omega, below_drewN (unhide HB4) q⟩
                case measure => simp [intOf]; omega
    · obtain rfl : L = i := by omega
      have hend := unhide HD
      rw [List.drop_of_length_le (by rw [unhide HL]; exact Nat.le_refl _)] at hend
      have hge := tks_nil hend.symm (by rw [unhide HLn]; exact hf)
      rw [unhide HLn] at hge
      obtain rfl : n = pos := by omega
      have hnn : ((n : Int) == (n : Int)) = true := by simp
      clear hBr hend hge
      go_wp2
      go_ret
      exact ⟨rfl, (unhide HB2).trans ((unhide HBr).mono hz2)⟩
end Go.Proofs.Ytmafecagcglaoah
