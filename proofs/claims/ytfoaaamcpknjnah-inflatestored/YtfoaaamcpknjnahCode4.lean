/-
  What code.Codes answers of lengths that make a code.
-/
import Derived.Test.YtfoaaamcpknjnahCode2
import Derived.OwnWalk
namespace Go.Proofs.Ytfoaaamcpknjnah
open Go.RowKit
set_option linter.unusedVariables false

theorem codes_err (a : Option Addr) (len cap : Nat) (l : List Int) (w : World) (hl : l.length = len) (hM : len ≤ 9223372036854775807) (hR : RowIn .i64 w a l) (he : errL l ≠ 0) :
    Calls Try.prog 30 #[.slice a len cap] w fun e w' => e = .returned (.tuple #[.slice none 0 0, .int .i64 (errL l)]) ∧ Below w.heap.size w w' := by
  have hb : (errL l != 0) = true := by rw [bne_iff_ne]; exact he
  go_enter Try.func30, Try.ntmps30
  go_wp2_with fail
  refine (count_any a len cap l w hl hM hR).mono ?_
  rintro e w1 ⟨rfl, hB1⟩
  have hz := hB1.size
  have HB := hide (hB1.alloc hz (.cells (arr (cntE l)) 59))
  clear hB1 he
  go_wp2_with (refine store_new rfl (.tmp 4) (.tmp 13) rfl w1 (fun _ => 0) (cntE l) rfl rfl rfl ?_)
  go_ret2
  exact ⟨rfl, unhide HB⟩

theorem made_i64' (n : Nat) : (madeCells #[Value.int .i64 0] n).toList = i64s (List.replicate n 0) := made_i64 n

theorem nxt_le (l : List Int) (h : Good l) (k : Nat) {n : Nat} (hn : n ≤ 15) : nxt l k n ≤ 9437472 := by
  unfold nxt
  by_cases e : n = 0
  · simp [e]
  · have h1 := first_small (cnt l) (fun n => Nat.le_trans (cnt_le l n) h.len) (k := n - 1) (by omega)
    have h2 : n - 1 + 1 = n := by omega
    rw [h2] at h1
    have h3 := cnt_le (l.take k) n
    have h4 : (l.take k).length ≤ 288 := by have := h.len; simp; omega
    simp [e]; omega

set_option maxHeartbeats 1000000 in
set_option maxRecDepth 100000 in
theorem codes_ok (a : Option Addr) (len cap : Nat) (l : List Int) (w : World) (hl : l.length = len) (hR : RowIn .i64 w a l) (hG : Good l) :
    Calls Try.prog 30 #[.slice a len cap] w fun e w' => ∃ g, e = .returned (.tuple #[.slice (some ⟨g, 0, none⟩) len len, .int .i64 0]) ∧
      w'.ownsRow w.heap.size 3 1 (.slice (some ⟨g, 0, none⟩) len len) len (i64s (codL l len)) ∧ Below w.heap.size w w' ∧ w.heap.size ≤ g := by
  obtain ⟨i0, hi, hz0, hz1, hz2⟩ := info_parts info_int
  have hlen := hG.len
  have HG := hide hG
  have HE := hide (good_errL hG)
  have HC := hide (cntE_good hG)
  have HCL : Hid (∀ n, cnt l n ≤ 288) := fun n => Nat.le_trans (cnt_le l n) hG.len
  have HR := hide hR
  have HL := hide hl
  go_enter Try.func30, Try.ntmps30
  go_wp2_with fail
  refine (count_any a len cap l w hl (by omega) hR).mono ?_
  rintro e w1 ⟨rfl, hB1⟩
  rw [unhide HC, unhide HE]
  have hz := hB1.size
  have HB := hide (hB1.alloc hz (.cells (arr (cnt l)) 59))
  have HA := hide (Arr.new w1 (cnt l) rfl)
  clear hB1 hR hG
  go_wp2_with (first | (refine store_new rfl (.tmp 4) (.tmp 13) rfl w1 (fun _ => 0) (cnt l) rfl rfl rfl ?_) | (refine load_arr rfl (.tmp 4) rfl _ (cnt l) rfl (unhide HA) ?_))
  refine (firstCodes_any (cnt l) _ (unhide HCL)).mono ?_
  rintro e w2 ⟨rfl, hB2⟩
  have hz2' := hB2.size
  simp only [World.size_alloc] at hz2'
  have HB2 := hide (((unhide HB).trans (hB2.mono (by simp; omega))).alloc (by omega) (.cells (arr (firstN (cnt l))) 59))
  have HA2 := hide (Arr.new w2 (firstN (cnt l)) rfl)
  clear hB2 HA HB
  go_wp2_with (first | (refine store_new rfl (.tmp 6) (.tmp 19) rfl w2 (fun _ => 0) (firstN (cnt l)) rfl rfl rfl ?_) | (at_make; refine wpList_make_full _ rfl _ _ 22 rfl w.heap.size 3 i0 (.int .i64 0) 1 Try.underlying22 hi hz0 hz1 _ _ _ _ len rfl rfl rfl rfl (by rw [hz2]; omega) (by unfold maxLen; omega) (by simp; omega) ?_))
  intro w3 hown3 hgrow3
  have e0 : (madeCells #[Value.int .i64 0] len).toList = i64s (codL l 0) := by
    rw [codL, unhide HL]; exact made_i64 len
  have e1 : (w2.alloc (.cells (arr (firstN (cnt l))) 59)).heap.size = w2.heap.size + 1 := by simp
  rw [e0] at hown3
  have HO := hide hown3
  have HB3 := hide ((unhide HB2).grown hgrow3 (by omega) (fun j h => by cases h))
  have HA3 : Hid (Arr w3 w2.heap.size (firstN (cnt l))) := (hgrow3.block w2.heap.size (by omega) (by simp)).trans (unhide HA2)
  have hne : w2.heap.size + 1 ≠ w2.heap.size := by omega
  have hgl := (hown3.lt _ rfl).2
  have hb6 : w.heap.size ≤ w2.heap.size := by omega
  have hgw : w.heap.size ≤ w2.heap.size + 1 := by omega
  clear hown3 hgrow3 e0 e1 HA2 HB2
  generalize w2.heap.size + 1 = g at *
  generalize w2.heap.size = b6 at *
  go_wp2
  go_loopw [25] (fun i wr => ∃ k : Nat, k ≤ len ∧ i = .int .i64 k ∧ wr.ownsRow w.heap.size 3 1 (.slice (some ⟨g, 0, none⟩) len len) len (i64s (codL l k)) ∧ Arr wr b6 (nxt l k) ∧ Below w.heap.size w wr) (fun i _ => len - (intOf i).toNat)
  case atStart => exact ⟨0, Nat.zero_le _, rfl, unhide HO, (unhide HA3).congr (fun n _ => (nxt_zero l n).symm), unhide HB3⟩
  case round =>
    obtain ⟨k, hk, rfl, hO, hA, hB⟩ := hrel
    have HO1 := hide hO
    have HA1 := hide hA
    have HB1 := hide hB
    by_cases hlt : k < len
    · have hlk : k < l.length := by omega
      obtain ⟨b, o, rfl, hb, hR⟩ : ∃ b o, a = some ⟨b, o, none⟩ ∧ b < w.heap.size ∧ Row .i64 w b o l := by
        rcases unhide HR with rfl | h
        · simp at hlk
        · exact h
      have c1 := (hB.cell (p := ⟨b, o + k, none⟩) hb).trans (hR k hlk)
      have hok := (unhide HG).ok k hlk
      obtain ⟨n, hn⟩ := Int.eq_ofNat_of_zero_le hok.1
      have hn15 := hok.2
      have HX := hide hn
      rw [hn] at c1 hn15
      have hn16 : n < 16 := by omega
      have c2 := hA.cell hn16
      obtain ⟨y, hy⟩ : ∃ y, (codL l k).getD k 0 = y := ⟨_, rfl⟩
      have cg : wr.cell? ⟨g, k, none⟩ = some (.int .i64 ((y : Nat) : Int)) := by
        rw [hO.cellAt k (by simp; omega), ← hy]
        simp [List.getD, codL_length, hlk]
      clear hy
      have fg := hO.frozenAt k
      have hxl := nxt_le l (unhide HG) k (n := n) (by omega)
      have hcode := codeN_nxt l hn
      by_cases hn0 : 0 < n
      · have hst := hO.stored k (.int .i64 ((nxt l k n : Nat) : Int))
        have hAo := hA.other (a := ⟨g, k, none⟩) (by simp; omega) (.int .i64 ((nxt l k n : Nat) : Int))
        have c3 := hAo.cell hn16
        have f3 := hAo.frozen n
        have HST := hide hst
        have HAO := hide hAo
        have HB4 := hide (hB.setCell (p := ⟨g, k, none⟩) (by simp; omega) (.int .i64 ((nxt l k n : Nat) : Int)))
        have HCO := hide hcode
        clear hO hA hB hR hok hn hst hAo HA3 HB3 HO hcode
        generalize hxx : nxt l k n = x at *
        have HXX := hide hxx
        clear hxx
        go_wp2
        go_roundw
        case rel =>
          refine ⟨k + 1, by omega, by go_num, ?_, ?_, ?_⟩
          · have e : i64s (codL l (k + 1)) = (i64s (codL l k)).set k (.int .i64 ((x : Nat) : Int)) := by
              rw [codL, unhide HCO, i64s, List.map_set]
            rw [e]
            exact (unhide HST).1.kept (grown_setCell _ b6 n _) (.inr (by simp [Value.ownBlock]; omega))
          · have e := nxt_next l hlk (unhide HX) hn0
            rw [unhide HXX] at e
            rw [← e]
            exact (unhide HAO).set n (x + 1)
          · exact (unhide HB4).setCell (by simp; omega) _
        case measure => simp [intOf]; omega
      · obtain rfl : n = 0 := by omega
        have hc0 : codeN l k = 0 := by rw [hcode]; rfl
        have HK := hide (codL_keep l k hc0)
        have HK2 := hide (nxt_keep l hlk hn)
        clear hO hA hB hR hok hn HA3 HB3 HO hcode hc0
        go_wp2
        go_roundw
        case rel => exact ⟨k + 1, by omega, by go_num, by rw [unhide HK]; exact unhide HO1, by rw [← unhide HK2]; exact unhide HA1, unhide HB1⟩
        case measure => simp [intOf]; omega
    · obtain rfl : k = len := by omega
      go_wp2
      go_ret2
      exact ⟨g, rfl, unhide HO1, unhide HB1, by omega⟩
end Go.Proofs.Ytfoaaamcpknjnah
