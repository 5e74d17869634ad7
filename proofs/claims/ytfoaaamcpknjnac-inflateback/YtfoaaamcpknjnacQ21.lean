/-
  What code.Codes answers of lengths that make a code.
-/
import Derived.Test.YtfoaaamcpknjnacQ20
import Derived.OwnWalk
import Derived.Test.YtfoaaamcpknjnacQ5
import Derived.Test.YtfoaaamcpknjnacQ19
import Derived.Laws.EntriesVeiled
namespace Go.Proofs.Ytfoaaamcpknjnac
open Go.RowKit
set_option linter.unusedVariables false

theorem codes_err (a : Option Addr) (len cap : Nat) (l : List Int) (w : World) (hl : l.length = len) (hM : len ≤ 9223372036854775807) (hR : RowIn .i64 w a l) (he : errL l ≠ 0) :
    Calls Try.prog 97 #[.slice a len cap] w fun e w' => e = .returned (.tuple #[.slice none 0 0, .int .i64 (errL l)]) ∧ Below w.heap.size w w' := by
  have hb : (errL l != 0) = true := by rw [bne_iff_ne]; exact he
  go_enter Try.func97, Try.ntmps97
  go_wp2_with fail
  refine (count_any a len cap l w hl hM hR).mono ?_
  rintro e w1 ⟨rfl, hB1⟩
  have hz := hB1.size
  have HB := hide (hB1.alloc hz (.cells (arr (cntE l)) 189))
  clear hB1 he
  go_wp2_with (refine store_new rfl (.tmp 4) (.tmp 13) rfl w1 (fun _ => 0) (cntE l) rfl rfl rfl ?_)
  go_ret2
  exact ⟨rfl, unhide HB⟩

theorem made_i64' (n : Nat) : (madeCells #[Value.int .i64 0] n).toList = i64s (List.replicate n 0) := made_i64 n

theorem nxt_le (l : List Int) (h : Good l) (k : Nat) {n : Nat} (hn : n ≤ 15) : nxt l k n ≤ 9437472 := by
  unfold nxt
  by_cases e : n = 0
  · simp [e]
  · have h1 := first_small (cnt l) (fun n => Nat.le_trans (cnt_le l n) h.len) (k := n - 1) (by omega)
    have h2 : n - 1 + 1 = n := by omega
    rw [h2] at h1
    have h3 := cnt_le (l.take k) n
    have h4 : (l.take k).length ≤ 288 := by have := h.len; simp; omega
    simp [e]; omega

set_option maxHeartbeats 1000000 in
set_option maxRecDepth 100000 in
theorem codes_ok (a : Option Addr) (len cap : Nat) (l : List Int) (w : World) (hl : l.length = len) (hR : RowIn .i64 w a l) (hG : Good l) :
    Calls Try.prog 97 #[.slice a len cap] w fun e w' => ∃ g, e = .returned (.tuple #[.slice (some ⟨g, 0, none⟩) len len, .int .i64 0]) ∧
      w'.ownsRow w.heap.size 3 1 (.slice (some ⟨g, 0, none⟩) len len) len (i64s (codL l len)) ∧ Below w.heap.size w w' ∧ w.heap.size ≤ g := by
  obtain ⟨i0, hi, hz0, hz1, hz2⟩ := info_parts info_int
  have hlen := hG.len
  have HG := hide hG
  have HE := hide (good_errL hG)
  have HC := hide (cntE_good hG)
  have HCL : Hid (∀ n, cnt l n ≤ 288) := fun n => Nat.le_trans (cnt_le l n) hG.len
  have HR := hide hR
  have HL := hide hl
  go_enter Try.func97, Try.ntmps97
  go_wp2_with fail
  refine (count_any a len cap l w hl (by omega) hR).mono ?_
  rintro e w1 ⟨rfl, hB1⟩
  rw [unhide HC, unhide HE]
  have hz := hB1.size
  have HB := hide (hB1.alloc hz (.cells (arr (cnt l)) 189))
  have HA := hide (Arr.new w1 (cnt l) rfl)
  clear hB1 hR hG
  go_wp2_with (first | (refine store_new rfl (.tmp 4) (.tmp 13) rfl w1 (fun _ => 0) (cnt l) rfl rfl rfl ?_) | (refine load_arr rfl (.tmp 4) rfl _ (cnt l) rfl (unhide HA) ?_))
  refine (firstCodes_any (cnt l) _ (unhide HCL)).mono ?_
  rintro e w2 ⟨rfl, hB2⟩
  have hz2' := hB2.size
  simp only [World.size_alloc] at hz2'
  have HB2 := hide (((unhide HB).trans (hB2.mono (by simp; omega))).alloc (by omega) (.cells (arr (firstN (cnt l))) 189))
  have HA2 := hide (Arr.new w2 (firstN (cnt l)) rfl)
  clear hB2 HA HB
  go_wp2_with (first | (refine store_new rfl (.tmp 6) (.tmp 19) rfl w2 (fun _ => 0) (firstN (cnt l)) rfl rfl rfl ?_) | (at_make; refine wpList_make_full _ rfl _ _ 36 rfl w.heap.size 3 i0 (.int .i64 0) 1 Try.underlying36 hi hz0 hz1 _ _ _ _ len rfl rfl rfl rfl (by rw [hz2]; omega) (by unfold maxLen; omega) (by simp; omega) ?_))
  intro w3 hown3 hgrow3
  have e0 : (madeCells #[Value.int .i64 0] len).toList = i64s (codL l 0) := by
    rw [codL, unhide HL]; exact made_i64 len
  have e1 : (w2.alloc (.cells (arr (firstN (cnt l))) 189)).heap.size = w2.heap.size + 1 := by simp
  rw [e0] at hown3
  have HO := hide hown3
  have HB3 := hide ((unhide HB2).grown hgrow3 (by omega) (fun j h => by cases h))
  have HA3 : Hid (Arr w3 w2.heap.size (firstN (cnt l))) := (hgrow3.block w2.heap.size (by omega) (by simp)).trans (unhide HA2)
  have hne : w2.heap.size + 1 ≠ w2.heap.size := by omega
  have hgl := (hown3.lt _ rfl).2
  have hb6 : w.heap.size ≤ w2.heap.size := by omega
  have hgw : w.heap.size ≤ w2.heap.size + 1 := by omega
  clear hown3 hgrow3 e0 e1 HA2 HB2
  generalize w2.heap.size + 1 = g at *
  generalize w2.heap.size = b6 at *
  go_wp2
  go_loopw [25] (fun i wr => ∃ k : Nat, k ≤ len ∧ i = .int .i64 k ∧ wr.ownsRow w.heap.size 3 1 (.slice (some ⟨g, 0, none⟩) len len) len (i64s (codL l k)) ∧ Arr wr b6 (nxt l k) ∧ Below w.heap.size w wr) (fun i _ => len - (intOf i).toNat)
  case atStart => exact ⟨0, Nat.zero_le _, rfl, unhide HO, (unhide HA3).congr (fun n _ => (nxt_zero l n).symm), unhide HB3⟩
  case round =>
    obtain ⟨k, hk, rfl, hO, hA, hB⟩ := hrel
    have HO1 := hide hO
    have HA1 := hide hA
    have HB1 := hide hB
    by_cases hlt : k < len
    · have hlk : k < l.length := by omega
      obtain ⟨b, o, rfl, hb, hR⟩ : ∃ b o, a = some ⟨b, o, none⟩ ∧ b < w.heap.size ∧ Row .i64 w b o l := by
        rcases unhide HR with rfl | h
        · simp at hlk
        · exact h
      have c1 := (hB.cell (p := ⟨b, o + k, none⟩) hb).trans (hR k hlk)
      have hok := (unhide HG).ok k hlk
      obtain ⟨n, hn⟩ := Int.eq_ofNat_of_zero_le hok.1
      have hn15 := hok.2
      have HX := hide hn
      rw [hn] at c1 hn15
      have hn16 : n < 16 := by omega
      have c2 := hA.cell hn16
      obtain ⟨y, hy⟩ : ∃ y, (codL l k).getD k 0 = y := ⟨_, rfl⟩
      have cg : wr.cell? ⟨g, k, none⟩ = some (.int .i64 ((y : Nat) : Int)) := by
        rw [hO.cellAt k (by simp; omega), ← hy]
        simp [List.getD, codL_length, hlk]
      clear hy
      have fg := hO.frozenAt k
      have hxl := nxt_le l (unhide HG) k (n := n) (by omega)
      have hcode := codeN_nxt l hn
      by_cases hn0 : 0 < n
      · have hst := hO.stored k (.int .i64 ((nxt l k n : Nat) : Int))
        have hAo := hA.other (a := ⟨g, k, none⟩) (by simp; omega) (.int .i64 ((nxt l k n : Nat) : Int))
        have c3 := hAo.cell hn16
        have f3 := hAo.frozen n
        have HST := hide hst
        have HAO := hide hAo
        have HB4 := hide (hB.setCell (p := ⟨g, k, none⟩) (by simp; omega) (.int .i64 ((nxt l k n : Nat) : Int)))
        have HCO := hide hcode
        clear hO hA hB hR hok hn hst hAo HA3 HB3 HO hcode
        generalize hxx : nxt l k n = x at *
        have HXX := hide hxx
        clear hxx
        go_wp2
        go_roundw
        case rel =>
          refine ⟨k + 1, by omega, by go_num, ?_, ?_, ?_⟩
          · have e : i64s (codL l (k + 1)) = (i64s (codL l k)).set k (.int .i64 ((x : Nat) : Int)) := by
              rw [codL, unhide HCO, i64s, List.map_set]
            rw [e]
            exact (unhide HST).1.kept (grown_setCell _ b6 n _) (.inr (by simp [Value.ownBlock]; omega))
          · have e := nxt_next l hlk (unhide HX) hn0
            rw [unhide HXX] at e
            rw [← e]
            exact (unhide HAO).set n (x + 1)
          · exact (unhide HB4).setCell (by simp; omega) _
        case measure => simp [intOf]; omega
      · obtain rfl : n = 0 := by omega
        have hc0 : codeN l k = 0 := by rw [hcode]; rfl
        have HK := hide (codL_keep l k hc0)
        have HK2 := hide (nxt_keep l hlk hn)
        clear hO hA hB hR hok hn HA3 HB3 HO hcode hc0
        go_wp2
        go_roundw
        case rel => exact ⟨k + 1, by omega, by go_num, by rw [unhide HK]; exact unhide HO1, by rw [← unhide HK2]; exact unhide HA1, unhide HB1⟩
        case measure => simp [intOf]; omega
    · obtain rfl : k = len := by omega
      go_wp2
      go_ret2
      exact ⟨g, rfl, unhide HO1, unhide HB1, by omega⟩
end Go.Proofs.Ytfoaaamcpknjnac

/-
  coder, and what it answers.
-/
namespace Go.Proofs.Ytfoaaamcpknjnac
open Go.RowKit
set_option linter.unusedVariables false
set_option maxRecDepth 100000

/-- what a coder reads: its three boxes, the codes, the lengths; all in blocks of Bx -/
structure CIs (Bx : Nat → Prop) (W : World) (gc gl gr rb : Nat) (a : Option Addr) (len cap : Nat) (l : List Int) : Prop where
  ex : ∃ gk b o, a = some ⟨b, o, none⟩ ∧ (b < W.heap.size ∧ Bx b) ∧ (gk < W.heap.size ∧ Bx gk) ∧ W.cell? ⟨gc, 0, none⟩ = some (.slice (some ⟨gk, 0, none⟩) len len) ∧ Row .i64 W b o l ∧ ∀ j, j < len → W.cell? ⟨gk, j, none⟩ = some (.int .i64 (codeN l j : Nat))
  bl : W.cell? ⟨gl, 0, none⟩ = some (.slice a len cap)
  br : W.cell? ⟨gr, 0, none⟩ = some (.pointer (some ⟨rb, 0, none⟩))
  bx : (gc < W.heap.size ∧ Bx gc) ∧ (gl < W.heap.size ∧ Bx gl) ∧ (gr < W.heap.size ∧ Bx gr)
theorem CIs.keep {Bx : Nat → Prop} {W W' : World} {gc gl gr rb : Nat} {a : Option Addr} {len cap : Nat} {l : List Int} (h : CIs Bx W gc gl gr rb a len cap l) (hs : W.heap.size ≤ W'.heap.size) (hk : ∀ g, g < W.heap.size → Bx g → W'.heap[g]? = W.heap[g]?) : CIs Bx W' gc gl gr rb a len cap l := by
  have hc : ∀ {g j : Nat} {v : Value}, g < W.heap.size ∧ Bx g → W.cell? ⟨g, j, none⟩ = some v → W'.cell? ⟨g, j, none⟩ = some v := fun {g j v} hg hv => by
    rw [World.cell?_of_block (w := W) (a := ⟨g, j, none⟩) (hk g hg.1 hg.2)]; exact hv
  have up : ∀ {g : Nat}, g < W.heap.size ∧ Bx g → g < W'.heap.size ∧ Bx g := fun hg => ⟨Nat.lt_of_lt_of_le hg.1 hs, hg.2⟩
  obtain ⟨gk, b, o, h1, h2, h3, h4, h5, h6⟩ := h.ex
  exact ⟨⟨gk, b, o, h1, up h2, up h3, hc h.bx.1 h4, fun j hj => hc h2 (h5 j hj), fun j hj => hc h3 (h6 j hj)⟩, hc h.bx.2.1 h.bl, hc h.bx.2.2 h.br, up h.bx.1, up h.bx.2.1, up h.bx.2.2⟩
theorem CIs.more {Bx Bx' : Nat → Prop} {W : World} {gc gl gr rb : Nat} {a : Option Addr} {len cap : Nat} {l : List Int} (h : CIs Bx W gc gl gr rb a len cap l) (hk : ∀ g, Bx g → Bx' g) : CIs Bx' W gc gl gr rb a len cap l := by
  obtain ⟨gk, b, o, h1, h2, h3, h4, h5, h6⟩ := h.ex
  exact ⟨⟨gk, b, o, h1, ⟨h2.1, hk _ h2.2⟩, ⟨h3.1, hk _ h3.2⟩, h4, h5, h6⟩, h.bl, h.br, ⟨h.bx.1.1, hk _ h.bx.1.2⟩, ⟨h.bx.2.1.1, hk _ h.bx.2.1.2⟩, ⟨h.bx.2.2.1, hk _ h.bx.2.2.2⟩⟩

abbrev CV (gc gl gr : Nat) : Value := .func (.func 98) #[] #[.pointer (some ⟨gc, 0, none⟩), .pointer (some ⟨gl, 0, none⟩), .pointer (some ⟨gr, 0, none⟩)]

set_option maxHeartbeats 2000000 in
theorem code_any (Bx No : Nat → Prop) (B gc gl gr rb : Nat) (a : Option Addr) (len cap : Nat) (l : List Int) (q : Nat) (S : List Bool) (W : World) (hC : CIs Bx W gc gl gr rb a len cap l) (hl : l.length = len) (hG : Good l) (hq : q < len) (hpos : 0 < l.getD q 0) (h : RIs No B W rb S) (hS : S.length ≤ 300000) (hNo : ∀ g, W.heap.size ≤ g → ¬ No g) :
    Calls Try.prog 98 #[.int .i64 (q : Int), .pointer (some ⟨gc, 0, none⟩), .pointer (some ⟨gl, 0, none⟩), .pointer (some ⟨gr, 0, none⟩)] W fun e w' => e = .returned (.tuple #[]) ∧ Rp No B W rb (S ++ codeT l q) w' := by
  obtain ⟨gk, b, o, rfl, hb, hgk, c1, hrow, hcod⟩ := hC.ex
  have c2 := hC.bl
  have c3 := hC.br
  have hlen := hG.len
  obtain ⟨m, hm⟩ := Int.eq_ofNat_of_zero_le (hG.ok q (by omega)).1
  have hm15 := (hG.ok q (by omega)).2
  have c4 := hrow q (by omega)
  have c5 := hcod q hq
  rw [hm] at c4 hm15 hpos
  have hlt := (code_lt l hG (by omega) hm (by omega)).2.2
  have HT : Hid (S ++ codeT l q = S ++ numBits (turnL (codeN l q) m) m) := hide (by unfold codeT; rw [hm, Int.toNat_natCast, numBits_turn])
  have hp15 : 2 ^ m ≤ 2 ^ 15 := Nat.pow_le_pow_right (by decide) (by omega)
  have hp15' : (2 : Nat) ^ 15 = 32768 := by decide
  have hcl : codeN l q < 32768 := by omega
  have hfit : fitsB (codeN l q : Nat) (m : Nat) = true := decide_eq_true ⟨by omega, by omega, by omega, by rw [Int.toNat_natCast]; exact_mod_cast hlt⟩
  have HTN := hide (fun W => turn_yes (codeN l q) m W hfit (by omega) (by omega))
  have htl := turnL_lt16 (codeN l q) (k := m) (by omega)
  have HPT := hide (fun (k x : Nat) (hx : x < 65536) => rput_any No B rb x m S (W.drewN k) (h.drewN k) hx (by omega) hS hNo)
  have HRD := hide (fun k => h.drew k)
  rw [unhide HT]
  have hqI : (q : Int) < (len : Int) := by omega
  clear hC hrow hcod hlt hfit HT h hNo hG hm hp15 hp15'
  generalize codeN l q = cq at *
  generalize turnL cq m = tq at *
  go_enter Try.func98, Try.ntmps98
  go_wp2
  go_quiet ((go_at_call 99; refine Calls.quiet_of_same (unhide HTN _)))
  go_wp2
  go_region_with (go_at_call 34; refine (unhide HPT _ _ (by omega)).mono ?_; rintro e w2 ⟨rfl, hR⟩)
  all_goals try go_wp2
  all_goals go_end0
  all_goals trace_state
  all_goals exact ⟨rfl, (unhide HRD _).trans hR⟩
end Go.Proofs.Ytfoaaamcpknjnac

/-
  putter: a sink that puts all behind a row; coder made.
-/
namespace Go.Proofs.Ytfoaaamcpknjnac
open Go.RowKit
set_option linter.unusedVariables false
set_option maxRecDepth 100000

theorem coder_any (b o rb len cap : Nat) (l : List Int) (w : World) (hl : l.length = len) (hlen : 1 ≤ len) (hb : b < w.heap.size) (hR : Row .i64 w b o l) (hG : Good l) :
    Calls Try.prog 76 #[.pointer (some ⟨rb, 0, none⟩), .slice (some ⟨b, o, none⟩) len cap] w fun e w' => ∃ gc gl gr, e = .returned (CV gc gl gr) ∧ CIs (fun g => w.heap.size ≤ g ∨ g = b) w' gc gl gr rb (some ⟨b, o, none⟩) len cap l ∧ Below w.heap.size w w' := by
  have HR := hide hR
  have HG := hide hG
  have HL := hide hl
  clear hR hG hl
  go_enter Try.func76, Try.ntmps76
  go_wp2_with fail
  refine (codes_ok (some ⟨b, o, none⟩) len cap l _ (unhide HL) (RowIn.alloc (RowIn.alloc (.inr ⟨b, o, rfl, hb, unhide HR⟩) _) _) (unhide HG)).mono ?_
  rintro e w1 ⟨g, rfl, hO, hB, hg⟩
  have hz := hB.size
  simp only [World.size_alloc] at hz hg
  have HF : Hid (CIs (fun g => w.heap.size ≤ g ∨ g = b) (w1.alloc (.cells #[.slice (some ⟨g, 0, none⟩) len len] 36)) w1.heap.size (w.heap.size + 1) w.heap.size rb (some ⟨b, o, none⟩) len cap l ∧ Below w.heap.size w (w1.alloc (.cells #[.slice (some ⟨g, 0, none⟩) len len] 36))) := by
    have b0 := (Below.refl w.heap.size w).alloc (Nat.le_refl _) (.cells #[.pointer (some ⟨rb, 0, none⟩)] 52)
    have b1 := b0.alloc (by simp) (.cells #[.slice (some ⟨b, o, none⟩) len cap] 36)
    have b2 := b1.trans (hB.mono (by simp; omega))
    have b3 := b2.alloc (by omega) (.cells #[.slice (some ⟨g, 0, none⟩) len len] 36)
    have hgl := (hO.lt g rfl).2
    refine ⟨⟨⟨g, b, o, rfl, ⟨by simp; omega, .inr rfl⟩, ⟨by simp; omega, .inl (by omega)⟩, by simp, fun j hj => (b3.cell (p := ⟨b, _, none⟩) hb).trans (unhide HR j hj), ?_⟩, ?_, ?_, ⟨by simp, .inl (by omega)⟩, ⟨by simp; omega, .inl (by omega)⟩, ⟨by simp; omega, .inl (by omega)⟩⟩, b3⟩
    · intro j hj
      rw [World.cell?_alloc_past _ _ _ (by simpa using hgl)]
      rw [hO.cellAt j (by omega)]
      have hc := codL_length l len
      have hcl : j < (codL l len).length := by rw [hc, unhide HL]; exact hj
      have := codL_at l (j := j) (by rw [unhide HL]; exact hj) len
      rw [if_pos hj] at this
      rw [← this]
      simp [i64s, List.getD, hcl]
    · rw [World.cell?_alloc_past _ _ _ (by show w.heap.size + 1 < _; omega), hB.cell (p := ⟨w.heap.size + 1, 0, none⟩) (by simp only [World.size_alloc]; omega)]
      simp
    · rw [World.cell?_alloc_past _ _ _ (by show w.heap.size < _; omega), hB.cell (p := ⟨w.heap.size, 0, none⟩) (by simp only [World.size_alloc]; omega)]
      simp
  clear hO hB hg
  go_wp2
  go_ret
  exact ⟨_, _, _, rfl, unhide HF⟩

set_option maxHeartbeats 1000000 in
theorem putter_any (b1 o1 n1 c1 b2 o2 n2 c2 rb : Nat) (l1 l2 : List Int) (w : World) (hl1 : l1.length = n1) (hl2 : l2.length = n2) (hn1 : 1 ≤ n1) (hn2 : 1 ≤ n2) (hb1 : b1 < w.heap.size) (hb2 : b2 < w.heap.size) (hR1 : Row .i64 w b1 o1 l1) (hR2 : Row .i64 w b2 o2 l2) (hG1 : Good l1) (hG2 : Good l2) :
    Calls Try.prog 56 #[.pointer (some ⟨rb, 0, none⟩), .slice (some ⟨b1, o1, none⟩) n1 c1, .slice (some ⟨b2, o2, none⟩) n2 c2] w fun e w' => ∃ gc gl gr hc hl hr, e = .returned (.agg #[CV gc gl gr, CV hc hl hr, .func (.func 34) #[.pointer (some ⟨rb, 0, none⟩)] #[]]) ∧ CIs (fun g => w.heap.size ≤ g ∨ g = b1 ∨ g = b2) w' gc gl gr rb (some ⟨b1, o1, none⟩) n1 c1 l1 ∧ CIs (fun g => w.heap.size ≤ g ∨ g = b1 ∨ g = b2) w' hc hl hr rb (some ⟨b2, o2, none⟩) n2 c2 l2 ∧ Below w.heap.size w w' := by
  obtain ⟨wz, hwz⟩ : ∃ wz, wz = w.heap.size := ⟨_, rfl⟩
  have H1 := hide (fun (W : World) (hB : Below w.heap.size w W) => coder_any b1 o1 rb n1 c1 l1 W hl1 hn1 (Nat.lt_of_lt_of_le hb1 hB.size) (fun j hj => (hB.cell (p := ⟨b1, _, none⟩) hb1).trans (hR1 j hj)) hG1)
  have H2 := hide (fun (W : World) (hB : Below w.heap.size w W) => coder_any b2 o2 rb n2 c2 l2 W hl2 hn2 (Nat.lt_of_lt_of_le hb2 hB.size) (fun j hj => (hB.cell (p := ⟨b2, _, none⟩) hb2).trans (hR2 j hj)) hG2)
  clear hR1 hR2 hG1 hG2
  go_enter Try.func56, Try.ntmps56
  go_wp2_with fail
  refine (unhide H1 _ ((Below.refl w.heap.size w).alloc (Nat.le_refl _) _)).mono ?_
  rintro e w1 ⟨gc, gl, gr, rfl, hC1, hB1⟩
  have hz1 := hB1.size
  simp only [World.size_alloc] at hz1
  have hBw1 : Below w.heap.size w w1 := ((Below.refl w.heap.size w).alloc (Nat.le_refl _) _).trans (hB1.mono (by simp))
  have HC1 := hide hC1
  have HB1 := hide hB1
  have HBw := hide hBw1
  clear hC1 hB1 hBw1
  go_wp2_with fail
  refine (unhide H2 _ (unhide HBw)).mono ?_
  rintro e w2 ⟨hc, hl, hr, rfl, hC2, hB2⟩
  have hz2 := hB2.size
  have hblk : w2.heap[w.heap.size]? = some (.cells #[.nilFunc, .nilFunc, .nilFunc] 110 (0, 0)) := by
    rw [hB2.block _ (by omega), (unhide HB1).block _ (by simp)]
    exact heap_alloc_new _ _
  have f0 := frozen_of_row w2 w.heap.size 0 _ _ hblk
  have f1 := frozen_of_row w2 w.heap.size 1 _ _ hblk
  have f2 := frozen_of_row w2 w.heap.size 2 _ _ hblk
  have c0 : w2.cell? ⟨w.heap.size, 0, none⟩ = some .nilFunc := heap_row hblk
  have c1' : w2.cell? ⟨w.heap.size, 1, none⟩ = some .nilFunc := heap_row hblk
  have c2' : w2.cell? ⟨w.heap.size, 2, none⟩ = some .nilFunc := heap_row hblk
  have HBLK := hide hblk
  have HC2 := hide hC2
  have HB2 := hide hB2
  have HFIN : Hid (∀ v3, (((w2.setCell ⟨w.heap.size, 0, none⟩ (CV gc gl gr)).setCell ⟨w.heap.size, 1, none⟩ (CV hc hl hr)).setCell ⟨w.heap.size, 2, none⟩ v3).heap[w.heap.size]? = some (.cells #[CV gc gl gr, CV hc hl hr, v3] 110 (0, 0)) ∧ CIs (fun g => w.heap.size ≤ g ∨ g = b1 ∨ g = b2) (((w2.setCell ⟨w.heap.size, 0, none⟩ (CV gc gl gr)).setCell ⟨w.heap.size, 1, none⟩ (CV hc hl hr)).setCell ⟨w.heap.size, 2, none⟩ v3) gc gl gr rb (some ⟨b1, o1, none⟩) n1 c1 l1 ∧ CIs (fun g => w.heap.size ≤ g ∨ g = b1 ∨ g = b2) (((w2.setCell ⟨w.heap.size, 0, none⟩ (CV gc gl gr)).setCell ⟨w.heap.size, 1, none⟩ (CV hc hl hr)).setCell ⟨w.heap.size, 2, none⟩ v3) hc hl hr rb (some ⟨b2, o2, none⟩) n2 c2 l2 ∧ Below w.heap.size w (((w2.setCell ⟨w.heap.size, 0, none⟩ (CV gc gl gr)).setCell ⟨w.heap.size, 1, none⟩ (CV hc hl hr)).setCell ⟨w.heap.size, 2, none⟩ v3)) := by
    intro v3
    have g1 := grown_setCell w2 w.heap.size 0 (CV gc gl gr)
    have g2 := grown_setCell (w2.setCell ⟨w.heap.size, 0, none⟩ (CV gc gl gr)) w.heap.size 1 (CV hc hl hr)
    have g3 := grown_setCell ((w2.setCell ⟨w.heap.size, 0, none⟩ (CV gc gl gr)).setCell ⟨w.heap.size, 1, none⟩ (CV hc hl hr)) w.heap.size 2 v3
    have gg := grown_trans (grown_trans g1 g2) g3
    have bw2 : Below w.heap.size w w2 := (unhide HBw).trans (hB2.mono (by omega))
    refine ⟨?_, ?_, ?_, bw2.grown gg (by omega) (fun j e => by rw [← Option.some.inj e]; exact Nat.le_refl _)⟩
    · rw [heap_setCell_same _ _ 2 _ _ _ (heap_setCell_same _ _ 1 _ _ _ (heap_setCell_same _ _ 0 _ _ _ hblk))]
      rfl
    · have k1 := (unhide HC1).keep (W' := w2) hz2 (fun g hg _ => hB2.block g hg)
      have k2 := k1.keep (W' := ((w2.setCell ⟨w.heap.size, 0, none⟩ (CV gc gl gr)).setCell ⟨w.heap.size, 1, none⟩ (CV hc hl hr)).setCell ⟨w.heap.size, 2, none⟩ v3) gg.size (fun g hg hb => gg.block g hg (fun e => by
        have e := Option.some.inj e
        simp only [World.size_alloc] at hb
        omega))
      exact k2.more (fun g hb => by simp only [World.size_alloc] at hb; omega)
    · have k2 := hC2.keep (W' := ((w2.setCell ⟨w.heap.size, 0, none⟩ (CV gc gl gr)).setCell ⟨w.heap.size, 1, none⟩ (CV hc hl hr)).setCell ⟨w.heap.size, 2, none⟩ v3) gg.size (fun g hg hb => gg.block g hg (fun e => by
        have e := Option.some.inj e
        omega))
      exact k2.more (fun g hb => by omega)
  clear hC2 hB2 hblk
  go_wp2
  obtain ⟨z1, z2, z3, z4⟩ := unhide HFIN (.func (.func 34) #[.pointer (some ⟨rb, 0, none⟩)] #[])
  refine bodyPost_ret (v := .agg #[CV gc gl gr, CV hc hl hr, .func (.func 34) #[.pointer (some ⟨rb, 0, none⟩)] #[]]) ?_ rfl ⟨gc, gl, gr, hc, hl, hr, rfl, z2, z3, z4⟩
  exact results_cell_row rfl _ _ _ _ _ _ _ rfl z1 Try.underlying110 rfl (by kernel_rfl)

/-- the sink that puts behind a row: what was put so far -/
structure PJ (Bx : Nat → Prop) (B rb : Nat) (S : List Bool) (l1 l2 : List Int) (gc gl gr hc hl hr b1 o1 n1 c1 b2 o2 n2 c2 : Nat) (No : Nat → Prop) (is : List It) (W : World) : Prop where
  row : RIs (fun g => No g ∨ Bx g) B W rb (S ++ putIs l1 l2 is)
  ca : CIs Bx W gc gl gr rb (some ⟨b1, o1, none⟩) n1 c1 l1
  cb : CIs Bx W hc hl hr rb (some ⟨b2, o2, none⟩) n2 c2 l2
  bl : ∀ g, Bx g → g < W.heap.size
theorem CIs.bound {Bx : Nat → Prop} {W : World} {gc gl gr rb : Nat} {a : Option Addr} {len cap : Nat} {l : List Int} (h : CIs Bx W gc gl gr rb a len cap l) : CIs (fun g => Bx g ∧ g < W.heap.size) W gc gl gr rb a len cap l := by
  obtain ⟨gk, b, o, h1, h2, h3, h4, h5, h6⟩ := h.ex
  exact ⟨⟨gk, b, o, h1, ⟨h2.1, h2.2, h2.1⟩, ⟨h3.1, h3.2, h3.1⟩, h4, h5, h6⟩, h.bl, h.br, ⟨h.bx.1.1, h.bx.1.2, h.bx.1.1⟩, ⟨h.bx.2.1.1, h.bx.2.1.2, h.bx.2.1.1⟩, ⟨h.bx.2.2.1, h.bx.2.2.2, h.bx.2.2.1⟩⟩
theorem enters_any {f : Nat} {fn : Func} {c : Code} (hf : Try.prog.funcs[f]? = some fn) (hname : (fn.name == "runtime.NumGoroutine") = false) (hb : fn.body = some c) : ∀ (args : Array Value) (w : World), (callFunc f args).run Try.prog w = .ok (.enter f args) w := enters_of hf hname hb
theorem code_len' (l : List Int) (hG : Good l) (q : Nat) (hq : q < l.length) : (codeT l q).length ≤ 15 := by rw [code_len l hG]; have := hG.ok q hq; omega
theorem putIs_len (l1 l2 : List Int) (hG1 : Good l1) (hG2 : Good l2) : ∀ is : List It, Has l1 l2 is → (∀ i ∈ is, VI i) → (putIs l1 l2 is).length ≤ 15 * is.length
  | [], _, _ => by simp [putIs]
  | i :: is, h, hv => by
    have ih := putIs_len l1 l2 hG1 hG2 is (Has.app (x := [i]) (y := is) h).2 (fun j hj => hv j (by simp [hj]))
    have e : putIs l1 l2 (i :: is) = putI l1 l2 i ++ putIs l1 l2 is := by simp [putIs]
    rw [e, List.length_append, List.length_cons]
    have : (putI l1 l2 i).length ≤ 15 := by
      cases i with
      | sym k => exact code_len' l1 hG1 k (h.1 k (by simp)).1
      | far k => exact code_len' l2 hG2 k (h.2 k (by simp)).1
      | rest n s =>
        have := (hv _ (by simp : It.rest n s ∈ _)).2
        show (numBits n s).length ≤ 15
        rw [numBits_length]; omega
    omega
theorem put_snk (Bx : Nat → Prop) (B rb : Nat) (S : List Bool) (l1 l2 : List Int) (gc gl gr hc hl hr b1 o1 n1 c1 b2 o2 n2 c2 : Nat) (all : List It) (hl1 : l1.length = n1) (hl2 : l2.length = n2) (hG1 : Good l1) (hG2 : Good l2) (hall : Has l1 l2 all) (hvi : ∀ i ∈ all, VI i) (hS : S.length + 15 * all.length ≤ 300000) :
    Snk (PJ Bx B rb S l1 l2 gc gl gr hc hl hr b1 o1 n1 c1 b2 o2 n2 c2) B 98 98 34 #[.pointer (some ⟨gc, 0, none⟩), .pointer (some ⟨gl, 0, none⟩), .pointer (some ⟨gr, 0, none⟩)] #[.pointer (some ⟨hc, 0, none⟩), .pointer (some ⟨hl, 0, none⟩), .pointer (some ⟨hr, 0, none⟩)] #[.pointer (some ⟨rb, 0, none⟩)] all := by
  have step : ∀ {No : Nat → Prop} {is R : List It} {i : It} {W W' : World}, is ++ i :: R = all → PJ Bx B rb S l1 l2 gc gl gr hc hl hr b1 o1 n1 c1 b2 o2 n2 c2 No is W → Rp (fun g => No g ∨ Bx g) B W rb (S ++ putIs l1 l2 is ++ putI l1 l2 i) W' → PJ Bx B rb S l1 l2 gc gl gr hc hl hr b1 o1 n1 c1 b2 o2 n2 c2 No (is ++ [i]) W' ∧ Below B W W' ∧ Kp No W W' := by
    intro No is R i W W' he hJ hR
    refine ⟨⟨?_, ?_, ?_, fun g h => Nat.lt_of_lt_of_le (hJ.bl g h) hR.below.size⟩, hR.below, hR.kp.weaken (fun g h => .inl h)⟩
    · have e : putIs l1 l2 (is ++ [i]) = putIs l1 l2 is ++ putI l1 l2 i := by rw [putIs_app]; simp [putIs]
      rw [e, ← List.append_assoc]
      exact hR.is
    · exact hJ.ca.keep hR.below.size (fun g hg hb => hR.kp g hg (.inr hb))
    · exact hJ.cb.keep hR.below.size (fun g hg hb => hR.kp g hg (.inr hb))
  have hlen : ∀ {is R : List It} {i : It}, is ++ i :: R = all → (S ++ putIs l1 l2 is).length ≤ 300000 := by
    intro is R i he
    have h1 : Has l1 l2 is := by rw [← he] at hall; exact hall.app.1
    have h2 : ∀ j ∈ is, VI j := fun j hj => hvi j (by rw [← he]; simp [hj])
    have h3 := putIs_len l1 l2 hG1 hG2 is h1 h2
    have h4 := congrArg List.length he
    rw [List.length_append, List.length_cons] at h4
    rw [List.length_append]
    omega
  refine ⟨enters_any Try.func98 (by kernel_rfl) rfl, enters_any Try.func98 (by kernel_rfl) rfl, enters_any Try.func34 (by kernel_rfl) rfl, ?_, ?_, ?_, ?_⟩
  · intro No No' is W W1 hJ hB hn
    refine ⟨hJ.row.grow hB (fun g e => ?_), hJ.ca.keep hB.size (fun g hg _ => hB.block g hg), hJ.cb.keep hB.size (fun g hg _ => hB.block g hg), fun g h => Nat.lt_of_lt_of_le (hJ.bl g h) hB.size⟩
    rcases e with e | e
    · rcases hn g e with h | h
      · exact .inl (.inl h)
      · exact .inr h
    · exact .inl (.inr e)
  · intro No is R k W he hJ hNo
    have hk := hall.1 k (by rw [← he]; simp)
    have := code_any Bx (fun g => No g ∨ Bx g) B gc gl gr rb (some ⟨b1, o1, none⟩) n1 c1 l1 k (S ++ putIs l1 l2 is) W hJ.ca hl1 hG1 (by omega) hk.2 hJ.row (hlen he) (fun g hg e => ?_)
    · refine this.mono ?_
      rintro e W' ⟨rfl, hR⟩
      exact ⟨rfl, step he hJ hR⟩
    · rcases e with e | e
      · exact hNo g hg e
      · have := hJ.bl g e; omega
  · intro No is R k W he hJ hNo
    have hk := hall.2 k (by rw [← he]; simp)
    have := code_any Bx (fun g => No g ∨ Bx g) B hc hl hr rb (some ⟨b2, o2, none⟩) n2 c2 l2 k (S ++ putIs l1 l2 is) W hJ.cb hl2 hG2 (by omega) hk.2 hJ.row (hlen he) (fun g hg e => ?_)
    · refine this.mono ?_
      rintro e W' ⟨rfl, hR⟩
      exact ⟨rfl, step he hJ hR⟩
    · rcases e with e | e
      · exact hNo g hg e
      · have := hJ.bl g e; omega
  · intro No is R n s W he hJ hNo
    have hv := hvi (.rest n s) (by rw [← he]; simp)
    have hs : s ≤ 10 := hv.2
    have hp : 2 ^ s ≤ 2 ^ 10 := Nat.pow_le_pow_right (by decide) hs
    have hn : n < 65536 := Nat.lt_of_lt_of_le (Nat.lt_of_lt_of_le hv.1 hp) (by decide)
    refine (rput_any (fun g => No g ∨ Bx g) B rb n s (S ++ putIs l1 l2 is) W hJ.row hn (by omega) (hlen he) (fun g hg e => ?_)).mono ?_
    · rcases e with e | e
      · exact hNo g hg e
      · have := hJ.bl g e; omega
    · rintro e W' ⟨rfl, hR⟩
      exact ⟨rfl, step he hJ hR⟩
end Go.Proofs.Ytfoaaamcpknjnac
