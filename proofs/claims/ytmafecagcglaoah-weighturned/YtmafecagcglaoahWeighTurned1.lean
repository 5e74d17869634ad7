/-
  The walk of the law WeighTurned.
-/
import Derived.Test.YtmafecagcglaoahWeighed
import Derived.Test.YtmafecagcglaoahWeighTurn
import Derived.Test.YtmafecagcglaoahSlc2
namespace Go.Proofs.Ytmafecagcglaoah
open Go.RowKit
set_option linter.unusedVariables false

set_option maxRecDepth 100000 in
theorem weighTurned_err (a : Option Addr) (len cap : Nat) (l : List Int) (most times : Int) (w : World) (hl : l.length = len) (hM : len ≤ 9223372036854775807) (hR : RowIn .i64 w a l) (he : errW l most ≠ 0) :
    Calls Try.prog 4 #[.slice a len cap, .int .i64 most, .int .i64 times] w fun e w' => e = .returned (.bool true) ∧ Below w.heap.size w w' := by
  have HL := hide (lengths_err a len cap l most w hl hM hR he)
  have hb : (errW l most != 0) = true := by rw [bne_iff_ne]; exact he
  clear hR he
  generalize errW l most = r at *
  go_enter Try.func4, Try.ntmps4
  go_wp2_with fail
  refine (unhide HL).mono ?_
  rintro e w1 ⟨rfl, rfl⟩
  go_wp2_with fail
  refine (weighed_any _).mono ?_
  rintro e w2 ⟨rfl, hB2⟩
  have HB2 := hide hB2
  clear hB2 HL
  go_wp2_with fail
  refine (weighed_any _).mono ?_
  rintro e w3 ⟨rfl, hB3⟩
  have HB3 := hide ((unhide HB2).trans (hB3.mono (unhide HB2).size))
  clear hB3
  go_wp2
  go_ret
  exact ⟨rfl, unhide HB3⟩

theorem mul_small {x t : Int} (hx : 0 ≤ x ∧ x ≤ 1000000) (ht : 0 < t ∧ t ≤ 5) : 0 ≤ x * t ∧ x * t ≤ 5000000 :=
  ⟨Int.mul_nonneg hx.1 (by omega), Int.le_trans (Int.mul_le_mul_of_nonneg_right hx.2 (by omega)) (by omega)⟩
/-- the first k are so many times as often -/
def MoreAt (l xs : List Int) (t : Int) (k : Nat) : Prop := xs.length = l.length ∧ ∀ j, j < l.length → xs.getD j 0 = if j < k then l.getD j 0 * t else l.getD j 0
theorem MoreAt.next {l xs : List Int} {t : Int} {k : Nat} (h : MoreAt l xs t k) (hk : k < l.length) : MoreAt l (xs.set k (l.getD k 0 * t)) t (k + 1) := by
  refine ⟨by simp [h.1], fun j hj => ?_⟩
  rw [getD_setI, h.1, h.2 j hj]
  by_cases e : k = j
  · subst e; rw [if_pos ⟨rfl, hk⟩, if_pos (by omega)]
  · rw [if_neg (fun h => e h.1)]
    by_cases h1 : j < k
    · rw [if_pos h1, if_pos (by omega)]
    · rw [if_neg h1, if_neg (by omega)]
theorem MoreAt.all {l xs : List Int} {t : Int} (h : MoreAt l xs t l.length) : xs = tms t l := by
  apply List.ext_getElem
  · rw [h.1, List.length_map]
  · intro j h1 h2
    have hj : j < l.length := by simpa using h2
    have e := h.2 j hj
    rw [if_pos hj] at e
    simpa [List.getD, h1, hj] using e

set_option maxHeartbeats 4000000 in
set_option maxRecDepth 100000 in
theorem weighTurned_ok (a : Option Addr) (len cap : Nat) (l : List Int) (m : Nat) (times : Int) (w : World) (hl : l.length = len) (hR : RowIn .i64 w a l) (hG : GoodW l m) :
    Calls Try.prog 4 #[.slice a len cap, .int .i64 m, .int .i64 times] w fun e w' => e = .returned (.bool true) ∧ Below w.heap.size w w' := by
  have hlen := hG.len
  have HG := hide hG
  have HA := hide hR.at_
  have HR := hide hR
  have HLn := hide (lengths_ok a len cap l m w hl hR hG)
  clear hR hG
  go_enter Try.func4, Try.ntmps4
  go_wp2_with fail
  refine (unhide HLn).mono ?_
  rintro e w1 ⟨g, s, rfl, hI, hsl, hWs, hB1, hg⟩
  have HI := hide hI
  have HSl := hide hsl
  have HB1 := hide hB1
  have HS1 := hide hWs.row
  have hz1 := hB1.size
  have hgl := hWs.lt
  have HR1 := hide ((unhide HR).below hB1 (Nat.le_refl _))
  clear hI hsl hWs hB1 HLn HR
  go_wp2_with fail
  refine (weighed_any _).mono ?_
  rintro e w2 ⟨rfl, hB2⟩
  have HB2 := hide ((unhide HB1).trans (hB2.mono (unhide HB1).size))
  have HS2 := hide ((unhide HS1).below hB2 (Nat.le_refl _))
  have HR2 := hide ((unhide HR1).below hB2 (Nat.le_refl _))
  have hz2 := hB2.size
  clear hB2 HB1 HS1 HR1
  go_wp2_with fail
  refine (at2_any times w2).mono ?_
  rintro e w2' ⟨t0, rfl, ht0, rfl⟩
  obtain ⟨t, ht⟩ : ∃ t : Int, t = 1 + (t0 : Int) := ⟨_, rfl⟩
  have hlt : 0 < t ∧ t ≤ 5 := by omega
  have HT := hide ht
  clear ht
  have HC1 := hide (clone_any a len cap l w2' hl (by omega) (unhide HR2))
  go_wp2_with fail
  refine (unhide HC1).mono ?_
  rintro e w3 ⟨a1, c1, rfl, hW1, hN1, hB3⟩
  have HB3 := hide ((unhide HB2).trans (hB3.mono (unhide HB2).size))
  have HS3 := hide ((unhide HS2).below hB3 (Nat.le_refl _))
  have HR3 := hide ((unhide HR2).below hB3 (Nat.le_refl _))
  have HRv := hide (reverse_any a1 len c1 l w3 hl (by omega) hW1)
  have HN1 := hide hN1
  have hz3 := hB3.size
  clear hW1 hN1 hB3 HB2 HS2 HR2 HC1
  go_wp2_with fail
  refine (unhide HRv).mono ?_
  rintro e w4 ⟨rfl, hW1, hg4⟩
  have hz4 := hg4.size
  have hr4 := (unhide HN1).of
  have HB4 : Hid (Below w.heap.size w w4) := (unhide HB3).grown hg4 (unhide HB3).size (fun k hk => by have := hr4 k hk; omega)
  have HS4 : Hid (RowIn .i64 w4 (some ⟨g, 0, none⟩) s) := (unhide HS3).keep (B := w2'.heap.size) (fun p hp => by cases hp; exact .inr (by simp; omega)) hg4 hr4
  have HR4 : Hid (RowIn .i64 w4 a l) := (unhide HR3).keep (B := w2'.heap.size) (fun p hp => (unhide HA p hp).imp id (fun h => by omega)) hg4 hr4
  have HW4 := hide hW1
  have HA1 : Hid (∀ p, a1 = some p → l.reverse = [] ∨ p.block < w4.heap.size) := hW1.at_
  have HC2 := hide (clone_any a len cap l w4 hl (by omega) (unhide HR4))
  clear hW1 hg4 hr4 HB3 HS3 HR3 HRv
  go_wp2_with fail
  refine (unhide HC2).mono ?_
  rintro e w5 ⟨a2, c2, rfl, hW2, hN2, hB5⟩
  have HB5 := hide ((unhide HB4).trans (hB5.mono (unhide HB4).size))
  have HS5 := hide ((unhide HS4).below hB5 (Nat.le_refl _))
  have HR5 := hide ((unhide HR4).below hB5 (Nat.le_refl _))
  have HW5 := hide ((unhide HW4).below hB5)
  have HM5 := hide hW2
  have HN2 := hide hN2
  have hz5 := hB5.size
  have HML : Hid (MoreAt l l t 0) := ⟨rfl, fun j hj => by rw [if_neg (by omega)]⟩
  clear hW2 hN2 hB5 HB4 HS4 HR4 HW4 HC2
  go_wp2_with fail
  rw [← unhide HT]
  go_wp2
  go_loopw [11, 43] (fun _ vi wr => ∃ (k : Nat) (xs : List Int), k ≤ len ∧ vi = .int .i64 k ∧ MoreAt l xs t k ∧ WIn wr a2 xs ∧ w5.grownBy wr (a2.map (·.block))) (fun _ vi _ => len - (intOf vi).toNat)
  case atStart => exact ⟨0, l, Nat.zero_le _, rfl, unhide HML, unhide HM5, grown_refl _ _⟩
  case round =>
    obtain ⟨k, xs, hk, rfl, hMo, hWx, hgx⟩ := hrel
    have HMo := hide hMo
    have HWx := hide hWx
    have HGx := hide hgx
    by_cases hkl : k < len
    · have hlk : k < l.length := by omega
      obtain ⟨g2, rfl, hWr⟩ : ∃ g, a2 = some ⟨g, 0, none⟩ ∧ WRow wr g xs := by
        rcases hWx with h | h
        · have := hMo.1; rw [h] at this; simp at this; omega
        · exact h
      have hxl : xs.length = len := by rw [hMo.1, hl]
      have c1 := (hWr.at_ k (by omega)).1
      have f1 := (hWr.at_ k (by omega)).2
      have hxk := hMo.2 k hlk
      rw [if_neg (by omega)] at hxk
      rw [hxk] at c1
      have hb := mul_small ((unhide HG).ok k hlk) hlt
      have HN := hide (hMo.next hlk)
      have HWS := hide (hWr.set k (by omega) (l.getD k 0 * t))
      have HGS := hide (grown_trans hgx (grown_setCell wr g2 k (.int .i64 (l.getD k 0 * t))))
      clear hMo hWx hgx hWr hxk hxl
      generalize l.getD k 0 = x at *
      go_wp2
      go_roundw
      case rel => exact ⟨k + 1, _, by omega, by go_num, unhide HN, .inr ⟨g2, rfl, unhide HWS⟩, unhide HGS⟩
      case measure => simp [intOf]; omega
    · obtain rfl : k = len := by omega
      have hxs : xs = tms t l := by rw [← hl] at hMo; exact hMo.all
      subst hxs
      have hr5 := (unhide HN2).of
      have HBr : Hid (Below w.heap.size w wr) := (unhide HB5).grown hgx (unhide HB5).size (fun k hk => by have := hr5 k hk; omega)
      have HSr : Hid (RowIn .i64 wr (some ⟨g, 0, none⟩) s) := (unhide HS5).keep (B := w4.heap.size) (fun p hp => by cases hp; exact .inr (by simp; omega)) hgx hr5
      have HRr : Hid (RowIn .i64 wr a l) := (unhide HR5).keep (B := w4.heap.size) (fun p hp => (unhide HA p hp).imp id (fun h => by omega)) hgx hr5
      have HTr : Hid (RowIn .i64 wr a1 l.reverse) := ((unhide HW5).keep (B := w4.heap.size) (unhide HA1) hgx hr5).row
      have HMr := hide (unhide HWx).row
      clear hMo hWx hgx hr5 HB5 HS5 HR5 HW5 HM5 HWx HGx HMo
      have HL2 := hide (lengths_ok a1 k c1 l.reverse m wr (by rw [List.length_reverse, hl]) (unhide HTr) (unhide HG).turned)
      go_wp2_with fail
      refine (unhide HL2).mono ?_
      rintro e w6 ⟨g6, s6, rfl, hI6, hs6, hW6, hB6, hg6⟩
      have HI6 := hide hI6
      have HB6 := hide ((unhide HBr).trans (hB6.mono (unhide HBr).size))
      have HS6 := hide ((unhide HSr).below hB6 (Nat.le_refl _))
      have HR6 := hide ((unhide HRr).below hB6 (Nat.le_refl _))
      have HT6 := hide ((unhide HTr).below hB6 (Nat.le_refl _))
      have HM6 := hide ((unhide HMr).below hB6 (Nat.le_refl _))
      have HX6 := hide hW6.row
      have HY6 := hide hs6
      have hz6 := hB6.size
      -- the two costs
      have hC1 := cost_any a (some ⟨g, 0, none⟩) k cap k k l s w6 hl (unhide HSl) (by omega) (by omega) (unhide HR6) (unhide HS6)
      rw [errC_lens (unhide HG) (unhide HI), if_pos rfl] at hC1
      have hC2 := cost_any a1 (some ⟨g6, 0, none⟩) k c1 k k l.reverse s6 w6 (by rw [List.length_reverse, hl]) hs6 (by omega) (by omega) (unhide HT6) (unhide HX6)
      rw [errC_lens (unhide HG).turned hI6, if_pos rfl, ← cost_turned (unhide HG) (unhide HI) hI6] at hC2
      have hbnd := costK_le l s (unhide HG).ok (fun j hj => by
        obtain ⟨P, hP, rfl⟩ := unhide HI
        have := lens_ok (unhide HG) hP j
        have h15 := (unhide HG).hi
        omega) l.length (Nat.le_refl _)
      obtain ⟨c, hc⟩ : ∃ c, costK l s l.length = c := ⟨_, rfl⟩
      rw [hc] at hC1 hC2 hbnd
      have HC1 := hide hC1
      have HC2 := hide hC2
      have HCc := hide hc
      clear hI6 hs6 hW6 hB6 hC1 hC2 hc HL2 HBr HSr HRr HTr HMr
      go_wp2_with fail
      refine (unhide HC1).mono ?_
      rintro e w7 ⟨rfl, rfl⟩
      go_wp2_with fail
      refine (unhide HC2).mono ?_
      rintro e w8 ⟨rfl, rfl⟩
      clear HC1 HC2
      have hcc : (c != c) = false := by simp
      have hcb : 0 ≤ t * c ∧ t * c ≤ 5 * 4320000000 := ⟨Int.mul_nonneg (by omega) hbnd.1, Int.le_trans (Int.mul_le_mul_of_nonneg_right hlt.2 hbnd.1) (Int.mul_le_mul_of_nonneg_left (by omega) (by decide))⟩
      have hml : (tms t l).length = k := by rw [List.length_map, hl]
      rcases errW_tms hlt.1 (unhide HG) with hGm | ⟨hEm, j, hj, hjx⟩
      · have HL9 := hide (lengths_ok a2 k c2 (tms t l) m w8 hml (unhide HM6) hGm)
        have HGm := hide hGm
        clear hGm
        go_wp2_with fail
        refine (unhide HL9).mono ?_
        rintro e w9 ⟨g9, s9, rfl, hI9, hs9, hW9, hB9, hg9⟩
        have hC9 := cost_any a2 (some ⟨g9, 0, none⟩) k c2 k k (tms t l) s9 w9 hml hs9 (by omega) (by omega) ((unhide HM6).below hB9 (Nat.le_refl _)) hW9.row
        rw [errC_lens (unhide HGm) hI9, if_pos rfl, cost_tms hlt.1 (unhide HI) hI9, unhide HCc] at hC9
        have HC9 := hide hC9
        have HB9 := hide ((unhide HB6).trans (hB9.mono (unhide HB6).size))
        clear hI9 hs9 hW9 hB9 hC9 HL9
        go_wp2_with fail
        refine (unhide HC9).mono ?_
        rintro e w10 ⟨rfl, rfl⟩
        have hcm : (t * c == t * c) = true := by simp
        clear HC9
        go_wp2
        go_ret
        exact ⟨rfl, unhide HB9⟩
      · have hL9 := lengths_err a2 k c2 (tms t l) m w8 hml (by omega) (unhide HM6) (by rw [hEm]; decide)
        rw [hEm] at hL9
        have HL9 := hide hL9
        have HMx := hide (max_any a2 k c2 (tms t l) w8 hml (by omega) (by omega) (unhide HM6))
        have HJ := hide hjx
        clear hL9 hEm hjx
        go_wp2_with fail
        refine (unhide HL9).mono ?_
        rintro e w9 ⟨rfl, rfl⟩
        go_wp2_with fail
        refine (unhide HMx).mono ?_
        rintro e w10 ⟨M, rfl, hM, _, rfl⟩
        have hMM : 1000000 < M := by have h1 := hM j (by omega); have h2 := unhide HJ; omega
        clear hM HL9 HMx
        go_wp2
        go_ret
        exact ⟨rfl, unhide HB6⟩
end Go.Proofs.Ytmafecagcglaoah
