/-
  The walk of the law WeighLengths, where Lengths tells none.
-/
import Derived.Test.YtmafecagcglaoabWeighLengths0
namespace Go.Proofs.Ytmafecagcglaoab
open Go.RowKit
set_option linter.unusedVariables false

set_option maxHeartbeats 8000000 in
set_option maxRecDepth 100000 in
theorem weighLengths_ok (a : Option Addr) (len cap : Nat) (l : List Int) (m : Nat) (a2 : Option Addr) (n2 c2 : Nat) (o : List Int) (w : World) (hl : l.length = len) (hR : RowIn .i64 w a l) (hG : GoodW l m) (hl2 : o.length = n2) (hM2 : n2 ≤ 9223372036854775807) (hR2 : RowIn .i64 w a2 o) :
    Calls Try.prog 5 #[.slice a len cap, .int .i64 m, .slice a2 n2 c2] w fun e w' => e = .returned (.bool true) ∧ Below w.heap.size w w' := by
  have hlen := hG.len
  have hm1 := hG.lo
  have hm15 := hG.hi
  have HLn := hide (lengths_ok a len cap l m w hl hR hG)
  have HR := hide hR
  have HO := hide hR2
  have HG := hide hG
  clear hR hR2 hG
  go_enter Try.func5, Try.ntmps5
  go_wp2_with fail
  refine (unhide HLn).mono ?_
  rintro e w1 ⟨g, s, rfl, hI, hsl, hWs, hB1, hg⟩
  have HB1 := hide hB1
  have HR1 := hide ((unhide HR).below hB1 (Nat.le_refl _))
  have HO1 := hide ((unhide HO).below hB1 (Nat.le_refl _))
  have HS1 := hide hWs
  have HSl := hide hsl
  obtain ⟨nw, hnw⟩ : ∃ nw, nw = (wpl l l.length).length := ⟨_, rfl⟩
  have HNw := hide hnw
  have HLk : Hid (∀ j, 0 ≤ s.getD j 0 ∧ s.getD j 0 ≤ m ∧ (0 < s.getD j 0 ↔ (j < l.length ∧ 0 < l.getD j 0))) := by
    obtain ⟨P, hP, rfl⟩ := hI
    intro j
    have h := lens_ok (unhide HG) hP j
    exact ⟨h.1, h.2.1, h.2.2.trans (hP.mem j)⟩
  have HLs : Hid (costK l s l.length = least (srt (pos l)) m) := by
    obtain ⟨P, hP, rfl⟩ := hI
    unfold Hid
    rw [cost_lens (unhide HG) hP, srt_is hP]
  have HN1 : Hid (nw = 1 → (∀ j, s.getD j 0 ≤ 1) ∧ ∃ p, p < l.length ∧ s.getD p 0 = 1) := by
    obtain ⟨P, hP, rfl⟩ := hI
    intro h
    exact lens_one hP (by rw [hP.length]; omega)
  have HN2 : Hid (2 ≤ nw → takenN (cnt s) 15 = 32768) := by
    obtain ⟨P, hP, rfl⟩ := hI
    intro h
    exact room_lens (unhide HG) hP (by rw [hP.length]; omega)
  have hWn := wanted_any a len cap l m w1 hl (by omega) (unhide HR1)
  rw [good_errW (unhide HG), if_pos rfl, ← hl, ← hnw, hl] at hWn
  have HWn0 := hide hWn
  clear hI hsl hWs hB1 HLn HR HO hnw hWn
  obtain ⟨ce, hce⟩ : ∃ ce, ce = (if errC l o = 0 then costK l o l.length else 0) := ⟨_, rfl⟩
  obtain ⟨f, hf⟩ : ∃ f, f = errC l o := ⟨_, rfl⟩
  have hC := cost_any a a2 len cap n2 c2 l o w1 hl hl2 (by omega) (by omega) (unhide HR1) (unhide HO1)
  rw [← hce, ← hf] at hC
  have HC := hide hC
  have HCe := hide hce
  have HF := hide hf
  clear hC hce hf
  go_wp2_with fail
  refine (unhide HC).mono ?_
  rintro e w2 ⟨rfl, hw2⟩
  obtain rfl := hw2.symm
  clear HC hw2
  have HWn := HWn0
  clear HWn0
  go_wp2_with fail
  refine (unhide HWn).mono ?_
  rintro e w3 ⟨rfl, hw3⟩
  obtain rfl := hw3.symm
  clear HWn hw3
  go_wp2_with fail
  refine (weighed_any _).mono ?_
  rintro e w4 ⟨rfl, hB4⟩
  have HB4 := hide ((unhide HB1).trans (hB4.mono (unhide HB1).size))
  have HR4 := hide ((unhide HR1).below hB4 (Nat.le_refl _))
  have HO4 := hide ((unhide HO1).below hB4 (Nat.le_refl _))
  have HS4 := hide ((unhide HS1).below hB4 (unhide HS1).lt)
  clear HS1
  have HW5 := hide (wanted_any a len cap l 15 w4 hl (by omega) (unhide HR4))
  clear hB4 HB1 HR1 HO1
  obtain ⟨n15, hn15⟩ : ∃ n15, n15 = (if errW l 15 = 0 then ((wpl l len).length : Int) else 0) := ⟨_, rfl⟩
  obtain ⟨e15, he15⟩ : ∃ e15, e15 = errW l 15 := ⟨_, rfl⟩
  rw [← hn15, ← he15] at HW5
  have HE15 := hide he15
  clear hn15 he15
  go_wp2_with fail
  refine (unhide HW5).mono ?_
  rintro e w5 ⟨rfl, hw5⟩
  obtain rfl := hw5.symm
  clear HW5 hw5
  by_cases hn : len = n2
  case' pos =>
    have hnb : ((len : Int) != (n2 : Int)) = false := by rw [hn]; simp
    have HS0 : Hid (LSt l o 0 e15 0) := by
      by_cases h : errW l 15 = 0
      · exact .inr ⟨by rw [unhide HE15, h], by omega, h, fun j hj => by omega, rfl, by simp, by simp⟩
      · refine .inl ⟨by rw [unhide HE15]; exact h, ?_⟩
        rw [unhide HE15]
        unfold errC
        rw [if_neg (by omega), if_pos h]
    have HNe := hide (True.intro)
  case' neg =>
    have hnb : ((len : Int) != (n2 : Int)) = true := by rw [bne_iff_ne]; omega
    have HS0 : Hid (LSt l o 0 4 0) := .inl ⟨by decide, by unfold errC; rw [if_pos (by omega)]⟩
    have HNe := hide (True.intro)
  all_goals
    clear hn
    go_wp2
    go_loopw [14, 15, 16] (fun vs va vi wr => ∃ (k : Nat) (sd al : Int), k ≤ len ∧ vi = .int .i64 k ∧ vs = .int .i64 sd ∧ va = .int .i64 al ∧ LSt l o k sd al ∧ ∃ q, wr = w4.drewN q) (fun _ _ vi _ => len - (intOf vi).toNat)
    case atStart => exact ⟨0, _, 0, Nat.zero_le _, rfl, rfl, rfl, unhide HS0, 0, rfl⟩
    case round =>
      obtain ⟨k, sd, al, hk, rfl, rfl, rfl, hLS, q, hwq⟩ := hrel
      have HBr : Hid (Below w.heap.size w wr) := by rw [hwq]; exact below_drewN (unhide HB4) q
      have HRr : Hid (RowIn .i64 wr a l) := by rw [hwq]; exact HR4
      have HOr : Hid (RowIn .i64 wr a2 o) := by rw [hwq]; exact HO4
      have HSr : Hid (WRow wr g s) := by rw [hwq]; exact ⟨(unhide HS4).lt, (unhide HS4).at_⟩
      have HWq := hide hwq
      clear hwq HS0
      rcases hLS with ⟨h1, h2⟩ | ⟨h1, h2, h3, h4, h5, h6, h7⟩
      · have hsf : sd = f := by rw [h2, unhide HF]
        have hce0 : ce = 0 := by rw [unhide HCe, if_neg (by rw [← h2]; exact h1)]
        subst hsf
        subst hce0
        have g1 : (sd == 0) = false := by rw [beq_eq_false_iff_ne]; exact h1
        have g2 : (sd != sd) = false := by simp
        have g3 : (sd != 0) = true := by rw [bne_iff_ne]; exact h1
        clear h1 h2
        go_wp2
        go_loop [17, 18, 19, 138] (fun vc _ _ vi => ∃ j : Nat, j ≤ len ∧ vi = .int .i64 j ∧ vc = .int .i64 (costK l s j) ∧ 0 ≤ costK l s j ∧ costK l s j ≤ 15000000 * j) (fun _ _ _ vi => len - (intOf vi).toNat)
        case atStart => exact ⟨0, Nat.zero_le _, rfl, rfl, by simp [costK], by simp [costK]⟩
        case round =>
          obtain ⟨j, hj, rfl, rfl, hc1, hc2⟩ := hrel
          by_cases hjl : j < len
          · have hlj : j < l.length := by omega
            obtain ⟨b, ob, hae, hb, hRw⟩ : ∃ b o, a = some ⟨b, o, none⟩ ∧ b < wr.heap.size ∧ Row .i64 wr b o l := by
              rcases unhide HRr with h | h
              · rw [h] at hlj; simp at hlj
              · exact h
            subst hae
            have d1 := hRw j hlj
            have d2 := ((unhide HSr).at_ j (by rw [unhide HSl]; exact hjl)).1
            have hxl := (unhide HG).ok j hlj
            have hxs := unhide HLk j
            have HU : Hid (costK l s (j + 1) = costK l s j + l.getD j 0 * s.getD j 0) := rfl
            clear hRw
            have hiff : 0 < s.getD j 0 ↔ 0 < l.getD j 0 := hxs.2.2.trans ⟨fun h => h.2, fun h => ⟨hlj, h⟩⟩
            generalize l.getD j 0 = x at *
            generalize s.getD j 0 = y at *
            generalize costK l s j = cu at *
            obtain ⟨hx1, hx2⟩ := hxl
            obtain ⟨hy1, hy2, _⟩ := hxs
            have m1 : 0 ≤ y * x := Int.mul_nonneg hy1 hx1
            have m2 : y * x ≤ 15 * 1000000 := Int.le_trans (Int.mul_le_mul_of_nonneg_right (show y ≤ 15 by omega) hx1) (Int.mul_le_mul_of_nonneg_left hx2 (by decide))
            have HCm : Hid (x * y = y * x) := Int.mul_comm x y
            rw [unhide HCm] at HU
            have hmy : ¬ (m : Int) < y := by omega
            have hjI : (j : Int) < (len : Int) := by omega
            by_cases hx0 : 0 < x
            · have hy0 : 0 < y := hiff.2 hx0
              clear hiff
              go_wp2
              go_round
              case rel => exact ⟨j + 1, by omega, by go_num, by first | (rw [unhide HU]; go_num) | rw [unhide HU], by rw [unhide HU]; omega, by rw [unhide HU]; omega⟩
              case measure => simp [intOf]; omega
            · have hy0 : ¬ 0 < y := fun h => hx0 (hiff.1 h)
              have hyz : y = 0 := by omega
              clear hiff
              subst hyz
              go_wp2
              go_round
              case rel => exact ⟨j + 1, by omega, by go_num, by first | (rw [unhide HU]; go_num) | (rw [unhide HU]; simp), by rw [unhide HU]; omega, by rw [unhide HU]; omega⟩
              case measure => simp [intOf]; omega
          · obtain rfl : j = len := by omega
            have HLe := hide (least_any a j cap l m wr hl (unhide HRr) (unhide HG) (costK l s j) (by rw [← hl]; exact unhide HLs))
            have hcc : (costK l s j == costK l s j) = true := by simp
            by_cases hn1 : nw = 1
            · have HMx := hide (max_any (some ⟨g, 0, none⟩) j j s wr (unhide HSl) (by have := unhide HNw; have := wpl_le l l.length; omega) (by omega) (unhide HSr).row)
              have HOne := hide (unhide HN1 hn1)
              subst hn1
              generalize costK l s j = cu at *
              go_wp2_with fail
              refine (unhide HMx).mono ?_
              rintro e w9 ⟨M, rfl, hMa, ⟨j2, hj2, hMe⟩, rfl⟩
              have hM1 : M = 1 := by
                obtain ⟨ho1, p, hp, ho2⟩ := unhide HOne
                have h1 := hMa p (by omega)
                have h2 := ho1 j2
                omega
              subst hM1
              clear hMa hMe HMx
              go_wp2_with fail
              refine (unhide HLe).mono ?_
              rintro e w10 ⟨rfl, hB10⟩
              have HB10 := hide ((unhide HBr).trans (hB10.mono (unhide HBr).size))
              clear hB10 HLe
              go_wp2
              go_ret
              exact ⟨rfl, unhide HB10⟩
            · have hn1b : ((nw : Int) == 1) = false := by rw [beq_eq_false_iff_ne]; omega
              by_cases hn2 : 1 < nw
              · have hRm := room_any (some ⟨g, 0, none⟩) j j s wr (unhide HSl) (by omega) (unhide HSr).row (fun i _ => by have := unhide HLk i; omega)
                rw [unhide HN2 (by omega)] at hRm
                have HRm := hide hRm
                have hn2I : (1 : Int) < (nw : Int) := by omega
                clear hRm
                generalize costK l s j = cu at *
                go_wp2_with fail
                refine (unhide HRm).mono ?_
                rintro e w9 ⟨rfl, rfl⟩
                go_wp2_with fail
                refine (unhide HLe).mono ?_
                rintro e w10 ⟨rfl, hB10⟩
                have HB10 := hide ((unhide HBr).trans (hB10.mono (unhide HBr).size))
                clear hB10 HLe HRm
                go_wp2
                go_ret
                exact ⟨rfl, unhide HB10⟩
              · have hn2I : ¬ (1 : Int) < (nw : Int) := by omega
                generalize costK l s j = cu at *
                go_wp2_with fail
                refine (unhide HLe).mono ?_
                rintro e w10 ⟨rfl, hB10⟩
                have HB10 := hide ((unhide HBr).trans (hB10.mono (unhide HBr).size))
                clear hB10 HLe
                go_wp2
                go_ret
                exact ⟨rfl, unhide HB10⟩
      · subst h1
        by_cases hlt : k < len
        · have hlk : k < l.length := by omega
          have hok : k < o.length := by omega
          obtain ⟨b, ob, rfl, hb, hRw⟩ : ∃ b o, a = some ⟨b, o, none⟩ ∧ b < wr.heap.size ∧ Row .i64 wr b o l := by
            rcases unhide HRr with rfl | h
            · simp at hlk
            · exact h
          obtain ⟨b2, ob2, rfl, hb2, hRw2⟩ : ∃ b o', a2 = some ⟨b, o', none⟩ ∧ b < wr.heap.size ∧ Row .i64 wr b o' o := by
            rcases unhide HOr with rfl | h
            · simp at hok
            · exact h
          have d1 := hRw k hlk
          have d2 := hRw2 k hok
          have hG15 := (errW_good h3)
          obtain ⟨m15, _, hG15⟩ := hG15
          have hxb := hG15.ok k hlk
          have hl288 := hG15.len
          have HU : Hid (costK l o (k + 1) = costK l o k + l.getD k 0 * o.getD k 0) := rfl
          have HBad := hide (fun h => errC_bad h2 h3 hlk h)
          have HOk := hide h4
          have H2 := hide h2
          have H3 := hide h3
          have HLal := hide h5
          have hkn : (k : Int) < (n2 : Int) := by omega
          clear hRw hRw2 hG15 h2 h3 h4 h5
          cases hc : okC (l.getD k 0) (o.getD k 0) with
          | true =>
            have hc' := of_decide_eq_true hc
            have HStep : Hid (∀ j, j < k + 1 → okC (l.getD j 0) (o.getD j 0) = true) := fun j hj => by
              by_cases e : j = k
              · rw [e]; exact hc
              · exact unhide HOk j (by omega)
            generalize l.getD k 0 = x at *
            generalize o.getD k 0 = y at *
            obtain ⟨hx1, hx2⟩ := hxb
            obtain ⟨hy1, hy2, hy3⟩ := hc'
            have m1 : 0 ≤ x * y := Int.mul_nonneg hx1 hy1
            have m2 : x * y ≤ 1000000 * 15 := Int.le_trans (Int.mul_le_mul_of_nonneg_right hx2 hy1) (Int.mul_le_mul_of_nonneg_left hy2 (by decide))
            have rs1 : IntKind.i64.wrap (x * y) = x * y := by rw [IntKind.wrap_i64]; omega
            have rs2 : IntKind.i64.wrap (al + x * y) = al + x * y := by rw [IntKind.wrap_i64]; omega
            have hkl : (k : Int) < (len : Int) := by omega
            clear hc
            by_cases hx0 : 0 < x
            · have hyb : (y == 0) = false := by rw [beq_eq_false_iff_ne]; exact fun h => hy3 h hx0
              clear hy3
              go_wp2_with fail
              go_quiet (fail)
              go_wp2
              go_roundw
              case rel => exact ⟨k + 1, 0, _, by omega, by go_num, rfl, rfl, .inr ⟨rfl, unhide H2, unhide H3, unhide HStep, by rw [unhide HU, ← unhide HLal], by omega, by omega⟩, _, by rw [unhide HWq, World.drewN_drewN]⟩
              case measure => simp [intOf]; omega
            · clear hy3
              go_wp2_with fail
              go_quiet (fail)
              go_wp2
              go_roundw
              case rel => exact ⟨k + 1, 0, _, by omega, by go_num, rfl, rfl, .inr ⟨rfl, unhide H2, unhide H3, unhide HStep, by rw [unhide HU, ← unhide HLal], by omega, by omega⟩, _, by rw [unhide HWq, World.drewN_drewN]⟩
              case measure => simp [intOf]; omega
          | false =>
            have hno := of_decide_eq_false hc
            have HE3 := hide (unhide HBad hc)
            generalize l.getD k 0 = x at *
            generalize o.getD k 0 = y at *
            have hway : y < 0 ∨ 15 < y ∨ (y = 0 ∧ 0 < x) := by
              by_cases h1 : y < 0
              · exact .inl h1
              · by_cases h2 : 15 < y
                · exact .inr (.inl h2)
                · by_cases h3 : y = 0 ∧ 0 < x
                  · exact .inr (.inr h3)
                  · exact absurd ⟨by omega, by omega, fun h4 h5 => h3 ⟨h4, h5⟩⟩ hno
            have hkl : (k : Int) < (len : Int) := by omega
            clear hno hc HBad
            rcases hway with h1 | h1 | ⟨h1, h2⟩
            · go_wp2
              go_roundw
              case rel => exact ⟨k + 1, 3, _, by omega, by go_num, rfl, rfl, .inl ⟨by decide, (unhide HE3).symm⟩, q, unhide HWq⟩
              case measure => simp [intOf]; omega
            · have h0 : ¬ y < 0 := by omega
              go_wp2
              go_roundw
              case rel => exact ⟨k + 1, 3, _, by omega, by go_num, rfl, rfl, .inl ⟨by decide, (unhide HE3).symm⟩, q, unhide HWq⟩
              case measure => simp [intOf]; omega
            · subst h1
              go_wp2
              go_roundw
              case rel => exact ⟨k + 1, 3, _, by omega, by go_num, rfl, rfl, .inl ⟨by decide, (unhide HE3).symm⟩, q, unhide HWq⟩
              case measure => simp [intOf]; omega
        · obtain rfl : len = k := by omega
          have hE0 : errC l o = 0 := errC_all h2 h3 (fun j hj => h4 j (by omega))
          have hf0 : f = 0 := by rw [unhide HF, hE0]
          have hca : ce = al := by rw [unhide HCe, if_pos hE0, h5, hl]
          subst hf0
          subst hca
          have g2 : (ce != ce) = false := by simp
          clear h2 h3 h4 h5 hE0
          go_wp2
          go_loop [17, 18, 19, 138] (fun vc _ _ vi => ∃ j : Nat, j ≤ len ∧ vi = .int .i64 j ∧ vc = .int .i64 (costK l s j) ∧ 0 ≤ costK l s j ∧ costK l s j ≤ 15000000 * j) (fun _ _ _ vi => len - (intOf vi).toNat)
          case atStart => exact ⟨0, Nat.zero_le _, rfl, rfl, by simp [costK], by simp [costK]⟩
          case round =>
            obtain ⟨j, hj, rfl, rfl, hc1, hc2⟩ := hrel
            by_cases hjl : j < len
            · have hlj : j < l.length := by omega
              obtain ⟨b, ob, hae, hb, hRw⟩ : ∃ b o, a = some ⟨b, o, none⟩ ∧ b < wr.heap.size ∧ Row .i64 wr b o l := by
                rcases unhide HRr with h | h
                · rw [h] at hlj; simp at hlj
                · exact h
              subst hae
              have d1 := hRw j hlj
              have d2 := ((unhide HSr).at_ j (by rw [unhide HSl]; exact hjl)).1
              have hxl := (unhide HG).ok j hlj
              have hxs := unhide HLk j
              have HU : Hid (costK l s (j + 1) = costK l s j + l.getD j 0 * s.getD j 0) := rfl
              clear hRw
              have hiff : 0 < s.getD j 0 ↔ 0 < l.getD j 0 := hxs.2.2.trans ⟨fun h => h.2, fun h => ⟨hlj, h⟩⟩
              generalize l.getD j 0 = x at *
              generalize s.getD j 0 = y at *
              generalize costK l s j = cu at *
              obtain ⟨hx1, hx2⟩ := hxl
              obtain ⟨hy1, hy2, _⟩ := hxs
              have m1 : 0 ≤ y * x := Int.mul_nonneg hy1 hx1
              have m2 : y * x ≤ 15 * 1000000 := Int.le_trans (Int.mul_le_mul_of_nonneg_right (show y ≤ 15 by omega) hx1) (Int.mul_le_mul_of_nonneg_left hx2 (by decide))
              have HCm : Hid (x * y = y * x) := Int.mul_comm x y
              rw [unhide HCm] at HU
              have hmy : ¬ (m : Int) < y := by omega
              have hjI : (j : Int) < (len : Int) := by omega
              by_cases hx0 : 0 < x
              · have hy0 : 0 < y := hiff.2 hx0
                clear hiff
                go_wp2
                go_round
                case rel => exact ⟨j + 1, by omega, by go_num, by first | (rw [unhide HU]; go_num) | rw [unhide HU], by rw [unhide HU]; omega, by rw [unhide HU]; omega⟩
                case measure => simp [intOf]; omega
              · have hy0 : ¬ 0 < y := fun h => hx0 (hiff.1 h)
                have hyz : y = 0 := by omega
                clear hiff
                subst hyz
                go_wp2
                go_round
                case rel => exact ⟨j + 1, by omega, by go_num, by first | (rw [unhide HU]; go_num) | (rw [unhide HU]; simp), by rw [unhide HU]; omega, by rw [unhide HU]; omega⟩
                case measure => simp [intOf]; omega
            · obtain rfl : j = len := by omega
              have HLe := hide (least_any a j cap l m wr hl (unhide HRr) (unhide HG) (costK l s j) (by rw [← hl]; exact unhide HLs))
              have hcc : (costK l s j == costK l s j) = true := by simp
              by_cases hn1 : nw = 1
              · have HMx := hide (max_any (some ⟨g, 0, none⟩) j j s wr (unhide HSl) (by have := unhide HNw; have := wpl_le l l.length; omega) (by omega) (unhide HSr).row)
                have HOne := hide (unhide HN1 hn1)
                subst hn1
                generalize costK l s j = cu at *
                go_wp2_with fail
                refine (unhide HMx).mono ?_
                rintro e w9 ⟨M, rfl, hMa, ⟨j2, hj2, hMe⟩, rfl⟩
                have hM1 : M = 1 := by
                  obtain ⟨ho1, p, hp, ho2⟩ := unhide HOne
                  have h1 := hMa p (by omega)
                  have h2 := ho1 j2
                  omega
                subst hM1
                clear hMa hMe HMx
                go_wp2_with fail
                refine (unhide HLe).mono ?_
                rintro e w10 ⟨rfl, hB10⟩
                have HB10 := hide ((unhide HBr).trans (hB10.mono (unhide HBr).size))
                clear hB10 HLe
                go_wp2
                go_ret
                exact ⟨rfl, unhide HB10⟩
              · have hn1b : ((nw : Int) == 1) = false := by rw [beq_eq_false_iff_ne]; omega
                by_cases hn2 : 1 < nw
                · have hRm := room_any (some ⟨g, 0, none⟩) j j s wr (unhide HSl) (by omega) (unhide HSr).row (fun i _ => by have := unhide HLk i; omega)
                  rw [unhide HN2 (by omega)] at hRm
                  have HRm := hide hRm
                  have hn2I : (1 : Int) < (nw : Int) := by omega
                  clear hRm
                  generalize costK l s j = cu at *
                  go_wp2_with fail
                  refine (unhide HRm).mono ?_
                  rintro e w9 ⟨rfl, rfl⟩
                  go_wp2_with fail
                  refine (unhide HLe).mono ?_
                  rintro e w10 ⟨rfl, hB10⟩
                  have HB10 := hide ((unhide HBr).trans (hB10.mono (unhide HBr).size))
                  clear hB10 HLe HRm
                  go_wp2
                  go_ret
                  exact ⟨rfl, unhide HB10⟩
                · have hn2I : ¬ (1 : Int) < (nw : Int) := by omega
                  generalize costK l s j = cu at *
                  go_wp2_with fail
                  refine (unhide HLe).mono ?_
                  rintro e w10 ⟨rfl, hB10⟩
                  have HB10 := hide ((unhide HBr).trans (hB10.mono (unhide HBr).size))
                  clear hB10 HLe
                  go_wp2
                  go_ret
                  exact ⟨rfl, unhide HB10⟩
end Go.Proofs.Ytmafecagcglaoab
