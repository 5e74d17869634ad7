/-
  The walk of the law WeighLengths, where Lengths tells an error.
-/
import Derived.Test.YtmafecagcglaoabWeighLengths0
namespace Go.Proofs.Ytmafecagcglaoab
open Go.RowKit
set_option linter.unusedVariables false

set_option maxHeartbeats 4000000 in
set_option maxRecDepth 100000 in
theorem weighLengths_err (a : Option Addr) (len cap : Nat) (l : List Int) (most : Int) (a2 : Option Addr) (n2 c2 : Nat) (o : List Int) (w : World) (hl : l.length = len) (hR : RowIn .i64 w a l) (hM : len ≤ 9223372036854775807) (he : errW l most ≠ 0) (hl2 : o.length = n2) (hM2 : n2 ≤ 9223372036854775807) (hR2 : RowIn .i64 w a2 o) :
    Calls Try.prog 5 #[.slice a len cap, .int .i64 most, .slice a2 n2 c2] w fun e w' => e = .returned (.bool true) ∧ Below w.heap.size w w' := by
  have HLn := hide (lengths_err a len cap l most w hl hM hR he)
  have HR := hide hR
  have HO := hide hR2
  obtain ⟨bd, hbd⟩ : ∃ bd, bd = errW l most := ⟨_, rfl⟩
  have hWn := wanted_any a len cap l most w hl hM hR
  rw [if_neg he, ← hbd] at hWn
  rw [← hbd] at HLn he
  have HWn0 := hide hWn
  have b1 : (bd != 0) = true := by rw [bne_iff_ne]; exact he
  have b2 : (bd == bd) = true := by simp
  clear hR hR2 he hbd hWn
  go_enter Try.func5, Try.ntmps5
  go_wp2_with fail
  refine (unhide HLn).mono ?_
  rintro e w1 ⟨rfl, rfl⟩
  clear HLn
  have HB1 := hide (Below.refl w1.heap.size w1)
  have HR1 := HR
  have HO1 := HO
  clear HR HO
  obtain ⟨ce, hce⟩ : ∃ ce, ce = (if errC l o = 0 then costK l o l.length else 0) := ⟨_, rfl⟩
  obtain ⟨f, hf⟩ : ∃ f, f = errC l o := ⟨_, rfl⟩
  have hC := cost_any a a2 len cap n2 c2 l o w1 hl hl2 (by omega) (by omega) (unhide HR1) (unhide HO1)
  rw [← hce, ← hf] at hC
  have HC := hide hC
  have HCe := hide hce
  have HF := hide hf
  clear hC hce hf
  go_wp2_with fail
  refine (unhide HC).mono ?_
  rintro e w2 ⟨rfl, hw2⟩
  obtain rfl := hw2.symm
  clear HC hw2
  have HWn := HWn0
  clear HWn0
  go_wp2_with fail
  refine (unhide HWn).mono ?_
  rintro e w3 ⟨rfl, hw3⟩
  obtain rfl := hw3.symm
  clear HWn hw3
  go_wp2_with fail
  refine (weighed_any _).mono ?_
  rintro e w4 ⟨rfl, hB4⟩
  have HB4 := hide ((unhide HB1).trans (hB4.mono (unhide HB1).size))
  have HR4 := hide ((unhide HR1).below hB4 (Nat.le_refl _))
  have HO4 := hide ((unhide HO1).below hB4 (Nat.le_refl _))
  have HW5 := hide (wanted_any a len cap l 15 w4 hl (by omega) (unhide HR4))
  clear hB4 HB1 HR1 HO1
  obtain ⟨n15, hn15⟩ : ∃ n15, n15 = (if errW l 15 = 0 then ((wpl l len).length : Int) else 0) := ⟨_, rfl⟩
  obtain ⟨e15, he15⟩ : ∃ e15, e15 = errW l 15 := ⟨_, rfl⟩
  rw [← hn15, ← he15] at HW5
  have HE15 := hide he15
  clear hn15 he15
  go_wp2_with fail
  refine (unhide HW5).mono ?_
  rintro e w5 ⟨rfl, hw5⟩
  obtain rfl := hw5.symm
  clear HW5 hw5
  by_cases hn : len = n2
  case' pos =>
    have hnb : ((len : Int) != (n2 : Int)) = false := by rw [hn]; simp
    have HS0 : Hid (LSt l o 0 e15 0) := by
      by_cases h : errW l 15 = 0
      · exact .inr ⟨by rw [unhide HE15, h], by omega, h, fun j hj => by omega, rfl, by simp, by simp⟩
      · refine .inl ⟨by rw [unhide HE15]; exact h, ?_⟩
        rw [unhide HE15]
        unfold errC
        rw [if_neg (by omega), if_pos h]
    have HNe := hide (True.intro)
  case' neg =>
    have hnb : ((len : Int) != (n2 : Int)) = true := by rw [bne_iff_ne]; omega
    have HS0 : Hid (LSt l o 0 4 0) := .inl ⟨by decide, by unfold errC; rw [if_pos (by omega)]⟩
    have HNe := hide (True.intro)
  all_goals
    clear hn
    go_wp2
    go_loopw [14, 15, 16] (fun vs va vi wr => ∃ (k : Nat) (sd al : Int), k ≤ len ∧ vi = .int .i64 k ∧ vs = .int .i64 sd ∧ va = .int .i64 al ∧ LSt l o k sd al ∧ ∃ q, wr = w4.drewN q) (fun _ _ vi _ => len - (intOf vi).toNat)
    case atStart => exact ⟨0, _, 0, Nat.zero_le _, rfl, rfl, rfl, unhide HS0, 0, rfl⟩
    case round =>
      obtain ⟨k, sd, al, hk, rfl, rfl, rfl, hLS, q, hwq⟩ := hrel
      have HBr : Hid (Below w1.heap.size w1 wr) := by rw [hwq]; exact below_drewN (unhide HB4) q
      have HRr : Hid (RowIn .i64 wr a l) := by rw [hwq]; exact HR4
      have HOr : Hid (RowIn .i64 wr a2 o) := by rw [hwq]; exact HO4
      have HWq := hide hwq
      clear hwq HS0
      rcases hLS with ⟨h1, h2⟩ | ⟨h1, h2, h3, h4, h5, h6, h7⟩
      · have hsf : sd = f := by rw [h2, unhide HF]
        have hce0 : ce = 0 := by rw [unhide HCe, if_neg (by rw [← h2]; exact h1)]
        subst hsf
        subst hce0
        have g1 : (sd == 0) = false := by rw [beq_eq_false_iff_ne]; exact h1
        have g2 : (sd != sd) = false := by simp
        have g3 : (sd != 0) = true := by rw [bne_iff_ne]; exact h1
        clear h1 h2
        go_wp2
        go_ret
        exact ⟨rfl, unhide HBr⟩
      · subst h1
        by_cases hlt : k < len
        · have hlk : k < l.length := by omega
          have hok : k < o.length := by omega
          obtain ⟨b, ob, rfl, hb, hRw⟩ : ∃ b o, a = some ⟨b, o, none⟩ ∧ b < wr.heap.size ∧ Row .i64 wr b o l := by
            rcases unhide HRr with rfl | h
            · simp at hlk
            · exact h
          obtain ⟨b2, ob2, rfl, hb2, hRw2⟩ : ∃ b o', a2 = some ⟨b, o', none⟩ ∧ b < wr.heap.size ∧ Row .i64 wr b o' o := by
            rcases unhide HOr with rfl | h
            · simp at hok
            · exact h
          have d1 := hRw k hlk
          have d2 := hRw2 k hok
          have hG15 := (errW_good h3)
          obtain ⟨m15, _, hG15⟩ := hG15
          have hxb := hG15.ok k hlk
          have hl288 := hG15.len
          have HU : Hid (costK l o (k + 1) = costK l o k + l.getD k 0 * o.getD k 0) := rfl
          have HBad := hide (fun h => errC_bad h2 h3 hlk h)
          have HOk := hide h4
          have H2 := hide h2
          have H3 := hide h3
          have HLal := hide h5
          have hkn : (k : Int) < (n2 : Int) := by omega
          clear hRw hRw2 hG15 h2 h3 h4 h5
          cases hc : okC (l.getD k 0) (o.getD k 0) with
          | true =>
            have hc' := of_decide_eq_true hc
            have HStep : Hid (∀ j, j < k + 1 → okC (l.getD j 0) (o.getD j 0) = true) := fun j hj => by
              by_cases e : j = k
              · rw [e]; exact hc
              · exact unhide HOk j (by omega)
            generalize l.getD k 0 = x at *
            generalize o.getD k 0 = y at *
            obtain ⟨hx1, hx2⟩ := hxb
            obtain ⟨hy1, hy2, hy3⟩ := hc'
            have m1 : 0 ≤ x * y := Int.mul_nonneg hx1 hy1
            have m2 : x * y ≤ 1000000 * 15 := Int.le_trans (Int.mul_le_mul_of_nonneg_right hx2 hy1) (Int.mul_le_mul_of_nonneg_left hy2 (by decide))
            have rs1 : IntKind.i64.wrap (x * y) = x * y := by rw [IntKind.wrap_i64]; omega
            have rs2 : IntKind.i64.wrap (al + x * y) = al + x * y := by rw [IntKind.wrap_i64]; omega
            have hkl : (k : Int) < (len : Int) := by omega
            clear hc
            by_cases hx0 : 0 < x
            · have hyb : (y == 0) = false := by rw [beq_eq_false_iff_ne]; exact fun h => hy3 h hx0
              clear hy3
              go_wp2_with fail
              go_quiet (fail)
              go_wp2
              go_roundw
              case rel => exact ⟨k + 1, 0, _, by omega, by go_num, rfl, rfl, .inr ⟨rfl, unhide H2, unhide H3, unhide HStep, by rw [unhide HU, ← unhide HLal], by omega, by omega⟩, _, by rw [unhide HWq, World.drewN_drewN]⟩
              case measure => simp [intOf]; omega
            · clear hy3
              go_wp2_with fail
              go_quiet (fail)
              go_wp2
              go_roundw
              case rel => exact ⟨k + 1, 0, _, by omega, by go_num, rfl, rfl, .inr ⟨rfl, unhide H2, unhide H3, unhide HStep, by rw [unhide HU, ← unhide HLal], by omega, by omega⟩, _, by rw [unhide HWq, World.drewN_drewN]⟩
              case measure => simp [intOf]; omega
          | false =>
            have hno := of_decide_eq_false hc
            have HE3 := hide (unhide HBad hc)
            generalize l.getD k 0 = x at *
            generalize o.getD k 0 = y at *
            have hway : y < 0 ∨ 15 < y ∨ (y = 0 ∧ 0 < x) := by
              by_cases h1 : y < 0
              · exact .inl h1
              · by_cases h2 : 15 < y
                · exact .inr (.inl h2)
                · by_cases h3 : y = 0 ∧ 0 < x
                  · exact .inr (.inr h3)
                  · exact absurd ⟨by omega, by omega, fun h4 h5 => h3 ⟨h4, h5⟩⟩ hno
            have hkl : (k : Int) < (len : Int) := by omega
            clear hno hc HBad
            rcases hway with h1 | h1 | ⟨h1, h2⟩
            · go_wp2
              go_roundw
              case rel => exact ⟨k + 1, 3, _, by omega, by go_num, rfl, rfl, .inl ⟨by decide, (unhide HE3).symm⟩, q, unhide HWq⟩
              case measure => simp [intOf]; omega
            · have h0 : ¬ y < 0 := by omega
              go_wp2
              go_roundw
              case rel => exact ⟨k + 1, 3, _, by omega, by go_num, rfl, rfl, .inl ⟨by decide, (unhide HE3).symm⟩, q, unhide HWq⟩
              case measure => simp [intOf]; omega
            · subst h1
              go_wp2
              go_roundw
              case rel => exact ⟨k + 1, 3, _, by omega, by go_num, rfl, rfl, .inl ⟨by decide, (unhide HE3).symm⟩, q, unhide HWq⟩
              case measure => simp [intOf]; omega
        · obtain rfl : len = k := by omega
          have hE0 : errC l o = 0 := errC_all h2 h3 (fun j hj => h4 j (by omega))
          have hf0 : f = 0 := by rw [unhide HF, hE0]
          have hca : ce = al := by rw [unhide HCe, if_pos hE0, h5, hl]
          subst hf0
          subst hca
          have g2 : (ce != ce) = false := by simp
          clear h2 h3 h4 h5 hE0
          go_wp2
          go_ret
          exact ⟨rfl, unhide HBr⟩
end Go.Proofs.Ytmafecagcglaoab
