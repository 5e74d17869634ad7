/-
  Package inflate: Unpack of any row.
-/
import Derived.Test.YtfoaaamcpknjnahCod6
namespace Go.Proofs.Ytfoaaamcpknjnah
open Go.RowKit
set_option linter.unusedVariables false
set_option linter.unusedSimpArgs false
set_option maxRecDepth 100000

theorem block_any (No : Nat → Prop) (B b k : Nat) (a : Option Addr) (n cap : Nat) (bs : List Nat) (u : US) (w0 w : World) (h : Bk No B w0 b (.slice a n cap) u w) (hR : Rd w No a n bs) (hp : u.p ≤ 8 * n) (he : u.e = 0) (ho : u.out.length ≤ 3000) (hk : u.ks.length ≤ 48000) (hk4 : k < 4) :
    Calls Try.prog 65 #[.pointer (some ⟨b, 0, none⟩), .int .i64 (k : Int)] w fun e w' => GotB No B w0 b (.slice a n cap) (ikind (rowB bs n) k u) e w' := by
  rcases (by omega : k = 0 ∨ k = 1 ∨ k = 2 ∨ k = 3) with rfl | rfl | rfl | rfl
  · exact block0_any No B b a n cap bs u w0 w h hR hp he ho hk
  · exact block1_any No B b a n cap bs u w0 w h hR hp he ho hk
  · exact block2_any No B b a n cap bs u w0 w h hR hp he ho hk
  · exact block3_any No B b 3 (.slice a n cap) u (rowB bs n) w0 w h (by decide) (by decide)
theorem Bk.cellP {No : Nat → Prop} {B b n : Nat} {w0 w : World} {R : Value} {u : US} (h : Bk No B w0 b R u w) : leftB n b w = 8 * n + 1 - u.p := by
  obtain ⟨No', f1, f2, _, _, hI, _⟩ := h
  exact leftB_is hI
/-- a number is read between two blocks -/
theorem bkNumber_any (No : Nat → Prop) (B b size : Nat) (a : Option Addr) (n cap : Nat) (bs : List Nat) (u : US) (w0 w : World) (h : Bk No B w0 b (.slice a n cap) u w) (hR : Rd w No a n bs) (hp : u.p ≤ 8 * n) (he : u.e = 0) (hs : size ≤ 16) (r : Nat) (v : US) (hr : uget (rowB bs n) size u = (r, v)) :
    Calls Try.prog 64 #[.pointer (some ⟨b, 0, none⟩), .int .i64 (size : Int)] w fun e w' => (v.e = 0 ∧ e = .returned (.int .i64 (r : Int)) ∧ Bk No B w0 b (.slice a n cap) v w') ∨ (v.e ≠ 0 ∧ e = Flt v.e ∧ Bl No B w0 w') := by
  obtain ⟨No', f1, f2, hn, hNo, hI, hF, hB⟩ := h
  refine (number_any No' B b a n cap size bs f1 f2 u w hI (hR.wide hn) hp he hs r v (hide hr)).mono ?_
  rintro e w' (⟨e0, rfl, hU⟩ | ⟨e0, rfl, hBl⟩)
  · exact .inl ⟨e0, rfl, No', f1, f2, hn, fun g hg => hNo g (Nat.le_trans hU.below.size hg), hU.is, hF.keep hU.below.size hU.kp, hB.outer hU.bl hn⟩
  · exact .inr ⟨e0, rfl, hB.outer hBl hn⟩
theorem Bk.bl {No : Nat → Prop} {B b : Nat} {w0 w : World} {R : Value} {u : US} (h : Bk No B w0 b R u w) : Bl No B w0 w := by
  obtain ⟨No', f1, f2, _, _, _, _, hB⟩ := h
  exact hB

set_option maxHeartbeats 4000000 in
theorem blocks_any (No : Nat → Prop) (B b : Nat) (a : Option Addr) (n cap : Nat) (bs : List Nat) (w : World) (h : IIs No B w b (.slice a n cap) .nilFunc .nilFunc US0) (hR : Rd w No a n bs) (hNo : ∀ g, w.heap.size ≤ g → ¬ No g) :
    Calls Try.prog 47 #[.pointer (some ⟨b, 0, none⟩)] w fun e w' => GotB No B w b (.slice a n cap) (iunpk (rowB bs n)) e w' := by
  have hrl := rowB_length bs n
  have hfew := hR.few
  obtain ⟨row, hrow⟩ : ∃ row, rowB bs n = row := ⟨_, rfl⟩
  obtain ⟨V, hV⟩ : ∃ V, iunpk row = V := ⟨_, rfl⟩
  have HBK0 : Hid (Bk No B w b (.slice a n cap) US0 w) := hide ⟨No, .nilFunc, .nilFunc, fun _ h => h, hNo, h, .inl ⟨rfl, rfl⟩, Bl.refl _ _ _⟩
  have HRW : Hid (∀ wr, Bl No B w wr → Rd wr No a n bs) := hide (fun wr hb => hR.keep hb.below.size hb.kp)
  have HNUM : Hid (∀ (wr : World) (u : US) (size r : Nat) (v : US), Bk No B w b (.slice a n cap) u wr → u.p ≤ 8 * n → u.e = 0 → size ≤ 16 → uget row size u = (r, v) → Calls Try.prog 64 #[.pointer (some ⟨b, 0, none⟩), .int .i64 (size : Int)] wr fun e w' => (v.e = 0 ∧ e = .returned (.int .i64 (r : Int)) ∧ Bk No B w b (.slice a n cap) v w') ∨ (v.e ≠ 0 ∧ e = Flt v.e ∧ Bl No B w w')) := hide (fun wr u size r v hb h1 h2 h3 h4 => bkNumber_any No B b size a n cap bs u w wr hb (unhide HRW wr hb.bl) h1 h2 h3 r v (by rw [hrow]; exact h4))
  have HBLK : Hid (∀ (wr : World) (u : US) (k : Nat), Bk No B w b (.slice a n cap) u wr → u.p ≤ 8 * n → u.e = 0 → u.out.length ≤ 3000 → u.ks.length ≤ 48000 → k < 4 → Calls Try.prog 65 #[.pointer (some ⟨b, 0, none⟩), .int .i64 (k : Int)] wr fun e w' => GotB No B w b (.slice a n cap) (ikind row k u) e w') := hide (fun wr u k hb h1 h2 h3 h4 h5 => by
    have := block_any No B b k a n cap bs u w wr hb (unhide HRW wr hb.bl) h1 h2 h3 h4 h5
    rw [hrow] at this
    exact this)
  rw [hrow] at hrl ⊢
  rw [hV]
  obtain ⟨F0, hF0⟩ : ∃ F0, row.length + 1 = F0 := ⟨_, rfl⟩
  have HV : Hid (iblocks row F0 US0 = V) := hide (by rw [← hF0]; exact hV)
  have HF0 : Hid (8 * n + 1 ≤ US0.p + F0) := hide (by rw [← hF0, hrl]; show _ ≤ 0 + _; omega)
  clear h hR hNo hrow hV hF0
  go_enter Try.func47, Try.ntmps47
  go_wp2
  go_loopw [2] (fun v2 wr => ∃ (u : US) (l f : Nat), v2 = .int .i64 (l : Int) ∧ Hid (u.e = 0 ∧ u.p ≤ 8 * n ∧ u.out.length ≤ 3000 ∧ u.ks.length ≤ u.p) ∧ Hid (Bk No B w b (.slice a n cap) u wr) ∧ ((l = 0 ∧ Hid (iblocks row f u = V) ∧ Hid (8 * n + 1 ≤ u.p + f)) ∨ (l ≠ 0 ∧ Hid (u = V)))) (fun _ wr => leftB n b wr)
  case atStart => exact ⟨US0, 0, F0, rfl, hide ⟨rfl, Nat.zero_le _, Nat.zero_le _, Nat.zero_le _⟩, HBK0, .inl ⟨rfl, HV, HF0⟩⟩
  case round =>
    obtain ⟨u, l, f, rfl, hst, hBK, hor⟩ := hrel
    obtain ⟨he, hp, ho, hks⟩ := unhide hst
    rcases hor with ⟨rfl, hIB, hf⟩ | ⟨hl, hVu⟩
    · have hf2 := unhide hf
      cases f with
      | zero => exact absurd hf2 (by omega)
      | succ f =>
        have hib := unhide hIB
        rw [iblocks] at hib
        obtain ⟨r1, v1, h1⟩ : ∃ r1 v1, uget row 1 u = (r1, v1) := ⟨_, _, rfl⟩
        obtain ⟨r2, v2, h2⟩ : ∃ r2 v2, uget row 2 v1 = (r2, v2) := ⟨_, _, rfl⟩
        have hib1 : iblock row u = if v1.e ≠ 0 then (1, v1) else if v2.e ≠ 0 then (1, v2) else (r1, ikind row r2 v2) := by
          unfold iblock
          rw [h1]
          simp only
          rw [h2]
        have q1 : v1.p ≤ 8 * n := by have := iget_p row 1 u (by omega); rw [h1, hrl] at this; exact this
        have q2 : v2.p ≤ 8 * n := by have := iget_p row 2 v1 (by omega); rw [h2, hrl] at this; exact this
        have o1 : v1.out = u.out := by have := iget_out row 1 u; rw [h1] at this; exact this
        have o2 : v2.out = u.out := by have := iget_out row 2 v1; rw [h2] at this; exact this.trans o1
        have s1 : v1.ks = u.ks := by have := iget_ks row 1 u; rw [h1] at this; exact this
        have s2 : v2.ks = u.ks := by have := iget_ks row 2 v1; rw [h2] at this; exact this.trans s1
        have l2 : r2 < 4 := by have := ulow row 2 v1; rw [h2] at this; exact this
        have HAH : Hid ((iblock row u).2.e = 0 → (iblock row u).2.ks.length = u.ks.length + 1 ∧ u.p + 3 ≤ (iblock row u).2.p ∧ (iblock row u).2.p ≤ row.length ∧ (iblock row u).2.out.length ≤ 3000) := hide (iblock_ahd row n hrl u he (by omega) ho)
        have HN1 := hide (unhide HNUM wr u 1 r1 v1 (unhide hBK) hp he (by decide) h1)
        have HN2 : Hid (∀ W, v1.e = 0 → Bk No B w b (.slice a n cap) v1 W → Calls Try.prog 64 #[.pointer (some ⟨b, 0, none⟩), .int .i64 2] W fun e w' => (v2.e = 0 ∧ e = .returned (.int .i64 (r2 : Int)) ∧ Bk No B w b (.slice a n cap) v2 w') ∨ (v2.e ≠ 0 ∧ e = Flt v2.e ∧ Bl No B w w')) := hide (fun W h3 h4 => unhide HNUM W v1 2 r2 v2 h4 q1 h3 (by decide) h2)
        have HB2 : Hid (∀ W, v2.e = 0 → Bk No B w b (.slice a n cap) v2 W → Calls Try.prog 65 #[.pointer (some ⟨b, 0, none⟩), .int .i64 (r2 : Int)] W fun e w' => GotB No B w b (.slice a n cap) (ikind row r2 v2) e w') := hide (fun W h3 h4 => unhide HBLK W v2 r2 h4 q2 h3 (by rw [o2]; exact ho) (by rw [s2]; omega) l2)
        have HIB1 := hide hib1
        have HIBS := hide hib
        have HLEFT := hide ((unhide hBK).cellP (n := n))
        clear hib hib1 h1 h2 o1 o2 s1 s2 hIB hf
        go_wp2_with fail
        refine (unhide HN1).mono ?_
        rintro e w1 (⟨e1, rfl, hK1⟩ | ⟨e1, rfl, hL1⟩)
        rotate_left
        · have HF : Hid (V = v1) := hide (by
            have := unhide HIBS
            rw [unhide HIB1, if_pos e1, if_neg (fun c => absurd (show (1 : Nat) = 0 from c.1) (by decide))] at this
            exact this.symm)
          have HL := hide hL1
          clear hL1
          go_wp2
          exact ⟨rfl, .inr ⟨by rw [unhide HF]; exact e1, by rw [unhide HF], unhide HL⟩⟩
        have HK1 := hide hK1
        clear hK1
        go_wp2_with fail
        refine (unhide HN2 w1 e1 (unhide HK1)).mono ?_
        rintro e w2 (⟨e2, rfl, hK2⟩ | ⟨e2, rfl, hL2⟩)
        rotate_left
        · have HF : Hid (V = v2) := hide (by
            have := unhide HIBS
            rw [unhide HIB1, if_neg (show ¬ v1.e ≠ 0 from fun c => c e1), if_pos e2, if_neg (fun c => absurd (show (1 : Nat) = 0 from c.1) (by decide))] at this
            exact this.symm)
          have HL := hide hL2
          clear hL2
          go_wp2
          exact ⟨rfl, .inr ⟨by rw [unhide HF]; exact e2, by rw [unhide HF], unhide HL⟩⟩
        have HK2 := hide hK2
        have HIB3 : Hid (iblock row u = (r1, ikind row r2 v2)) := hide (by rw [unhide HIB1, if_neg (show ¬ v1.e ≠ 0 from fun c => c e1), if_neg (show ¬ v2.e ≠ 0 from fun c => c e2)])
        clear hK2
        go_wp2_with fail
        refine (unhide HB2 w2 e2 (unhide HK2)).mono ?_
        obtain ⟨Y, hY⟩ : ∃ Y, ikind row r2 v2 = Y := ⟨_, rfl⟩
        rw [hY] at HIB3 ⊢
        have hibs := unhide HIBS
        have hah := unhide HAH
        rw [unhide HIB3] at hibs hah
        simp only at hibs hah
        have HIS := hide hibs
        have HAY := hide hah
        clear hibs hah hY
        rintro e w3 (⟨e3, rfl, hK3⟩ | ⟨e3, rfl, hL3⟩)
        rotate_left
        · have HF : Hid (V = Y) := hide (by
            have := unhide HIS
            rw [if_neg (fun c => e3 c.2)] at this
            exact this.symm)
          have HL := hide hL3
          clear hL3
          go_wp2
          exact ⟨rfl, .inr ⟨by rw [unhide HF]; exact e3, by rw [unhide HF], unhide HL⟩⟩
        obtain ⟨y1, y2, y3, y4⟩ := unhide HAY e3
        rw [hrl] at y3
        have HK3 := hide hK3
        have HLF3 := hide (hK3.cellP (n := n))
        have HNEXT : Hid ((r1 = 0 ∧ Hid (iblocks row f Y = V) ∧ Hid (8 * n + 1 ≤ Y.p + f)) ∨ (r1 ≠ 0 ∧ Hid (Y = V))) := hide (by
          have := unhide HIS
          by_cases c : r1 = 0
          · rw [if_pos ⟨c, e3⟩] at this
            exact .inl ⟨c, hide this, hide (by omega)⟩
          · rw [if_neg (fun d => c d.1)] at this
            exact .inr ⟨c, hide this⟩)
        clear hK3
        go_wp2
        go_roundw
        case rel => exact ⟨Y, r1, f, rfl, hide ⟨e3, y3, y4, by omega⟩, HK3, unhide HNEXT⟩
        case measure => rw [unhide HLF3, unhide HLEFT]; omega
    · have hb : ((l : Int) == 0) = false := by rw [beq_eq_false_iff_ne]; omega
      have HF : Hid (GotB No B w b (.slice a n cap) V (.returned (.tuple #[])) wr) := hide (.inl ⟨by rw [← unhide hVu]; exact he, rfl, by rw [← unhide hVu]; exact unhide hBK⟩)
      clear hVu
      go_wp2
      go_end0
      exact unhide HF
end Go.Proofs.Ytfoaaamcpknjnah
