import Derived.Test.YtcdnbiiaoaeflafGreatDoorQ19
import Derived.Test.YtcdnbiiaoaeflafGreatDoorQ10
import Derived.Test.YtcdnbiiaoaeflafGreatDoorQ17
import Derived.Test.YtcdnbiiaoaeflafGreatDoorQ11
import Derived.Test.YtcdnbiiaoaeflafGreatDoorQ0
import Derived.Deep.WholeRow
import Derived.Laws.ResultCell
set_option maxHeartbeats 4000000
namespace Go.Proofs.YtcdnbiiaoaeflafGreatDoor
open Go.RowKit
set_option linter.unusedVariables false
set_option linter.unusedSimpArgs false
set_option maxRecDepth 100000
theorem block_any (No : Nat -> Prop) (B b k : Nat) (a : Option Addr) (n cap : Nat) (bs : List Nat) (u : US) (w0 w : World) (h : Bk No B w0 b (.slice a n cap) u w) (hR : Rd w No a n bs) (hp : u.p <= 8 * n) (he : u.e = 0) (ho : u.out.length <= 3000) (hk : u.ks.length <= 48000) (hk4 : k < 4) :
 Calls Tryz.prog 171 #[.pointer (some ⟨b, 0, none⟩), .int .i64 (k : Int)] w fun e w' => GotB No B w0 b (.slice a n cap) (ikind (rowB bs n) k u) e w' := by
 rcases (by omega : k = 0 \/ k = 1 \/ k = 2 \/ k = 3) with rfl | rfl | rfl | rfl
 . exact block0_any No B b a n cap bs u w0 w h hR hp he ho hk
 . exact block1_any No B b a n cap bs u w0 w h hR hp he ho hk
 . exact block2_any No B b a n cap bs u w0 w h hR hp he ho hk
 . exact block3_any No B b 3 (.slice a n cap) u (rowB bs n) w0 w h (by decide) (by decide)
theorem Bk.cellP {No : Nat -> Prop} {B b n : Nat} {w0 w : World} {R : Value} {u : US} (h : Bk No B w0 b R u w) : leftB n b w = 8 * n + 1 - u.p := by
 obtain ⟨No', f1, f2, _, _, hI, _⟩ := h
 exact leftB_is hI
theorem bkNumber_any (No : Nat -> Prop) (B b size : Nat) (a : Option Addr) (n cap : Nat) (bs : List Nat) (u : US) (w0 w : World) (h : Bk No B w0 b (.slice a n cap) u w) (hR : Rd w No a n bs) (hp : u.p <= 8 * n) (he : u.e = 0) (hs : size <= 16) (r : Nat) (v : US) (hr : uget (rowB bs n) size u = (r, v)) :
 Calls Tryz.prog 170 #[.pointer (some ⟨b, 0, none⟩), .int .i64 (size : Int)] w fun e w' => (v.e = 0 /\ e = .returned (.int .i64 (r : Int)) /\ Bk No B w0 b (.slice a n cap) v w') \/ (v.e ≠ 0 /\ e = Flt v.e /\ Bl No B w0 w') := by
 obtain ⟨No', f1, f2, hn, hNo, hI, hF, hB⟩ := h
 refine (number_any No' B b a n cap size bs f1 f2 u w hI (hR.wide hn) hp he hs r v (Hd hr)).mono ?_
 rintro e w' (⟨e0, rfl, hU⟩ | ⟨e0, rfl, hBl⟩)
 . exact .inl ⟨e0, rfl, No', f1, f2, hn, fun g hg => hNo g (Nat.le_trans hU.below.size hg), hU.is, hF.keep hU.below.size hU.kp, hB.outer hU.bl hn⟩
 . exact .inr ⟨e0, rfl, hB.outer hBl hn⟩
theorem Bk.bl {No : Nat -> Prop} {B b : Nat} {w0 w : World} {R : Value} {u : US} (h : Bk No B w0 b R u w) : Bl No B w0 w := by
 obtain ⟨No', f1, f2, _, _, _, _, hB⟩ := h
 exact hB
theorem blocks_any (No : Nat -> Prop) (B b : Nat) (a : Option Addr) (n cap : Nat) (bs : List Nat) (w : World) (h : IIs No B w b (.slice a n cap) .nilFunc .nilFunc US0) (hR : Rd w No a n bs) (hNo : ∀ g, w.heap.size <= g -> ¬ No g) :
 Calls Tryz.prog 146 #[.pointer (some ⟨b, 0, none⟩)] w fun e w' => GotB No B w b (.slice a n cap) (iunpk (rowB bs n)) e w' := by
 have hrl := rbL bs n
 have hfew := hR.few
 obtain ⟨row, hrow⟩ : ∃ row, rowB bs n = row := ⟨_, rfl⟩
 obtain ⟨V, hV⟩ : ∃ V, iunpk row = V := ⟨_, rfl⟩
 have HBK0 : Hid (Bk No B w b (.slice a n cap) US0 w) := Hd ⟨No, .nilFunc, .nilFunc, fun _ h => h, hNo, h, .inl ⟨rfl, rfl⟩, Bl.refl _ _ _⟩
 have HRW : Hid (∀ wr, Bl No B w wr -> Rd wr No a n bs) := Hd (fun wr hb => hR.keep hb.below.size hb.kp)
 have HNUM : Hid (∀ (wr : World) (u : US) (size r : Nat) (v : US), Bk No B w b (.slice a n cap) u wr -> u.p <= 8 * n -> u.e = 0 -> size <= 16 -> uget row size u = (r, v) -> Calls Tryz.prog 170 #[.pointer (some ⟨b, 0, none⟩), .int .i64 (size : Int)] wr fun e w' => (v.e = 0 /\ e = .returned (.int .i64 (r : Int)) /\ Bk No B w b (.slice a n cap) v w') \/ (v.e ≠ 0 /\ e = Flt v.e /\ Bl No B w w')) := Hd (fun wr u size r v hb h1 h2 h3 h4 => bkNumber_any No B b size a n cap bs u w wr hb (uh HRW wr hb.bl) h1 h2 h3 r v (by rw [hrow]; exact h4))
 have HBLK : Hid (∀ (wr : World) (u : US) (k : Nat), Bk No B w b (.slice a n cap) u wr -> u.p <= 8 * n -> u.e = 0 -> u.out.length <= 3000 -> u.ks.length <= 48000 -> k < 4 -> Calls Tryz.prog 171 #[.pointer (some ⟨b, 0, none⟩), .int .i64 (k : Int)] wr fun e w' => GotB No B w b (.slice a n cap) (ikind row k u) e w') := Hd (fun wr u k hb h1 h2 h3 h4 h5 => by
  have := block_any No B b k a n cap bs u w wr hb (uh HRW wr hb.bl) h1 h2 h3 h4 h5
  rw [hrow] at this
  exact this)
 rw [hrow] at hrl ⊢
 rw [hV]
 obtain ⟨F0, hF0⟩ : ∃ F0, row.length + 1 = F0 := ⟨_, rfl⟩
 have HV : Hid (iblocks row F0 US0 = V) := Hd (by rw [<- hF0]; exact hV)
 have HF0 : Hid (8 * n + 1 <= US0.p + F0) := Hd (by rw [<- hF0, hrl]; show _ <= 0 + _; omega)
 clear h hR hNo hrow hV hF0
 go_enter Tryz.func146, Tryz.ntmps146
 go_wp2
 go_loopw [2] (fun v2 wr => ∃ (u : US) (l f : Nat), v2 = .int .i64 (l : Int) /\ Hid (u.e = 0 /\ u.p <= 8 * n /\ u.out.length <= 3000 /\ u.ks.length <= u.p) /\ Hid (Bk No B w b (.slice a n cap) u wr) /\ ((l = 0 /\ Hid (iblocks row f u = V) /\ Hid (8 * n + 1 <= u.p + f)) \/ (l ≠ 0 /\ Hid (u = V)))) (fun _ wr => leftB n b wr)
 case atStart => exact ⟨US0, 0, F0, rfl, Hd ⟨rfl, Nat.zero_le _, Nat.zero_le _, Nat.zero_le _⟩, HBK0, .inl ⟨rfl, HV, HF0⟩⟩
 case round =>
  obtain ⟨u, l, f, rfl, hst, hBK, hor⟩ := hrel
  obtain ⟨he, hp, ho, hks⟩ := uh hst
  rcases hor with ⟨rfl, hIB, hf⟩ | ⟨hl, hVu⟩
  . have hf2 := uh hf
    cases f with
    | zero => exact absurd hf2 (by omega)
    | succ f =>
     have hib := uh hIB
     rw [iblocks] at hib
     obtain ⟨r1, v1, h1⟩ : ∃ r1 v1, uget row 1 u = (r1, v1) := ⟨_, _, rfl⟩
     obtain ⟨r2, v2, h2⟩ : ∃ r2 v2, uget row 2 v1 = (r2, v2) := ⟨_, _, rfl⟩
     have hib1 : iblock row u = if v1.e ≠ 0 then (1, v1) else if v2.e ≠ 0 then (1, v2) else (r1, ikind row r2 v2) := by
      unfold iblock
      rw [h1]
      simp only
      rw [h2]
     have q1 : v1.p <= 8 * n := by have := iget_p row 1 u (by omega); rw [h1, hrl] at this; exact this
     have q2 : v2.p <= 8 * n := by have := iget_p row 2 v1 (by omega); rw [h2, hrl] at this; exact this
     have o1 : v1.out = u.out := by have := iget_out row 1 u; rw [h1] at this; exact this
     have o2 : v2.out = u.out := by have := iget_out row 2 v1; rw [h2] at this; exact this.trans o1
     have s1 : v1.ks = u.ks := by have := iget_ks row 1 u; rw [h1] at this; exact this
     have s2 : v2.ks = u.ks := by have := iget_ks row 2 v1; rw [h2] at this; exact this.trans s1
     have l2 : r2 < 4 := by have := ulow row 2 v1; rw [h2] at this; exact this
     have HAH : Hid ((iblock row u).2.e = 0 -> (iblock row u).2.ks.length = u.ks.length + 1 /\ u.p + 3 <= (iblock row u).2.p /\ (iblock row u).2.p <= row.length /\ (iblock row u).2.out.length <= 3000) := Hd (iblock_ahd row n hrl u he (by omega) ho)
     have HN1 := Hd (uh HNUM wr u 1 r1 v1 (uh hBK) hp he (by decide) h1)
     have HN2 : Hid (∀ W, v1.e = 0 -> Bk No B w b (.slice a n cap) v1 W -> Calls Tryz.prog 170 #[.pointer (some ⟨b, 0, none⟩), .int .i64 2] W fun e w' => (v2.e = 0 /\ e = .returned (.int .i64 (r2 : Int)) /\ Bk No B w b (.slice a n cap) v2 w') \/ (v2.e ≠ 0 /\ e = Flt v2.e /\ Bl No B w w')) := Hd (fun W h3 h4 => uh HNUM W v1 2 r2 v2 h4 q1 h3 (by decide) h2)
     have HB2 : Hid (∀ W, v2.e = 0 -> Bk No B w b (.slice a n cap) v2 W -> Calls Tryz.prog 171 #[.pointer (some ⟨b, 0, none⟩), .int .i64 (r2 : Int)] W fun e w' => GotB No B w b (.slice a n cap) (ikind row r2 v2) e w') := Hd (fun W h3 h4 => uh HBLK W v2 r2 h4 q2 h3 (by rw [o2]; exact ho) (by rw [s2]; omega) l2)
     have HIB1 := Hd hib1
     have HIBS := Hd hib
     have HLEFT := Hd ((uh hBK).cellP (n := n))
     clear hib hib1 h1 h2 o1 o2 s1 s2 hIB hf
     go_wp2_with fail
     refine (uh HN1).mono ?_
     rintro e w1 (⟨e1, rfl, hK1⟩ | ⟨e1, rfl, hL1⟩)
     rotate_left
     . have HF : Hid (V = v1) := Hd (by
        have := uh HIBS
        rw [uh HIB1, if_pos e1, if_neg (fun c => absurd (show (1 : Nat) = 0 from c.1) (by decide))] at this
        exact this.symm)
       have HL := Hd hL1
       clear hL1
       go_wp2
       exact ⟨rfl, .inr ⟨by rw [uh HF]; exact e1, by rw [uh HF], uh HL⟩⟩
     have HK1 := Hd hK1
     clear hK1
     go_wp2_with fail
     refine (uh HN2 w1 e1 (uh HK1)).mono ?_
     rintro e w2 (⟨e2, rfl, hK2⟩ | ⟨e2, rfl, hL2⟩)
     rotate_left
     . have HF : Hid (V = v2) := Hd (by
        have := uh HIBS
        rw [uh HIB1, if_neg (show ¬ v1.e ≠ 0 from fun c => c e1), if_pos e2, if_neg (fun c => absurd (show (1 : Nat) = 0 from c.1) (by decide))] at this
        exact this.symm)
       have HL := Hd hL2
       clear hL2
       go_wp2
       exact ⟨rfl, .inr ⟨by rw [uh HF]; exact e2, by rw [uh HF], uh HL⟩⟩
     have HK2 := Hd hK2
     have HIB3 : Hid (iblock row u = (r1, ikind row r2 v2)) := Hd (by rw [uh HIB1, if_neg (show ¬ v1.e ≠ 0 from fun c => c e1), if_neg (show ¬ v2.e ≠ 0 from fun c => c e2)])
     clear hK2
     go_wp2_with fail
     refine (uh HB2 w2 e2 (uh HK2)).mono ?_
     obtain ⟨Y, hY⟩ : ∃ Y, ikind row r2 v2 = Y := ⟨_, rfl⟩
     rw [hY] at HIB3 ⊢
     have hibs := uh HIBS
     have hah := uh HAH
     rw [uh HIB3] at hibs hah
     simp only at hibs hah
     have HIS := Hd hibs
     have HAY := Hd hah
     clear hibs hah hY
     rintro e w3 (⟨e3, rfl, hK3⟩ | ⟨e3, rfl, hL3⟩)
     rotate_left
     . have HF : Hid (V = Y) := Hd (by
        have := uh HIS
        rw [if_neg (fun c => e3 c.2)] at this
        exact this.symm)
       have HL := Hd hL3
       clear hL3
       go_wp2
       exact ⟨rfl, .inr ⟨by rw [uh HF]; exact e3, by rw [uh HF], uh HL⟩⟩
     obtain ⟨y1, y2, y3, y4⟩ := uh HAY e3
     rw [hrl] at y3
     have HK3 := Hd hK3
     have HLF3 := Hd (hK3.cellP (n := n))
     have HNEXT : Hid ((r1 = 0 /\ Hid (iblocks row f Y = V) /\ Hid (8 * n + 1 <= Y.p + f)) \/ (r1 ≠ 0 /\ Hid (Y = V))) := Hd (by
      have := uh HIS
      by_cases c : r1 = 0
      . rw [if_pos ⟨c, e3⟩] at this
        exact .inl ⟨c, Hd this, Hd (by omega)⟩
      . rw [if_neg (fun d => c d.1)] at this
        exact .inr ⟨c, Hd this⟩)
     clear hK3
     go_wp2
     go_roundw
     case rel => exact ⟨Y, r1, f, rfl, Hd ⟨e3, y3, y4, by omega⟩, HK3, uh HNEXT⟩
     case measure => rw [uh HLF3, uh HLEFT]; omega
  . have hb : ((l : Int) == 0) = false := by rw [beq_eq_false_iff_ne]; omega
    have HF : Hid (GotB No B w b (.slice a n cap) V (.returned (.tuple #[])) wr) := Hd (.inl ⟨by rw [<- uh hVu]; exact he, rfl, by rw [<- uh hVu]; exact uh hBK⟩)
    clear hVu
    go_wp2
    go_end0
    exact uh HF
end Go.Proofs.YtcdnbiiaoaeflafGreatDoor
namespace Go.Proofs.YtcdnbiiaoaeflafGreatDoor
set_option linter.unusedVariables false
set_option maxRecDepth 100000
theorem uget_nn (row : List Bool) (n : Nat) (u : US) (h : 0 <= u.e) : 0 <= (uget row n u).2.e := by
 unfold uget
 split
 . split
   . exact (by decide : (0 : Int) <= 7)
   . exact h
 . exact h
theorem nextF_nn (l : List Int) (row : List Bool) (p : Nat) : ∀ f n, 0 <= (nextF l row p f n).2.2
 | 0, n => (by decide : (0 : Int) <= 8)
 | f + 1, n => by
  unfold nextF
  split
  . exact (by decide : (0 : Int) <= 7)
  . split
    . exact (by decide : (0 : Int) <= 0)
    . exact nextF_nn l row p f (n + 1)
theorem uplace_nn (l : List Int) (row : List Bool) (u : US) (h : 0 <= u.e) : 0 <= (uplace l row u).2.e := by
 unfold uplace
 split
 . exact nextF_nn l row u.p 15 1
 . exact h
theorem uwrong_nn (x : Int) (u : US) (hx : 0 <= x) (h : 0 <= u.e) : 0 <= (uwrong x u).e := by
 unfold uwrong
 split
 . exact hx
 . exact h
theorem usay_nn (c : Nat) (u : US) (h : 0 <= u.e) : 0 <= (usay c u).e := by
 unfold usay
 split
 . split
   . exact (by decide : (0 : Int) <= 2)
   . exact h
 . exact h
theorem ustore_nn (row : List Bool) : ∀ (k : Nat) (u : US), 0 <= u.e -> 0 <= (ustore row k u).e
 | 0, u, h => h
 | k + 1, u, h => by
  unfold ustore
  split
  . exact ustore_nn row k _ (usay_nn _ _ (uget_nn _ _ _ h))
  . exact h
theorem ucopy_nn (d : Nat) : ∀ (k : Nat) (u : US), 0 <= u.e -> 0 <= (ucopy d k u).e
 | 0, u, h => h
 | k + 1, u, h => by
  unfold ucopy
  split
  . exact ucopy_nn d k _ (usay_nn _ _ h)
  . exact h
theorem istored_nn (row : List Bool) (u : US) (h : 0 <= u.e) : 0 <= (istored row u).e := by
 have h1 : 0 <= (istored1 row u).2.e := by
  unfold istored1
  dsimp only
  split
  . exact uwrong_nn _ _ (by decide) (uget_nn _ _ _ (uget_nn _ _ _ h))
  . exact uget_nn _ _ _ (uget_nn _ _ _ h)
 unfold istored
 dsimp only
 split
 . exact uwrong_nn _ _ (by decide) h1
 . exact ustore_nn _ _ _ h1
theorem ihow_nn (row : List Bool) (l : List Int) (u : US) (h : 0 <= u.e) : 0 <= (ihow row l u).2.e := by
 unfold ihow
 split
 . exact uplace_nn _ _ _ h
 . split
   . exact (by decide : (0 : Int) <= 8)
   . exact uget_nn _ _ _ (uplace_nn _ _ _ h)
theorem iback_nn (d k : Nat) (u : US) (h : 0 <= u.e) : 0 <= (iback d k u).e := by
 unfold iback
 split
 . exact (by decide : (0 : Int) <= 9)
 . split
   . exact (by decide : (0 : Int) <= 2)
   . exact ucopy_nn _ _ _ h
theorem istep_nn (row : List Bool) (lb : List Int) (k : Nat) (u : US) (h : 0 <= u.e) : 0 <= (istep row lb k u).e := by
 unfold istep
 split
 . split
   . exact (by decide : (0 : Int) <= 2)
   . exact h
 . split
   . exact (by decide : (0 : Int) <= 8)
   . split
     . exact uget_nn _ _ _ h
     . split
       . exact ihow_nn _ _ _ (uget_nn _ _ _ h)
       . exact iback_nn _ _ _ (ihow_nn _ _ _ (uget_nn _ _ _ h))
theorem itoks_nn (row : List Bool) (la lb : List Int) : ∀ (f : Nat) (u : US), 0 <= u.e -> 0 <= (itoks row la lb f u).e
 | 0, u, h => by
  unfold itoks
  split
  . exact uplace_nn _ _ _ h
  . exact uplace_nn _ _ _ h
 | f + 1, u, h => by
  rw [itoks_succ]
  split
  . exact uplace_nn _ _ _ h
  . split
    . exact uplace_nn _ _ _ h
    . split
      . exact istep_nn _ _ _ _ (uplace_nn _ _ _ h)
      . exact itoks_nn row la lb f _ (istep_nn _ _ _ _ (uplace_nn _ _ _ h))
theorem usmall_nn (row : List Bool) : ∀ (ks : List Nat) (s : List Int) (u : US), 0 <= u.e -> 0 <= (usmall row ks s u).2.e
 | [], s, u, h => h
 | k :: r, s, u, h => by
  rw [usmall]
  exact usmall_nn row r _ _ (uget_nn _ _ _ h)
theorem ukind_nn (row : List Bool) (l : List Int) (k : Nat) (u : US) (h : 0 <= u.e) : 0 <= (ukind row l k u).2.2.e := by
 unfold ukind
 split
 . split
   . exact uwrong_nn _ _ (by decide) h
   . exact uget_nn _ _ _ h
 . split
   . exact uget_nn _ _ _ h
   . split
     . exact uget_nn _ _ _ h
     . exact h
theorem umore_nn (tot : Nat) (l : List Int) (r : Int × Nat × US) (h : 0 <= r.2.2.e) : 0 <= (umore tot l r).2.e := by
 unfold umore
 dsimp only
 split
 . exact uwrong_nn _ _ (by decide) h
 . exact h
theorem ulens_nn (row : List Bool) (S : List Int) (tot : Nat) : ∀ (F : Nat) (l : List Int) (u : US), 0 <= u.e -> 0 <= (ulens row S tot F l u).2.e
 | 0, l, u, h => h
 | F + 1, l, u, h => by
  rw [ulens]
  split
  . exact ulens_nn row S tot F _ _ (umore_nn _ _ _ (ukind_nn _ _ _ _ (uplace_nn _ _ _ h)))
  . exact h
theorem utold_nn (row : List Bool) (u : US) (h : 0 <= u.e) : 0 <= (utold row u).2.e := by
 unfold utold
 dsimp only
 have h3 := uget_nn row 4 _ (uget_nn row 5 _ (uget_nn row 5 u h))
 generalize (uget row 5 u).1 = m0 at *
 generalize (uget row 5 (uget row 5 u).2).1 = n0 at *
 generalize uget row 4 (uget row 5 (uget row 5 u).2).2 = g at *
 have hs : 0 <= (utoldS row (m0 + 257) (n0 + 1) (g.1 + 4) g.2).2.e := by
  unfold utoldS
  refine usmall_nn _ _ _ _ ?_
  split
  . exact uwrong_nn _ _ (by decide) h3
  . exact h3
 generalize utoldS row (m0 + 257) (n0 + 1) (g.1 + 4) g.2 = s at *
 have hc : 0 <= (uchk s).e := by
  unfold uchk
  split
  . exact uwrong_nn _ _ (by decide) hs
  . exact hs
 unfold utoldL
 split
 . exact hc
 . have hl := ulens_nn row s.1 (m0 + 257 + (n0 + 1)) (m0 + 257 + (n0 + 1)) [] (uchk s) hc
   generalize ulens row s.1 (m0 + 257 + (n0 + 1)) (m0 + 257 + (n0 + 1)) [] (uchk s) = r at *
   unfold utoldE
   split
   . exact hl
   . split
     . exact uwrong_nn _ _ (by decide) hl
     . exact hl
theorem ikeep_nn (k : Nat) (u : US) (h : 0 <= u.e) : 0 <= (ikeep k u).e := by
 unfold ikeep
 split
 . exact h
 . exact h
theorem ikind_nn (row : List Bool) (k : Nat) (u : US) (h : 0 <= u.e) : 0 <= (ikind row k u).e := by
 unfold ikind
 split
 . exact ikeep_nn _ _ (istored_nn _ _ h)
 . split
   . exact ikeep_nn _ _ (itoks_nn _ _ _ _ _ h)
   . split
     . split
       . exact utold_nn _ _ h
       . exact ikeep_nn _ _ (itoks_nn _ _ _ _ _ (utold_nn _ _ h))
     . exact (by decide : (0 : Int) <= 4)
theorem iblock_nn (row : List Bool) (u : US) (h : 0 <= u.e) : 0 <= (iblock row u).2.e := by
 unfold iblock
 split
 . exact uget_nn _ _ _ h
 . split
   . exact uget_nn _ _ _ (uget_nn _ _ _ h)
   . exact ikind_nn _ _ _ (uget_nn _ _ _ (uget_nn _ _ _ h))
theorem iblocks_nn (row : List Bool) : ∀ (F : Nat) (u : US), 0 <= u.e -> 0 <= (iblocks row F u).e
 | 0, u, h => h
 | F + 1, u, h => by
  rw [iblocks]
  split
  . exact iblocks_nn row F _ (iblock_nn row u h)
  . exact iblock_nn row u h
theorem iunpk_nn (row : List Bool) : 0 <= (iunpk row).e := iblocks_nn row _ _ (by decide)
end Go.Proofs.YtcdnbiiaoaeflafGreatDoor
namespace Go.Proofs.YtcdnbiiaoaeflafGreatDoor
open Go.RowKit
set_option linter.unusedVariables false
set_option maxRecDepth 100000
def Unpd (w : World) (bs : List Nat) (n : Nat) (e : Ending) (w' : World) : Prop :=
 Below w.heap.size w w' /\ (((iunpk (rowB bs n)).e = 0 /\ ∃ ov kv, e = .returned (.tuple #[ov, .int .i64 ((((iunpk (rowB bs n)).p + 7) / 8 : Nat) : Int), kv, .int .i64 0]) /\ w'.ownsRow (w.heap.size + 1) 5 1 ov (iunpk (rowB bs n)).out.length (u8s (iunpk (rowB bs n)).out) /\ w'.ownsRow (w.heap.size + 1) 3 1 kv (iunpk (rowB bs n)).ks.length (i64s (iunpk (rowB bs n)).ks)) \/ ((iunpk (rowB bs n)).e ≠ 0 /\ e = .returned (.tuple #[.slice none 0 0, .int .i64 0, .slice none 0 0, .int .i64 (iunpk (rowB bs n)).e])))
theorem unpackAll_any (a : Option Addr) (n cap : Nat) (bs : List Nat) (w : World) (hl : bs.length = n) (hn : n <= 6000) (hby : BytesIn w a bs) (hv : ∀ j, bs.getD j 0 < 256) :
 Calls Tryz.prog 115 #[.slice a n cap] w fun e w' => Unpd w bs n e w' := by
 refine (unpack_any a n cap bs w hn (iunpk (rowB bs n)) ?_ (iunpk_nn _) (fun e => ?_)).mono (fun e w' h => h)
 . intro No B b W hI h1 h2 h3 h4 hBel
   have hRw : Rd w No a n bs := ⟨hl, hn, hby, hv, fun b o ea hne => h2 b (by
    rcases hby with h0 | ⟨b', o', e', hb', _⟩
    . exact absurd h0 hne
    . rw [ea] at e'; cases e'; exact hb')⟩
   have hRW : Rd W No a n bs := hRw.keep hBel.size (fun g hg _ => hBel.block g hg)
   refine (blocks_any No B b a n cap bs W hI hRW (fun g hg => h1 g (by omega))).mono ?_
   rintro e w' (⟨e0, rfl, hK⟩ | ⟨e0, rfl, hb⟩)
   . obtain ⟨No', f1, f2, hn', hNo', hI', hF', hB'⟩ := hK
     exact .inl ⟨e0, rfl, f1, f2, hI'.weak hn', hB'.below, hB'.kp⟩
   . exact .inr ⟨e0, rfl, hb.below, hb.kp⟩
 . have := (iunpk_ahd (rowB bs n) n (rbL bs n) e).2.1
   rw [rbL] at this
   omega
theorem unpackMany_any (a : Option Addr) (n cap : Nat) (w : World) (hn : 6000 < n) (hm : n <= 9223372036854775807) :
 Calls Tryz.prog 115 #[.slice a n cap] w fun e w' => e = .returned (.tuple #[.slice none 0 0, .int .i64 0, .slice none 0 0, .int .i64 2]) /\ w' = w := by
 have hnI : (6000 : Int) < (n : Int) := by omega
 go_enter Tryz.func115, Tryz.ntmps115
 go_wp2
 refine bodyPost_ret (v := .tuple #[.slice none 0 0, .int .i64 0, .slice none 0 0, .int .i64 2]) ?_ rfl ⟨rfl, rfl⟩
 first | rfl | kernel_rfl
end Go.Proofs.YtcdnbiiaoaeflafGreatDoor
namespace Go.Proofs.YtcdnbiiaoaeflafGreatDoor
set_option linter.unusedVariables false
set_option maxRecDepth 100000
def Vl (u : US) : Prop := ∀ x ∈ u.out, x < 256
theorem Vl.same {u v : US} (h : Vl u) (e : v.out = u.out) : Vl v := fun x hx => h x (by rw [<- e]; exact hx)
theorem Vl.at {u : US} (h : Vl u) (j : Nat) : u.out.getD j 0 < 256 := by
 by_cases hj : j < u.out.length
 . rw [List.getD, List.getElem?_eq_getElem hj]
   exact h _ (List.getElem_mem hj)
 . rw [List.getD, List.getElem?_eq_none (by omega)]
   exact (by decide : (0 : Nat) < 256)
theorem uget_vl (row : List Bool) (n : Nat) (u : US) (h : Vl u) : Vl (uget row n u).2 := h.same (iget_out row n u)
theorem uplace_vl (l : List Int) (row : List Bool) (u : US) (h : Vl u) : Vl (uplace l row u).2 := h.same (uplace_keeps l row u).1
theorem uwrong_vl (x : Int) (u : US) (h : Vl u) : Vl (uwrong x u) := h.same (uwrong_keeps x u).2.1
theorem usay_vl (c : Nat) (u : US) (hc : c < 256) (h : Vl u) : Vl (usay c u) := by
 unfold usay
 split
 . split
   . exact h
   . intro x hx
     rcases List.mem_append.1 hx with h1 | h1
     . exact h x h1
     . rw [List.mem_singleton.1 h1]; exact hc
 . exact h
theorem ustore_vl (row : List Bool) : ∀ (k : Nat) (u : US), Vl u -> Vl (ustore row k u)
 | 0, u, h => h
 | k + 1, u, h => by
  unfold ustore
  split
  . exact ustore_vl row k _ (usay_vl _ _ (ulow row 8 u) (uget_vl _ _ _ h))
  . exact h
theorem ucopy_vl (d : Nat) : ∀ (k : Nat) (u : US), Vl u -> Vl (ucopy d k u)
 | 0, u, h => h
 | k + 1, u, h => by
  unfold ucopy
  split
  . exact ucopy_vl d k _ (usay_vl _ _ (h.at _) h)
  . exact h
theorem istored_vl (row : List Bool) (u : US) (h : Vl u) : Vl (istored row u) := by
 have h0 : Vl { u with p := (u.p + 7) / 8 * 8 } := h
 have h1 : Vl (istored1 row u).2 := by
  unfold istored1
  dsimp only
  split
  . exact uwrong_vl _ _ (uget_vl _ _ _ (uget_vl _ _ _ h0))
  . exact uget_vl _ _ _ (uget_vl _ _ _ h0)
 unfold istored
 dsimp only
 split
 . exact uwrong_vl _ _ h1
 . exact ustore_vl _ _ _ h1
theorem ihow_vl (row : List Bool) (l : List Int) (u : US) (h : Vl u) : Vl (ihow row l u).2 := by
 unfold ihow
 split
 . exact uplace_vl _ _ _ h
 . split
   . exact uplace_vl _ _ _ h
   . exact uget_vl _ _ _ (uplace_vl _ _ _ h)
theorem iback_vl (d k : Nat) (u : US) (h : Vl u) : Vl (iback d k u) := by
 unfold iback
 split
 . exact h
 . split
   . exact h
   . exact ucopy_vl _ _ _ h
theorem istep_vl (row : List Bool) (lb : List Int) (k : Nat) (u : US) (h : Vl u) : Vl (istep row lb k u) := by
 unfold istep
 split
 . rename_i hk
   split
   . exact h
   . intro x hx
     rcases List.mem_append.1 hx with h1 | h1
     . exact h x h1
     . rw [List.mem_singleton.1 h1]; exact hk
 . split
   . exact h
   . split
     . exact uget_vl _ _ _ h
     . split
       . exact ihow_vl _ _ _ (uget_vl _ _ _ h)
       . exact iback_vl _ _ _ (ihow_vl _ _ _ (uget_vl _ _ _ h))
theorem itoks_vl (row : List Bool) (la lb : List Int) : ∀ (f : Nat) (u : US), Vl u -> Vl (itoks row la lb f u)
 | 0, u, h => by
  unfold itoks
  split
  . exact uplace_vl _ _ _ h
  . exact uplace_vl _ _ _ h
 | f + 1, u, h => by
  rw [itoks_succ]
  split
  . exact uplace_vl _ _ _ h
  . split
    . exact uplace_vl _ _ _ h
    . split
      . exact istep_vl _ _ _ _ (uplace_vl _ _ _ h)
      . exact itoks_vl row la lb f _ (istep_vl _ _ _ _ (uplace_vl _ _ _ h))
theorem ikeep_vl (k : Nat) (u : US) (h : Vl u) : Vl (ikeep k u) := by
 unfold ikeep
 split
 . exact h
 . exact h
theorem ikind_vl (row : List Bool) (k : Nat) (u : US) (hp : u.p <= row.length) (h : Vl u) (he : (ikind row k u).e = 0) : Vl (ikind row k u) := by
 unfold ikind at he ⊢
 split
 . exact ikeep_vl _ _ (istored_vl _ _ h)
 . rename_i c0
   rw [if_neg c0] at he
   split
   . exact ikeep_vl _ _ (itoks_vl _ _ _ _ _ h)
   . rename_i c1
     rw [if_neg c1] at he
     split
     . rename_i c2
       rw [if_pos c2] at he
       split
       . rename_i c3
         rw [if_pos c3] at he
         exact absurd he c3
       . rename_i c3
         have e0 : (utold row u).2.e = 0 := by omega
         obtain ⟨A, C, v, hv⟩ : ∃ A C v, utold row u = ((A, C), v) := ⟨_, _, _, rfl⟩
         rw [hv] at e0 ⊢
         obtain ⟨m0, n0, c0, u1, u2, u3, us, S, L, hT⟩ := utold_good hv e0
         obtain ⟨t1, t2, t3, t4⟩ := utold_p hT hp
         exact ikeep_vl _ _ (itoks_vl _ _ _ _ _ (h.same t3))
     . exact h
theorem iblock_vl (row : List Bool) (u : US) (hp : u.p <= row.length) (h : Vl u) (he : (iblock row u).2.e = 0) : Vl (iblock row u).2 := by
 unfold iblock at he ⊢
 split
 . exact uget_vl _ _ _ h
 . rename_i c
   rw [if_neg c] at he
   split
   . exact uget_vl _ _ _ (uget_vl _ _ _ h)
   . rename_i c2
     rw [if_neg c2] at he
     exact ikind_vl _ _ _ (iget_p _ _ _ (iget_p _ _ _ hp)) (uget_vl _ _ _ (uget_vl _ _ _ h)) he
theorem iblocks_vl (row : List Bool) (N : Nat) (hN : row.length = 8 * N) : ∀ (F : Nat) (u : US), u.e = 0 -> u.p <= row.length -> u.out.length <= 3000 -> Vl u -> (iblocks row F u).e = 0 -> Vl (iblocks row F u)
 | 0, u, he, hp, ho, h, hz => h
 | F + 1, u, he, hp, ho, h, hz => by
  rw [iblocks] at hz ⊢
  by_cases c : (iblock row u).1 = 0 /\ (iblock row u).2.e = 0
  . rw [if_pos c] at hz ⊢
    obtain ⟨a1, a2, a3, a4⟩ := iblock_ahd row N hN u he hp ho c.2
    exact iblocks_vl row N hN F _ c.2 a3 a4 (iblock_vl row u hp h c.2) hz
  . rw [if_neg c] at hz ⊢
    exact iblock_vl row u hp h hz
theorem iunpk_val (row : List Bool) (N : Nat) (hN : row.length = 8 * N) (h : (iunpk row).e = 0) (j : Nat) : (iunpk row).out.getD j 0 < 256 :=
 (iblocks_vl row N hN (row.length + 1) US0 rfl (Nat.zero_le _) (Nat.zero_le _) (by intro x hx; cases hx) h).at j
end Go.Proofs.YtcdnbiiaoaeflafGreatDoor
namespace Go.Proofs.YtcdnbiiaoaeflafGreatDoor
open Go.RowKit
set_option linter.unusedVariables false
set_option maxRecDepth 100000
def tab (c : Nat -> Nat) : Array Value := ((List.range 256).map fun n => Value.int .u32 ((c n : Nat) : Int)).toArray
theorem tab_size (c : Nat -> Nat) : (tab c).size = 256 := by simp [tab]
theorem tab_at (c : Nat -> Nat) {j : Nat} (h : j < 256) : (tab c)[j]? = some (.int .u32 ((c j : Nat) : Int)) := by simp [tab, h]
theorem tab_one (c : Nat -> Nat) : (tab c).all (·.oneCell') = true := by
 rw [Array.all_eq_true']
 intro x hx
 obtain ⟨n, _, rfl⟩ : ∃ n, n < 256 /\ Value.int .u32 ((c n : Nat) : Int) = x := by simpa [tab] using hx
 rfl
def tabSet (c : Nat -> Nat) (j x : Nat) : Nat -> Nat := fun n => if n = j then x else c n
theorem tab_set (c : Nat -> Nat) (j x : Nat) : (tab c).setIfInBounds j (.int .u32 ((x : Nat) : Int)) = tab (tabSet c j x) := by
 apply Array.ext_getElem?
 intro i
 rw [Array.getElem?_setIfInBounds]
 by_cases h : i < 256
 . rw [tab_at _ h, tab_size, tab_at _ h]
   by_cases e : j = i
   . subst e; simp [tabSet, h]
   . rw [if_neg e]; unfold tabSet; rw [if_neg (fun h => e h.symm)]
 . have h1 : ∀ f, (tab f)[i]? = none := fun f => by simp [tab_size]; omega
   rw [h1, h1, tab_size]
   by_cases e : j = i
   . rw [if_pos e, if_neg (by omega)]
   . rw [if_neg e]
theorem tab_congr {c d : Nat -> Nat} (h : ∀ n, n < 256 -> c n = d n) : tab c = tab d := by
 unfold tab
 congr 1
 apply List.map_congr_left
 intro n hn
 rw [h n (by simpa using hn)]
def Tab (w : World) (b : Nat) (c : Nat -> Nat) : Prop := w.heap[b]? = some (.cells (tab c) 133 (0, 0))
theorem Tab.cell {w : World} {b : Nat} {c : Nat -> Nat} (h : Tab w b c) {j : Nat} (hj : j < 256) : w.cell? ⟨b, j, none⟩ = some (.int .u32 ((c j : Nat) : Int)) := by
 rw [cell_of_row w b j _ _ _ h]; exact tab_at c hj
theorem Tab.frozen {w : World} {b : Nat} {c : Nat -> Nat} (h : Tab w b c) (j : Nat) : w.frozen? ⟨b, j, none⟩ = false := frozen_of_row w b j _ _ h
theorem Tab.set {w : World} {b : Nat} {c : Nat -> Nat} (h : Tab w b c) (j x : Nat) : Tab (w.setCell ⟨b, j, none⟩ (.int .u32 ((x : Nat) : Int))) b (tabSet c j x) := by
 unfold Tab; rw [heap_setCell_same w b j _ _ _ h, tab_set]
theorem Tab.other {w : World} {b : Nat} {c : Nat -> Nat} (h : Tab w b c) {a : Addr} (hb : b ≠ a.block) (v : Value) : Tab (w.setCell a v) b c := by
 unfold Tab; rw [heap_setCell_other w a b v hb]; exact h
theorem Tab.setRow {w : World} {b : Nat} {c : Nat -> Nat} (h : Tab w b c) (d : Nat -> Nat) : Tab (w.setRow b (tab d)) b d := setRow_heap w b _ _ _ _ h
theorem Tab.congr {w : World} {b : Nat} {c d : Nat -> Nat} (h : Tab w b c) (e : ∀ n, n < 256 -> c n = d n) : Tab w b d := by
 unfold Tab; rw [<- tab_congr e]; exact h
theorem info_tab : (Tryz.prog.info? 133).map (·.size) = some 256 := by kernel_rfl
theorem zero_tab : ∀ w : World, (zeroValue 133).run Tryz.prog w = .ok (.agg (tab (fun _ => 0))) w := (zero_of_info (n := 256) (by kernel_rfl)).1
theorem below_setRow' {B : Nat} {a w : World} (h : Below B a w) {g : Nat} (hg : B <= g) (cs : Array Value) : Below B a (w.setRow g cs) :=
 ⟨h.os, h.tape, h.output, by simp; exact h.size, fun k hk => (Go.setRow_other w g k cs (by omega)).trans (h.block k hk)⟩
theorem load_tab {ops : Array Oper} {rest : List Oper} {o : Oper} {a : Act} {w : World} {Q : Exit -> Act -> World -> Prop} (hgd : o.guard = none) (x : Operand) (ho : o.op = .load 133 x)
 (b : Nat) (c : Nat -> Nat) (hx : a.eval x = .pointer (some ⟨b, 0, none⟩)) (h : Tab w b c) (k : wpList Tryz.prog ops Q rest (a.put o.dst (.agg (tab c))) w) : wpList Tryz.prog ops Q (o :: rest) a w :=
 wpList_load_row hgd 133 x ho b hx _ _ _ _ h Tryz.underlying133 rfl (by rw [tab_size]; exact info_tab) k
theorem store_tab {ops : Array Oper} {rest : List Oper} {o : Oper} {a : Act} {w : World} {Q : Exit -> Act -> World -> Prop} (hgd : o.guard = none) (x y : Operand) (ho : o.op = .store 133 x y)
 (b : Nat) (c d : Nat -> Nat) (hx : a.eval x = .pointer (some ⟨b, 0, none⟩)) (hy : a.eval y = .agg (tab d)) (h : Tab w b c) (k : wpList Tryz.prog ops Q rest (a.put o.dst undef) (w.setRow b (tab d))) : wpList Tryz.prog ops Q (o :: rest) a w :=
 wpList_store_row hgd 133 x y ho b _ hx hy _ _ h (by rw [tab_size]; exact info_tab) (by rw [tab_size, tab_size]) (tab_one d) k
theorem and1 {m : Nat} (h : m < 4294967296) : bits .and .u32 (m : Int) 1 = ((m % 2 : Nat) : Int) := by
 have := u32_and_nat m 1 h (by decide)
 rw [Nat.and_one_is_mod] at this
 exact this
theorem xorP {m : Nat} (h : m < 4294967296) : bits .xor .u32 ((m : Int) / 2) 3988292384 = ((m / 2 ^^^ 3988292384 : Nat) : Int) := by
 have := u32_xor_nat (m / 2) 3988292384 (by omega) (by decide)
 rw [<- this]
 rfl
theorem movedEight_any (n : Nat) (w : World) (hn : n < 4294967296) :
 Calls Tryz.prog 95 #[.int .u32 (n : Int)] w fun e w' => e = .returned (.int .u32 (lfts 8 n : Nat)) /\ w' = w := by
 go_enter Tryz.func95, Tryz.ntmps95
 go_wp2
 go_loop [0, 4] (fun t i => ∃ k : Nat, k <= 8 /\ i = .int .i64 k /\ t = .int .u32 (lfts k n : Nat)) (fun _ i => 8 - (intOf i).toNat)
 case atStart => exact ⟨0, Nat.zero_le _, rfl, rfl⟩
 case round =>
  obtain ⟨k, hk, rfl, rfl⟩ := hrel
  by_cases hlt : k < 8
  . have hb := lfts_lt k hn
    have H : Hid (lfts (k + 1) n = lft (lfts k n)) := lfts_succ k n
    generalize lfts k n = m at *
    by_cases e : m % 2 = 1
    . have h1 : (bits .and .u32 (m : Int) 1 == 1) = true := by rw [and1 hb, e]; rfl
      have HX := Hd (xorP hb)
      have HL : Hid (lft m = m / 2 ^^^ 3988292384) := Hd (by unfold lft; rw [if_pos e])
      go_wp2
      go_round
      case rel => exact ⟨k + 1, by omega, by go_num, by rw [H.out, uh HX, uh HL]⟩
      case measure => simp [intOf]; omega
    . have h1 : (bits .and .u32 (m : Int) 1 == 1) = false := by rw [and1 hb, show m % 2 = 0 by omega]; rfl
      have HL : Hid (lft m = m / 2) := Hd (by unfold lft; rw [if_neg e])
      go_wp2
      go_round
      case rel => exact ⟨k + 1, by omega, by go_num, by rw [H.out, uh HL]; rfl⟩
      case measure => simp [intOf]; omega
  . have e : k = 8 := by omega
    subst e
    go_wp2
    go_ret
    trivial
def tabTo (k : Nat) : Nat -> Nat := fun n => if n < k then lfts 8 n else 0
theorem tabTo_next (k : Nat) : tabSet (tabTo k) k (lfts 8 k) = tabTo (k + 1) := by
 funext n
 unfold tabSet tabTo
 by_cases e : n = k
 . subst e; simp
 . rw [if_neg e]
   by_cases h : n < k
   . rw [if_pos h, if_pos (by omega)]
   . rw [if_neg h, if_neg (by omega)]
theorem tabTo_zero : tabTo 0 = fun _ => 0 := by funext n; simp [tabTo]
theorem allMoved_any (w : World) :
 Calls Tryz.prog 75 #[] w fun e w' => e = .returned (.agg (tab (lfts 8))) /\ Below w.heap.size w w' := by
 have hz := zero_tab
 go_enter Tryz.func75, Tryz.ntmps75
 go_wp2
 have HR : Hid (Tab ((w.alloc (.cells (tab (fun _ => 0)) 133)).alloc (.cells (tab (fun _ => 0)) 133)) w.heap.size (fun _ => 0)) := Hd ((Below.heap_alloc _ _ _ (by simp)).trans (heap_alloc_new _ _))
 have HM : Hid (Tab ((w.alloc (.cells (tab (fun _ => 0)) 133)).alloc (.cells (tab (fun _ => 0)) 133)) (w.heap.size + 1) (tabTo 0)) := Hd (by
  have := heap_alloc_new (w.alloc (.cells (tab (fun _ => 0)) 133)) (.cells (tab (fun _ => 0)) 133)
  rw [World.size_alloc] at this
  rw [tabTo_zero]
  exact this)
 have HB := Hd (((Below.refl w.heap.size w).alloc (Nat.le_refl _) (.cells (tab (fun _ => 0)) 133)).alloc (by simp) (.cells (tab (fun _ => 0)) 133))
 go_loopw [3] (fun i wr => ∃ k : Nat, k <= 256 /\ i = .int .u32 (k : Int) /\ Tab wr w.heap.size (fun _ => 0) /\ Tab wr (w.heap.size + 1) (tabTo k) /\ Below w.heap.size w wr) (fun i _ => 256 - (intOf i).toNat)
 case atStart => exact ⟨0, by omega, rfl, uh HR, uh HM, uh HB⟩
 case round =>
  obtain ⟨k, hk, rfl, hR, hM, hB⟩ := hrel
  have HR1 := Hd hR
  have HM1 := Hd hM
  have HB1 := Hd hB
  by_cases hlt : k < 256
  . have c1 := hM.cell (j := k) hlt
    have f1 := hM.frozen k
    clear hR hM hB HR HM HB
    go_wp2_with (go_at_call 95; refine (movedEight_any _ _ (by omega)).mono ?_; rintro e w' ⟨rfl, rfl⟩)
    go_roundw
    case rel => exact ⟨k + 1, by omega, by go_num, (uh HR1).other (by simp) _, by rw [<- tabTo_next]; exact (uh HM1).set _ _, (uh HB1).setCell (by simp) _⟩
    case measure => simp [intOf]; omega
  . obtain rfl : k = 256 := by omega
    have HX := Hd ((uh HM1).congr (d := lfts 8) (fun n hn => by unfold tabTo; rw [if_pos hn]))
    go_wp2_with (first | (refine load_tab rfl (.tmp 1) rfl _ (lfts 8) rfl (uh HX) ?_) | (refine store_tab rfl (.tmp 0) (.tmp 11) rfl _ _ (lfts 8) rfl rfl (uh HR1) ?_))
    have HY := Hd ((uh HR1).setRow (lfts 8))
    refine bodyPost_ret (v := .agg (tab (lfts 8))) ?_ rfl ⟨rfl, below_setRow' (uh HB1) (by omega) _⟩
    exact results_cell_row rfl _ _ _ _ _ _ _ rfl (uh HY) Tryz.underlying133 rfl (by rw [tab_size]; exact info_tab)
end Go.Proofs.YtcdnbiiaoaeflafGreatDoor
