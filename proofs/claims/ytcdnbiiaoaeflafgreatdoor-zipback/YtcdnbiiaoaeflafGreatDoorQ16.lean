import Derived.Test.YtcdnbiiaoaeflafGreatDoorQ14
import Derived.Test.YtcdnbiiaoaeflafGreatDoorQ10
set_option maxHeartbeats 4000000
namespace Go.Proofs.YtcdnbiiaoaeflafGreatDoor
open Go.RowKit
set_option linter.unusedVariables false
set_option maxRecDepth 100000
set_option linter.unusedSimpArgs false
theorem run_any (No : Nat -> Prop) (B b : Nat) (a : Option Addr) (n cap : Nat) (bs : List Nat) (f1 f2 : Value) (u : US) (w : World) (h : IIs No B w b (.slice a n cap) f1 f2 u) (hR : Rd w No a n bs) (hp : u.p <= 8 * n) (he : u.e = 0) (al : Option Addr) (M cp : Nat) (l : List Int) (hl : l.length = M) (hM : M <= 1000) (hRw : RowIn .i64 w al l) (hNl : ∀ g o, al = some ⟨g, o, none⟩ -> l ≠ [] -> No g) (k : Nat) (hk : k < 19) (x : Int) (t : Nat) (v : US) (hr : Hid (ukind (rowB bs n) l k u = (x, t, v))) :
 Calls Tryz.prog 223 #[.pointer (some ⟨b, 0, none⟩), .int .i64 (k : Int), .slice al M cp] w fun e w' => Got No B w b (.slice a n cap) f1 f2 (.tuple #[.int .i64 x, .int .i64 (t : Int)]) v e w' := by
 have H := Hd h
 have HR := Hd hR
 have HWR : Hid (∀ q (size least r : Nat) (y : US), size <= 16 -> least <= 40000 -> uget (rowB bs n) size u = (r, y) -> Calls Tryz.prog 206 #[.pointer (some ⟨b, 0, none⟩), .int .i64 (least : Int), .int .i64 (size : Int)] (w.drewN q) fun e w' => Got No B w b (.slice a n cap) f1 f2 (.int .i64 ((least + r : Nat) : Int)) y e w') := Hd (fun q size least r y h1 h2 h3 => (withRest_any No B b a n cap size least bs f1 f2 u (w.drewN q) (h.grown ⟨rfl, rfl, rfl, Nat.le_refl _, fun _ _ _ => rfl⟩) (hR.keep (Nat.le_refl _) (Kp.refl _ _)) hp he h1 h2 r y (Hd h3)).mono (fun e w' hg => Got.from hg (bdN (Below.refl _ _) q) (fun _ _ _ => rfl)))
 have HE := Hd he
 clear h hR hp he
 by_cases k16 : k = 16
 . subst k16
   by_cases hM0 : M = 0
   . subst hM0
     have HF : Hid (v = { u with e := 8 }) := Hd (by
      have := uh hr
      unfold ukind at this
      rw [if_pos rfl, if_pos hl] at this
      have h2 := (Prod.mk.inj (Prod.mk.inj this).2).2
      rw [<- h2]
      unfold uwrong
      rw [if_pos (uh HE)])
     clear HWR hl hRw hNl
     go_enter Tryz.func223, Tryz.ntmps223
     go_wp2_with fail
     refine (giveUp_any 8 _).mono ?_
     rintro e w2 ⟨rfl, rfl⟩
     go_wp2
     exact ⟨rfl, .inr ⟨by rw [uh HF]; exact (by decide : (8 : Int) ≠ 0), by rw [uh HF], Bl.refl _ _ _⟩⟩
   . obtain ⟨r, y, hy⟩ : ∃ r y, uget (rowB bs n) 2 u = (r, y) := ⟨_, _, rfl⟩
     obtain ⟨q, hq⟩ : ∃ q, M - 1 = q := ⟨_, rfl⟩
     have HF : Hid (x = l.getD q 0 /\ t = 3 + r /\ v = y) := Hd (by
      have := uh hr
      unfold ukind at this
      rw [if_pos rfl, if_neg (by omega), hy, hl, hq] at this
      exact ⟨(Prod.mk.inj this).1.symm, (Prod.mk.inj (Prod.mk.inj this).2).1.symm, (Prod.mk.inj (Prod.mk.inj this).2).2.symm⟩)
     have HW := Hd (fun q => uh HWR q 2 3 r y (by decide) (by decide) hy)
     obtain ⟨g, o, rfl, hgl, hrow⟩ : ∃ g o, al = some ⟨g, o, none⟩ /\ g < w.heap.size /\ Row .i64 w g o l := by
      rcases hRw with h0 | h0
      . rw [h0] at hl; simp at hl; omega
      . exact h0
     have hNg : No g := hNl g o rfl (fun e => by rw [e] at hl; simp at hl; omega)
     have cL : w.cell? ⟨g, o + q, none⟩ = some (.int .i64 (l.getD q 0)) := hrow q (by omega)
     obtain ⟨z, hz⟩ : ∃ z, l.getD q 0 = z := ⟨_, rfl⟩
     rw [hz] at cL HF
     have hb0 : ((M : Int) == 0) = false := by rw [beq_eq_false_iff_ne]; omega
     have i1 : IntKind.i64.wrap ((M : Int) - 1) = (M : Int) - 1 := by simp [IntKind.wrap, IntKind.signed, IntKind.bits]; omega
     have i2 : (1 : Int) <= (M : Int) := by omega
     have i3 : (M : Int) - 1 < (M : Int) := by omega
     have i4 : ((M : Int) - 1).toNat = q := by omega
     clear hy HWR hrow hRw hNl hz hl hr hq hM0
     by_cases h0 : y.e = 0
     . have HN : Hid (∀ q2, Calls Tryz.prog 206 #[.pointer (some ⟨b, 0, none⟩), .int .i64 3, .int .i64 2] (w.drewN q2) fun e w' => e = .returned (.int .i64 ((3 + r : Nat) : Int)) /\ w'.cell? ⟨g, o + q, none⟩ = some (.int .i64 z) /\ Hid (IUp No B w b (.slice a n cap) f1 f2 y w')) := Hd (fun q2 => (uh HW q2).mono (fun e w' hg => by
        rcases hg with ⟨_, e1, e2⟩ | ⟨e0, _⟩
        . exact ⟨e1, (World.cell?_of_block (w := w) (a := ⟨g, _, none⟩) (e2.kp g hgl hNg)).trans cL, Hd e2⟩
        . exact absurd h0 e0))
       clear HW
       go_enter Tryz.func223, Tryz.ntmps223
       go_wp2
       go_region_with (go_at_call 206; refine (uh HN _).mono ?_; rintro e w4 ⟨rfl, c4, HI4⟩)
       all_goals try go_wp2
       all_goals refine bodyPost_ret (v := .tuple #[.int .i64 z, .int .i64 ((3 + r : Nat) : Int)]) ?_ rfl (.inl ⟨by rw [(uh HF).2.2]; exact h0, by rw [(uh HF).1, (uh HF).2.1], by rw [(uh HF).2.2]; exact uh HI4⟩)
       all_goals first | rfl | kernel_rfl
     . have HP : Hid (∀ q2, Calls Tryz.prog 206 #[.pointer (some ⟨b, 0, none⟩), .int .i64 3, .int .i64 2] (w.drewN q2) fun e w' => e = Flt y.e /\ Bl No B w w') := Hd (fun q2 => (uh HW q2).mono (fun e w' hg => by
        rcases hg with ⟨e0, _⟩ | ⟨_, e1, e2⟩
        . exact absurd e0 h0
        . exact ⟨e1, e2⟩))
       clear HW
       go_enter Tryz.func223, Tryz.ntmps223
       go_wp2
       refine wp_region_held_drew (S := fun w' => w'.cell? ⟨g, o + q, none⟩ = some (.int .i64 z)) (by kernel_rfl) cL (fun hHeld => ?_)
       refine wpAnyH_take (i := 0) (v := .slice (some ⟨g, o, none⟩) M cp) rfl (by kernel_rfl) (by kernel_rfl) (by kernel_rfl) (fun _ _ _ h => h) (Or.inl ⟨by rfl, fun W hS => by go_simp⟩) hHeld ?_
       simp only [Act.put, List.setIfInBounds_toArray, List.set_cons_zero, List.set_cons_succ]
       refine wpAnyH_take (i := 1) (v := .slice (some ⟨g, o, none⟩) M cp) rfl (by kernel_rfl) (by kernel_rfl) (by kernel_rfl) (fun _ _ _ h => h) (Or.inl ⟨by rfl, fun W hS => by go_simp⟩) hHeld ?_
       simp only [Act.put, List.setIfInBounds_toArray, List.set_cons_zero, List.set_cons_succ]
       refine wpAnyH_take (i := 2) (v := .int .i64 (M : Int)) rfl (by kernel_rfl) (by kernel_rfl) (by kernel_rfl) (fun _ _ _ h => h) (Or.inl ⟨by rfl, fun W hS => by go_simp⟩) hHeld ?_
       simp only [Act.put, List.setIfInBounds_toArray, List.set_cons_zero, List.set_cons_succ]
       refine wpAnyH_take (i := 3) (v := .int .i64 ((M : Int) - 1)) rfl (by kernel_rfl) (by kernel_rfl) (by kernel_rfl) (fun _ _ _ h => h) (Or.inl ⟨by rfl, fun W hS => by go_simp⟩) hHeld ?_
       simp only [Act.put, List.setIfInBounds_toArray, List.set_cons_zero, List.set_cons_succ]
       refine wpAnyH_take (i := 4) (v := .pointer (some ⟨g, o + q, none⟩)) rfl (by kernel_rfl) (by kernel_rfl) (by kernel_rfl) (fun _ _ _ h => h) (Or.inl ⟨by rfl, fun W hS => by go_simp⟩) hHeld ?_
       simp only [Act.put, List.setIfInBounds_toArray, List.set_cons_zero, List.set_cons_succ]
       refine wpAnyH_take (i := 5) (v := .int .i64 z) rfl (by kernel_rfl) (by kernel_rfl) (by kernel_rfl) (fun _ _ _ h => h) (Or.inl ⟨by rfl, fun W hS => by have hS' : W.cell? ⟨g, o + q, none⟩ = some (.int .i64 z) := hS; go_simp⟩) hHeld ?_
       simp only [Act.put, List.setIfInBounds_toArray, List.set_cons_zero, List.set_cons_succ]
       refine wpAnyH_take (i := 6) (v := .pointer (some ⟨b, 0, none⟩)) rfl (by kernel_rfl) (by kernel_rfl) (by kernel_rfl) (fun _ _ _ h => h) (Or.inl ⟨by rfl, fun W hS => by go_simp⟩) hHeld ?_
       simp only [Act.put, List.setIfInBounds_toArray, List.set_cons_zero, List.set_cons_succ]
       refine wpAnyH_ready (rs := [7]) (by kernel_rfl) (by simp) (AllReadyH.cons rfl (fun K hK => ?_) AllReadyH.nil)
       go_simp
       refine (uh HP _).mono ?_
       rintro e w4 ⟨rfl, hB⟩
       exact And.intro rfl (Or.inr ⟨by rw [(uh HF).2.2]; exact h0, by rw [(uh HF).2.2], hB⟩)
 . have hb16 : ((k : Int) == 16) = false := by rw [beq_eq_false_iff_ne]; omega
   clear hRw hNl
   by_cases k17 : k = 17
   . subst k17
     obtain ⟨r, y, hy⟩ : ∃ r y, uget (rowB bs n) 3 u = (r, y) := ⟨_, _, rfl⟩
     have HF : Hid (x = 0 /\ t = 3 + r /\ v = y) := Hd (by
      have := uh hr
      unfold ukind at this
      rw [if_neg (by decide), if_pos rfl, hy] at this
      exact ⟨(Prod.mk.inj this).1.symm, (Prod.mk.inj (Prod.mk.inj this).2).1.symm, (Prod.mk.inj (Prod.mk.inj this).2).2.symm⟩)
     have HW := Hd (uh HWR 0 3 3 r y (by decide) (by decide) hy)
     clear hy HWR hr hb16 k16
     go_enter Tryz.func223, Tryz.ntmps223
     go_wp2_with fail
     refine (uh HW).mono ?_
     rintro e w4 hg
     rcases hg with ⟨e0, rfl, hU⟩ | ⟨e0, rfl, hB⟩
     . have HU := Hd hU
       clear hU
       go_wp2
       refine bodyPost_ret (v := .tuple #[.int .i64 0, .int .i64 ((3 + r : Nat) : Int)]) ?_ rfl (.inl ⟨by rw [(uh HF).2.2]; exact e0, by rw [(uh HF).1, (uh HF).2.1], by rw [(uh HF).2.2]; exact uh HU⟩)
       first | rfl | kernel_rfl
     . go_wp2
       exact ⟨rfl, .inr ⟨by rw [(uh HF).2.2]; exact e0, by rw [(uh HF).2.2], hB⟩⟩
   . have hb17 : ((k : Int) == 17) = false := by rw [beq_eq_false_iff_ne]; omega
     by_cases k18 : k = 18
     . subst k18
       obtain ⟨r, y, hy⟩ : ∃ r y, uget (rowB bs n) 7 u = (r, y) := ⟨_, _, rfl⟩
       have HF : Hid (x = 0 /\ t = 11 + r /\ v = y) := Hd (by
        have := uh hr
        unfold ukind at this
        rw [if_neg (by decide), if_neg (by decide), if_pos rfl, hy] at this
        exact ⟨(Prod.mk.inj this).1.symm, (Prod.mk.inj (Prod.mk.inj this).2).1.symm, (Prod.mk.inj (Prod.mk.inj this).2).2.symm⟩)
       have HW := Hd (uh HWR 0 7 11 r y (by decide) (by decide) hy)
       clear hy HWR hr hb16 k16 hb17 k17
       go_enter Tryz.func223, Tryz.ntmps223
       go_wp2_with fail
       refine (uh HW).mono ?_
       rintro e w4 hg
       rcases hg with ⟨e0, rfl, hU⟩ | ⟨e0, rfl, hB⟩
       . have HU := Hd hU
         clear hU
         go_wp2
         refine bodyPost_ret (v := .tuple #[.int .i64 0, .int .i64 ((11 + r : Nat) : Int)]) ?_ rfl (.inl ⟨by rw [(uh HF).2.2]; exact e0, by rw [(uh HF).1, (uh HF).2.1], by rw [(uh HF).2.2]; exact uh HU⟩)
         first | rfl | kernel_rfl
       . go_wp2
         exact ⟨rfl, .inr ⟨by rw [(uh HF).2.2]; exact e0, by rw [(uh HF).2.2], hB⟩⟩
     . have hb18 : ((k : Int) == 18) = false := by rw [beq_eq_false_iff_ne]; omega
       have HF : Hid (x = (k : Int) /\ t = 1 /\ v = u) := Hd (by
        have := uh hr
        unfold ukind at this
        rw [if_neg k16, if_neg k17, if_neg k18] at this
        exact ⟨(Prod.mk.inj this).1.symm, (Prod.mk.inj (Prod.mk.inj this).2).1.symm, (Prod.mk.inj (Prod.mk.inj this).2).2.symm⟩)
       clear hr k16 k17 k18 HWR
       go_enter Tryz.func223, Tryz.ntmps223
       go_wp2
       refine bodyPost_ret (v := .tuple #[.int .i64 (k : Int), .int .i64 1]) ?_ rfl (.inl ⟨by rw [(uh HF).2.2]; exact uh HE, by rw [(uh HF).1, (uh HF).2.1]; rfl, by rw [(uh HF).2.2]; exact IUp.refl (uh H)⟩)
       first | rfl | kernel_rfl
end Go.Proofs.YtcdnbiiaoaeflafGreatDoor
namespace Go.Proofs.YtcdnbiiaoaeflafGreatDoor
set_option linter.unusedVariables false
set_option maxRecDepth 100000
end Go.Proofs.YtcdnbiiaoaeflafGreatDoor
