/-
  Package inflate: what a symbol of the code of lengths tells.
-/
import Derived.Test.YtfoaaamcpknjnacQ43
import Derived.Test.YtfoaaamcpknjnacQ42
namespace Go.Proofs.Ytfoaaamcpknjnac
open Go.RowKit
set_option linter.unusedVariables false
set_option maxRecDepth 100000
set_option linter.unusedSimpArgs false

set_option maxHeartbeats 4000000 in
theorem run_any (No : Nat → Prop) (B b : Nat) (a : Option Addr) (n cap : Nat) (bs : List Nat) (f1 f2 : Value) (u : US) (w : World) (h : IIs No B w b (.slice a n cap) f1 f2 u) (hR : Rd w No a n bs) (hp : u.p ≤ 8 * n) (he : u.e = 0) (al : Option Addr) (M cp : Nat) (l : List Int) (hl : l.length = M) (hM : M ≤ 1000) (hRw : RowIn .i64 w al l) (hNl : ∀ g o, al = some ⟨g, o, none⟩ → l ≠ [] → No g) (k : Nat) (hk : k < 19) (x : Int) (t : Nat) (v : US) (hr : Hid (ukind (rowB bs n) l k u = (x, t, v))) :
    Calls Try.prog 111 #[.pointer (some ⟨b, 0, none⟩), .int .i64 (k : Int), .slice al M cp] w fun e w' => Got No B w b (.slice a n cap) f1 f2 (.tuple #[.int .i64 x, .int .i64 (t : Int)]) v e w' := by
  have H := hide h
  have HR := hide hR
  have HWR : Hid (∀ q (size least r : Nat) (y : US), size ≤ 16 → least ≤ 40000 → uget (rowB bs n) size u = (r, y) → Calls Try.prog 81 #[.pointer (some ⟨b, 0, none⟩), .int .i64 (least : Int), .int .i64 (size : Int)] (w.drewN q) fun e w' => Got No B w b (.slice a n cap) f1 f2 (.int .i64 ((least + r : Nat) : Int)) y e w') := hide (fun q size least r y h1 h2 h3 => (withRest_any No B b a n cap size least bs f1 f2 u (w.drewN q) (h.grown ⟨rfl, rfl, rfl, Nat.le_refl _, fun _ _ _ => rfl⟩) (hR.keep (Nat.le_refl _) (Kp.refl _ _)) hp he h1 h2 r y (hide h3)).mono (fun e w' hg => Got.from hg (below_drewN (Below.refl _ _) q) (fun _ _ _ => rfl)))
  have HE := hide he
  clear h hR hp he
  by_cases k16 : k = 16
  · subst k16
    by_cases hM0 : M = 0
    · subst hM0
      have HF : Hid (v = { u with e := 8 }) := hide (by
        have := unhide hr
        unfold ukind at this
        rw [if_pos rfl, if_pos hl] at this
        have h2 := (Prod.mk.inj (Prod.mk.inj this).2).2
        rw [← h2]
        unfold uwrong
        rw [if_pos (unhide HE)])
      clear HWR hl hRw hNl
      go_enter Try.func111, Try.ntmps111
      go_wp2_with fail
      refine (giveUp_any 8 _).mono ?_
      rintro e w2 ⟨rfl, rfl⟩
      go_wp2
      exact ⟨rfl, .inr ⟨by rw [unhide HF]; exact (by decide : (8 : Int) ≠ 0), by rw [unhide HF], Bl.refl _ _ _⟩⟩
    · obtain ⟨r, y, hy⟩ : ∃ r y, uget (rowB bs n) 2 u = (r, y) := ⟨_, _, rfl⟩
      obtain ⟨q, hq⟩ : ∃ q, M - 1 = q := ⟨_, rfl⟩
      have HF : Hid (x = l.getD q 0 ∧ t = 3 + r ∧ v = y) := hide (by
        have := unhide hr
        unfold ukind at this
        rw [if_pos rfl, if_neg (by omega), hy, hl, hq] at this
        exact ⟨(Prod.mk.inj this).1.symm, (Prod.mk.inj (Prod.mk.inj this).2).1.symm, (Prod.mk.inj (Prod.mk.inj this).2).2.symm⟩)
      have HW := hide (fun q => unhide HWR q 2 3 r y (by decide) (by decide) hy)
      obtain ⟨g, o, rfl, hgl, hrow⟩ : ∃ g o, al = some ⟨g, o, none⟩ ∧ g < w.heap.size ∧ Row .i64 w g o l := by
        rcases hRw with h0 | h0
        · rw [h0] at hl; simp at hl; omega
        · exact h0
      have hNg : No g := hNl g o rfl (fun e => by rw [e] at hl; simp at hl; omega)
      have cL : w.cell? ⟨g, o + q, none⟩ = some (.int .i64 (l.getD q 0)) := hrow q (by omega)
      obtain ⟨z, hz⟩ : ∃ z, l.getD q 0 = z := ⟨_, rfl⟩
      rw [hz] at cL HF
      have hb0 : ((M : Int) == 0) = false := by rw [beq_eq_false_iff_ne]; omega
      have i1 : IntKind.i64.wrap ((M : Int) - 1) = (M : Int) - 1 := by simp [IntKind.wrap, IntKind.signed, IntKind.bits]; omega
      have i2 : (1 : Int) ≤ (M : Int) := by omega
      have i3 : (M : Int) - 1 < (M : Int) := by omega
      have i4 : ((M : Int) - 1).toNat = q := by omega
      clear hy HWR hrow hRw hNl hz hl hr hq hM0
      by_cases h0 : y.e = 0
      · have HN : Hid (∀ q2, Calls Try.prog 81 #[.pointer (some ⟨b, 0, none⟩), .int .i64 3, .int .i64 2] (w.drewN q2) fun e w' => e = .returned (.int .i64 ((3 + r : Nat) : Int)) ∧ w'.cell? ⟨g, o + q, none⟩ = some (.int .i64 z) ∧ Hid (IUp No B w b (.slice a n cap) f1 f2 y w')) := hide (fun q2 => (unhide HW q2).mono (fun e w' hg => by
          rcases hg with ⟨_, e1, e2⟩ | ⟨e0, _⟩
          · exact ⟨e1, (World.cell?_of_block (w := w) (a := ⟨g, _, none⟩) (e2.kp g hgl hNg)).trans cL, hide e2⟩
          · exact absurd h0 e0))
        clear HW
        go_enter Try.func111, Try.ntmps111
        go_wp2
        go_region_with (go_at_call 81; refine (unhide HN _).mono ?_; rintro e w4 ⟨rfl, c4, HI4⟩)
        all_goals try go_wp2
        all_goals refine bodyPost_ret (v := .tuple #[.int .i64 z, .int .i64 ((3 + r : Nat) : Int)]) ?_ rfl (.inl ⟨by rw [(unhide HF).2.2]; exact h0, by rw [(unhide HF).1, (unhide HF).2.1], by rw [(unhide HF).2.2]; exact unhide HI4⟩)
        all_goals first | rfl | kernel_rfl
      · have HP : Hid (∀ q2, Calls Try.prog 81 #[.pointer (some ⟨b, 0, none⟩), .int .i64 3, .int .i64 2] (w.drewN q2) fun e w' => e = Flt y.e ∧ Bl No B w w') := hide (fun q2 => (unhide HW q2).mono (fun e w' hg => by
          rcases hg with ⟨e0, _⟩ | ⟨_, e1, e2⟩
          · exact absurd e0 h0
          · exact ⟨e1, e2⟩))
        clear HW
        go_enter Try.func111, Try.ntmps111
        go_wp2
        refine wp_region_held_drew (S := fun w' => w'.cell? ⟨g, o + q, none⟩ = some (.int .i64 z)) (by kernel_rfl) cL (fun hHeld => ?_)
        refine wpAnyH_take (i := 0) (v := .slice (some ⟨g, o, none⟩) M cp) rfl (by kernel_rfl) (by kernel_rfl) (by kernel_rfl) (fun _ _ _ h => h) (Or.inl ⟨by rfl, fun W hS => by go_simp⟩) hHeld ?_
        simp only [Act.put, List.setIfInBounds_toArray, List.set_cons_zero, List.set_cons_succ]
        refine wpAnyH_take (i := 1) (v := .slice (some ⟨g, o, none⟩) M cp) rfl (by kernel_rfl) (by kernel_rfl) (by kernel_rfl) (fun _ _ _ h => h) (Or.inl ⟨by rfl, fun W hS => by go_simp⟩) hHeld ?_
        simp only [Act.put, List.setIfInBounds_toArray, List.set_cons_zero, List.set_cons_succ]
        refine wpAnyH_take (i := 2) (v := .int .i64 (M : Int)) rfl (by kernel_rfl) (by kernel_rfl) (by kernel_rfl) (fun _ _ _ h => h) (Or.inl ⟨by rfl, fun W hS => by go_simp⟩) hHeld ?_
        simp only [Act.put, List.setIfInBounds_toArray, List.set_cons_zero, List.set_cons_succ]
        refine wpAnyH_take (i := 3) (v := .int .i64 ((M : Int) - 1)) rfl (by kernel_rfl) (by kernel_rfl) (by kernel_rfl) (fun _ _ _ h => h) (Or.inl ⟨by rfl, fun W hS => by go_simp⟩) hHeld ?_
        simp only [Act.put, List.setIfInBounds_toArray, List.set_cons_zero, List.set_cons_succ]
        refine wpAnyH_take (i := 4) (v := .pointer (some ⟨g, o + q, none⟩)) rfl (by kernel_rfl) (by kernel_rfl) (by kernel_rfl) (fun _ _ _ h => h) (Or.inl ⟨by rfl, fun W hS => by go_simp⟩) hHeld ?_
        simp only [Act.put, List.setIfInBounds_toArray, List.set_cons_zero, List.set_cons_succ]
        refine wpAnyH_take (i := 5) (v := .int .i64 z) rfl (by kernel_rfl) (by kernel_rfl) (by kernel_rfl) (fun _ _ _ h => h) (Or.inl ⟨by rfl, fun W hS => by have hS' : W.cell? ⟨g, o + q, none⟩ = some (.int .i64 z) := hS; go_simp⟩) hHeld ?_
        simp only [Act.put, List.setIfInBounds_toArray, List.set_cons_zero, List.set_cons_succ]
        refine wpAnyH_take (i := 6) (v := .pointer (some ⟨b, 0, none⟩)) rfl (by kernel_rfl) (by kernel_rfl) (by kernel_rfl) (fun _ _ _ h => h) (Or.inl ⟨by rfl, fun W hS => by go_simp⟩) hHeld ?_
        simp only [Act.put, List.setIfInBounds_toArray, List.set_cons_zero, List.set_cons_succ]
        refine wpAnyH_ready (rs := [7]) (by kernel_rfl) (by simp) (AllReadyH.cons rfl (fun K hK => ?_) AllReadyH.nil)
        go_simp
        refine (unhide HP _).mono ?_
        rintro e w4 ⟨rfl, hB⟩
        exact And.intro rfl (Or.inr ⟨by rw [(unhide HF).2.2]; exact h0, by rw [(unhide HF).2.2], hB⟩)
  · have hb16 : ((k : Int) == 16) = false := by rw [beq_eq_false_iff_ne]; omega
    clear hRw hNl
    by_cases k17 : k = 17
    · subst k17
      obtain ⟨r, y, hy⟩ : ∃ r y, uget (rowB bs n) 3 u = (r, y) := ⟨_, _, rfl⟩
      have HF : Hid (x = 0 ∧ t = 3 + r ∧ v = y) := hide (by
        have := unhide hr
        unfold ukind at this
        rw [if_neg (by decide), if_pos rfl, hy] at this
        exact ⟨(Prod.mk.inj this).1.symm, (Prod.mk.inj (Prod.mk.inj this).2).1.symm, (Prod.mk.inj (Prod.mk.inj this).2).2.symm⟩)
      have HW := hide (unhide HWR 0 3 3 r y (by decide) (by decide) hy)
      clear hy HWR hr hb16 k16
      go_enter Try.func111, Try.ntmps111
      go_wp2_with fail
      refine (unhide HW).mono ?_
      rintro e w4 hg
      rcases hg with ⟨e0, rfl, hU⟩ | ⟨e0, rfl, hB⟩
      · have HU := hide hU
        clear hU
        go_wp2
        refine bodyPost_ret (v := .tuple #[.int .i64 0, .int .i64 ((3 + r : Nat) : Int)]) ?_ rfl (.inl ⟨by rw [(unhide HF).2.2]; exact e0, by rw [(unhide HF).1, (unhide HF).2.1], by rw [(unhide HF).2.2]; exact unhide HU⟩)
        first | rfl | kernel_rfl
      · go_wp2
        exact ⟨rfl, .inr ⟨by rw [(unhide HF).2.2]; exact e0, by rw [(unhide HF).2.2], hB⟩⟩
    · have hb17 : ((k : Int) == 17) = false := by rw [beq_eq_false_iff_ne]; omega
      by_cases k18 : k = 18
      · subst k18
        obtain ⟨r, y, hy⟩ : ∃ r y, uget (rowB bs n) 7 u = (r, y) := ⟨_, _, rfl⟩
        have HF : Hid (x = 0 ∧ t = 11 + r ∧ v = y) := hide (by
          have := unhide hr
          unfold ukind at this
          rw [if_neg (by decide), if_neg (by decide), if_pos rfl, hy] at this
          exact ⟨(Prod.mk.inj this).1.symm, (Prod.mk.inj (Prod.mk.inj this).2).1.symm, (Prod.mk.inj (Prod.mk.inj this).2).2.symm⟩)
        have HW := hide (unhide HWR 0 7 11 r y (by decide) (by decide) hy)
        clear hy HWR hr hb16 k16 hb17 k17
        go_enter Try.func111, Try.ntmps111
        go_wp2_with fail
        refine (unhide HW).mono ?_
        rintro e w4 hg
        rcases hg with ⟨e0, rfl, hU⟩ | ⟨e0, rfl, hB⟩
        · have HU := hide hU
          clear hU
          go_wp2
          refine bodyPost_ret (v := .tuple #[.int .i64 0, .int .i64 ((11 + r : Nat) : Int)]) ?_ rfl (.inl ⟨by rw [(unhide HF).2.2]; exact e0, by rw [(unhide HF).1, (unhide HF).2.1], by rw [(unhide HF).2.2]; exact unhide HU⟩)
          first | rfl | kernel_rfl
        · go_wp2
          exact ⟨rfl, .inr ⟨by rw [(unhide HF).2.2]; exact e0, by rw [(unhide HF).2.2], hB⟩⟩
      · have hb18 : ((k : Int) == 18) = false := by rw [beq_eq_false_iff_ne]; omega
        have HF : Hid (x = (k : Int) ∧ t = 1 ∧ v = u) := hide (by
          have := unhide hr
          unfold ukind at this
          rw [if_neg k16, if_neg k17, if_neg k18] at this
          exact ⟨(Prod.mk.inj this).1.symm, (Prod.mk.inj (Prod.mk.inj this).2).1.symm, (Prod.mk.inj (Prod.mk.inj this).2).2.symm⟩)
        clear hr k16 k17 k18 HWR
        go_enter Try.func111, Try.ntmps111
        go_wp2
        refine bodyPost_ret (v := .tuple #[.int .i64 (k : Int), .int .i64 1]) ?_ rfl (.inl ⟨by rw [(unhide HF).2.2]; exact unhide HE, by rw [(unhide HF).1, (unhide HF).2.1]; rfl, by rw [(unhide HF).2.2]; exact IUp.refl (unhide H)⟩)
        first | rfl | kernel_rfl
end Go.Proofs.Ytfoaaamcpknjnac

/-
  Package inflate, of bits alone: what is read of a row that was cut.
-/
namespace Go.Proofs.Ytfoaaamcpknjnac
set_option linter.unusedVariables false
set_option maxRecDepth 100000

/-- v: what is read of the whole row, without an error; v': of its first m bits -/
def PreU (m : Nat) (v v' : US) : Prop := (v.p ≤ m ∧ v' = v) ∨ (m < v.p ∧ v'.e = 7)
def PreP {α : Type} (m : Nat) (v v' : α × US) : Prop := (v.2.p ≤ m ∧ v' = v) ∨ (m < v.2.p ∧ v'.2.e = 7)

theorem take_same (row : List Bool) (m p n : Nat) (h : p + n ≤ m) : ((row.take m).drop p).take n = (row.drop p).take n := by
  rw [List.drop_take, List.take_take, Nat.min_eq_left (by omega)]
theorem uget_pre (row : List Bool) (m n : Nat) (u : US) (hm : m ≤ row.length) (he : u.e = 0) (h : (uget row n u).2.e = 0) : PreP m (uget row n u) (uget (row.take m) n u) := by
  have hl : (row.take m).length = m := by rw [List.length_take]; omega
  unfold uget at h ⊢
  rw [if_pos he] at h ⊢
  rw [if_pos he, hl]
  by_cases c : row.length < u.p + n
  · rw [if_pos c] at h
    exact absurd (show (7 : Int) = 0 from h) (by decide)
  · rw [if_neg c]
    by_cases d : m < u.p + n
    · rw [if_pos d]
      exact .inr ⟨d, rfl⟩
    · rw [if_neg d, take_same row m _ _ (by omega)]
      exact .inl ⟨by show u.p + n ≤ m; omega, rfl⟩
theorem nextF_pre (l : List Int) (row : List Bool) (m p : Nat) (hm : m ≤ row.length) : ∀ (f n : Nat), (nextF l row p f n).2.2 = 0 → n ≤ (nextF l row p f n).2.1 ∧ ((p + (nextF l row p f n).2.1 ≤ m ∧ nextF l (row.take m) p f n = nextF l row p f n) ∨ (m < p + (nextF l row p f n).2.1 ∧ (nextF l (row.take m) p f n).2.2 = 7))
  | 0, n, h => absurd (show (8 : Int) = 0 from h) (by decide)
  | f + 1, n, h => by
    have hl : (row.take m).length = m := by rw [List.length_take]; omega
    unfold nextF at h ⊢
    by_cases c : row.length < p + n
    · rw [if_pos c] at h
      exact absurd (show (7 : Int) = 0 from h) (by decide)
    · rw [if_neg c] at h ⊢
      rw [hl]
      by_cases d : m < p + n
      · rw [if_pos d]
        cases hf : findC l ((row.drop p).take n) with
        | some q => exact ⟨Nat.le_refl _, .inr ⟨d, by first | rfl | trivial⟩⟩
        | none =>
          rw [hf] at h
          simp only at h ⊢
          obtain ⟨i1, _⟩ := nextF_pre l row m p hm f (n + 1) h
          exact ⟨by omega, .inr ⟨by omega, by first | rfl | trivial⟩⟩
      · rw [if_neg d, take_same row m _ _ (by omega)]
        cases hf : findC l ((row.drop p).take n) with
        | some q => exact ⟨Nat.le_refl _, .inl ⟨by show p + n ≤ m; omega, rfl⟩⟩
        | none =>
          rw [hf] at h
          simp only at h ⊢
          obtain ⟨i1, i2⟩ := nextF_pre l row m p hm f (n + 1) h
          exact ⟨by omega, i2⟩
theorem uplace_pre (l : List Int) (row : List Bool) (m : Nat) (u : US) (hm : m ≤ row.length) (he : u.e = 0) (h : (uplace l row u).2.e = 0) : PreP m (uplace l row u) (uplace l (row.take m) u) := by
  unfold uplace at h ⊢
  rw [if_pos he] at h ⊢
  rw [if_pos he]
  obtain ⟨_, i | i⟩ := nextF_pre l row m u.p hm 15 1 h
  · left
    refine ⟨i.1, ?_⟩
    unfold nextR
    rw [i.2]
  · exact .inr ⟨i.1, i.2⟩
theorem ihow_pre (row : List Bool) (lb : List Int) (m : Nat) (u : US) (hm : m ≤ row.length) (he : u.e = 0) (h : (ihow row lb u).2.e = 0) : PreP m (ihow row lb u) (ihow (row.take m) lb u) := by
  have hp := uplace_pre lb row m u hm he
  unfold ihow at h ⊢
  generalize uplace lb row u = r at *
  generalize uplace lb (row.take m) u = r' at *
  by_cases c : r.2.e ≠ 0
  · rw [if_pos c] at h
    exact absurd h c
  · rw [if_neg c] at h ⊢
    have hr : r.2.e = 0 := by omega
    by_cases d : 29 < r.1
    · rw [if_pos d] at h
      exact absurd (show (8 : Int) = 0 from h) (by decide)
    · rw [if_neg d] at h ⊢
      have hge := uget_ge row (leastF r.1).2 r.2
      rcases hp hr with ⟨p1, p2⟩ | ⟨p1, p2⟩
      · rw [p2, if_neg c, if_neg d]
        rcases uget_pre row m (leastF r.1).2 r.2 hm hr h with ⟨q1, q2⟩ | ⟨q1, q2⟩
        · exact .inl ⟨q1, by rw [q2]⟩
        · exact .inr ⟨q1, q2⟩
      · rw [if_pos (by rw [p2]; decide)]
        exact .inr ⟨by show m < (uget row (leastF r.1).2 r.2).2.p; omega, p2⟩
theorem istep_pre (row : List Bool) (lb : List Int) (m k : Nat) (u : US) (hm : m ≤ row.length) (he : u.e = 0) (hpm : u.p ≤ m) (h : (istep row lb k u).e = 0) : PreU m (istep row lb k u) (istep (row.take m) lb k u) := by
  unfold istep at h ⊢
  by_cases c1 : k < 256
  · rw [if_pos c1] at h ⊢
    rw [if_pos c1]
    by_cases c2 : 3000 < u.out.length + 1
    · rw [if_pos c2] at h
      exact absurd (show (2 : Int) = 0 from h) (by decide)
    · rw [if_neg c2]
      exact .inl ⟨hpm, rfl⟩
  · rw [if_neg c1] at h ⊢
    rw [if_neg c1]
    by_cases c2 : 285 < k
    · rw [if_pos c2] at h
      exact absurd (show (8 : Int) = 0 from h) (by decide)
    · rw [if_neg c2] at h ⊢
      rw [if_neg c2]
      have hg := uget_pre row m (leastS k).2 u hm he
      have hgp := iget_p row (leastS k).2 u (by omega)
      generalize uget row (leastS k).2 u = g at *
      generalize uget (row.take m) (leastS k).2 u = g' at *
      by_cases c3 : g.2.e ≠ 0
      · rw [if_pos c3] at h
        exact absurd h c3
      · rw [if_neg c3] at h ⊢
        have hg0 : g.2.e = 0 := by omega
        by_cases c4 : (ihow row lb g.2).2.e ≠ 0
        · rw [if_pos c4] at h
          exact absurd h c4
        · rw [if_neg c4] at h ⊢
          obtain ⟨d1, _, _⟩ := iback_keeps _ _ _ h
          obtain ⟨_, _, b3, b4⟩ := ihow_keeps row lb g.2 hgp
          rcases hg hg0 with ⟨p1, p2⟩ | ⟨p1, p2⟩
          · rw [p2, if_neg c3]
            rcases ihow_pre row lb m g.2 hm hg0 (by omega) with ⟨q1, q2⟩ | ⟨q1, q2⟩
            · rw [q2, if_neg c4]
              exact .inl ⟨by rw [d1]; exact q1, rfl⟩
            · rw [if_pos (by rw [q2]; decide)]
              exact .inr ⟨by rw [d1]; exact q1, q2⟩
          · rw [if_pos (by rw [p2]; decide)]
            exact .inr ⟨by rw [d1]; omega, p2⟩
theorem itoks_pre (row : List Bool) (la lb : List Int) (m : Nat) (hm : m ≤ row.length) : ∀ (f f' : Nat) (u : US), u.e = 0 → u.p ≤ m → u.out.length ≤ 3000 → row.length + 1 ≤ u.p + f → m + 1 ≤ u.p + f' → (itoks row la lb f u).e = 0 → PreU m (itoks row la lb f u) (itoks (row.take m) la lb f' u)
  | 0, f', u, he, hpm, ho, hf, hf', h => by omega
  | f + 1, 0, u, he, hpm, ho, hf, hf', h => by omega
  | f + 1, f' + 1, u, he, hpm, ho, hf, hf', h => by
    have hp := uplace_pre la row m u hm he
    have a1 := uplace_ahd la row u (by omega) ho
    have hup := uplace_up la row u he
    have hmain := itoks_ahd row la lb (f + 1) u (by omega) ho h
    rw [itoks_succ] at h hmain ⊢
    rw [itoks_succ]
    generalize uplace la row u = r at *
    generalize uplace la (row.take m) u = r' at *
    by_cases c : r.2.e ≠ 0
    · rw [if_pos c] at h
      exact absurd h c
    · have hr : r.2.e = 0 := by omega
      have hup := hup hr
      rw [if_neg c] at h hmain ⊢
      by_cases d : r.1 = 256
      · rw [if_pos d]
        rcases hp hr with ⟨p1, p2⟩ | ⟨p1, p2⟩
        · rw [p2, if_neg c, if_pos d]
          exact .inl ⟨p1, rfl⟩
        · rw [if_pos (by rw [p2]; decide)]
          exact .inr ⟨p1, p2⟩
      · rw [if_neg d] at h hmain ⊢
        by_cases g : (istep row lb r.1 r.2).e ≠ 0
        · rw [if_pos g] at h
          exact absurd h g
        · rw [if_neg g] at h hmain ⊢
          have hg : (istep row lb r.1 r.2).e = 0 := by omega
          have a2 := istep_ahd row lb r.1 r.2 a1.le a1.out hg
          have a3 := itoks_ahd row la lb f _ a2.le a2.out h
          have l2 := a2.ge
          have l3 := a3.ge
          rcases hp hr with ⟨p1, p2⟩ | ⟨p1, p2⟩
          · rw [p2, if_neg c, if_neg d]
            rcases istep_pre row lb m r.1 r.2 hm hr p1 hg with ⟨q1, q2⟩ | ⟨q1, q2⟩
            · rw [q2, if_neg g]
              exact itoks_pre row la lb m hm f f' _ hg q1 a2.out (by omega) (by omega) h
            · rw [if_pos (by rw [q2]; decide)]
              exact .inr ⟨by omega, q2⟩
          · rw [if_pos (by rw [p2]; decide)]
            exact .inr ⟨by omega, p2⟩
theorem ustore_pre (row : List Bool) (m : Nat) (hm : m ≤ row.length) : ∀ (k : Nat) (u : US), u.p ≤ m → (ustore row k u).e = 0 → PreU m (ustore row k u) (ustore (row.take m) k u)
  | 0, u, hpm, h => .inl ⟨hpm, rfl⟩
  | k + 1, u, hpm, h => by
    have he := ustore_e h
    rw [ustore, if_pos he] at h ⊢
    rw [ustore, if_pos he]
    have h0 := ustore_e h
    obtain ⟨h1, h2, h3⟩ := usay_e h0
    have hp := uget_pre row m 8 u hm he h1
    have hgp := iget_p row 8 u (by omega)
    generalize uget row 8 u = g at *
    generalize uget (row.take m) 8 u = g' at *
    rw [h3] at h ⊢
    obtain ⟨s1, s2, s3⟩ := ustore_p h hgp
    rcases hp with ⟨p1, p2⟩ | ⟨p1, p2⟩
    · rw [p2, h3]
      exact ustore_pre row m hm k _ p1 h
    · have e7 : usay g'.1 g'.2 = g'.2 := by unfold usay; rw [if_neg (by rw [p2]; decide)]
      rw [e7, ustore_bad (row.take m) k g'.2 (by rw [p2]; decide)]
      refine .inr ⟨?_, p2⟩
      have s1 : g.2.p ≤ _ := s1
      omega
theorem istored_pre (row : List Bool) (q : Nat) (u : US) (hm : 8 * q ≤ row.length) (he : u.e = 0) (hpm : u.p ≤ 8 * q) (h : (istored row u).e = 0) : PreU (8 * q) (istored row u) (istored (row.take (8 * q)) u) := by
  obtain ⟨p0, hp0⟩ : ∃ p0, (u.p + 7) / 8 * 8 = p0 := ⟨_, rfl⟩
  have hp8 : p0 ≤ 8 * q := by omega
  obtain ⟨r1, v1, h1⟩ : ∃ r1 v1, uget row 16 { u with p := p0 } = (r1, v1) := ⟨_, _, rfl⟩
  obtain ⟨r2, v2, h2⟩ : ∃ r2 v2, uget row 16 v1 = (r2, v2) := ⟨_, _, rfl⟩
  obtain ⟨s1, x1, g1⟩ : ∃ s1 x1, uget (row.take (8 * q)) 16 { u with p := p0 } = (s1, x1) := ⟨_, _, rfl⟩
  obtain ⟨s2, x2, g2⟩ : ∃ s2 x2, uget (row.take (8 * q)) 16 x1 = (s2, x2) := ⟨_, _, rfl⟩
  rw [istored_is row u v1 v2 p0 r1 r2 hp0 h1 h2] at h ⊢
  rw [istored_is (row.take (8 * q)) u x1 x2 p0 s1 s2 hp0 g1 g2]
  by_cases c : v2.e ≠ 0
  · rw [if_pos c] at h
    exact absurd h c
  rw [if_neg c] at h ⊢
  have e2 : v2.e = 0 := by omega
  by_cases c2 : r1 + r2 ≠ 65535
  · rw [if_pos c2] at h
    exact absurd (show (4 : Int) = 0 from h) (by decide)
  rw [if_neg c2] at h ⊢
  by_cases c3 : 3000 < v2.out.length + r1
  · rw [if_pos c3] at h
    exact absurd (show (2 : Int) = 0 from h) (by decide)
  rw [if_neg c3] at h ⊢
  have e1 : v1.e = 0 := uget_e (by rw [h2]; exact e2)
  have b1 := uget_p2 h1 e1
  have b2 := uget_p2 h2 e2
  obtain ⟨t1, t2, _⟩ := ustore_p h b2.2.1
  have P1 := uget_pre row (8 * q) 16 { u with p := p0 } hm he (by rw [h1]; exact e1)
  rw [h1, g1] at P1
  rcases P1 with ⟨p1, p2⟩ | ⟨p1, p2⟩
  · obtain ⟨rfl, rfl⟩ := Prod.mk.inj p2
    have P2 := uget_pre row (8 * q) 16 x1 hm e1 (by rw [h2]; exact e2)
    rw [h2, g2] at P2
    rcases P2 with ⟨q1, q2⟩ | ⟨q1, q2⟩
    · obtain ⟨rfl, rfl⟩ := Prod.mk.inj q2
      rw [if_neg c, if_neg c2, if_neg c3]
      exact ustore_pre row (8 * q) hm _ _ q1 h
    · have q1 : 8 * q < v2.p := q1
      have q2 : x2.e = 7 := q2
      rw [if_pos (by rw [q2]; decide)]
      exact .inr ⟨by omega, q2⟩
  · have p1 : 8 * q < v1.p := p1
    have p2 : x1.e = 7 := p2
    have : x2 = x1 := by have := iget_bad (row.take (8 * q)) 16 x1 (by rw [p2]; decide); rw [g2] at this; exact this
    rw [this, if_pos (by rw [p2]; decide)]
    exact .inr ⟨by omega, p2⟩
end Go.Proofs.Ytfoaaamcpknjnac
