/-
  The document's own: are files alike?
-/
import Derived.Test.YtmgmganbamjnmaaGreatDoorQ6
import Derived.Test.YtmgmganbamjnmaaGreatDoorS8
namespace Go.Proofs.YtmgmganbamjnmaaGreatDoor
open Go.RowKit
set_option linter.unusedVariables false
set_option maxRecDepth 100000

theorem fl_eq (a b : Fl) : (a = b) ↔ (a.name = b.name ∧ a.bytes = b.bytes ∧ a.stamp = b.stamp ∧ a.node = b.node ∧ a.gone = b.gone) := by
  cases a; cases b; simp

set_option maxHeartbeats 2000000 in
theorem same_any (x y : Fv) (w : World) (hx : FvIn w x) (hy : FvIn w y) :
    Calls Tryz.prog 41 #[x.val, y.val] w fun e w' => e = .returned (.bool (decide (x.f = y.f))) ∧ Below w.heap.size w w' := by
  have HE := hide (fun W (hW : Below w.heap.size w W) => eq_bytes (hx.bs.below hW (Nat.le_refl _)) (hy.bs.below hW (Nat.le_refl _)))
  have hq := fl_eq x.f y.f
  have hn : ((B x.f.name).toList == (B y.f.name).toList) = decide (x.f.name = y.f.name) := by
    rw [toList_B, toList_B, Bool.eq_iff_iff, beq_iff_eq, decide_eq_true_iff]
  rw [val_is, val_is]
  obtain ⟨r, hr⟩ : ∃ r, decide (x.f = y.f) = r := ⟨_, rfl⟩
  have hr2 : r = decide (x.f.name = y.f.name ∧ x.f.bytes = y.f.bytes ∧ x.f.stamp = y.f.stamp ∧ x.f.node = y.f.node ∧ x.f.gone = y.f.gone) := by rw [← hr]; exact decide_eq_decide.2 hq
  rw [hr]
  clear hq hr hx hy
  have HR := hide hr2
  clear hr2
  by_cases h1 : x.f.name = y.f.name
  · rw [decide_eq_true h1] at hn
    by_cases h2 : x.f.bytes = y.f.bytes
    · by_cases h3 : x.f.stamp = y.f.stamp
      · by_cases h4 : x.f.node = y.f.node
        · have h5 : r = decide (x.f.gone = y.f.gone) := by rw [unhide HR]; exact decide_eq_decide.2 ⟨fun k => k.2.2.2.2, fun k => ⟨h1, h2, h3, h4, k⟩⟩
          rw [h5]
          rw [decide_eq_true h2] at HE
          clear h1 h2 h5 HR
          generalize B x.f.name = t at *
          generalize B y.f.name = t2 at *
          generalize x.f.bytes.length = n at *
          generalize y.f.bytes.length = n2 at *
          generalize x.f.stamp = s1 at *
          generalize y.f.stamp = s2 at *
          generalize x.f.node = d1 at *
          generalize y.f.node = d2 at *
          generalize x.f.gone = g1 at *
          generalize y.f.gone = g2 at *
          subst h3
          subst h4
          go_enter Tryz.func41, Tryz.ntmps41
          go_wp2_with (go_at_call 53; refine (unhide HE _ (bel_al (bel_al (Below.refl _ _) _) _)).mono ?_; rintro e w' ⟨rfl, rfl⟩)
          go_ret
          exact ⟨ret_bool (by cases g1 <;> cases g2 <;> rfl), bel_al (bel_al (Below.refl _ _) _) _⟩
        · have h5 : r = false := by rw [unhide HR]; exact decide_eq_false (fun k => h4 k.2.2.2.1)
          have hb : (x.f.node == y.f.node) = false := by simpa using h4
          rw [h5]
          rw [decide_eq_true h2] at HE
          clear h1 h2 h5 HR h4
          generalize B x.f.name = t at *
          generalize B y.f.name = t2 at *
          generalize x.f.bytes.length = n at *
          generalize y.f.bytes.length = n2 at *
          generalize x.f.stamp = s1 at *
          generalize y.f.stamp = s2 at *
          subst h3
          go_enter Tryz.func41, Tryz.ntmps41
          go_wp2_with (go_at_call 53; refine (unhide HE _ (bel_al (bel_al (Below.refl _ _) _) _)).mono ?_; rintro e w' ⟨rfl, rfl⟩)
          go_ret
          exact ⟨rfl, bel_al (bel_al (Below.refl _ _) _) _⟩
      · have h5 : r = false := by rw [unhide HR]; exact decide_eq_false (fun k => h3 k.2.2.1)
        have hb : (x.f.stamp == y.f.stamp) = false := by simpa using h3
        rw [h5]
        rw [decide_eq_true h2] at HE
        clear h1 h2 h5 HR h3
        generalize B x.f.name = t at *
        generalize B y.f.name = t2 at *
        generalize x.f.bytes.length = n at *
        generalize y.f.bytes.length = n2 at *
        go_enter Tryz.func41, Tryz.ntmps41
        go_wp2_with (go_at_call 53; refine (unhide HE _ (bel_al (bel_al (Below.refl _ _) _) _)).mono ?_; rintro e w' ⟨rfl, rfl⟩)
        go_ret
        exact ⟨rfl, bel_al (bel_al (Below.refl _ _) _) _⟩
    · have h5 : r = false := by rw [unhide HR]; exact decide_eq_false (fun k => h2 k.2.1)
      rw [h5]
      rw [decide_eq_false h2] at HE
      clear h1 h2 h5 HR
      generalize B x.f.name = t at *
      generalize B y.f.name = t2 at *
      generalize x.f.bytes.length = n at *
      generalize y.f.bytes.length = n2 at *
      go_enter Tryz.func41, Tryz.ntmps41
      go_wp2_with (go_at_call 53; refine (unhide HE _ (bel_al (bel_al (Below.refl _ _) _) _)).mono ?_; rintro e w' ⟨rfl, rfl⟩)
      go_ret
      exact ⟨rfl, bel_al (bel_al (Below.refl _ _) _) _⟩
  · have h5 : r = false := by rw [unhide HR]; exact decide_eq_false (fun k => h1 k.1)
    rw [h5]
    rw [decide_eq_false h1] at hn
    clear h1 h5 HR HE
    generalize B x.f.name = t at *
    generalize B y.f.name = t2 at *
    generalize x.f.bytes.length = n at *
    generalize y.f.bytes.length = n2 at *
    go_enter Tryz.func41, Tryz.ntmps41
    go_wp2
    go_ret
    exact ⟨rfl, bel_al (bel_al (Below.refl _ _) _) _⟩

theorem take_ne {α : Type} {a b : List α} {k : Nat} {x y : α} (hx : a[k]? = some x) (hy : b[k]? = some y) (h : x ≠ y) : a ≠ b := by
  rintro rfl
  rw [hx] at hy
  exact h (Option.some.inj hy)
theorem take_eq {α : Type} {a b : List α} {k : Nat} {x : α} (h : a.take k = b.take k) (hx : a[k]? = some x) (hy : b[k]? = some x) : a.take (k + 1) = b.take (k + 1) := by
  rw [List.take_add_one, List.take_add_one, h, hx, hy]

set_option maxHeartbeats 2000000 in
theorem equalFunc_any (ad bd : Option Addr) (c d : Nat) (xs ys : List Fv) (w : World) (h : FsIn w ad c xs) (k : FsIn w bd d ys) (n m : Nat) (hn : xs.length = n) (hm : ys.length = m) :
    Calls Tryz.prog 40 #[.slice ad n c, .slice bd m d, .func (.func 41) #[] #[]] w fun e w' => e = .returned (.bool (decide (fls xs = fls ys))) ∧ Below w.heap.size w w' := by
  have hl1 : (fls xs).length = n := by simp [fls, hn]
  have hl2 : (fls ys).length = m := by simp [fls, hm]
  have hlim := h.lim
  rw [hn] at hlim
  by_cases hnm : n = m
  · subst hnm
    obtain ⟨r, hr⟩ : ∃ r, decide (fls xs = fls ys) = r := ⟨_, rfl⟩
    rw [hr]
    have HI := hide h
    have HK := hide k
    have HN := hide hn
    have HM := hide hm
    have HR := hide hr
    have HL1 := hide hl1
    have HL2 := hide hl2
    have hnn : ((n : Int) != (n : Int)) = false := by simp
    clear h k hn hm hr hl1 hl2
    go_enter Tryz.func40, Tryz.ntmps40
    go_wp2
    go_loopw [7, 8, 9, 17] (fun _ _ _ i wr => ∃ k : Nat, k ≤ n ∧ i = .int .i64 (k : Int) ∧ Hid ((fls xs).take k = (fls ys).take k) ∧ Hid (Below w.heap.size w wr)) (fun _ _ _ i _ => n - (intOf i).toNat)
    case atStart => exact ⟨0, Nat.zero_le _, rfl, by simp; exact trivial, Below.refl _ _⟩
    case round =>
      obtain ⟨k, hk, rfl, HT, HB⟩ := hrel
      by_cases hlt : k < n
      · obtain ⟨x, hx, hxm⟩ := get_of (xs := xs) (k := k) (by rw [unhide HN]; exact hlt)
        obtain ⟨y, hy, hym⟩ := get_of (xs := ys) (k := k) (by rw [unhide HM]; exact hlt)
        obtain ⟨b, o, hA, hb, c0, c1, c2, c3, c4⟩ := (unhide HI).get (unhide HB) hx
        obtain ⟨b', o', hC, hb', d0, d1, d2, d3, d4⟩ := (unhide HK).get (unhide HB) hy
        have hzw := (unhide HB).size
        have hfx : (fls xs)[k]? = some x.f := by simp [fls, hx]
        have hfy : (fls ys)[k]? = some y.f := by simp [fls, hy]
        have HFX := hide hfx
        have HFY := hide hfy
        have HSA := hide (fun W (hW : Below w.heap.size w W) => same_any x y W (((unhide HI).all x hxm).below hW (Nat.le_refl _)) (((unhide HK).all y hym).below hW (Nat.le_refl _)))
        rw [val_is, val_is] at HSA
        have hxs : x.sl = .slice x.a x.f.bytes.length x.c := rfl
        have hys : y.sl = .slice y.a y.f.bytes.length y.c := rfl
        rw [hxs] at c1
        rw [hys] at d1
        obtain ⟨q, hq⟩ : ∃ q, decide (x.f = y.f) = q := ⟨_, rfl⟩
        rw [hq] at HSA
        have HQ := hide hq
        clear hx hy hxm hym hfx hfy hxs hys hq
        subst hA
        subst hC
        generalize B x.f.name = t at *
        generalize B y.f.name = t2 at *
        generalize x.f.bytes.length = nb at *
        generalize y.f.bytes.length = nb2 at *
        generalize x.f.stamp = s1 at *
        generalize y.f.stamp = s2 at *
        generalize x.f.node = n1 at *
        generalize y.f.node = n2 at *
        generalize x.f.gone = g1 at *
        generalize y.f.gone = g2 at *
        have HBL := hide (fun o1 o2 => bel_al (bel_al (unhide HB) o1) o2)
        have d0' := fun o => cell_al (o := o) d0
        have d1' := fun o => cell_al (o := o) d1
        have d2' := fun o => cell_al (o := o) d2
        have d3' := fun o => cell_al (o := o) d3
        have d4' := fun o => cell_al (o := o) d4
        clear d0 d1 d2 d3 d4
        go_wp2_with fail
        refine (unhide HSA _ (unhide HBL _ _)).mono ?_
        rintro e w1 ⟨rfl, hb1⟩
        have HB1 := hide ((unhide HBL _ _).trans (hb1.mono (by simp; omega)))
        clear hb1 d0' d1' d2' d3' d4'
        cases q with
        | false =>
          have hrf : r = false := by
            rw [← unhide HR]
            exact decide_eq_false (take_ne (unhide HFX) (unhide HFY) (of_decide_eq_false (unhide HQ)))
          subst hrf
          go_wp2
          go_ret
          exact ⟨rfl, unhide HB1⟩
        | true =>
          have he : x.f = y.f := of_decide_eq_true (unhide HQ)
          have HT2 := hide (take_eq (unhide HT) (unhide HFX) (by rw [he]; exact unhide HFY))
          clear he
          go_wp2
          go_roundw
          case rel => exact ⟨k + 1, by omega, by go_num, unhide HT2, unhide HB1⟩
          case measure => simp [intOf]; omega
      · obtain rfl : n = k := by omega
        have hrt : r = true := by
          rw [← unhide HR]
          have := unhide HT
          rw [List.take_of_length_le (by rw [unhide HL1]; exact Nat.le_refl _), List.take_of_length_le (by rw [unhide HL2]; exact Nat.le_refl _)] at this
          exact decide_eq_true this
        subst hrt
        go_wp2
        go_ret
        exact ⟨rfl, unhide HB⟩
  · have e : decide (fls xs = fls ys) = false := decide_eq_false (fun h => hnm (by rw [← hl1, ← hl2, h]))
    rw [e]
    have hnn : ((n : Int) != (m : Int)) = true := by simp; omega
    clear h k hn hm e hl1 hl2
    go_enter Tryz.func40, Tryz.ntmps40
    go_wp2
    go_ret
    exact ⟨rfl, Below.refl _ _⟩

theorem sameFiles_any (ad bd : Option Addr) (c d : Nat) (xs ys : List Fv) (w : World) (h : FsIn w ad c xs) (k : FsIn w bd d ys) (n m : Nat) (hn : xs.length = n) (hm : ys.length = m) :
    Calls Tryz.prog 18 #[.slice ad n c, .slice bd m d] w fun e w' => e = .returned (.bool (decide (fls xs = fls ys))) ∧ Below w.heap.size w w' := by
  have HE := hide (equalFunc_any ad bd c d xs ys w h k n m hn hm)
  clear h k
  generalize decide (fls xs = fls ys) = r at *
  go_enter Tryz.func18, Tryz.ntmps18
  go_wp2_with fail
  refine (unhide HE).mono ?_
  rintro e w1 ⟨rfl, hb1⟩
  have HB1 := hide hb1
  clear hb1
  go_wp2
  go_ret
  exact ⟨rfl, unhide HB1⟩
end Go.Proofs.YtmgmganbamjnmaaGreatDoor

/-
  Are two slices of files alike?
-/
namespace Go.Proofs.YtmgmganbamjnmaaGreatDoor
open Go.RowKit
set_option linter.unusedVariables false
theorem same_l {w : World} {v u : Value} {a b : List Fl} (h : LIn w v a) (k : LIn w u b) :
    Calls Tryz.prog 18 #[v, u] w fun e w' => e = .returned (.bool (decide (a = b))) ∧ Below w.heap.size w w' := by
  obtain ⟨ad, c, out, rfl, h2, h3⟩ := h
  obtain ⟨bd, d, out', rfl, k2, k3⟩ := k
  refine (sameFiles_any ad bd c d out out' w h2 k2 _ _ (fls_len h3) (fls_len k3)).mono ?_
  rintro e w' ⟨rfl, ha⟩
  rw [h3, k3]
  exact ⟨rfl, ha⟩
theorem same_yes {w : World} {v u : Value} {a b : List Fl} (h : LIn w v a) (k : LIn w u b) (e : a = b) :
    Calls Tryz.prog 18 #[v, u] w fun e w' => e = .returned (.bool true) ∧ Below w.heap.size w w' := by
  have := same_l h k
  rw [decide_eq_true e] at this
  exact this
end Go.Proofs.YtmgmganbamjnmaaGreatDoor
