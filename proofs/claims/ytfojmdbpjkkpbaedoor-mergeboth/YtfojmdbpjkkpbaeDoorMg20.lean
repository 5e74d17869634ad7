/-
  The law MergeBoth's own function: what came of two is what the document says.
-/
import Derived.Test.YtfojmdbpjkkpbaeDoorMg13
import Derived.Test.YtfojmdbpjkkpbaeDoorMg14
import Derived.Test.YtfojmdbpjkkpbaeDoorMg18
import Derived.Test.YtfojmdbpjkkpbaeDoorMg19
namespace Go.Proofs.YtfojmdbpjkkpbaeDoor
open Go.RowKit
set_option linter.unusedVariables false
set_option maxRecDepth 100000

theorem cfl {w : World} {v : Value} {a : List Fl} (h : LIn w v a) :
    Calls Tryd.prog 24 #[v] w fun e w' => e = .returned (.int .i64 (errM a : Nat)) ∧ Below w.heap.size w w' := by
  obtain ⟨ad, c, out, rfl, h2, h3⟩ := h
  refine (checkFiles_any ad c out w h2 _ (fls_len h3)).mono ?_
  rintro e w' ⟨rfl, ha⟩
  rw [h3]
  exact ⟨rfl, ha⟩
theorem together_l {w : World} {v u : Value} {a b : List Fl} (g : Nat) (h : LIn w v a) (k : LIn w u b) (ha : errM a = 0) (hb : errM b = 0) (hg0 : w.cell? ⟨g, 0, none⟩ = some v) (hg1 : w.cell? ⟨g, 1, none⟩ = some u) (hgl : g < w.heap.size) :
    Calls Tryd.prog 29 #[.slice (some ⟨g, 0, none⟩) 2 2] w fun e w' => ∃ x, e = .returned x ∧ LIn w' x (tog a b) ∧ Below w.heap.size w w' := by
  obtain ⟨ad, c, xs, rfl, h2, h3⟩ := h
  obtain ⟨bd, d, ys, rfl, k2, k3⟩ := k
  obtain ⟨a1, a2, a3⟩ := errM_zero.1 ha
  obtain ⟨b1, b2, b3⟩ := errM_zero.1 hb
  refine (togetherRef_any g ad bd c d xs ys w h2 k2 _ _ (fls_len h3) (fls_len k3) a1 b1 hg0 hg1 hgl).mono ?_
  rintro e w' ⟨v, out, rfl, hr, ho, hl, hn, hbel⟩
  refine ⟨v, rfl, ?_, hbel⟩
  have := hr.lin (by omega)
  rw [together_is (xs := xs) (ys := ys) (by rw [h3]; exact a3) (by rw [k3]; exact b3) _ rfl ho hl, h3, k3] at this
  exact this

set_option maxHeartbeats 4000000 in
theorem says_any (l b va : Value) (Ll A Bl : List Fl) (ga E : Nat) (w : World) (hl : LIn w l Ll) (hb : LIn w b Bl) (ha : LIn w va A) (hg : w.cell? ⟨ga, 0, none⟩ = some va) (hgl : ga < w.heap.size) (hL : Ll = bothL A Bl) (hE : bothE A Bl = E) :
    Calls Tryd.prog 28 #[l, .int .i64 (E : Int), b, .pointer (some ⟨ga, 0, none⟩)] w fun e w' => e = .returned (.bool true) ∧ Below w.heap.size w w' := by
  have HA := hide ha
  have HBL := hide hb
  have HLL := hide hl
  have HG := hide (fun W (hW : Below w.heap.size w W) => (hW.cell (p := ⟨ga, 0, none⟩) hgl).trans hg)
  have HC1 := hide (fun (W : World) (h : LIn W va A) => cfl h)
  have HC2 := hide (fun (W : World) (h : LIn W b Bl) => cfl h)
  obtain ⟨al, cl, hls⟩ := hl.shape
  by_cases hA0 : errM A = 0
  · rw [hA0] at HC1
    by_cases hB0 : errM Bl = 0
    · rw [hB0] at HC2
      have he : errE A Bl = 0 := errE_zero.2 ⟨hA0, hB0⟩
      have HTG := hide (fun (g : Nat) (W : World) (h : LIn W va A) (k : LIn W b Bl) h0 h1 h2 => together_l g h k hA0 hB0 h0 h1 h2)
      obtain ⟨avv, cvv, hvs⟩ := ha.shape
      obtain ⟨abb, cbb, hbs⟩ := hb.shape
      obtain ⟨T, hT⟩ : ∃ T, tog A Bl = T := ⟨_, rfl⟩
      by_cases hfull : 12 < T.length
      · have hE2 := bothE_full he (by rw [hT]; exact hfull)
        rw [hE] at hE2
        subst hE2
        have hnil : Ll = [] := by rw [hL]; exact bothL_bad (by rw [hE]; decide)
        subst hnil
        simp only [List.length_nil] at hls
        subst hls
        rw [hT] at HTG
        clear hE hL he hA0 hB0 hT hl hb ha
        subst hvs
        subst hbs
        generalize A.length = nA at *
        generalize Bl.length = nB at *
        have hg1 := unhide HG w (Below.refl _ _)
        go_enter Tryd.func28, Tryd.ntmps28
        go_wp2_with fail
        refine (unhide HC1 _ (unhide HA)).mono ?_
        rintro e w1 ⟨rfl, hb1⟩
        have HB1 := hide hb1
        clear hb1
        go_wp2_with fail
        refine (unhide HC2 _ ((unhide HBL).below (unhide HB1))).mono ?_
        rintro e w2 ⟨rfl, hb2⟩
        have HB2 := hide ((unhide HB1).trans (hb2.mono (unhide HB1).size))
        have hg2 := unhide HG w2 (unhide HB2)
        clear hb2 hg1
        have HB3 := hide (bel_al (unhide HB2) (.cells #[.slice avv nA cvv, .slice abb nB cbb] 37))
        go_wp2_with fail
        refine (unhide HTG w2.heap.size _ ((unhide HA).below (unhide HB3)) ((unhide HBL).below (unhide HB3)) (by rw [World.cell?_alloc_at _ _ _ _ rfl]; rfl) (by rw [World.cell?_alloc_at _ _ _ _ rfl]; rfl) (by simp)).mono ?_
        rintro e w4 ⟨x, rfl, hx, hb4⟩
        obtain ⟨ax, cx, rfl⟩ := hx.shape
        have HB4 := hide ((unhide HB3).trans (hb4.mono (unhide HB3).size))
        generalize T.length = nT at *
        clear hb4 hx hg2
        go_wp2
        go_ret
        exact ⟨rfl, unhide HB4⟩
      · have hE2 := bothE_ok he (by rw [hT]; exact hfull)
        rw [hE] at hE2
        subst hE2
        have hLT : Ll = T := by rw [hL, bothL_ok hE, hT]
        subst hLT
        rw [hT] at HTG
        clear hE hL he hA0 hB0 hT hl hb ha
        subst hvs
        subst hbs
        subst hls
        obtain ⟨nT, hnT⟩ : ∃ nT, Ll.length = nT := ⟨_, rfl⟩
        rw [hnT] at HLL hfull ⊢
        have HNT := hide hnT
        clear hnT
        generalize A.length = nA at *
        generalize Bl.length = nB at *
        have hg1 := unhide HG w (Below.refl _ _)
        go_enter Tryd.func28, Tryd.ntmps28
        go_wp2_with fail
        refine (unhide HC1 _ (unhide HA)).mono ?_
        rintro e w1 ⟨rfl, hb1⟩
        have HB1 := hide hb1
        clear hb1
        go_wp2_with fail
        refine (unhide HC2 _ ((unhide HBL).below (unhide HB1))).mono ?_
        rintro e w2 ⟨rfl, hb2⟩
        have HB2 := hide ((unhide HB1).trans (hb2.mono (unhide HB1).size))
        have hg2 := unhide HG w2 (unhide HB2)
        clear hb2 hg1
        have HB3 := hide (bel_al (unhide HB2) (.cells #[.slice avv nA cvv, .slice abb nB cbb] 37))
        go_wp2_with fail
        refine (unhide HTG w2.heap.size _ ((unhide HA).below (unhide HB3)) ((unhide HBL).below (unhide HB3)) (by rw [World.cell?_alloc_at _ _ _ _ rfl]; rfl) (by rw [World.cell?_alloc_at _ _ _ _ rfl]; rfl) (by simp)).mono ?_
        rintro e w4 ⟨x, rfl, hx, hb4⟩
        obtain ⟨ax, cx, rfl⟩ := hx.shape
        have HB4 := hide ((unhide HB3).trans (hb4.mono (unhide HB3).size))
        have HX := hide hx
        rw [unhide HNT] at HX ⊢
        clear hb4 hx hg2
        go_wp2_with fail
        refine (same_yes ((unhide HLL).below (unhide HB4)) (unhide HX) rfl).mono ?_
        rintro e w5 ⟨rfl, hb5⟩
        have HB5 := hide ((unhide HB4).trans (hb5.mono (unhide HB4).size))
        clear hb5
        go_wp2
        go_ret
        exact ⟨rfl, unhide HB5⟩
    · have he : errE A Bl = errM Bl := errE_snd hA0
      have hE2 : E = errM Bl := by rw [← hE, bothE_bad (by rw [he]; exact hB0), he]
      have hnil : Ll = [] := by rw [hL]; exact bothL_bad (by rw [hE, hE2]; exact hB0)
      subst hnil
      simp only [List.length_nil] at hls
      subst hls
      rw [← hE2] at HC2 hB0
      have hq : ((E : Int) == (E : Int)) = true := by simp
      clear hE hL he hA0 hE2 hl hb ha
      have hg1 := unhide HG w (Below.refl _ _)
      go_enter Tryd.func28, Tryd.ntmps28
      go_wp2_with fail
      refine (unhide HC1 _ (unhide HA)).mono ?_
      rintro e w1 ⟨rfl, hb1⟩
      have HB1 := hide hb1
      clear hb1
      go_wp2_with fail
      refine (unhide HC2 _ ((unhide HBL).below (unhide HB1))).mono ?_
      rintro e w2 ⟨rfl, hb2⟩
      have HB2 := hide ((unhide HB1).trans (hb2.mono (unhide HB1).size))
      clear hb2 hg1
      go_wp2
      go_ret
      exact ⟨rfl, unhide HB2⟩
  · have he : errE A Bl = errM A := errE_fst hA0
    have hE2 : E = errM A := by rw [← hE, bothE_bad (by rw [he]; exact hA0), he]
    have hnil : Ll = [] := by rw [hL]; exact bothL_bad (by rw [hE, hE2]; exact hA0)
    subst hnil
    simp only [List.length_nil] at hls
    subst hls
    rw [← hE2] at HC1 hA0
    have hq : ((E : Int) == (E : Int)) = true := by simp
    have hq0 : ((E : Int) == 0) = false := by simpa using hA0
    clear hE hL he hE2 hl hb ha
    have hg1 := unhide HG w (Below.refl _ _)
    go_enter Tryd.func28, Tryd.ntmps28
    go_wp2_with fail
    refine (unhide HC1 _ (unhide HA)).mono ?_
    rintro e w1 ⟨rfl, hb1⟩
    have HB1 := hide hb1
    clear hb1 hg1
    go_wp2
    go_ret
    exact ⟨rfl, unhide HB1⟩
end Go.Proofs.YtfojmdbpjkkpbaeDoor
