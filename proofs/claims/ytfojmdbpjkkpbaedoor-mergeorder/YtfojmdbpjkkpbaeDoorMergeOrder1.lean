/-
  The law MergeOrder, walked: in whatever order files come together they are the same; twice is once; what one lacks brings it up to both.
-/
import Derived.Test.YtfojmdbpjkkpbaeDoorMg13
namespace Go.Proofs.YtfojmdbpjkkpbaeDoor
open Go.RowKit
set_option linter.unusedVariables false
set_option maxRecDepth 100000

set_option maxHeartbeats 4000000 in
theorem order_any (a b c : Value) (A B C : List Fl) (w : World) (ha : LIn w a A) (hb : LIn w b B) (hc : LIn w c C) :
    Calls Tryd.prog 8 #[a, b, c] w fun e w' => e = .returned (.bool true) ∧ Below w.heap.size w w' := by
  have HA := hide ha
  have HB := hide hb
  have HC := hide hc
  obtain ⟨hcm, hcl⟩ := both_comm A B
  have HCL := hide hcl
  have HTW := hide (@both_twice A B)
  have HAS := hide (@both_assoc A B C)
  clear ha hb hc hcl
  by_cases hE : bothE A B = 0
  · have hE2 := hcm.1 hE
    obtain ⟨t1, t2, t3, t4, t5⟩ := unhide HTW hE
    have HB1 := hide (fun (W : World) (h : LIn W a A) (k : LIn W b B) => both_l h k)
    have HB2 := hide (fun (W : World) (h : LIn W b B) (k : LIn W a A) => both_l h k)
    rw [hE] at HB1
    rw [hE2] at HB2
    have HB3 := hide (fun (W : World) (x : Value) (h : LIn W x (bothL A B)) (k : LIn W a A) => both_l h k)
    rw [t1, t2] at HB3
    have HB4 := hide (fun (W : World) (h : LIn W b B) (k : LIn W a A) => less_l h k)
    rw [t3] at HB4
    have HB5 := hide (fun (W : World) (x : Value) (h : LIn W a A) (k : LIn W x (lessL B A)) => both_l h k)
    rw [t4, t5] at HB5
    have HB6 := hide (fun (W : World) (x : Value) (h : LIn W x (bothL A B)) (k : LIn W c C) => both_l h k)
    have HB7 := hide (fun (W : World) (h : LIn W b B) (k : LIn W c C) => both_l h k)
    have HB8 := hide (fun (W : World) (x : Value) (h : LIn W a A) (k : LIn W x (bothL B C)) => both_l h k)
    have HAS2 := hide (unhide HAS hE)
    clear hcm hE hE2 t1 t2 t3 t4 t5 HTW HAS
    obtain ⟨E6, hE6⟩ : ∃ E6, bothE (bothL A B) C = E6 := ⟨_, rfl⟩
    obtain ⟨E7, hE7⟩ : ∃ E7, bothE B C = E7 := ⟨_, rfl⟩
    rw [hE6] at HB6 HAS2
    rw [hE7] at HB7 HAS2
    clear hE6 hE7
    go_enter Tryd.func8, Tryd.ntmps8
    go_wp2_with fail
    refine (unhide HB1 _ (unhide HA) (unhide HB)).mono ?_
    rintro e w1 ⟨x, rfl, hlx, hbw1⟩
    replace HA := hide ((unhide HA).below hbw1)
    replace HB := hide ((unhide HB).below hbw1)
    replace HC := hide ((unhide HC).below hbw1)
    have Hx := hide hlx
    have HBEL := hide hbw1
    clear hbw1 hlx
    go_wp2_with fail
    refine (unhide HB2 _ (unhide HB) (unhide HA)).mono ?_
    rintro e w2 ⟨y, rfl, hly, hbw2⟩
    replace HA := hide ((unhide HA).below hbw2)
    replace HB := hide ((unhide HB).below hbw2)
    replace HC := hide ((unhide HC).below hbw2)
    replace Hx := hide ((unhide Hx).below hbw2)
    have Hy := hide hly
    replace HBEL := hide ((unhide HBEL).trans (hbw2.mono (unhide HBEL).size))
    clear hbw2 hly
    go_wp2_with fail
    refine (merged_any _).mono ?_
    rintro e w3 ⟨rfl, hbw3⟩
    replace HA := hide ((unhide HA).below hbw3)
    replace HB := hide ((unhide HB).below hbw3)
    replace HC := hide ((unhide HC).below hbw3)
    replace Hx := hide ((unhide Hx).below hbw3)
    replace Hy := hide ((unhide Hy).below hbw3)
    replace HBEL := hide ((unhide HBEL).trans (hbw3.mono (unhide HBEL).size))
    clear hbw3
    go_wp2_with fail
    refine (same_yes (unhide Hx) (unhide Hy) (unhide HCL)).mono ?_
    rintro e w4 ⟨rfl, hbw4⟩
    replace HA := hide ((unhide HA).below hbw4)
    replace HB := hide ((unhide HB).below hbw4)
    replace HC := hide ((unhide HC).below hbw4)
    replace Hx := hide ((unhide Hx).below hbw4)
    replace HBEL := hide ((unhide HBEL).trans (hbw4.mono (unhide HBEL).size))
    clear hbw4
    go_wp2_with fail
    refine (unhide HB3 _ _ (unhide Hx) (unhide HA)).mono ?_
    rintro e w5 ⟨tw, rfl, hltw, hbw5⟩
    replace HA := hide ((unhide HA).below hbw5)
    replace HB := hide ((unhide HB).below hbw5)
    replace HC := hide ((unhide HC).below hbw5)
    replace Hx := hide ((unhide Hx).below hbw5)
    have Htw := hide hltw
    replace HBEL := hide ((unhide HBEL).trans (hbw5.mono (unhide HBEL).size))
    clear hbw5 hltw
    go_wp2_with fail
    refine (unhide HB4 _ (unhide HB) (unhide HA)).mono ?_
    rintro e w6 ⟨ls, rfl, hlls, hbw6⟩
    replace HA := hide ((unhide HA).below hbw6)
    replace HB := hide ((unhide HB).below hbw6)
    replace HC := hide ((unhide HC).below hbw6)
    replace Hx := hide ((unhide Hx).below hbw6)
    replace Htw := hide ((unhide Htw).below hbw6)
    have Hls := hide hlls
    replace HBEL := hide ((unhide HBEL).trans (hbw6.mono (unhide HBEL).size))
    clear hbw6 hlls
    go_wp2_with fail
    refine (unhide HB5 _ _ (unhide HA) (unhide Hls)).mono ?_
    rintro e w7 ⟨up, rfl, hlup, hbw7⟩
    replace HA := hide ((unhide HA).below hbw7)
    replace HB := hide ((unhide HB).below hbw7)
    replace HC := hide ((unhide HC).below hbw7)
    replace Hx := hide ((unhide Hx).below hbw7)
    replace Htw := hide ((unhide Htw).below hbw7)
    have Hup := hide hlup
    replace HBEL := hide ((unhide HBEL).trans (hbw7.mono (unhide HBEL).size))
    clear hbw7 hlup
    go_wp2_with fail
    refine (same_yes (unhide Htw) (unhide Hx) rfl).mono ?_
    rintro e w8 ⟨rfl, hbw8⟩
    replace HA := hide ((unhide HA).below hbw8)
    replace HB := hide ((unhide HB).below hbw8)
    replace HC := hide ((unhide HC).below hbw8)
    replace Hx := hide ((unhide Hx).below hbw8)
    replace Hup := hide ((unhide Hup).below hbw8)
    replace HBEL := hide ((unhide HBEL).trans (hbw8.mono (unhide HBEL).size))
    clear hbw8
    go_wp2_with fail
    refine (same_yes (unhide Hup) (unhide Hx) rfl).mono ?_
    rintro e w9 ⟨rfl, hbw9⟩
    replace HA := hide ((unhide HA).below hbw9)
    replace HB := hide ((unhide HB).below hbw9)
    replace HC := hide ((unhide HC).below hbw9)
    replace Hx := hide ((unhide Hx).below hbw9)
    replace HBEL := hide ((unhide HBEL).trans (hbw9.mono (unhide HBEL).size))
    clear hbw9
    go_wp2_with fail
    refine (unhide HB6 _ _ (unhide Hx) (unhide HC)).mono ?_
    rintro e w10 ⟨l, rfl, hll, hbw10⟩
    replace HA := hide ((unhide HA).below hbw10)
    replace HB := hide ((unhide HB).below hbw10)
    replace HC := hide ((unhide HC).below hbw10)
    have Hl := hide hll
    replace HBEL := hide ((unhide HBEL).trans (hbw10.mono (unhide HBEL).size))
    clear hbw10 hll
    go_wp2_with fail
    refine (unhide HB7 _ (unhide HB) (unhide HC)).mono ?_
    rintro e w11 ⟨m, rfl, hlm, hbw11⟩
    replace HA := hide ((unhide HA).below hbw11)
    replace HB := hide ((unhide HB).below hbw11)
    replace HC := hide ((unhide HC).below hbw11)
    replace Hl := hide ((unhide Hl).below hbw11)
    have Hm := hide hlm
    replace HBEL := hide ((unhide HBEL).trans (hbw11.mono (unhide HBEL).size))
    clear hbw11 hlm
    by_cases h6 : E6 = 0
    · subst h6
      by_cases h7 : E7 = 0
      · subst h7
        obtain ⟨t8, t9⟩ := unhide HAS2 rfl rfl
        rw [t8, t9] at HB8
        clear t8 t9 HAS2
        go_wp2_with fail
        refine (unhide HB8 _ _ (unhide HA) (unhide Hm)).mono ?_
        rintro e w12 ⟨nn, rfl, hlnn, hbw12⟩
        replace Hl := hide ((unhide Hl).below hbw12)
        have Hnn := hide hlnn
        replace HBEL := hide ((unhide HBEL).trans (hbw12.mono (unhide HBEL).size))
        clear hbw12 hlnn
        go_wp2_with fail
        refine (same_yes (unhide Hl) (unhide Hnn) rfl).mono ?_
        rintro e w13 ⟨rfl, hbw13⟩
        replace HBEL := hide ((unhide HBEL).trans (hbw13.mono (unhide HBEL).size))
        clear hbw13
        go_wp2
        go_ret
        exact ⟨rfl, unhide HBEL⟩
      · clear HAS2
        go_wp2
        go_ret
        exact ⟨rfl, unhide HBEL⟩
    · clear HAS2
      go_wp2
      go_ret
      exact ⟨rfl, unhide HBEL⟩
  · have hE2 : bothE B A ≠ 0 := fun h => hE (hcm.2 h)
    have HB1 := hide (fun (W : World) (h : LIn W a A) (k : LIn W b B) => both_l h k)
    have HB2 := hide (fun (W : World) (h : LIn W b B) (k : LIn W a A) => both_l h k)
    clear hcm HTW HAS
    obtain ⟨E1, hE1⟩ : ∃ E1, bothE A B = E1 := ⟨_, rfl⟩
    obtain ⟨E2, hE2'⟩ : ∃ E2, bothE B A = E2 := ⟨_, rfl⟩
    rw [hE1] at HB1 hE
    rw [hE2'] at HB2 hE2
    clear hE1 hE2'
    have hb1 : ((E1 : Int) == 0) = false := by simpa using hE
    have hb2 : ((E2 : Int) == 0) = false := by simpa using hE2
    go_enter Tryd.func8, Tryd.ntmps8
    go_wp2_with fail
    refine (unhide HB1 _ (unhide HA) (unhide HB)).mono ?_
    rintro e w1 ⟨x, rfl, hlx, hbw1⟩
    replace HA := hide ((unhide HA).below hbw1)
    replace HB := hide ((unhide HB).below hbw1)
    have Hx := hide hlx
    have HBEL := hide hbw1
    clear hbw1 hlx
    go_wp2_with fail
    refine (unhide HB2 _ (unhide HB) (unhide HA)).mono ?_
    rintro e w2 ⟨y, rfl, hly, hbw2⟩
    replace Hx := hide ((unhide Hx).below hbw2)
    have Hy := hide hly
    replace HBEL := hide ((unhide HBEL).trans (hbw2.mono (unhide HBEL).size))
    clear hbw2 hly
    go_wp2_with fail
    refine (merged_any _).mono ?_
    rintro e w3 ⟨rfl, hbw3⟩
    replace Hx := hide ((unhide Hx).below hbw3)
    replace Hy := hide ((unhide Hy).below hbw3)
    replace HBEL := hide ((unhide HBEL).trans (hbw3.mono (unhide HBEL).size))
    clear hbw3
    go_wp2_with fail
    refine (same_yes (unhide Hx) (unhide Hy) (unhide HCL)).mono ?_
    rintro e w4 ⟨rfl, hbw4⟩
    replace HBEL := hide ((unhide HBEL).trans (hbw4.mono (unhide HBEL).size))
    clear hbw4
    go_wp2
    go_ret
    exact ⟨rfl, unhide HBEL⟩
end Go.Proofs.YtfojmdbpjkkpbaeDoor
