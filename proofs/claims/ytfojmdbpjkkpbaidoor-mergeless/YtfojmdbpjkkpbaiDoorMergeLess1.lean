/-
  The law MergeLess, walked: nobody lacks anything of what they have; what is shown is what isn't gone, of both as of each.
-/
import Derived.Test.YtfojmdbpjkkpbaiDoorMg13
namespace Go.Proofs.YtfojmdbpjkkpbaiDoor
open Go.RowKit
set_option linter.unusedVariables false
set_option maxRecDepth 100000

set_option maxHeartbeats 4000000 in
theorem lessLaw_any (a b : Value) (A B : List Fl) (w : World) (ha : LIn w a A) (hb : LIn w b B) :
    Calls Tryd.prog 3 #[a, b] w fun e w' => e = .returned (.bool true) ∧ Below w.heap.size w w' := by
  have HA := hide ha
  have HB := hide hb
  clear ha hb
  by_cases hE : bothE A B = 0
  · obtain ⟨t1, t2, t3, t4, t5, t6⟩ := both_lacks hE
    have tm := bothL_err hE
    obtain ⟨t7, t8, t9⟩ := shown_again tm
    have HB1 := hide (fun (W : World) (h : LIn W a A) (k : LIn W b B) => both_l h k)
    rw [hE] at HB1
    have HB2 := hide (fun (W : World) (x : Value) (h : LIn W a A) (k : LIn W x (bothL A B)) => less_l h k)
    rw [t1, t4] at HB2
    have HB3 := hide (fun (W : World) (x : Value) (h : LIn W b B) (k : LIn W x (bothL A B)) => less_l h k)
    rw [t2, t5] at HB3
    have HB4 := hide (fun (W : World) (x : Value) (h : LIn W x (bothL A B)) => less_l h h)
    rw [t3, t6] at HB4
    have HB5 := hide (fun (W : World) (x : Value) (h : LIn W x (bothL A B)) => shown_l h)
    rw [tm] at HB5
    have HB6 := hide (fun (W : World) (x : Value) (h : LIn W x (shownL (bothL A B))) => shown_l h)
    rw [t7, t8] at HB6
    have HB7 := hide (fun (W : World) (x : Value) (h : LIn W x (shownL (bothL A B))) => check_l h)
    rw [t7] at HB7
    have HLE := hide t9
    clear hE t1 t2 t3 t4 t5 t6 t7 t8 t9 tm
    generalize shownL (bothL A B) = SH at *
    generalize bothL A B = X at *
    go_enter Tryd.func3, Tryd.ntmps3
    go_wp2_with fail
    refine (unhide HB1 _ (unhide HA) (unhide HB)).mono ?_
    rintro e w1 ⟨l, rfl, hll, hbw1⟩
    replace HA := hide ((unhide HA).below hbw1)
    replace HB := hide ((unhide HB).below hbw1)
    have Hl := hide hll
    have HBEL := hide hbw1
    clear hbw1 hll
    go_wp2_with fail
    refine (merged_any _).mono ?_
    rintro e w2 ⟨rfl, hbw2⟩
    replace HA := hide ((unhide HA).below hbw2)
    replace HB := hide ((unhide HB).below hbw2)
    replace Hl := hide ((unhide Hl).below hbw2)
    replace HBEL := hide ((unhide HBEL).trans (hbw2.mono (unhide HBEL).size))
    clear hbw2
    go_wp2_with fail
    refine (unhide HB2 _ _ (unhide HA) (unhide Hl)).mono ?_
    rintro e w3 ⟨x, rfl, hlx, hbw3⟩
    replace HB := hide ((unhide HB).below hbw3)
    replace Hl := hide ((unhide Hl).below hbw3)
    have Hx := hide hlx
    replace HBEL := hide ((unhide HBEL).trans (hbw3.mono (unhide HBEL).size))
    clear hbw3 hlx
    go_wp2_with fail
    refine (unhide HB3 _ _ (unhide HB) (unhide Hl)).mono ?_
    rintro e w4 ⟨y, rfl, hly, hbw4⟩
    replace Hx := hide ((unhide Hx).below hbw4)
    replace Hl := hide ((unhide Hl).below hbw4)
    have Hy := hide hly
    replace HBEL := hide ((unhide HBEL).trans (hbw4.mono (unhide HBEL).size))
    clear hbw4 hly
    go_wp2_with fail
    refine (unhide HB4 _ _ (unhide Hl)).mono ?_
    rintro e w5 ⟨z, rfl, hlz, hbw5⟩
    replace Hx := hide ((unhide Hx).below hbw5)
    replace Hy := hide ((unhide Hy).below hbw5)
    replace Hl := hide ((unhide Hl).below hbw5)
    have Hz := hide hlz
    replace HBEL := hide ((unhide HBEL).trans (hbw5.mono (unhide HBEL).size))
    clear hbw5 hlz
    go_wp2_with fail
    refine (unhide HB5 _ _ (unhide Hl)).mono ?_
    rintro e w6 ⟨s, rfl, hls, hbw6⟩
    replace Hx := hide ((unhide Hx).below hbw6)
    replace Hy := hide ((unhide Hy).below hbw6)
    replace Hz := hide ((unhide Hz).below hbw6)
    replace Hl := hide ((unhide Hl).below hbw6)
    have Hs := hide hls
    replace HBEL := hide ((unhide HBEL).trans (hbw6.mono (unhide HBEL).size))
    clear hbw6 hls
    obtain ⟨ax, cx, hxs⟩ := (unhide Hx).shape
    obtain ⟨ay, cy, hys⟩ := (unhide Hy).shape
    obtain ⟨az, cz, hzs⟩ := (unhide Hz).shape
    obtain ⟨al, cl, hls⟩ := (unhide Hl).shape
    obtain ⟨as', cs', hss⟩ := (unhide Hs).shape
    simp only [List.length_nil] at hxs hys hzs
    subst hxs
    subst hys
    subst hzs
    subst hls
    subst hss
    have hle := unhide HLE
    have HSL : Hid (∃ n1, SH.length = n1) := ⟨_, rfl⟩
    obtain ⟨n1, hn1⟩ := unhide HSL
    obtain ⟨n2, hn2⟩ : ∃ n2, X.length = n2 := ⟨_, rfl⟩
    rw [hn1, hn2] at hle
    rw [hn1] at Hs
    rw [hn2] at Hl
    rw [hn1, hn2]
    clear hn1 hn2 HSL HLE
    go_wp2_with fail
    refine (unhide HB6 _ _ (unhide Hs)).mono ?_
    rintro e w7 ⟨ag, rfl, hlag, hbw7⟩
    replace Hs := hide ((unhide Hs).below hbw7)
    have Hag := hide hlag
    replace HBEL := hide ((unhide HBEL).trans (hbw7.mono (unhide HBEL).size))
    clear hbw7 hlag
    go_wp2_with fail
    refine (same_yes (unhide Hag) (unhide Hs) rfl).mono ?_
    rintro e w8 ⟨rfl, hbw8⟩
    replace Hs := hide ((unhide Hs).below hbw8)
    replace HBEL := hide ((unhide HBEL).trans (hbw8.mono (unhide HBEL).size))
    clear hbw8
    go_wp2_with fail
    refine (unhide HB7 _ _ (unhide Hs)).mono ?_
    rintro e w9 ⟨rfl, hbw9⟩
    replace HBEL := hide ((unhide HBEL).trans (hbw9.mono (unhide HBEL).size))
    clear hbw9
    go_wp2
    go_ret
    exact ⟨rfl, unhide HBEL⟩
  · have HB1 := hide (fun (W : World) (h : LIn W a A) (k : LIn W b B) => both_l h k)
    obtain ⟨E1, hE1⟩ : ∃ E1, bothE A B = E1 := ⟨_, rfl⟩
    rw [hE1] at HB1 hE
    clear hE1
    go_enter Tryd.func3, Tryd.ntmps3
    go_wp2_with fail
    refine (unhide HB1 _ (unhide HA) (unhide HB)).mono ?_
    rintro e w1 ⟨x, rfl, hlx, hbw1⟩
    have Hx := hide hlx
    have HBEL := hide hbw1
    clear hbw1 hlx
    go_wp2_with fail
    refine (merged_any _).mono ?_
    rintro e w2 ⟨rfl, hbw2⟩
    replace HBEL := hide ((unhide HBEL).trans (hbw2.mono (unhide HBEL).size))
    clear hbw2
    go_wp2_with fail
    refine (merged_any _).mono ?_
    rintro e w3 ⟨rfl, hbw3⟩
    replace HBEL := hide ((unhide HBEL).trans (hbw3.mono (unhide HBEL).size))
    clear hbw3
    go_wp2
    go_ret
    exact ⟨rfl, unhide HBEL⟩
end Go.Proofs.YtfojmdbpjkkpbaiDoor
