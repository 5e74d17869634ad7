/-
  The law NameWithin, walked: what is joined is a name that lies under its folder, or is it.
-/
import Derived.Test.YtblagchhjobefaeDoorNmN
namespace Go.Proofs.YtblagchhjobefaeDoor
open Go.RowKit
set_option linter.unusedVariables false
set_option maxRecDepth 100000

theorem str_same (s : ByteArray) : (s.toList == s.toList) = true := by simp

set_option maxHeartbeats 4000000 in
theorem within_any (f s : List UInt8) (w : World) (hfs : f.length + s.length ≤ maxLen) :
    Calls Tryd.prog 5 #[.string (B f), .string (B s)] w fun e w' => e = .returned (.bool true) ∧ Below w.heap.size w w' := by
  have CJ := hide (join_any f s w hfs)
  by_cases he : (joinF f s).2 = 0
  · have hn := joinF_name he
    have hl := (errN_ok hn).1
    have HU := hide (fun hf : f ≠ [] => joinF_under hf he)
    have hef : f = [] ∨ errN f = 0 := by
      obtain ⟨_, h2, _⟩ := joinF_err he
      unfold errF at h2
      by_cases hf : f = []
      · exact .inl hf
      · rw [if_neg hf] at h2; exact .inr h2
    have HSelf := hide (joinF_self hn)
    rw [he] at CJ
    generalize (joinF f s).1 = t at *
    have CC := hide (fun W => check_any t W (by unfold maxLen; omega))
    rw [hn] at CC
    have CI := hide (fun W => join_any [] t W (by unfold maxLen; simp; omega))
    rw [unhide HSelf] at CI
    have CU := hide (fun W => under_any t f W (by unfold maxLen; omega) (by omega))
    have HN := hide hn
    clear he hn HSelf
    by_cases hf : f = []
    · have hB : B f = ⟨#[]⟩ := by rw [hf]; rfl
      rw [hB] at CJ ⊢
      have hss := str_same (B t)
      clear hf hB HU hef CU HN
      generalize B t = tb at *
      generalize B s = sb at *
      go_enter Tryd.func5, Tryd.ntmps5
      go_wp2_with fail
      refine (unhide CJ).mono ?_
      rintro _ w1 ⟨rfl, hb1⟩
      have hz1 := hb1.size
      have HB1 := hide hb1
      clear hb1
      go_wp2_with fail
      refine (named_any _).mono ?_
      rintro _ w2 ⟨rfl, hb2⟩
      have hz2 := hb2.size
      have HB2 := hide ((unhide HB1).trans (hb2.mono hz1))
      clear hb2
      go_wp2_with fail
      refine ((unhide CC) _).mono ?_
      rintro _ w3 ⟨rfl, hb3⟩
      have hz3 := hb3.size
      have HB3 := hide ((unhide HB2).trans (hb3.mono (by omega)))
      clear hb3
      go_wp2_with fail
      refine ((unhide CI) _).mono ?_
      rintro _ w4 ⟨rfl, hb4⟩
      have HB4 := hide ((unhide HB3).trans (hb4.mono (by omega)))
      clear hb4
      go_wp2
      go_ret
      exact ⟨rfl, unhide HB4⟩
    · have hnf : errN f = 0 := by
        rcases hef with h | h
        · exact absurd h hf
        · exact h
      have hu0 : undE t f = 0 := undE_zero.2 ⟨unhide HN, hnf⟩
      rw [hu0, undB_ok hu0] at CU
      have hfb := str_none (B f) hf
      have hor := (unhide HU) hf
      clear hu0 hnf hef HU hf HN
      rcases hor with hor | hor
      · subst hor
        rw [under_self] at CU
        have hss := str_same (B t)
        clear CI
        generalize B t = tb at *
        generalize B s = sb at *
        go_enter Tryd.func5, Tryd.ntmps5
        go_wp2_with fail
        refine (unhide CJ).mono ?_
        rintro _ w1 ⟨rfl, hb1⟩
        have hz1 := hb1.size
        have HB1 := hide hb1
        clear hb1
        go_wp2_with fail
        refine (named_any _).mono ?_
        rintro _ w2 ⟨rfl, hb2⟩
        have hz2 := hb2.size
        have HB2 := hide ((unhide HB1).trans (hb2.mono hz1))
        clear hb2
        go_wp2_with fail
        refine ((unhide CC) _).mono ?_
        rintro _ w3 ⟨rfl, hb3⟩
        have hz3 := hb3.size
        have HB3 := hide ((unhide HB2).trans (hb3.mono (by omega)))
        clear hb3
        go_wp2_with fail
        refine ((unhide CU) _).mono ?_
        rintro _ w4 ⟨rfl, hb4⟩
        have HB4 := hide ((unhide HB3).trans (hb4.mono (by omega)))
        clear hb4
        go_wp2
        go_ret
        exact ⟨rfl, unhide HB4⟩
      · have hub : under t f = true := hor
        rw [hub] at CU
        clear CI hor hub
        generalize B t = tb at *
        generalize B s = sb at *
        generalize B f = fb at *
        go_enter Tryd.func5, Tryd.ntmps5
        go_wp2_with fail
        refine (unhide CJ).mono ?_
        rintro _ w1 ⟨rfl, hb1⟩
        have hz1 := hb1.size
        have HB1 := hide hb1
        clear hb1
        go_wp2_with fail
        refine (named_any _).mono ?_
        rintro _ w2 ⟨rfl, hb2⟩
        have hz2 := hb2.size
        have HB2 := hide ((unhide HB1).trans (hb2.mono hz1))
        clear hb2
        go_wp2_with fail
        refine ((unhide CC) _).mono ?_
        rintro _ w3 ⟨rfl, hb3⟩
        have hz3 := hb3.size
        have HB3 := hide ((unhide HB2).trans (hb3.mono (by omega)))
        clear hb3
        go_wp2_with fail
        refine ((unhide CU) _).mono ?_
        rintro _ w4 ⟨rfl, hb4⟩
        have HB4 := hide ((unhide HB3).trans (hb4.mono (by omega)))
        clear hb4
        go_wp2
        go_ret
        exact ⟨rfl, unhide HB4⟩
  · obtain ⟨n, hn⟩ : ∃ n, (joinF f s).2 = n := ⟨_, rfl⟩
    rw [hn] at CJ he
    clear hn
    generalize (joinF f s).1 = t at *
    generalize B t = tb at *
    generalize B s = sb at *
    generalize B f = fb at *
    go_enter Tryd.func5, Tryd.ntmps5
    go_wp2_with fail
    refine (unhide CJ).mono ?_
    rintro _ w1 ⟨rfl, hb1⟩
    have hz1 := hb1.size
    have HB1 := hide hb1
    clear hb1
    go_wp2_with fail
    refine (named_any _).mono ?_
    rintro _ w2 ⟨rfl, hb2⟩
    have hz2 := hb2.size
    have HB2 := hide ((unhide HB1).trans (hb2.mono hz1))
    clear hb2
    go_wp2_with fail
    refine (named_any _).mono ?_
    rintro _ w3 ⟨rfl, hb3⟩
    have HB3 := hide ((unhide HB2).trans (hb3.mono (by omega)))
    clear hb3
    go_wp2
    go_ret
    exact ⟨rfl, unhide HB3⟩
end Go.Proofs.YtblagchhjobefaeDoor
