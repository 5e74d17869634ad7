/-
  Package world: raised, isPlace, checkNode, Check.
-/
import Derived.Test.YtmgmganbamjnmaaDoorQ13
namespace Go.Proofs.YtmgmganbamjnmaaDoor
open Go.RowKit
set_option linter.unusedVariables false
set_option linter.unusedSimpArgs false
set_option maxRecDepth 100000

theorem max_run (a b : Int) (w : World) : (Builtin.max_ #[3, 3] 3 #[.int .i64 a, .int .i64 b]).run Tryd.prog w = .ok (.int .i64 (max a b)) w := by
  simp [Builtin.max_, Builtin.max2]
  repeat' split
  all_goals omega
theorem rsd_step {xs : List Fv} {k : Nat} {x : Fv} (h : xs[k]? = some x) (c : Int) : rsd c (fls (xs.drop k)) = rsd (max c x.f.stamp) (fls (xs.drop (k + 1))) := by
  obtain ⟨hk, he⟩ := List.getElem?_eq_some_iff.1 h
  rw [List.drop_eq_getElem_cons hk, he]
  rfl
set_option maxHeartbeats 1000000 in
theorem raised_any (c : Int) (ad : Option Addr) (cp : Nat) (xs : List Fv) (w : World) (h : FsIn w ad cp xs) (n : Nat) (hn : xs.length = n) :
    Calls Tryd.prog 23 #[.int .i64 c, .slice ad n cp] w fun e w' => e = .returned (.int .i64 (rsd c (fls xs))) ∧ Below w.heap.size w w' := by
  have HI := hide h
  have HL := hide hn
  have hlim := h.lim
  rw [hn] at hlim
  have hmx := max_run
  obtain ⟨R, hR⟩ : ∃ R, rsd c (fls xs) = R := ⟨_, rfl⟩
  have HR := hide hR
  rw [hR]
  clear h hn hR
  go_enter Tryd.func23, Tryd.ntmps23
  go_wp2
  go_loopw [0, 9] (fun v0 j wr => ∃ (k : Nat) (d : Int), k ≤ n ∧ v0 = .int .i64 d ∧ j = .int .i64 (k : Int) ∧ Hid (rsd d (fls (xs.drop k)) = R) ∧ Hid (Below w.heap.size w wr)) (fun _ j _ => n - (intOf j).toNat)
  case atStart => exact ⟨0, c, Nat.zero_le _, rfl, rfl, HR, Below.refl _ _⟩
  case round =>
    obtain ⟨k, d, hk, rfl, rfl, HD, HB⟩ := hrel
    by_cases hlt : k < n
    · obtain ⟨x, hx, hxm⟩ := get_of (xs := xs) (k := k) (by rw [unhide HL]; exact hlt)
      obtain ⟨b, o, hA, hb, c0, c1, c2, c3, c4⟩ := (unhide HI).get (unhide HB) hx
      have HD2 := hide ((rsd_step hx d).symm.trans (unhide HD))
      have hxs : x.sl = .slice x.a x.f.bytes.length x.c := rfl
      rw [hxs] at c1
      clear hx hxm hxs
      subst hA
      generalize B x.f.name = t at *
      generalize x.f.bytes.length = n2 at *
      generalize x.f.stamp = s2 at *
      generalize x.f.node = d2 at *
      generalize x.f.gone = g2 at *
      have HB1 := hide (bel_al (unhide HB) (.cells #[.string t, .slice x.a n2 x.c, .int .i64 s2, .int .i64 d2, .bool g2] 39))
      go_wp2
      go_roundw
      case rel => exact ⟨k + 1, max d s2, by omega, rfl, by go_num, unhide HD2, unhide HB1⟩
      case measure => simp [intOf]; omega
    · obtain rfl : n = k := by omega
      have hr := unhide HD
      rw [List.drop_of_length_le (by rw [unhide HL]; exact Nat.le_refl _)] at hr
      have hr2 : d = R := hr
      subst hr2
      clear hr
      go_wp2
      go_ret
      exact ⟨rfl, unhide HB⟩
theorem raised_l {w : World} {v : Value} {l : List Fl} (c : Int) (h : LIn w v l) :
    Calls Tryd.prog 23 #[.int .i64 c, v] w fun e w' => e = .returned (.int .i64 (rsd c l)) ∧ Below w.heap.size w w' := by
  obtain ⟨ad, cp, xs, rfl, h2, h3⟩ := h
  have := raised_any c ad cp xs w h2 _ (fls_len h3)
  rw [h3] at this
  exact this
theorem isPlace_any (k : Int) (n : Nat) (w : World) : Calls Tryd.prog 36 #[.int .i64 k, .int .i64 (n : Int)] w fun e w' => e = .returned (.bool (isP k n)) ∧ w' = w := by
  unfold isP
  by_cases h1 : 0 ≤ k
  · by_cases h2 : k < (n : Int)
    · rw [decide_eq_true ⟨h1, h2⟩]
      go_enter Tryd.func36, Tryd.ntmps36
      go_wp2
      go_ret
      exact ⟨rfl, rfl⟩
    · rw [decide_eq_false (fun h => h2 h.2)]
      go_enter Tryd.func36, Tryd.ntmps36
      go_wp2
      go_ret
      exact ⟨rfl, rfl⟩
  · rw [decide_eq_false (fun h => h1 h.1)]
    go_enter Tryd.func36, Tryd.ntmps36
    go_wp2
    go_ret
    exact ⟨rfl, rfl⟩
set_option maxHeartbeats 1000000 in
theorem checkNode_l {w : World} {v : Value} {l : List Fl} (c : Int) (h : LIn w v l) :
    Calls Tryd.prog 34 #[v, .int .i64 c] w fun e w' => e = .returned (.int .i64 (errNd l c : Nat)) ∧ Below w.heap.size w w' := by
  have HC := hide (check_l h)
  have HR := hide (fun (W : World) (hW : Below w.heap.size w W) => raised_l c (h.below hW))
  obtain ⟨ad, cp, hv⟩ := h.shape
  obtain ⟨n, hn⟩ : ∃ n, l.length = n := ⟨_, rfl⟩
  rw [hn] at hv
  subst hv
  obtain ⟨E, hE⟩ : ∃ E, errM l = E := ⟨_, rfl⟩
  obtain ⟨R, hR⟩ : ∃ R, rsd c l = R := ⟨_, rfl⟩
  obtain ⟨F, hF⟩ : ∃ F, errNd l c = F := ⟨_, rfl⟩
  have hF2 := hF
  unfold errNd at hF2
  rw [hE, hR] at hF2
  rw [hE] at HC
  rw [hR] at HR
  rw [hF]
  clear h hn hE hR hF
  by_cases hE0 : E = 0
  · subst hE0
    simp only [ne_eq, not_true_eq_false, if_false] at hF2
    by_cases h1 : c < 0
    · rw [if_pos (.inl h1)] at hF2
      subst hF2
      go_enter Tryd.func34, Tryd.ntmps34
      go_wp2_with fail
      refine (unhide HC).mono ?_
      rintro e w1 ⟨rfl, hb⟩
      have HB := hide hb
      clear hb
      go_wp2_with fail
      go_ret
      exact ⟨rfl, unhide HB⟩
    · by_cases h2 : 1000000 < c
      · rw [if_pos (.inr (.inl h2))] at hF2
        subst hF2
        go_enter Tryd.func34, Tryd.ntmps34
        go_wp2_with fail
        refine (unhide HC).mono ?_
        rintro e w1 ⟨rfl, hb⟩
        have HB := hide hb
        clear hb
        go_wp2_with fail
        go_ret
        exact ⟨rfl, unhide HB⟩
      · by_cases h3 : c < R
        · rw [if_pos (.inr (.inr h3))] at hF2
          subst hF2
          go_enter Tryd.func34, Tryd.ntmps34
          go_wp2_with fail
          refine (unhide HC).mono ?_
          rintro e w1 ⟨rfl, hb⟩
          have HB := hide hb
          have HR1 := hide (unhide HR w1 hb)
          clear hb
          go_wp2_with fail
          refine (unhide HR1).mono ?_
          rintro e w2 ⟨rfl, hb⟩
          have HB2 := hide ((unhide HB).trans (hb.mono (unhide HB).size))
          clear hb
          go_wp2_with fail
          go_ret
          exact ⟨rfl, unhide HB2⟩
        · rw [if_neg (by omega)] at hF2
          subst hF2
          go_enter Tryd.func34, Tryd.ntmps34
          go_wp2_with fail
          refine (unhide HC).mono ?_
          rintro e w1 ⟨rfl, hb⟩
          have HB := hide hb
          have HR1 := hide (unhide HR w1 hb)
          clear hb
          go_wp2_with fail
          refine (unhide HR1).mono ?_
          rintro e w2 ⟨rfl, hb⟩
          have HB2 := hide ((unhide HB).trans (hb.mono (unhide HB).size))
          clear hb
          go_wp2_with fail
          go_ret
          exact ⟨rfl, unhide HB2⟩
  · rw [if_pos hE0] at hF2
    subst hF2
    have hEb : ((E : Int) == 0) = false := by rw [beq_eq_false_iff_ne]; omega
    have hEc : ((E : Int) != 0) = true := by rw [bne, hEb]; rfl
    clear hE0
    go_enter Tryd.func34, Tryd.ntmps34
    go_wp2_with fail
    refine (unhide HC).mono ?_
    rintro e w1 ⟨rfl, hb⟩
    have HB := hide hb
    clear hb
    go_wp2_with fail
    go_ret
    exact ⟨rfl, unhide HB⟩
end Go.Proofs.YtmgmganbamjnmaaDoor
