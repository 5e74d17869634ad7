/-
  passRun, passLengths: the symbols by which lengths are told go to a function, one behind the other.
-/
import Derived.Test.YtoiioemkibfdcacPBlk
import Derived.Test.YtoiioemkibfdcacKeep
import Derived.Shelf.Abstract
import Derived.Deep.DeepCutAuto
namespace Go.Proofs.Ytoiioemkibfdcac
open Go.RowKit
set_option linter.unusedVariables false
set_option maxRecDepth 100000

theorem runZ_zero (x f : Nat) : runZ x f 0 = [] := by cases f <;> simp [runZ]
theorem runZ_fuel (x : Nat) : ∀ m f, m ≤ f → runZ x f m = runZ x m m := by
  intro m
  induction m using Nat.strongRecOn with
  | ind m ih =>
    intro f hf
    by_cases h0 : m = 0
    · subst h0; rw [runZ_zero, runZ_zero]
    · obtain ⟨f', rfl⟩ : ∃ f', f = f' + 1 := ⟨f - 1, by omega⟩
      obtain ⟨m', rfl⟩ : ∃ m', m = m' + 1 := ⟨m - 1, by omega⟩
      have t : ∀ c, 0 < c → runZ x f' (m' + 1 - c) = runZ x m' (m' + 1 - c) := fun c hc => by rw [ih (m' + 1 - c) (by omega) f' (by omega), ih (m' + 1 - c) (by omega) m' (by omega)]
      rw [runZ, runZ, if_neg h0, if_neg h0, t 1 (by omega), t (min (m' + 1) 6) (by omega), t (min (m' + 1) 138) (by omega), runZ_zero, runZ_zero]
theorem runZ_step (x q : Nat) (h0 : 0 < q) : runZ x q q = if q < 3 then (x, 0, 0) :: runZ x (q - 1) (q - 1) else if 0 < x then (16, min q 6 - 3, 2) :: runZ x (q - min q 6) (q - min q 6) else if q < 11 then (17, q - 3, 3) :: runZ x (q - q) (q - q) else (18, min q 138 - 11, 7) :: runZ x (q - min q 138) (q - min q 138) := by
  obtain ⟨q', rfl⟩ : ∃ q', q = q' + 1 := ⟨q - 1, by omega⟩
  have t : ∀ c, 0 < c → runZ x q' (q' + 1 - c) = runZ x (q' + 1 - c) (q' + 1 - c) := fun c hc => runZ_fuel x _ _ (by omega)
  rw [runZ, if_neg (by omega), t 1 (by omega), t (min (q' + 1) 6) (by omega), t (min (q' + 1) 138) (by omega), Nat.sub_self, runZ_zero, runZ_zero]

/-- what a function of items has taken: J; the function, with what it captured -/
structure Snk3 (J : List (Nat × Nat × Nat) → World → Prop) (Ki : World → World → Prop) (kf : Nat) (cf : Array Value) (all : List (Nat × Nat × Nat)) : Prop where
  ef : ∀ (args : Array Value) (w : World), (callFunc kf args).run Try.prog w = .ok (.enter kf args) w
  step : ∀ {is R : List (Nat × Nat × Nat)} {i : Nat × Nat × Nat} {W : World}, is ++ i :: R = all → J is W → Calls Try.prog kf (#[.int .i64 (i.1 : Int), .int .i64 (i.2.1 : Int), .int .i64 (i.2.2 : Int)] ++ cf) W fun e W' => e = .returned (.tuple #[]) ∧ J (is ++ [i]) W' ∧ Ki W W'
  refl : ∀ W, Ki W W
  jd : ∀ {is : List (Nat × Nat × Nat)} {W : World} (q : Nat), J is W → J is (W.drewN q)
  kd : ∀ (W : World) (q : Nat), Ki W (W.drewN q)
  trans : ∀ {a b c}, Ki a b → Ki b c → Ki a c

set_option maxHeartbeats 4000000 in
theorem passRun_any (J : List (Nat × Nat × Nat) → World → Prop) (Ki : World → World → Prop) (kf : Nat) (cf : Array Value) (all : List (Nat × Nat × Nat)) (hK : Snk3 J Ki kf cf all) (x m : Nat) (IS R : List (Nat × Nat × Nat)) (w : World) (hx : x ≤ 15) (hm : 1 ≤ m) (hm2 : m ≤ 1000) (he : IS ++ runI x m ++ R = all) (hJ : J IS w) :
    Calls Try.prog 132 #[.int .i64 (x : Int), .int .i64 (m : Int), .func (.func kf) #[] cf] w fun e w' => e = .returned (.tuple #[]) ∧ J (IS ++ runI x m) w' ∧ Ki w w' := by
  have ef := hK.ef
  have HK := hide hK
  have HJ := hide hJ
  clear hK hJ
  obtain ⟨T, hT⟩ : ∃ T, IS ++ runI x m = T := ⟨_, rfl⟩
  rw [hT] at he
  have HE := hide he
  have HT := hide hT
  clear he
  rw [hT]
  clear hT
  go_enter Try.func132, Try.ntmps132
  go_upto_if 8 with (fail)
  go_cut [1] (fun v wc => ∃ (q : Nat) (IS2 : List (Nat × Nat × Nat)), v = .int .i64 (q : Int) ∧ q ≤ 1000 ∧ Hid (J IS2 wc ∧ Ki w wc ∧ IS2 ++ runZ x q q = T))
  case first =>
    by_cases h0 : 0 < x
    · have h0I : (0 : Int) < (x : Int) := by omega
      have hr : runI x m = (x, 0, 0) :: runZ x (m - 1) (m - 1) := by unfold runI; rw [if_pos h0, runZ_fuel x _ _ (by omega)]
      have HS := hide ((unhide HK).step (is := IS) (i := (x, 0, 0)) (R := runZ x (m - 1) (m - 1) ++ R) (W := w) (by rw [← unhide HE, ← unhide HT, hr]; simp) (unhide HJ))
      have HT2 : Hid (IS ++ [(x, 0, 0)] ++ runZ x (m - 1) (m - 1) = T) := hide (by rw [← unhide HT, hr]; simp)
      go_wp2_with fail
      refine (unhide HS).mono ?_
      rintro e w1 ⟨rfl, hJ1, hK1⟩
      have H1 := hide (And.intro hJ1 hK1)
      clear hJ1 hK1
      go_wp2
      all_goals go_meet
      all_goals exact ⟨m - 1, IS ++ [(x, 0, 0)], by go_num, by omega, hide ⟨(unhide H1).1, (unhide H1).2, unhide HT2⟩⟩
    · have h0I : ¬ (0 : Int) < (x : Int) := by omega
      have hr : runI x m = runZ x m m := by unfold runI; rw [if_neg h0]
      have HT2 : Hid (IS ++ runZ x m m = T) := hide (by rw [← unhide HT, hr])
      go_wp2
      all_goals go_meet
      all_goals exact ⟨m, IS, rfl, hm2, hide ⟨unhide HJ, (unhide HK).refl _, unhide HT2⟩⟩
  case rest =>
    obtain ⟨q0, IS0, rfl, hq0, hst0⟩ := hcut
    go_wp2_with fail
    go_loopw [1] (fun v wr => ∃ (q : Nat) (IS2 : List (Nat × Nat × Nat)), v = .int .i64 (q : Int) ∧ q ≤ 1000 ∧ Hid (J IS2 wr ∧ Ki w wr ∧ IS2 ++ runZ x q q = T)) (fun v _ => (intOf v).toNat)
    case atStart => exact ⟨q0, IS0, rfl, hq0, hst0⟩
    case round =>
      obtain ⟨q, IS2, rfl, hq, hst⟩ := hrel
      obtain ⟨j1, j2, j3⟩ := unhide hst
      by_cases h0 : 0 < q
      · have h0I : (0 : Int) < (q : Int) := by omega
        have hs := runZ_step x q h0
        have STEP : ∀ (i : Nat × Nat × Nat) (c : Nat), runZ x q q = i :: runZ x (q - c) (q - c) → Hid (Calls Try.prog kf (#[.int .i64 (i.1 : Int), .int .i64 (i.2.1 : Int), .int .i64 (i.2.2 : Int)] ++ cf) wr fun e W' => e = .returned (.tuple #[]) ∧ J (IS2 ++ [i]) W' ∧ Ki wr W') ∧ Hid (IS2 ++ [i] ++ runZ x (q - c) (q - c) = T) := by
          intro i c hc
          refine ⟨hide ((unhide HK).step (is := IS2) (i := i) (R := runZ x (q - c) (q - c) ++ R) (by rw [← unhide HE, ← j3, hc]; simp) j1), hide (by rw [← j3, hc]; simp)⟩
        have HK2 := hide j2
        clear hst j1 j2 j3
        by_cases h3 : q < 3
        · rw [if_pos h3] at hs
          obtain ⟨S1, S2⟩ := STEP _ _ hs
          have h3I : (q : Int) < 3 := by omega
          clear STEP hs
          go_wp2_with fail
          refine (unhide S1).mono ?_
          rintro e w1 ⟨rfl, hJ1, hK1⟩
          have H1 := hide (And.intro hJ1 ((unhide HK).trans (unhide HK2) hK1))
          clear hJ1 hK1
          go_wp2
          go_roundw
          case rel => exact ⟨q - 1, _, by go_num, by omega, hide ⟨(unhide H1).1, (unhide H1).2, unhide S2⟩⟩
          case measure => simp [intOf]; omega
        · rw [if_neg h3] at hs
          have h3I : ¬ (q : Int) < 3 := by omega
          by_cases hx0 : 0 < x
          · rw [if_pos hx0] at hs
            have hxI : (0 : Int) < (x : Int) := by omega
            rcases Nat.lt_trichotomy q 6 with h6 | h6 | h6
            · rw [show min q 6 = q by omega] at hs
              have h6I : (q : Int) < 6 := by omega
              obtain ⟨S1, S2⟩ := STEP _ _ hs
              rw [show ((q - 3 : Nat) : Int) = (q : Int) - 3 by omega] at S1
              clear STEP hs
              go_wp2_with fail
              refine (unhide S1).mono ?_
              rintro e w1 ⟨rfl, hJ1, hK1⟩
              have H1 := hide (And.intro hJ1 ((unhide HK).trans (unhide HK2) hK1))
              clear hJ1 hK1
              go_wp2
              go_roundw
              case rel => exact ⟨q - q, _, by go_num, by omega, hide ⟨(unhide H1).1, (unhide H1).2, unhide S2⟩⟩
              case measure => simp [intOf]; omega
            · subst h6
              obtain ⟨S1, S2⟩ := STEP _ _ hs
              clear STEP hs
              go_wp2_with fail
              refine (unhide S1).mono ?_
              rintro e w1 ⟨rfl, hJ1, hK1⟩
              have H1 := hide (And.intro hJ1 ((unhide HK).trans (unhide HK2) hK1))
              clear hJ1 hK1
              go_wp2
              go_roundw
              case rel => exact ⟨0, _, by go_num, by omega, hide ⟨(unhide H1).1, (unhide H1).2, unhide S2⟩⟩
              case measure => simp [intOf]
            · rw [show min q 6 = 6 by omega] at hs
              have h6I : (6 : Int) < (q : Int) := by omega
              obtain ⟨S1, S2⟩ := STEP _ _ hs
              clear STEP hs
              go_wp2_with fail
              refine (unhide S1).mono ?_
              rintro e w1 ⟨rfl, hJ1, hK1⟩
              have H1 := hide (And.intro hJ1 ((unhide HK).trans (unhide HK2) hK1))
              clear hJ1 hK1
              go_wp2
              go_roundw
              case rel => exact ⟨q - 6, _, by go_num, by omega, hide ⟨(unhide H1).1, (unhide H1).2, unhide S2⟩⟩
              case measure => simp [intOf]; omega
          · rw [if_neg hx0] at hs
            have hxI : ¬ (0 : Int) < (x : Int) := by omega
            by_cases h11 : q < 11
            · rw [if_pos h11] at hs
              have h11I : (q : Int) < 11 := by omega
              obtain ⟨S1, S2⟩ := STEP _ _ hs
              rw [show ((q - 3 : Nat) : Int) = (q : Int) - 3 by omega] at S1
              clear STEP hs
              go_wp2_with fail
              refine (unhide S1).mono ?_
              rintro e w1 ⟨rfl, hJ1, hK1⟩
              have H1 := hide (And.intro hJ1 ((unhide HK).trans (unhide HK2) hK1))
              clear hJ1 hK1
              go_wp2
              go_roundw
              case rel => exact ⟨q - q, _, by go_num, by omega, hide ⟨(unhide H1).1, (unhide H1).2, unhide S2⟩⟩
              case measure => simp [intOf]; omega
            · rw [if_neg h11] at hs
              have h11I : ¬ (q : Int) < 11 := by omega
              rcases Nat.lt_trichotomy q 138 with h6 | h6 | h6
              · rw [show min q 138 = q by omega] at hs
                have h6I : (q : Int) < 138 := by omega
                obtain ⟨S1, S2⟩ := STEP _ _ hs
                rw [show ((q - 11 : Nat) : Int) = (q : Int) - 11 by omega] at S1
                clear STEP hs
                go_wp2_with fail
                refine (unhide S1).mono ?_
                rintro e w1 ⟨rfl, hJ1, hK1⟩
                have H1 := hide (And.intro hJ1 ((unhide HK).trans (unhide HK2) hK1))
                clear hJ1 hK1
                go_wp2
                go_roundw
                case rel => exact ⟨q - q, _, by go_num, by omega, hide ⟨(unhide H1).1, (unhide H1).2, unhide S2⟩⟩
                case measure => simp [intOf]; omega
              · subst h6
                obtain ⟨S1, S2⟩ := STEP _ _ hs
                clear STEP hs
                go_wp2_with fail
                refine (unhide S1).mono ?_
                rintro e w1 ⟨rfl, hJ1, hK1⟩
                have H1 := hide (And.intro hJ1 ((unhide HK).trans (unhide HK2) hK1))
                clear hJ1 hK1
                go_wp2
                go_roundw
                case rel => exact ⟨0, _, by go_num, by omega, hide ⟨(unhide H1).1, (unhide H1).2, unhide S2⟩⟩
                case measure => simp [intOf]
              · rw [show min q 138 = 138 by omega] at hs
                have h6I : (138 : Int) < (q : Int) := by omega
                obtain ⟨S1, S2⟩ := STEP _ _ hs
                clear STEP hs
                go_wp2_with fail
                refine (unhide S1).mono ?_
                rintro e w1 ⟨rfl, hJ1, hK1⟩
                have H1 := hide (And.intro hJ1 ((unhide HK).trans (unhide HK2) hK1))
                clear hJ1 hK1
                go_wp2
                go_roundw
                case rel => exact ⟨q - 138, _, by go_num, by omega, hide ⟨(unhide H1).1, (unhide H1).2, unhide S2⟩⟩
                case measure => simp [intOf]; omega
      · obtain rfl : q = 0 := by omega
        rw [runZ_zero, List.append_nil] at j3
        have HF : Hid (J T wr ∧ Ki w wr) := hide ⟨by rw [← j3]; exact j1, j2⟩
        clear hst j1 j2 j3
        go_wp2
        go_end0
        exact ⟨rfl, unhide HF⟩
end Go.Proofs.Ytoiioemkibfdcac
