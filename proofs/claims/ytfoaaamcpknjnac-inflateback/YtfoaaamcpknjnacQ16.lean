/-
  passRun, passLengths: the symbols by which lengths are told go to a function, one behind the other.
-/
import Derived.Test.YtfoaaamcpknjnacQ15
import Derived.Test.YtfoaaamcpknjnacQ4
import Derived.Shelf.Abstract
import Derived.Deep.DeepCutAuto
namespace Go.Proofs.Ytfoaaamcpknjnac
open Go.RowKit
set_option linter.unusedVariables false
set_option maxRecDepth 100000

theorem runZ_zero (x f : Nat) : runZ x f 0 = [] := by cases f <;> simp [runZ]
theorem runZ_fuel (x : Nat) : ∀ m f, m ≤ f → runZ x f m = runZ x m m := by
  intro m
  induction m using Nat.strongRecOn with
  | ind m ih =>
    intro f hf
    by_cases h0 : m = 0
    · subst h0; rw [runZ_zero, runZ_zero]
    · obtain ⟨f', rfl⟩ : ∃ f', f = f' + 1 := ⟨f - 1, by omega⟩
      obtain ⟨m', rfl⟩ : ∃ m', m = m' + 1 := ⟨m - 1, by omega⟩
      have t : ∀ c, 0 < c → runZ x f' (m' + 1 - c) = runZ x m' (m' + 1 - c) := fun c hc => by rw [ih (m' + 1 - c) (by omega) f' (by omega), ih (m' + 1 - c) (by omega) m' (by omega)]
      rw [runZ, runZ, if_neg h0, if_neg h0, t 1 (by omega), t (min (m' + 1) 6) (by omega), t (min (m' + 1) 138) (by omega), runZ_zero, runZ_zero]
theorem runZ_step (x q : Nat) (h0 : 0 < q) : runZ x q q = if q < 3 then (x, 0, 0) :: runZ x (q - 1) (q - 1) else if 0 < x then (16, min q 6 - 3, 2) :: runZ x (q - min q 6) (q - min q 6) else if q < 11 then (17, q - 3, 3) :: runZ x (q - q) (q - q) else (18, min q 138 - 11, 7) :: runZ x (q - min q 138) (q - min q 138) := by
  obtain ⟨q', rfl⟩ : ∃ q', q = q' + 1 := ⟨q - 1, by omega⟩
  have t : ∀ c, 0 < c → runZ x q' (q' + 1 - c) = runZ x (q' + 1 - c) (q' + 1 - c) := fun c hc => runZ_fuel x _ _ (by omega)
  rw [runZ, if_neg (by omega), t 1 (by omega), t (min (q' + 1) 6) (by omega), t (min (q' + 1) 138) (by omega), Nat.sub_self, runZ_zero, runZ_zero]

/-- what a function of items has taken: J; the function, with what it captured -/
structure Snk3 (J : List (Nat × Nat × Nat) → World → Prop) (Ki : World → World → Prop) (kf : Nat) (cf : Array Value) (all : List (Nat × Nat × Nat)) : Prop where
  ef : ∀ (args : Array Value) (w : World), (callFunc kf args).run Try.prog w = .ok (.enter kf args) w
  step : ∀ {is R : List (Nat × Nat × Nat)} {i : Nat × Nat × Nat} {W : World}, is ++ i :: R = all → J is W → Calls Try.prog kf (#[.int .i64 (i.1 : Int), .int .i64 (i.2.1 : Int), .int .i64 (i.2.2 : Int)] ++ cf) W fun e W' => e = .returned (.tuple #[]) ∧ J (is ++ [i]) W' ∧ Ki W W'
  refl : ∀ W, Ki W W
  jd : ∀ {is : List (Nat × Nat × Nat)} {W : World} (q : Nat), J is W → J is (W.drewN q)
  kd : ∀ (W : World) (q : Nat), Ki W (W.drewN q)
  trans : ∀ {a b c}, Ki a b → Ki b c → Ki a c

set_option maxHeartbeats 4000000 in
theorem passRun_any (J : List (Nat × Nat × Nat) → World → Prop) (Ki : World → World → Prop) (kf : Nat) (cf : Array Value) (all : List (Nat × Nat × Nat)) (hK : Snk3 J Ki kf cf all) (x m : Nat) (IS R : List (Nat × Nat × Nat)) (w : World) (hx : x ≤ 15) (hm : 1 ≤ m) (hm2 : m ≤ 1000) (he : IS ++ runI x m ++ R = all) (hJ : J IS w) :
    Calls Try.prog 132 #[.int .i64 (x : Int), .int .i64 (m : Int), .func (.func kf) #[] cf] w fun e w' => e = .returned (.tuple #[]) ∧ J (IS ++ runI x m) w' ∧ Ki w w' := by
  have ef := hK.ef
  have HK := hide hK
  have HJ := hide hJ
  clear hK hJ
  obtain ⟨T, hT⟩ : ∃ T, IS ++ runI x m = T := ⟨_, rfl⟩
  rw [hT] at he
  have HE := hide he
  have HT := hide hT
  clear he
  rw [hT]
  clear hT
  go_enter Try.func132, Try.ntmps132
  go_upto_if 8 with (fail)
  go_cut [1] (fun v wc => ∃ (q : Nat) (IS2 : List (Nat × Nat × Nat)), v = .int .i64 (q : Int) ∧ q ≤ 1000 ∧ Hid (J IS2 wc ∧ Ki w wc ∧ IS2 ++ runZ x q q = T))
  case first =>
    by_cases h0 : 0 < x
    · have h0I : (0 : Int) < (x : Int) := by omega
      have hr : runI x m = (x, 0, 0) :: runZ x (m - 1) (m - 1) := by unfold runI; rw [if_pos h0, runZ_fuel x _ _ (by omega)]
      have HS := hide ((unhide HK).step (is := IS) (i := (x, 0, 0)) (R := runZ x (m - 1) (m - 1) ++ R) (W := w) (by rw [← unhide HE, ← unhide HT, hr]; simp) (unhide HJ))
      have HT2 : Hid (IS ++ [(x, 0, 0)] ++ runZ x (m - 1) (m - 1) = T) := hide (by rw [← unhide HT, hr]; simp)
      go_wp2_with fail
      refine (unhide HS).mono ?_
      rintro e w1 ⟨rfl, hJ1, hK1⟩
      have H1 := hide (And.intro hJ1 hK1)
      clear hJ1 hK1
      go_wp2
      all_goals go_meet
      all_goals exact ⟨m - 1, IS ++ [(x, 0, 0)], by go_num, by omega, hide ⟨(unhide H1).1, (unhide H1).2, unhide HT2⟩⟩
    · have h0I : ¬ (0 : Int) < (x : Int) := by omega
      have hr : runI x m = runZ x m m := by unfold runI; rw [if_neg h0]
      have HT2 : Hid (IS ++ runZ x m m = T) := hide (by rw [← unhide HT, hr])
      go_wp2
      all_goals go_meet
      all_goals exact ⟨m, IS, rfl, hm2, hide ⟨unhide HJ, (unhide HK).refl _, unhide HT2⟩⟩
  case rest =>
    obtain ⟨q0, IS0, rfl, hq0, hst0⟩ := hcut
    go_wp2_with fail
    go_loopw [1] (fun v wr => ∃ (q : Nat) (IS2 : List (Nat × Nat × Nat)), v = .int .i64 (q : Int) ∧ q ≤ 1000 ∧ Hid (J IS2 wr ∧ Ki w wr ∧ IS2 ++ runZ x q q = T)) (fun v _ => (intOf v).toNat)
    case atStart => exact ⟨q0, IS0, rfl, hq0, hst0⟩
    case round =>
      obtain ⟨q, IS2, rfl, hq, hst⟩ := hrel
      obtain ⟨j1, j2, j3⟩ := unhide hst
      by_cases h0 : 0 < q
      · have h0I : (0 : Int) < (q : Int) := by omega
        have hs := runZ_step x q h0
        have STEP : ∀ (i : Nat × Nat × Nat) (c : Nat), runZ x q q = i :: runZ x (q - c) (q - c) → Hid (Calls Try.prog kf (#[.int .i64 (i.1 : Int), .int .i64 (i.2.1 : Int), .int .i64 (i.2.2 : Int)] ++ cf) wr fun e W' => e = .returned (.tuple #[]) ∧ J (IS2 ++ [i]) W' ∧ Ki wr W') ∧ Hid (IS2 ++ [i] ++ runZ x (q - c) (q - c) = T) := by
          intro i c hc
          refine ⟨hide ((unhide HK).step (is := IS2) (i := i) (R := runZ x (q - c) (q - c) ++ R) (by rw [← unhide HE, ← j3, hc]; simp) j1), hide (by rw [← j3, hc]; simp)⟩
        have HK2 := hide j2
        clear hst j1 j2 j3
        by_cases h3 : q < 3
        · rw [if_pos h3] at hs
          obtain ⟨S1, S2⟩ := STEP _ _ hs
          have h3I : (q : Int) < 3 := by omega
          clear STEP hs
          go_wp2_with fail
          refine (unhide S1).mono ?_
          rintro e w1 ⟨rfl, hJ1, hK1⟩
          have H1 := hide (And.intro hJ1 ((unhide HK).trans (unhide HK2) hK1))
          clear hJ1 hK1
          go_wp2
          go_roundw
          case rel => exact ⟨q - 1, _, by go_num, by omega, hide ⟨(unhide H1).1, (unhide H1).2, unhide S2⟩⟩
          case measure => simp [intOf]; omega
        · rw [if_neg h3] at hs
          have h3I : ¬ (q : Int) < 3 := by omega
          by_cases hx0 : 0 < x
          · rw [if_pos hx0] at hs
            have hxI : (0 : Int) < (x : Int) := by omega
            rcases Nat.lt_trichotomy q 6 with h6 | h6 | h6
            · rw [show min q 6 = q by omega] at hs
              have h6I : (q : Int) < 6 := by omega
              obtain ⟨S1, S2⟩ := STEP _ _ hs
              rw [show ((q - 3 : Nat) : Int) = (q : Int) - 3 by omega] at S1
              clear STEP hs
              go_wp2_with fail
              refine (unhide S1).mono ?_
              rintro e w1 ⟨rfl, hJ1, hK1⟩
              have H1 := hide (And.intro hJ1 ((unhide HK).trans (unhide HK2) hK1))
              clear hJ1 hK1
              go_wp2
              go_roundw
              case rel => exact ⟨q - q, _, by go_num, by omega, hide ⟨(unhide H1).1, (unhide H1).2, unhide S2⟩⟩
              case measure => simp [intOf]; omega
            · subst h6
              obtain ⟨S1, S2⟩ := STEP _ _ hs
              clear STEP hs
              go_wp2_with fail
              refine (unhide S1).mono ?_
              rintro e w1 ⟨rfl, hJ1, hK1⟩
              have H1 := hide (And.intro hJ1 ((unhide HK).trans (unhide HK2) hK1))
              clear hJ1 hK1
              go_wp2
              go_roundw
              case rel => exact ⟨0, _, by go_num, by omega, hide ⟨(unhide H1).1, (unhide H1).2, unhide S2⟩⟩
              case measure => simp [intOf]
            · rw [show min q 6 = 6 by omega] at hs
              have h6I : (6 : Int) < (q : Int) := by omega
              obtain ⟨S1, S2⟩ := STEP _ _ hs
              clear STEP hs
              go_wp2_with fail
              refine (unhide S1).mono ?_
              rintro e w1 ⟨rfl, hJ1, hK1⟩
              have H1 := hide (And.intro hJ1 ((unhide HK).trans (unhide HK2) hK1))
              clear hJ1 hK1
              go_wp2
              go_roundw
              case rel => exact ⟨q - 6, _, by go_num, by omega, hide ⟨(unhide H1).1, (unhide H1).2, unhide S2⟩⟩
              case measure => simp [intOf]; omega
          · rw [if_neg hx0] at hs
            have hxI : ¬ (0 : Int) < (x : Int) := by omega
            by_cases h11 : q < 11
            · rw [if_pos h11] at hs
              have h11I : (q : Int) < 11 := by omega
              obtain ⟨S1, S2⟩ := STEP _ _ hs
              rw [show ((q - 3 : Nat) : Int) = (q : Int) - 3 by omega] at S1
              clear STEP hs
              go_wp2_with fail
              refine (unhide S1).mono ?_
              rintro e w1 ⟨rfl, hJ1, hK1⟩
              have H1 := hide (And.intro hJ1 ((unhide HK).trans (unhide HK2) hK1))
              clear hJ1 hK1
              go_wp2
              go_roundw
              case rel => exact ⟨q - q, _, by go_num, by omega, hide ⟨(unhide H1).1, (unhide H1).2, unhide S2⟩⟩
              case measure => simp [intOf]; omega
            · rw [if_neg h11] at hs
              have h11I : ¬ (q : Int) < 11 := by omega
              rcases Nat.lt_trichotomy q 138 with h6 | h6 | h6
              · rw [show min q 138 = q by omega] at hs
                have h6I : (q : Int) < 138 := by omega
                obtain ⟨S1, S2⟩ := STEP _ _ hs
                rw [show ((q - 11 : Nat) : Int) = (q : Int) - 11 by omega] at S1
                clear STEP hs
                go_wp2_with fail
                refine (unhide S1).mono ?_
                rintro e w1 ⟨rfl, hJ1, hK1⟩
                have H1 := hide (And.intro hJ1 ((unhide HK).trans (unhide HK2) hK1))
                clear hJ1 hK1
                go_wp2
                go_roundw
                case rel => exact ⟨q - q, _, by go_num, by omega, hide ⟨(unhide H1).1, (unhide H1).2, unhide S2⟩⟩
                case measure => simp [intOf]; omega
              · subst h6
                obtain ⟨S1, S2⟩ := STEP _ _ hs
                clear STEP hs
                go_wp2_with fail
                refine (unhide S1).mono ?_
                rintro e w1 ⟨rfl, hJ1, hK1⟩
                have H1 := hide (And.intro hJ1 ((unhide HK).trans (unhide HK2) hK1))
                clear hJ1 hK1
                go_wp2
                go_roundw
                case rel => exact ⟨0, _, by go_num, by omega, hide ⟨(unhide H1).1, (unhide H1).2, unhide S2⟩⟩
                case measure => simp [intOf]
              · rw [show min q 138 = 138 by omega] at hs
                have h6I : (138 : Int) < (q : Int) := by omega
                obtain ⟨S1, S2⟩ := STEP _ _ hs
                clear STEP hs
                go_wp2_with fail
                refine (unhide S1).mono ?_
                rintro e w1 ⟨rfl, hJ1, hK1⟩
                have H1 := hide (And.intro hJ1 ((unhide HK).trans (unhide HK2) hK1))
                clear hJ1 hK1
                go_wp2
                go_roundw
                case rel => exact ⟨q - 138, _, by go_num, by omega, hide ⟨(unhide H1).1, (unhide H1).2, unhide S2⟩⟩
                case measure => simp [intOf]; omega
      · obtain rfl : q = 0 := by omega
        rw [runZ_zero, List.append_nil] at j3
        have HF : Hid (J T wr ∧ Ki w wr) := hide ⟨by rw [← j3]; exact j1, j2⟩
        clear hst j1 j2 j3
        go_wp2
        go_end0
        exact ⟨rfl, unhide HF⟩
end Go.Proofs.Ytfoaaamcpknjnac

/-
  The even code; how many bits a plan takes at most; steps of the runs of lengths. Of lists alone.
-/
namespace Go.Proofs.Ytfoaaamcpknjnac
set_option linter.unusedVariables false
set_option maxRecDepth 100000

theorem evenA_len : evenA.length = 257 := by decide
theorem evenB_len : evenB.length = 1 := rfl
theorem evenA_good : Good evenA := errL_good (by decide +kernel)
theorem evenB_good : Good evenB := errL_good (by decide +kernel)
theorem evenA_pos_all : (List.range 257).all (fun k => decide (0 < evenA.getD k 0)) = true := by decide +kernel
theorem evenA_pos {k : Nat} (h : k < 257) : 0 < evenA.getD k 0 := by
  have := List.all_eq_true.1 evenA_pos_all k (by simpa using h)
  exact of_decide_eq_true this
theorem evenT_length (bs : List Nat) : (evenT bs).length = bs.length := by simp [evenT]
theorem evenT_vt {bs : List Nat} (hb : ∀ j, bs.getD j 0 < 256) : ∀ t ∈ evenT bs, VT t := by
  intro t ht
  unfold evenT at ht
  obtain ⟨b, h1, rfl⟩ := List.mem_map.1 ht
  obtain ⟨j, hj, rfl⟩ := List.getElem_of_mem h1
  refine ⟨?_, .inl rfl⟩
  have := hb j
  simpa [List.getD, hj] using this
theorem evenT_its (bs : List Nat) : itsOf (evenT bs) = bs.map (fun b => It.sym b) ++ [.sym 256] := by
  unfold itsOf itsF evenT
  congr 1
  induction bs with
  | nil => rfl
  | cons b bs ih =>
    rw [List.map_cons, List.map_cons, List.flatMap_cons, ih]
    rfl
theorem even_dyn {bs : List Nat} (hb : ∀ j, bs.getD j 0 < 256) : Dyn (evenT bs) evenA evenB := by
  refine ⟨evenA_good, evenB_good, by rw [evenA_len]; decide, by rw [evenA_len]; decide, by rw [evenB_len]; decide, by rw [evenB_len]; decide, ⟨fun k hk => ?_, fun k hk => ?_⟩, evenA_pos (by decide)⟩
  · rw [evenT_its] at hk
    have h : k < 257 := by
      rcases List.mem_append.1 hk with h | h
      · obtain ⟨b, h1, h2⟩ := List.mem_map.1 h
        cases h2
        obtain ⟨j, hj, rfl⟩ := List.getElem_of_mem h1
        have := hb j
        simp [List.getD, hj] at this
        omega
      · simp at h; omega
    exact ⟨by rw [evenA_len]; exact h, evenA_pos h⟩
  · rw [evenT_its] at hk
    rcases List.mem_append.1 hk with h | h
    · obtain ⟨b, h1, h2⟩ := List.mem_map.1 h
      cases h2
    · simp at h

theorem ownN_le (own : List Int) : ∀ n, ownN own n ≤ n
  | 0 => Nat.le_refl _
  | n + 1 => by
    rw [ownN]
    have := ownN_le own n
    split <;> omega
theorem ownN_ge (own : List Int) : ∀ n, 4 ≤ n → 4 ≤ ownN own n
  | 0, h => h
  | n + 1, h => by
    rw [ownN]
    by_cases e : 4 < n + 1 ∧ own.getD (ord19.getD n 0) 0 = 0
    · rw [if_pos e]; exact ownN_ge own n (by omega)
    · rw [if_neg e]; exact h
theorem own3_len (own : List Int) : ∀ ks : List Nat, (ks.flatMap (fun k => numBits (own.getD k 0).toNat 3)).length = 3 * ks.length
  | [] => rfl
  | k :: ks => by
    rw [List.flatMap_cons, List.length_append, numBits_length, own3_len own ks, List.length_cons]
    omega
theorem headB_len {a b own : List Int} (h : Own (a ++ b) own) : (headB a b own).length ≤ 71 + 7 * (a.length + b.length) := by
  have h1 := lenI_bits own h.go (fun k => (h.vo k).2) (a ++ b).length (a ++ b)
  have h2 := ownN_le own 19
  unfold headB
  rw [List.length_append, List.length_append, List.length_append, List.length_append, numBits_length, numBits_length, numBits_length, own3_len]
  have h3 : (putRs own (lenIs (a ++ b))).length ≤ 7 * (a ++ b).length := h1.1
  rw [List.length_append] at h3
  have h4 : (ord19.take (ownN own 19)).length ≤ 19 := by rw [List.length_take]; omega
  omega

theorem lenI_fuel : ∀ (f : Nat) (l : List Int), l.length ≤ f → lenI f l = lenIs l := by
  intro f
  induction f using Nat.strongRecOn with
  | ind f ih =>
    intro l hl
    cases l with
    | nil => cases f <;> rfl
    | cons x r =>
      obtain ⟨f', rfl⟩ : ∃ f', f = f' + 1 := ⟨f - 1, by simp at hl; omega⟩
      have hh := headN_le x r
      have hl' : r.length ≤ f' := by simp at hl; omega
      have hd : (r.drop (headN x r)).length ≤ f' := by rw [List.length_drop]; omega
      have e1 : lenI (f' + 1) (x :: r) = runI x.toNat (headN x r + 1) ++ lenI f' (r.drop (headN x r)) := rfl
      have e2 : lenIs (x :: r) = runI x.toNat (headN x r + 1) ++ lenI r.length (r.drop (headN x r)) := rfl
      rw [e1, e2, ih f' (by omega) _ hd]
      by_cases e : r.length = f'
      · rw [e, ih f' (by omega) _ hd]
      · rw [ih r.length (by omega) _ (by rw [List.length_drop]; omega)]
theorem lenIs_cons (x : Int) (r : List Int) : lenIs (x :: r) = runI x.toNat (headN x r + 1) ++ lenIs (r.drop (headN x r)) := by
  have e2 : lenIs (x :: r) = runI x.toNat (headN x r + 1) ++ lenI r.length (r.drop (headN x r)) := rfl
  rw [e2, lenI_fuel _ _ (by rw [List.length_drop]; omega)]
theorem drop_int {r : List Int} {k : Nat} (hk : k < r.length) : r.drop k = r.getD k 0 :: r.drop (k + 1) := by
  rw [List.drop_eq_getElem_cons hk]
  simp [List.getD, hk]
theorem headN_next {x : Int} : ∀ (r : List Int) (k : Nat), k < r.length → r.getD k 0 = x → headN x r = k + headN x (r.drop k) → headN x r = (k + 1) + headN x (r.drop (k + 1)) := by
  intro r k hk hx h
  rw [h, drop_int hk, headN, if_pos hx]
  omega
theorem headN_stop {x : Int} (r : List Int) (k : Nat) (hk : k < r.length) (hx : r.getD k 0 ≠ x) (h : headN x r = k + headN x (r.drop k)) : headN x r = k := by
  rw [h, drop_int hk, headN, if_neg hx]
  omega
theorem headN_all {x : Int} (r : List Int) (k : Nat) (hk : r.length ≤ k) (h : headN x r = k + headN x (r.drop k)) : headN x r = k := by
  rw [h, List.drop_eq_nil_of_le hk, headN]
  omega
end Go.Proofs.Ytfoaaamcpknjnac

/-
  passLengths: the symbols by which lengths are told go to a function, one behind the other.
-/
namespace Go.Proofs.Ytfoaaamcpknjnac
open Go.RowKit
set_option linter.unusedVariables false
set_option maxRecDepth 100000

def lenV : Value → Nat
  | .slice _ n _ => n
  | _ => 0

theorem drew_drew (w : World) (a b : Nat) : (w.drewN a).drewN b = w.drewN (a + b) := by simp

set_option maxHeartbeats 4000000 in
theorem passLengths_any (J : List (Nat × Nat × Nat) → World → Prop) (Ki : World → World → Prop) (kf : Nat) (cf : Array Value) (b o len cap : Nat) (l : List Int) (w : World) (hK : Snk3 J Ki kf cf (lenIs l)) (hl : l.length = len) (hlen : len ≤ 1000) (hcap : len ≤ cap) (hx : ∀ x ∈ l, 0 ≤ x ∧ x ≤ 15) (hrow : ∀ W, Ki w W → Row .i64 W b o l) (hJ : J [] w) :
    Calls Try.prog 105 #[.slice (some ⟨b, o, none⟩) len cap, .func (.func kf) #[] cf] w fun e w' => e = .returned (.tuple #[]) ∧ J (lenIs l) w' ∧ Ki w w' := by
  have HK := hide hK
  have HROW := hide hrow
  have HX := hide hx
  have HL := hide hl
  have HJ := hide hJ
  clear hK hrow hx hl hJ
  go_enter Try.func105, Try.ntmps105
  go_wp2_with fail
  go_loopw [0] (fun v wr => ∃ i n c : Nat, i + n = len ∧ n ≤ c ∧ (∃ a, v = .slice a n c ∧ (0 < n → a = some ⟨b, o + i, none⟩)) ∧ Hid (∃ IS, J IS wr ∧ Ki w wr ∧ IS ++ lenIs (l.drop i) = lenIs l)) (fun v _ => lenV v)
  case atStart => exact ⟨0, len, cap, by omega, hcap, ⟨some ⟨b, o, none⟩, rfl, fun _ => rfl⟩, hide ⟨[], unhide HJ, (unhide HK).refl _, rfl⟩⟩
  case round =>
    obtain ⟨i, n, c, hi, hnc, ⟨a, rfl, ha⟩, hst⟩ := hrel
    by_cases hlt : 0 < n
    · obtain rfl := ha hlt
      obtain ⟨IS, hJ, hKi, hIS⟩ := unhide hst
      have hR := unhide HROW wr hKi
      have hil : i < l.length := by rw [unhide HL]; omega
      have hd := drop_int hil
      obtain ⟨x, hxx⟩ := Int.eq_ofNat_of_zero_le (show 0 ≤ l.getD i 0 from (unhide HX _ (by simp [List.getD, hil])).1)
      have hx15 : x ≤ 15 := by
        have := (unhide HX (l.getD i 0) (by simp [List.getD, hil])).2
        omega
      rw [hxx] at hd
      obtain ⟨r, hr⟩ : ∃ r, l.drop (i + 1) = r := ⟨_, rfl⟩
      rw [hr] at hd
      have hrl : r.length = n - 1 := by rw [← hr, List.length_drop, unhide HL]; omega
      have hc0 : wr.cell? ⟨b, o + i, none⟩ = some (.int .i64 (x : Int)) := by
        have := hR i hil
        rw [hxx] at this
        exact this
      have hcells : ∀ k : Nat, 1 ≤ k → k < n → wr.cell? ⟨b, o + i + k, none⟩ = some (.int .i64 (r.getD (k - 1) 0)) := by
        intro k hk1 hk
        have h1 := hR (i + k) (by rw [unhide HL]; omega)
        have h2 : r.getD (k - 1) 0 = l.getD (i + k) 0 := by
          rw [← hr]
          simp only [List.getD, List.getElem?_drop]
          congr 2
          omega
        rw [h2, Nat.add_assoc]
        exact h1
      have HC := hide hcells
      have HD := hide hd
      have HS := hide (And.intro hJ (And.intro hKi hIS))
      have HRL := hide hrl
      have HR := hide hr
      have hnI : (0 : Int) < (n : Int) := by omega
      clear hst hJ hKi hIS hR hd hcells hrl hr hxx ha hil
      generalize wr = wl at *
      go_wp2
      go_loopw [4] (fun v W => ∃ k q : Nat, Hid (W = wl.drewN q) ∧ 1 ≤ k ∧ k ≤ n ∧ v = .int .i64 (k : Int) ∧ Hid (headN x r = (k - 1) + headN x (r.drop (k - 1)))) (fun v _ => n - (intOf v).toNat)
      case atStart => exact ⟨1, 0, hide rfl, Nat.le_refl _, by omega, rfl, hide (by simp)⟩
      case round =>
        obtain ⟨k, q, HW, hk1, hkn, rfl, hh⟩ := hrel
        have hc0' : wr.cell? ⟨b, o + i, none⟩ = some (.int .i64 (x : Int)) := by rw [unhide HW]; exact hc0
        by_cases hk : k < n
        · have c1 : wr.cell? ⟨b, o + i + k, none⟩ = some (.int .i64 (r.getD (k - 1) 0)) := by rw [unhide HW]; exact unhide HC k hk1 hk
          have hkI : (k : Int) < (n : Int) := by omega
          by_cases he : r.getD (k - 1) 0 = x
          · rw [he] at c1
            have HN : Hid (headN x r = (k + 1 - 1) + headN x (r.drop (k + 1 - 1))) := hide (by
              have := headN_next r (k - 1) (by rw [unhide HRL]; omega) he (unhide hh)
              rw [show k - 1 + 1 = k + 1 - 1 by omega] at this
              exact this)
            clear he hh
            go_wp2
            go_quiet (fail)
            go_wp2
            go_roundw
            case rel => exact ⟨k + 1, _, hide (by rw [unhide HW]; exact drew_drew _ _ _), by omega, by omega, by go_num, HN⟩
            case measure => simp [intOf]; omega
          · have hb : (r.getD (k - 1) 0 == (x : Int)) = false := by rw [beq_eq_false_iff_ne]; exact he
            have HN : Hid (headN x r = k - 1) := hide (headN_stop r (k - 1) (by rw [unhide HRL]; omega) he (unhide hh))
            generalize r.getD (k - 1) 0 = y at c1 hb
            clear he hh
            go_wp2
            go_quiet (fail)
            have HALL : Hid (IS ++ runI x k ++ lenIs (l.drop (i + k)) = lenIs l) := hide (by
              rw [← (unhide HS).2.2, unhide HD, lenIs_cons, Int.toNat_natCast, unhide HN, show k - 1 + 1 = k by omega, ← unhide HR, List.drop_drop, show i + 1 + (k - 1) = i + k by omega, List.append_assoc])
            go_wp2_with fail
            refine (passRun_any J Ki kf cf (lenIs l) (unhide HK) x k IS (lenIs (l.drop (i + k))) _ hx15 hk1 (by omega) (unhide HALL) ((unhide HK).jd _ (by rw [unhide HW]; exact (unhide HK).jd _ (unhide HS).1))).mono ?_
            rintro e w2 ⟨rfl, hJ2, hK2⟩
            have H2 := hide (And.intro hJ2 ((unhide HK).trans (unhide HS).2.1 ((unhide HK).trans (by rw [unhide HW]; exact (unhide HK).kd wl q) ((unhide HK).trans ((unhide HK).kd wr _) hK2))))
            clear hJ2 hK2
            go_wp2
            go_roundw
            case rel => exact ⟨i + k, n - k, c - k, by omega, by omega, ⟨_, rfl, fun _ => by rw [Nat.add_assoc]⟩, hide ⟨_, (unhide H2).1, (unhide H2).2, unhide HALL⟩⟩
            case measure => simp [lenV]; omega
        · obtain rfl : k = n := by omega
          have hkI : ¬ (k : Int) < (k : Int) := by omega
          have HN : Hid (headN x r = k - 1) := hide (headN_all r (k - 1) (by rw [unhide HRL]; omega) (unhide hh))
          clear hh hkI
          go_wp2
          go_quiet (fail)
          have HALL : Hid (IS ++ runI x k ++ lenIs (l.drop (i + k)) = lenIs l) := hide (by
            rw [← (unhide HS).2.2, unhide HD, lenIs_cons, Int.toNat_natCast, unhide HN, show k - 1 + 1 = k by omega, ← unhide HR, List.drop_drop, show i + 1 + (k - 1) = i + k by omega, List.append_assoc])
          go_wp2_with fail
          refine (passRun_any J Ki kf cf (lenIs l) (unhide HK) x k IS (lenIs (l.drop (i + k))) _ hx15 hk1 (by omega) (unhide HALL) ((unhide HK).jd _ (by rw [unhide HW]; exact (unhide HK).jd _ (unhide HS).1))).mono ?_
          rintro e w2 ⟨rfl, hJ2, hK2⟩
          have H2 := hide (And.intro hJ2 ((unhide HK).trans (unhide HS).2.1 ((unhide HK).trans (by rw [unhide HW]; exact (unhide HK).kd wl q) ((unhide HK).trans ((unhide HK).kd wr _) hK2))))
          clear hJ2 hK2
          go_wp2
          go_roundw
          case rel => exact ⟨i + k, 0, c - k, by omega, by omega, ⟨_, rfl, fun h => absurd h (by omega)⟩, hide ⟨_, (unhide H2).1, (unhide H2).2, unhide HALL⟩⟩
          case measure => simp [lenV]; omega
    · obtain rfl : n = 0 := by omega
      obtain ⟨IS, hJ, hKi, hIS⟩ := unhide hst
      rw [List.drop_eq_nil_of_le (by rw [unhide HL]; omega)] at hIS
      have HF : Hid (J (lenIs l) wr ∧ Ki w wr) := hide ⟨by rw [← hIS]; simpa [lenIs, lenI] using hJ, hKi⟩
      clear hst hJ hKi hIS ha
      go_wp2
      go_end0
      exact ⟨rfl, unhide HF⟩
end Go.Proofs.Ytfoaaamcpknjnac
