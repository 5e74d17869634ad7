/-
  The law NameParts, walked: any text is a name, or lies under another one, or not, as the document says.
-/
import Derived.Test.YtblagchhjobefaeDoorNmR
namespace Go.Proofs.YtblagchhjobefaeDoor
open Go.RowKit
set_option linter.unusedVariables false
set_option maxRecDepth 100000

theorem ext_take (s f : List UInt8) : ((B s).extract 0 (B f).size).toList = s.take f.length := by
  rw [Lib.toList_data, Lib.extract_from_zero, B_size]
  rfl
theorem und_a {s f : List UInt8} (h1 : (B f).size < (B s).size) (h2 : ((B s).extract 0 (B f).size).toList = (B f).toList) : (under s f == ((((B s)[(B f).size]'h1).toNat : Int) == 47)) = true := by
  rw [ext_take, Lib.toList_data, data_B] at h2
  rw [under_is]
  have h3 : f.length < s.length := by rw [B_size, B_size] at h1; exact h1
  have h4 : (B s)[(B f).size]'h1 = s[f.length]'h3 := by
    show (B s).data[(B f).size]'h1 = _
    simp [B, ByteArray.size]
  rw [h4, decide_eq_true h3, h2, List.getElem?_eq_getElem h3]
  simp only [beq_self_eq_true, Bool.true_and]
  generalize s[f.length]'h3 = c
  by_cases hc : c = 47
  · subst hc; rfl
  · have h5 : ¬ (c.toNat : Int) = 47 := by
      intro e
      apply hc
      apply UInt8.toNat_inj.1
      have : (47 : UInt8).toNat = 47 := rfl
      omega
    have h6 : (some c == some (47 : UInt8)) = false := by simpa using hc
    have h7 : ((c.toNat : Int) == 47) = false := by simpa using h5
    rw [h6, h7]
    rfl
theorem und_b {s f : List UInt8} (h2 : ¬ ((B s).extract 0 (B f).size).toList = (B f).toList) : under s f = false := by
  rw [ext_take, Lib.toList_data, data_B] at h2
  rw [under_is]
  simp [h2]
theorem und_c {s f : List UInt8} (h1 : ¬ (B f).size < (B s).size) : under s f = false := by
  rw [B_size, B_size] at h1
  rw [under_is]
  simp [h1]

set_option maxHeartbeats 4000000 in
theorem nparts_any (s f : List UInt8) (w : World) (hs : s.length ≤ maxLen) (hf : f.length ≤ maxLen) :
    Calls Tryd.prog 3 #[.string (B s), .string (B f)] w fun e w' => e = .returned (.bool true) ∧ Below w.heap.size w w' := by
  have CP := hide (parts_any s w hs)
  have CU := hide (fun W => under_any s f W hs hf)
  have CR := hide (fun W => parted_any s W hs)
  have CC := hide (fun W => check_any s W hs)
  have CF := hide (fun W => parted_any f W hf)
  have HSB := hide (B_size s)
  have HFB := hide (B_size f)
  by_cases h1 : errN s = 0
  · by_cases h2 : errN f = 0
    · have hu : undE s f = 0 := undE_zero.2 ⟨h1, h2⟩
      rw [hu, undB_ok hu] at CU
      rw [h1] at CP CR CC
      rw [h2] at CF
      have hl1 := (errN_ok h1).1
      have hl2 := (errN_ok h2).1
      have hs1 : (B s).size ≤ 40 := by rw [unhide HSB]; exact hl1
      have hs2 : (B f).size ≤ 40 := by rw [unhide HFB]; exact hl2
      have LA := hide (und_a (s := s) (f := f))
      have LB := hide (und_b (s := s) (f := f))
      have LC := hide (und_c (s := s) (f := f))
      clear h1 h2 hu hl1 hl2 hs hf
      clear HSB HFB
      generalize under s f = u at *
      generalize B s = sb at *
      generalize B f = fb at *
      go_enter Tryd.func3, Tryd.ntmps3
      go_wp2_with fail
      refine (unhide CP).mono ?_
      rintro _ w1 ⟨v1, rfl, hr1, hb1, hx⟩
      clear hx
      have hz1 := hb1.size
      have HB1 := hide hb1
      have HR1 := hide hr1
      clear hb1 hr1
      go_wp2_with fail
      refine ((unhide CU) _).mono ?_
      rintro _ w2 ⟨rfl, hb2⟩
      have hz2 := hb2.size
      have HB2 := hide ((unhide HB1).trans (hb2.mono hz1))
      have HR2 := hide ((unhide HR1).below hb2)
      clear hb2
      go_wp2_with fail
      refine ((unhide CR) _).mono ?_
      rintro _ w3 ⟨v3, rfl, hr3, hb3, hx⟩
      clear hx
      have hz3 := hb3.size
      have HB3 := hide ((unhide HB2).trans (hb3.mono (by omega)))
      have HR3 := hide ((unhide HR2).below hb3)
      have HQ3 := hide hr3
      clear hb3 hr3
      go_wp2_with fail
      refine (named_any _).mono ?_
      rintro _ w4 ⟨rfl, hb4⟩
      have hz4 := hb4.size
      have HB4 := hide ((unhide HB3).trans (hb4.mono (by omega)))
      have HR4 := hide ((unhide HR3).below hb4)
      have HQ4 := hide ((unhide HQ3).below hb4)
      clear hb4
      go_wp2_with fail
      refine ((unhide CC) _).mono ?_
      rintro _ w5 ⟨rfl, hb5⟩
      have hz5 := hb5.size
      have HB5 := hide ((unhide HB4).trans (hb5.mono (by omega)))
      have HR5 := hide ((unhide HR4).below hb5)
      have HQ5 := hide ((unhide HQ4).below hb5)
      clear hb5
      go_wp2_with fail
      refine (equalS (unhide HR5) (unhide HQ5)).mono ?_
      rintro _ w6 ⟨rfl, q6, rfl⟩
      rw [decide_eq_true (rfl : prow s = prow s)]
      go_wp2_with fail
      refine ((unhide CF) _).mono ?_
      rintro _ w7 ⟨v7, rfl, hr7, hb7, hx⟩
      clear hx
      have HB7 := hide ((below_drewN (unhide HB5) q6).trans (hb7.mono (by simp; omega)))
      clear hr7 hb7
      go_wp2
      · rename fb.size < sb.size => h1
        rename (sb.extract 0 fb.size).toList = fb.toList => h2
        go_ret
        exact ⟨ret_bool ((unhide LA) h1 h2), unhide HB7⟩
      · rename ¬ (sb.extract 0 fb.size).toList = fb.toList => h2
        go_ret
        exact ⟨ret_bool (by rw [(unhide LB) h2]; rfl), unhide HB7⟩
      · rename ¬ fb.size < sb.size => h1
        go_ret
        exact ⟨ret_bool (by rw [(unhide LC) h1]; rfl), unhide HB7⟩
    · have hu : undE s f = errN f := undE_snd h1
      rw [undB_bad (by rw [hu]; exact h2), hu] at CU
      rw [h1] at CP CR CC
      obtain ⟨n, hn⟩ : ∃ n, errN f = n := ⟨_, rfl⟩
      rw [hn] at CU CF h2
      clear hn hu h1 hs hf HSB HFB
      generalize B s = sb at *
      generalize B f = fb at *
      go_enter Tryd.func3, Tryd.ntmps3
      go_wp2_with fail
      refine (unhide CP).mono ?_
      rintro _ w1 ⟨v1, rfl, hr1, hb1, hx⟩
      clear hx
      have hz1 := hb1.size
      have HB1 := hide hb1
      have HR1 := hide hr1
      clear hb1 hr1
      go_wp2_with fail
      refine ((unhide CU) _).mono ?_
      rintro _ w2 ⟨rfl, hb2⟩
      have hz2 := hb2.size
      have HB2 := hide ((unhide HB1).trans (hb2.mono hz1))
      have HR2 := hide ((unhide HR1).below hb2)
      clear hb2
      go_wp2_with fail
      refine ((unhide CR) _).mono ?_
      rintro _ w3 ⟨v3, rfl, hr3, hb3, hx⟩
      clear hx
      have hz3 := hb3.size
      have HB3 := hide ((unhide HB2).trans (hb3.mono (by omega)))
      have HR3 := hide ((unhide HR2).below hb3)
      have HQ3 := hide hr3
      clear hb3 hr3
      go_wp2_with fail
      refine (named_any _).mono ?_
      rintro _ w4 ⟨rfl, hb4⟩
      have hz4 := hb4.size
      have HB4 := hide ((unhide HB3).trans (hb4.mono (by omega)))
      have HR4 := hide ((unhide HR3).below hb4)
      have HQ4 := hide ((unhide HQ3).below hb4)
      clear hb4
      go_wp2_with fail
      refine ((unhide CC) _).mono ?_
      rintro _ w5 ⟨rfl, hb5⟩
      have hz5 := hb5.size
      have HB5 := hide ((unhide HB4).trans (hb5.mono (by omega)))
      have HR5 := hide ((unhide HR4).below hb5)
      have HQ5 := hide ((unhide HQ4).below hb5)
      clear hb5
      go_wp2_with fail
      refine (equalS (unhide HR5) (unhide HQ5)).mono ?_
      rintro _ w6 ⟨rfl, q6, rfl⟩
      rw [decide_eq_true (rfl : prow s = prow s)]
      go_wp2_with fail
      refine ((unhide CF) _).mono ?_
      rintro _ w7 ⟨v7, rfl, hr7, hb7, hx⟩
      clear hx
      have HB7 := hide ((below_drewN (unhide HB5) q6).trans (hb7.mono (by simp; omega)))
      clear hr7 hb7
      go_wp2
      go_ret
      exact ⟨rfl, unhide HB7⟩
  · have hu : undE s f = errN s := undE_fst h1
    rw [undB_bad (by rw [hu]; exact h1), hu] at CU
    obtain ⟨n, hn⟩ : ∃ n, errN s = n := ⟨_, rfl⟩
    rw [hn] at CU CP CR CC h1
    have hnn : ((n : Int) != (n : Int)) = false := by simp
    clear hn hu hs hf HSB HFB CF
    generalize B s = sb at *
    generalize B f = fb at *
    go_enter Tryd.func3, Tryd.ntmps3
    go_wp2_with fail
    refine (unhide CP).mono ?_
    rintro _ w1 ⟨v1, rfl, hr1, hb1, hx⟩
    clear hx
    have hz1 := hb1.size
    have HB1 := hide hb1
    have HR1 := hide hr1
    clear hb1 hr1
    go_wp2_with fail
    refine ((unhide CU) _).mono ?_
    rintro _ w2 ⟨rfl, hb2⟩
    have hz2 := hb2.size
    have HB2 := hide ((unhide HB1).trans (hb2.mono hz1))
    have HR2 := hide ((unhide HR1).below hb2)
    clear hb2
    go_wp2_with fail
    refine ((unhide CR) _).mono ?_
    rintro _ w3 ⟨v3, rfl, hr3, hb3, hx⟩
    clear hx
    have hz3 := hb3.size
    have HB3 := hide ((unhide HB2).trans (hb3.mono (by omega)))
    have HR3 := hide ((unhide HR2).below hb3)
    have HQ3 := hide hr3
    clear hb3 hr3
    go_wp2_with fail
    refine (named_any _).mono ?_
    rintro _ w4 ⟨rfl, hb4⟩
    have hz4 := hb4.size
    have HB4 := hide ((unhide HB3).trans (hb4.mono (by omega)))
    have HR4 := hide ((unhide HR3).below hb4)
    have HQ4 := hide ((unhide HQ3).below hb4)
    clear hb4
    go_wp2_with fail
    refine ((unhide CC) _).mono ?_
    rintro _ w5 ⟨rfl, hb5⟩
    have hz5 := hb5.size
    have HB5 := hide ((unhide HB4).trans (hb5.mono (by omega)))
    have HR5 := hide ((unhide HR4).below hb5)
    have HQ5 := hide ((unhide HQ4).below hb5)
    clear hb5
    go_wp2_with fail
    refine (equalS (unhide HR5) (unhide HQ5)).mono ?_
    rintro _ w6 ⟨rfl, q6, rfl⟩
    rw [decide_eq_true (rfl : prow s = prow s)]
    go_wp2
    go_ret
    exact ⟨rfl, below_drewN (unhide HB5) q6⟩
end Go.Proofs.YtblagchhjobefaeDoor
