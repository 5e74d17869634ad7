/-
  Package name: Join of any texts.
-/
import Derived.Test.YtblagchhjobefahDoorNmW
namespace Go.Proofs.YtblagchhjobefahDoor
open Go.RowKit
set_option linter.unusedVariables false
set_option maxRecDepth 100000

/-- how many bytes parts have, each with one more -/
def tot : List (List UInt8) → Nat
  | [] => 0
  | p :: r => p.length + 1 + tot r
theorem tot_app (a b : List (List UInt8)) : tot (a ++ b) = tot a + tot b := by
  induction a with
  | nil => simp [tot]
  | cons p r ih => simp [tot, ih]; omega
theorem tot_len (a : List (List UInt8)) : a.length ≤ tot a := by
  induction a with
  | nil => simp
  | cons p r ih => simp [tot]; omega
theorem tot_jn : ∀ a : List (List UInt8), (jn a).length ≤ tot a
  | [] => by simp [jn_nil]
  | [p] => by rw [jn_one]; simp [tot]
  | p :: q :: r => by
    have := tot_jn (q :: r)
    rw [jn_two]
    simp [tot] at this ⊢
    omega
theorem tot_last (a : List (List UInt8)) : tot a.dropLast ≤ tot a := by
  rcases List.eq_nil_or_concat a with rfl | ⟨r, p, rfl⟩
  · simp
  · simp [tot_app]
theorem tot_spl (l : List UInt8) : tot (spl l) = l.length + 1 := by
  induction l with
  | nil => simp [spl, tot]
  | cons c r ih =>
    by_cases h : c = 47
    · subst h; simp [spl, tot, ih]; omega
    · obtain ⟨p, ps, h1, h2⟩ := spl_cons_ne (r := r) h
      rw [h2]
      rw [h1] at ih
      simp [tot] at ih ⊢
      omega
theorem tot_walk (own : Nat) : ∀ (qs acc r : List (List UInt8)), walkF own acc qs = some r → tot r ≤ tot acc + tot qs
  | [], acc, r, h => by simp [walkF] at h; rw [h]; simp [tot]
  | p :: qs, acc, r, h => by
    simp only [walkF] at h
    split at h
    · have := tot_walk own qs acc r h; simp [tot]; omega
    · split at h
      · split at h
        · exact absurd h (by simp)
        · have := tot_walk own qs _ r h
          have h2 := tot_last acc
          simp [tot]; omega
      · have := tot_walk own qs _ r h
        rw [tot_app] at this
        simp [tot] at this ⊢
        omega

theorem joinF_many {f s : List UInt8} (h : 160 < f.length + s.length) : joinF f s = ([], 2) := by unfold joinF; rw [if_pos h]
theorem joinF_fold {f s : List UInt8} (h : ¬ 160 < f.length + s.length) (h2 : errF f ≠ 0) : joinF f s = ([], errF f) := by unfold joinF; rw [if_neg h, if_pos h2]
theorem joinF_out {f s : List UInt8} (h : ¬ 160 < f.length + s.length) (h2 : errF f = 0) (hw : walkF (ownF f).length (ownF f) (spl s) = none) : joinF f s = ([], 1) := by
  unfold joinF; rw [if_neg h, if_neg (by simp [h2]), hw]
theorem joinF_in {f s : List UInt8} {ps : List (List UInt8)} (h : ¬ 160 < f.length + s.length) (h2 : errF f = 0) (hw : walkF (ownF f).length (ownF f) (spl s) = some ps) :
    (errN (jn ps) = 0 → joinF f s = (jn ps, 0)) ∧ (errN (jn ps) ≠ 0 → joinF f s = ([], errN (jn ps))) := by
  unfold joinF; rw [if_neg h, if_neg (by simp [h2]), hw]
  constructor
  · intro h3; simp only; rw [if_neg (by simp [h3])]
  · intro h3; simp only; rw [if_pos h3]

set_option maxHeartbeats 2000000 in
theorem join_any (f s : List UInt8) (w : World) (hfs : f.length + s.length ≤ maxLen) :
    Calls Tryd.prog 9 #[.string (B f), .string (B s)] w fun e w' => e = .returned (.tuple #[.string (B (joinF f s).1), .int .i64 ((joinF f s).2 : Nat)]) ∧ Below w.heap.size w w' := by
  have hsf := B_size f
  have hss := B_size s
  unfold maxLen at hfs
  by_cases h160 : 160 < f.length + s.length
  · have HJ := hide (joinF_many h160)
    have h1 : 160 < (B f).size + (B s).size := by rw [hsf, hss]; exact h160
    have h2 : (B f).size + (B s).size ≤ 9223372036854775807 := by rw [hsf, hss]; omega
    clear hsf hss h160 hfs
    generalize B f = t at *
    generalize B s = u at *
    go_enter Tryd.func9, Tryd.ntmps9
    go_wp2
    go_ret2
    rw [unhide HJ]
    exact ⟨rfl, Below.refl _ _⟩
  · have h1 : ¬ 160 < (B f).size + (B s).size := by rw [hsf, hss]; exact h160
    have h2 : (B f).size + (B s).size ≤ 160 := by omega
    have H160 := hide h160
    by_cases hf : f = []
    · have hB : B f = ⟨#[]⟩ := by rw [hf]; rfl
      have hsl : s.length ≤ 160 := by omega
      have h3 : (B s).size ≤ 160 := by rw [hss]; exact hsl
      have cw := walk_any w.heap.size (.slice none 0 0) [] s w (SRow.nil _ _) (Nat.le_refl _) (by simp) (by omega)
      have HEF : Hid (errF f = 0) := by simp [Hid, errF, hf]
      obtain ⟨acc, hacc⟩ : ∃ acc : List (List UInt8), [] = acc := ⟨_, rfl⟩
      rw [hacc] at cw
      have HOW : Hid (ownF f = acc) := by rw [Hid, ← hacc]; simp [ownF, hf]
      have HW : Hid (∀ r, walkF acc.length acc (spl s) = some r → tot r ≤ 400) := by
        intro r hr
        have h3 := tot_walk _ _ _ _ hr
        rw [tot_spl, ← hacc] at h3
        simp [tot] at h3
        omega
      have HBW := hide (Below.refl w.heap.size w)
      rw [hB]
      clear hacc hf hB hsf hss h160 h1 h2
      generalize B s = u at *
      cases hw : walkF acc.length acc (spl s) with
      | none =>
        obtain ⟨e1, e2⟩ := walkE_none hw
        rw [e1, e2] at cw
        have HJ : Hid (joinF f s = ([], 1)) := joinF_out (unhide H160) (unhide HEF) (by rw [unhide HOW]; exact hw)
        clear e1 e2 hw HW
        go_enter Tryd.func9, Tryd.ntmps9
        go_wp2_with fail
        refine cw.mono ?_
        rintro e w1 ⟨v1, rfl, hr1, hb1, hz1⟩
        have HB1 := hide ((unhide HBW).trans hb1)
        clear hr1 hb1
        go_wp2
        go_ret2
        rw [unhide HJ]
        exact ⟨rfl, unhide HB1⟩
      | some ps =>
        obtain ⟨e1, e2⟩ := walkE_some hw
        rw [e1, e2] at cw
        have hJ := joinF_in (unhide H160) (unhide HEF) (by rw [unhide HOW]; exact hw)
        have ht := (unhide HW) ps hw
        have hl1 := Nat.le_trans (tot_len ps) ht
        have hl2 := Nat.le_trans (tot_jn ps) ht
        have HC := hide (fun W => check_any (jn ps) W (by unfold maxLen; omega))
        have HJS := hide (fun (W : World) (x : Value) (h : SRow W w.heap.size x ps) => joinS h (by omega) (by omega))
        clear e1 e2 hw HW ht
        by_cases hen : errN (jn ps) = 0
        · have HJ := hide (hJ.1 hen)
          rw [hen] at HC
          clear hJ hen
          go_enter Tryd.func9, Tryd.ntmps9
          go_wp2_with fail
          refine cw.mono ?_
          rintro e w1 ⟨v1, rfl, hr1, hb1, hz1⟩
          have HB1 := hide ((unhide HBW).trans hb1)
          have HR1 := hide hr1
          clear hr1 hb1
          go_wp2_with fail
          refine ((unhide HJS) _ _ (unhide HR1)).mono ?_
          rintro e w2 ⟨rfl, hb2⟩
          have hz2 := (unhide HB1).size
          have HB2 := hide ((unhide HB1).trans (hb2.mono hz2))
          clear hb2
          go_wp2_with fail
          refine ((unhide HC) _).mono ?_
          rintro e w3 ⟨rfl, hb3⟩
          have hz3 := (unhide HB2).size
          have HB3 := hide ((unhide HB2).trans (hb3.mono hz3))
          clear hb3
          go_wp2
          go_ret2
          rw [unhide HJ]
          exact ⟨rfl, unhide HB3⟩
        · have HJ := hide (hJ.2 hen)
          obtain ⟨en, hne⟩ : ∃ en, errN (jn ps) = en := ⟨_, rfl⟩
          rw [hne] at HC HJ hen
          clear hJ hne
          go_enter Tryd.func9, Tryd.ntmps9
          go_wp2_with fail
          refine cw.mono ?_
          rintro e w1 ⟨v1, rfl, hr1, hb1, hz1⟩
          have HB1 := hide ((unhide HBW).trans hb1)
          have HR1 := hide hr1
          clear hr1 hb1
          go_wp2_with fail
          refine ((unhide HJS) _ _ (unhide HR1)).mono ?_
          rintro e w2 ⟨rfl, hb2⟩
          have hz2 := (unhide HB1).size
          have HB2 := hide ((unhide HB1).trans (hb2.mono hz2))
          clear hb2
          go_wp2_with fail
          refine ((unhide HC) _).mono ?_
          rintro e w3 ⟨rfl, hb3⟩
          have hz3 := (unhide HB2).size
          have HB3 := hide ((unhide HB2).trans (hb3.mono hz3))
          clear hb3
          go_wp2
          go_ret2
          rw [unhide HJ]
          exact ⟨rfl, unhide HB3⟩
    · have HEF0 : Hid (errF f = errN f) := by simp [Hid, errF, hf]
      have HOF : Hid (ownF f = spl f) := by simp [Hid, ownF, hf]
      have cp := parts_any f w (by unfold maxLen; omega)
      have hne := str_none (B f) hf
      by_cases hen : errN f = 0
      · have HEF : Hid (errF f = 0) := (unhide HEF0).trans hen
        rw [hen, prow_ok hen] at cp
        have hfl := (errN_ok hen).1
        have hsl : s.length ≤ 160 := by omega
        have h41 := spl_le41 hfl
        have hts := tot_spl f
        obtain ⟨acc, hacc⟩ : ∃ acc : List (List UInt8), spl f = acc := ⟨_, rfl⟩
        rw [hacc] at cp h41 hts
        have HOW : Hid (ownF f = acc) := (unhide HOF).trans hacc
        have HW : Hid (∀ r, walkF acc.length acc (spl s) = some r → tot r ≤ 400) := by
          intro r hr
          have h3 := tot_walk _ _ _ _ hr
          rw [tot_spl] at h3
          omega
        have HCW := hide (fun (v : Value) (W : World) (h : SRow W w.heap.size v acc) (hW : Below w.heap.size w W) => walk_any w.heap.size v acc s W h hW.size (by omega) (by omega))
        clear hacc hen HEF0 HOF hsf h160 hf hts hfl
        generalize B f = t at *
        generalize B s = u at *
        cases hw : walkF acc.length acc (spl s) with
        | none =>
          obtain ⟨e1, e2⟩ := walkE_none hw
          rw [e1, e2] at HCW
          have HJ : Hid (joinF f s = ([], 1)) := joinF_out (unhide H160) (unhide HEF) (by rw [unhide HOW]; exact hw)
          clear e1 e2 hw HW
          go_enter Tryd.func9, Tryd.ntmps9
          go_wp2_with fail
          refine cp.mono ?_
          rintro e w0 ⟨v0, rfl, hr0, hb0, _⟩
          have HR0 := hide hr0
          have HBW := hide hb0
          clear hr0 hb0 cp
          go_wp2_with fail
          refine ((unhide HCW) v0 w0 (unhide HR0) (unhide HBW)).mono ?_
          rintro e w1 ⟨v1, rfl, hr1, hb1, hz1⟩
          have HB1 := hide ((unhide HBW).trans hb1)
          clear hr1 hb1
          go_wp2
          go_ret2
          rw [unhide HJ]
          exact ⟨rfl, unhide HB1⟩
        | some ps =>
          obtain ⟨e1, e2⟩ := walkE_some hw
          rw [e1, e2] at HCW
          have hJ := joinF_in (unhide H160) (unhide HEF) (by rw [unhide HOW]; exact hw)
          have ht := (unhide HW) ps hw
          have hl1 := Nat.le_trans (tot_len ps) ht
          have hl2 := Nat.le_trans (tot_jn ps) ht
          have HC := hide (fun W => check_any (jn ps) W (by unfold maxLen; omega))
          have HJS := hide (fun (W : World) (x : Value) (h : SRow W w.heap.size x ps) => joinS h (by omega) (by omega))
          clear e1 e2 hw HW ht
          by_cases hen : errN (jn ps) = 0
          · have HJ := hide (hJ.1 hen)
            rw [hen] at HC
            clear hJ hen
            go_enter Tryd.func9, Tryd.ntmps9
            go_wp2_with fail
            refine cp.mono ?_
            rintro e w0 ⟨v0, rfl, hr0, hb0, _⟩
            have HR0 := hide hr0
            have HBW := hide hb0
            clear hr0 hb0 cp
            go_wp2_with fail
            refine ((unhide HCW) v0 w0 (unhide HR0) (unhide HBW)).mono ?_
            rintro e w1 ⟨v1, rfl, hr1, hb1, hz1⟩
            have HB1 := hide ((unhide HBW).trans hb1)
            have HR1 := hide hr1
            clear hr1 hb1
            go_wp2_with fail
            refine ((unhide HJS) _ _ (unhide HR1)).mono ?_
            rintro e w2 ⟨rfl, hb2⟩
            have hz2 := (unhide HB1).size
            have HB2 := hide ((unhide HB1).trans (hb2.mono hz2))
            clear hb2
            go_wp2_with fail
            refine ((unhide HC) _).mono ?_
            rintro e w3 ⟨rfl, hb3⟩
            have hz3 := (unhide HB2).size
            have HB3 := hide ((unhide HB2).trans (hb3.mono hz3))
            clear hb3
            go_wp2
            go_ret2
            rw [unhide HJ]
            exact ⟨rfl, unhide HB3⟩
          · have HJ := hide (hJ.2 hen)
            obtain ⟨en, hne⟩ : ∃ en, errN (jn ps) = en := ⟨_, rfl⟩
            rw [hne] at HC HJ hen
            clear hJ hne
            go_enter Tryd.func9, Tryd.ntmps9
            go_wp2_with fail
            refine cp.mono ?_
            rintro e w0 ⟨v0, rfl, hr0, hb0, _⟩
            have HR0 := hide hr0
            have HBW := hide hb0
            clear hr0 hb0 cp
            go_wp2_with fail
            refine ((unhide HCW) v0 w0 (unhide HR0) (unhide HBW)).mono ?_
            rintro e w1 ⟨v1, rfl, hr1, hb1, hz1⟩
            have HB1 := hide ((unhide HBW).trans hb1)
            have HR1 := hide hr1
            clear hr1 hb1
            go_wp2_with fail
            refine ((unhide HJS) _ _ (unhide HR1)).mono ?_
            rintro e w2 ⟨rfl, hb2⟩
            have hz2 := (unhide HB1).size
            have HB2 := hide ((unhide HB1).trans (hb2.mono hz2))
            clear hb2
            go_wp2_with fail
            refine ((unhide HC) _).mono ?_
            rintro e w3 ⟨rfl, hb3⟩
            have hz3 := (unhide HB2).size
            have HB3 := hide ((unhide HB2).trans (hb3.mono hz3))
            clear hb3
            go_wp2
            go_ret2
            rw [unhide HJ]
            exact ⟨rfl, unhide HB3⟩
      · obtain ⟨en, hne2⟩ : ∃ en, errN f = en := ⟨_, rfl⟩
        have HJ : Hid (joinF f s = ([], en)) := by
          have h3 := (unhide HEF0).trans hne2
          have := joinF_fold (s := s) (unhide H160) (by rw [h3, ← hne2]; exact hen)
          rw [h3] at this
          exact this
        rw [hne2] at cp hen
        clear hne2 HEF0 HOF hsf h160 hf
        generalize B f = t at *
        generalize B s = u at *
        go_enter Tryd.func9, Tryd.ntmps9
        go_wp2_with fail
        refine cp.mono ?_
        rintro e w0 ⟨v0, rfl, hr0, hb0, _⟩
        have HBW := hide hb0
        clear hr0 hb0 cp
        go_wp2
        go_ret2
        rw [unhide HJ]
        exact ⟨rfl, unhide HBW⟩
end Go.Proofs.YtblagchhjobefahDoor
