/-
  The law NameJoin, walked: any texts are joined as the document says.
-/
import Derived.Test.YtblagchhjobefaeDoorNmR
namespace Go.Proofs.YtblagchhjobefaeDoor
open Go.RowKit
set_option linter.unusedVariables false
set_option maxRecDepth 100000

theorem str_same2 (s : ByteArray) : (s.toList == s.toList) = true := by simp

set_option maxHeartbeats 8000000 in
theorem njoin_any (f s : List UInt8) (w : World) (hfs : f.length + s.length ≤ maxLen) :
    Calls Tryd.prog 4 #[.string (B f), .string (B s)] w fun e w' => e = .returned (.bool true) ∧ Below w.heap.size w w' := by
  obtain ⟨i0, hi, hz0, hz1, hz2⟩ := info_parts info_str
  have CJ := hide (join_any f s w hfs)
  have hsf := B_size f
  have hss := B_size s
  unfold maxLen at hfs
  by_cases h160 : 160 < f.length + s.length
  · rw [joinF_many h160] at CJ
    have h1 : 160 < (B f).size + (B s).size := by rw [hsf, hss]; exact h160
    have h2 : (B f).size + (B s).size ≤ 9223372036854775807 := by rw [hsf, hss]; omega
    have CJ2 : Hid (Calls Tryd.prog 12 #[.string (B f), .string (B s)] w fun e w' => e = .returned (.tuple #[.string ⟨#[]⟩, .int .i64 2]) ∧ Below w.heap.size w w') := unhide CJ
    clear hsf hss h160 hfs CJ
    generalize B f = t at *
    generalize B s = u at *
    go_enter Tryd.func4, Tryd.ntmps4
    go_wp2_with fail
    refine (unhide CJ2).mono ?_
    rintro _ w1 ⟨rfl, hb1⟩
    have hzz1 := hb1.size
    have HB1 := hide hb1
    clear hb1
    go_wp2_with fail
    refine (named_any _).mono ?_
    rintro _ w2 ⟨rfl, hb2⟩
    have hzz2 := hb2.size
    have HB2 := hide ((unhide HB1).trans (hb2.mono hzz1))
    clear hb2
    go_wp2_with fail
    refine (named_any _).mono ?_
    rintro _ w3 ⟨rfl, hb3⟩
    have HB3 := hide ((unhide HB2).trans (hb3.mono (by omega)))
    clear hb3
    go_wp2
    go_ret
    exact ⟨rfl, unhide HB3⟩
  · have h1 : ¬ 160 < (B f).size + (B s).size := by rw [hsf, hss]; exact h160
    have h2 : (B f).size + (B s).size ≤ 160 := by omega
    have H160 := hide h160
    have hsl : s.length ≤ 160 := by omega
    have HTOT := hide (fun (acc r : List (List UInt8)) (ha : tot acc ≤ 41) (hr : walkF acc.length acc (spl s) = some r) => show tot r ≤ 400 by
      have h3 := tot_walk _ _ _ _ hr
      rw [tot_spl] at h3
      omega)
    have hsp := fun W => split_any (B s) W (by rw [hss]; omega)
    rw [data_B] at hsp
    have hcl : (spl s).length ≤ 161 := by
      have := List.count_le_length (a := (47 : UInt8)) (l := s)
      rw [spl_len]; omega
    have HSl := hide (spl_le s)
    obtain ⟨L, hL⟩ : ∃ L, (spl s).length = L := ⟨_, rfl⟩
    rw [hL] at hsp hcl
    have HL := hide hL
    clear hL
    obtain ⟨T, hT⟩ : ∃ T, (joinF f s).1 = T := ⟨_, rfl⟩
    obtain ⟨e, he⟩ : ∃ e, (joinF f s).2 = e := ⟨_, rfl⟩
    rw [hT, he] at CJ
    have HJ : Hid (joinF f s = (T, e)) := by rw [Hid, ← hT, ← he]
    have HTB : Hid (∀ T', T = T' → B T = B T') := by intro T' h; rw [h]
    clear hT he
    by_cases hf : f = []
    · have hB : B f = ⟨#[]⟩ := by rw [hf]; rfl
      have h3 : (B s).size ≤ 160 := by rw [hss]; exact hsl
      have hef : errF f = 0 := by simp [errF, hf]
      have how : ownF f = [] := by simp [ownF, hf]
      obtain ⟨acc, hacc⟩ : ∃ acc : List (List UInt8), [] = acc := ⟨_, rfl⟩
      have HOL : Hid (acc.length = 0) := by rw [Hid, ← hacc]; rfl
      have HWN : Hid (walkF 0 acc (spl s) = none → joinF f s = ([], 1)) := by intro h; exact joinF_out (unhide H160) hef (by rw [how, hacc, unhide HOL]; exact h)
      have HWS : Hid (∀ ps, walkF 0 acc (spl s) = some ps → (errN (jn ps) = 0 → joinF f s = (jn ps, 0)) ∧ (errN (jn ps) ≠ 0 → joinF f s = ([], errN (jn ps)))) := by intro ps h; exact joinF_in (unhide H160) hef (by rw [how, hacc, unhide HOL]; exact h)
      have HWT : Hid (∀ ps, walkF 0 acc (spl s) = some ps → tot ps ≤ 400) := by intro ps h; exact (unhide HTOT) acc ps (by rw [← hacc]; simp [tot]) (by rw [unhide HOL]; exact h)
      have HNIL : Hid (∀ W, SRow W w.heap.size (.slice none 0 0) acc) := by intro W; rw [← hacc]; exact SRow.nil _ _
      rw [hB] at CJ ⊢
      clear hacc hf hB hsf hss h160 h1 h2 hef how HTOT hfs
      generalize B s = u at *
      go_enter Tryd.func4, Tryd.ntmps4
      go_wp2_with fail
      refine (unhide CJ).mono ?_
      rintro _ w1 ⟨rfl, hb1⟩
      have hzz1 := hb1.size
      have HB1 := hide hb1
      clear hb1
      go_wp2_with fail
      refine (named_any _).mono ?_
      rintro _ w2 ⟨rfl, hb2⟩
      have hzz2 := hb2.size
      have HB2 := hide ((unhide HB1).trans (hb2.mono hzz1))
      clear hb2
      have HBW := HB2
      have HR0 := hide ((unhide HNIL) w2)
      go_wp2_with fail
      refine (hsp _).mono ?_
      rintro _ wS ⟨rfl, hw⟩
      clear hsp
      obtain ⟨g, hg⟩ : ∃ g, w2.heap.size = g := ⟨_, rfl⟩
      have hbg : w.heap.size ≤ g := by have := (unhide HBW).size; omega
      have HST : Hid (Below w.heap.size w wS ∧ wS.heap[g]? = some (.cells (strV (spl s)).toArray 9 (0, 0)) ∧ g < wS.heap.size) := by
        rw [hw]
        exact ⟨(unhide HBW).alloc (by omega) _, by rw [← hg]; exact heap_alloc_new w2 _, by simp; omega⟩
      have HS0 : Hid (SRow wS w.heap.size (.slice none 0 0) acc) := by
        rw [hw]
        exact (unhide HR0).below (below_new w2 (.cells (strV (spl s)).toArray 9))
      rw [hg]
      clear hg hw
      go_wp2
      go_loopw [7, 12, 63] (fun v0 _ i wr => ∃ (k n : Nat) (acc' : List (List UInt8)) (a : Option Addr) (c : Nat), k ≤ L ∧ i = .int .i64 k ∧ v0 = .slice a n c ∧ 0 ≤ n ∧ n ≤ 41 + k ∧ Hid (acc'.length = n) ∧ Hid (SRow wr w.heap.size (.slice a n c) acc') ∧ Hid (Below w.heap.size w wr) ∧ Hid (wr.heap[g]? = some (.cells (strV (spl s)).toArray 9 (0, 0))) ∧ g < wr.heap.size ∧ Hid (walkF 0 acc' ((spl s).drop k) = walkF 0 acc (spl s))) (fun _ _ i _ => L - (intOf i).toNat)
      case atStart => exact ⟨0, 0, acc, none, 0, Nat.zero_le _, rfl, rfl, Nat.le_refl _, by omega, unhide HOL, unhide HS0, (unhide HST).1, (unhide HST).2.1, (unhide HST).2.2, rfl⟩
      case round =>
        obtain ⟨k, n, ac, a, c, hk, rfl, rfl, hn1, hn2, HA, HR, HB, HC, hgs, HF⟩ := hrel
        have hwz := (unhide HB).size
        by_cases hlt : k < L
        · have hlt' : k < (spl s).length := by rw [unhide HL]; exact hlt
          have hcell : wr.cell? ⟨g, k, none⟩ = some (.string (B ((spl s)[k]'hlt'))) := by
            rw [Lib.cell_of_heap (unhide HC)]
            simp [strV, hlt']
          have HD : Hid ((spl s).drop k = (spl s)[k]'hlt' :: (spl s).drop (k + 1)) := List.drop_eq_getElem_cons hlt'
          have hql := (unhide HSl) _ (List.getElem_mem hlt')
          generalize (spl s)[k]'hlt' = q at *
          by_cases hq0 : q = [] ∨ q = [46]
          · have HF2 : Hid (walkF 0 ac ((spl s).drop (k + 1)) = walkF 0 acc (spl s)) := by
              have := unhide HF
              rw [unhide HD, walkF_skip hq0] at this
              exact this
            clear HF HD
            rcases hq0 with rfl | rfl
            · have hcell2 : wr.cell? ⟨g, k, none⟩ = some (.string ⟨#[]⟩) := hcell
              clear hcell
              go_wp2
              go_roundw
              case rel => exact ⟨k + 1, n, ac, a, c, by omega, by go_num, rfl, hn1, by omega, HA, HR, HB, HC, hgs, HF2⟩
              case measure => simp [intOf]; omega
            · have hcell2 : wr.cell? ⟨g, k, none⟩ = some (.string ⟨#[46]⟩) := hcell
              clear hcell
              go_wp2
              go_roundw
              case rel => exact ⟨k + 1, n, ac, a, c, by omega, by go_num, rfl, hn1, by omega, HA, HR, HB, HC, hgs, HF2⟩
              case measure => simp [intOf]; omega
          · by_cases hq2 : q = [46, 46]
            · subst hq2
              have hcell2 : wr.cell? ⟨g, k, none⟩ = some (.string ⟨#[46, 46]⟩) := hcell
              clear hcell hq0 hql
              by_cases hno : n ≤ 0
              · have hx : walkF 0 acc (spl s) = none := by
                  have := unhide HF
                  rw [unhide HD, walkF_stop (by rw [unhide HA]; exact hno)] at this
                  exact this.symm
                have hj : joinF f s = ([], 1) := (unhide HWN) hx
                have hj2 := (unhide HJ).symm.trans hj
                injection hj2 with j1 j2
                subst j1
                subst j2
                have eB : B [] = ⟨#[]⟩ := rfl
                rw [eB]
                have hno' : n = 0 := by omega
                subst hno'
                clear hx hj hno eB
                go_wp2
                go_ret
                exact ⟨rfl, unhide HB⟩
              · have HF2 : Hid (walkF 0 ac.dropLast ((spl s).drop (k + 1)) = walkF 0 acc (spl s)) := by
                  have := unhide HF
                  rw [unhide HD, walkF_up (by rw [unhide HA]; omega)] at this
                  exact this
                obtain ⟨g0, hcap, rfl⟩ : ∃ g0, n ≤ c ∧ a = some ⟨g0, 0, none⟩ := by
                  rcases (unhide HR).cases with ⟨e, e2⟩ | ⟨g0, cap, e, _, _, e3, _⟩
                  · injection e with e1 e2 e3
                    omega
                  · injection e with f1 f2 f3
                    subst f1; subst f3
                    exact ⟨g0, by rw [← unhide HA]; exact e3, rfl⟩
                have HR2 : Hid (SRow wr w.heap.size (.slice (some ⟨g0, 0, none⟩) (n - 1) c) ac.dropLast) := by
                  have h1 := unhide HR
                  rw [← unhide HA] at h1
                  have := h1.cut
                  rw [unhide HA] at this
                  exact this
                have HA2 : Hid (ac.dropLast.length = n - 1) := by rw [Hid, List.length_dropLast, unhide HA]
                have h1n : 1 ≤ n := by omega
                have hnm : ((n : Int) - 1).toNat = n - 1 := by omega
                clear HF HD HA HR
                go_wp2
                go_roundw
                case rel => exact ⟨k + 1, n - 1, ac.dropLast, _, c, by omega, by go_num, rfl, by omega, by omega, HA2, HR2, HB, HC, hgs, HF2⟩
                case measure => simp [intOf]; omega
            · have hq0' : q ≠ [] := fun e => hq0 (.inl e)
              have hq1' : q ≠ [46] := fun e => hq0 (.inr e)
              have HF2 : Hid (walkF 0 (ac ++ [q]) ((spl s).drop (k + 1)) = walkF 0 acc (spl s)) := by
                have := unhide HF
                rw [unhide HD, walkF_on hq0' hq1' hq2] at this
                exact this
              have e0 := str_none (B q) hq0'
              have e1 := str_ne (B q) [46] hq1'
              have e2 := str_ne (B q) [46, 46] hq2
              have HV : Hid (strV ac ++ [Value.string (B q)] = strV (ac ++ [q])) := by simp [Hid, strV]
              have HA2 : Hid ((ac ++ [q]).length = n + 1) := by simp [Hid, unhide HA]
              have hal : ac.length ≤ 1000 := by rw [unhide HA]; omega
              have HCL := hide (fun W (h : SRow W w.heap.size (.slice a n c) ac) => cloneS h hal)
              generalize B q = qb at *
              clear HF HD hq0 hq2 hq0' hq1' hql hal
              go_wp2_with fail
              refine ((unhide HCL) wr (unhide HR)).mono ?_
              rintro _ w5 ⟨v5, rfl, hr5, hb5⟩
              have hz5 := hb5.size
              obtain ⟨a5, c5, rfl⟩ := hr5.slice
              rw [unhide HA] at hr5 ⊢
              have HO : Hid (w5.ownsRow wr.heap.size 9 1 (.slice a5 n c5) n (strV ac)) := by
                unfold SRow at hr5
                rw [unhide HA] at hr5
                exact hr5
              have HB5 := hide ((unhide HB).trans (hb5.mono hwz))
              have HC5 : Hid (w5.heap[g]? = some (.cells (strV (spl s)).toArray 9 (0, 0))) := (hb5.block g hgs).trans (unhide HC)
              clear hr5 hb5 HA HR HCL
              go_wp2_with (at_builtin; refine wpList_append_own_at _ rfl _ _ 22 rfl wr.heap.size 9 i0 (.string ByteArray.empty) 1 16 Tryd.underlying22 hi hz0 hz1 hz2 rfl (by decide) _ n (strV ac) rfl ((unhide HO).alloc _) ⟨w5.heap.size, 0, none⟩ 1 1 [.string qb] rfl rfl (cell_one_new _ _ _) (one_cell1 rfl) (by unfold maxLen; omega) (by omega) (by simp; omega) ?_; intro v' w6 hown' hgrow hnil hat; have HO2 := hide hown'; have HG2 := hide hgrow; clear hown' hgrow hnil hat)
              obtain ⟨a', c', rfl⟩ : ∃ a' c', v' = .slice a' (n + 1) c' := by
                rcases (unhide HO2).2 with ⟨_, h0⟩ | ⟨g', cap', cur', hv, _⟩
                · omega
                · exact ⟨_, _, hv⟩
              go_wp2
              go_roundw
              case rel =>
                have hG2 := unhide HG2
                have hblk : ∀ j, (Value.slice a5 n c5).ownBlock = some j → wr.heap.size ≤ j := fun j hj => ((unhide HO).lt j hj).1
                refine ⟨k + 1, n + 1, ac ++ [q], a', c', by omega, by go_num, rfl, by omega, by omega, HA2, ?_, ?_, ?_, ?_, HF2⟩
                · have h1 := unhide HO2
                  rw [unhide HV] at h1
                  show World.ownsRow _ _ _ _ _ _ _
                  rw [unhide HA2]
                  exact (SRow.mono (b := wr.heap.size) (c := w.heap.size) (v := .slice a' (n + 1) c') (ps := ac ++ [q]) (by unfold SRow; rw [unhide HA2]; exact h1) hwz) |> fun h => by unfold SRow at h; rw [unhide HA2] at h; exact h
                · refine ((unhide HB5).alloc (by omega) _).grown hG2 (by simp; omega) ?_
                  intro j hj
                  have := hblk j hj
                  omega
                · have h1 : (w5.alloc (.cells #[.string qb] 9)).heap[g]? = some (.cells (strV (spl s)).toArray 9 (0, 0)) := by rw [alloc_old _ (by omega)]; exact unhide HC5
                  refine (hG2.block g (by simp; omega) ?_).trans h1
                  intro e
                  have := hblk g e.symm
                  omega
                · have := hG2.size
                  simp at this
                  omega
              case measure => simp [intOf]; omega
        · obtain rfl : k = L := by omega
          have hd : walkF 0 acc (spl s) = some ac := by
            have := unhide HF
            rw [List.drop_eq_nil_of_le (by rw [unhide HL]; exact Nat.le_refl _)] at this
            exact this.symm
          have ht := (unhide HWT) ac hd
          have hl1 := Nat.le_trans (tot_len ac) ht
          have hl2 := Nat.le_trans (tot_jn ac) ht
          obtain ⟨hj1, hj2⟩ := (unhide HWS) ac hd
          have CS := hide (joinS (unhide HR) (by omega) (by omega))
          have CR := hide (fun W => parted_any (jn ac) W (by unfold maxLen; omega))
          clear hd ht hl1 hl2 HF
          by_cases hen : errN (jn ac) = 0
          · have hj := (unhide HJ).symm.trans (hj1 hen)
            injection hj with j1 j2
            subst j1
            subst j2
            have hsame := str_same2 (B (jn ac))
            rw [hen] at CR
            clear hj1 hj2 hen
            generalize B (jn ac) = jb at *
            go_wp2_with fail
            refine (unhide CS).mono ?_
            rintro _ w5 ⟨rfl, hb5⟩
            have hz5 := hb5.size
            have HB5 := hide ((unhide HB).trans (hb5.mono hwz))
            clear hb5
            go_wp2_with fail
            refine ((unhide CR) _).mono ?_
            rintro _ w6 ⟨v6, rfl, hr6, hb6, hx⟩
            have HB6 := hide ((unhide HB5).trans (hb6.mono (by omega)))
            clear hr6 hb6 hx
            go_wp2
            go_ret
            exact ⟨rfl, unhide HB6⟩
          · obtain ⟨m, hm⟩ : ∃ m, errN (jn ac) = m := ⟨_, rfl⟩
            have hj := (unhide HJ).symm.trans (hj2 hen)
            rw [hm] at hj CR hen
            injection hj with j1 j2
            subst j1
            subst j2
            have eB : B [] = ⟨#[]⟩ := rfl
            rw [eB]
            clear hj1 hj2 hm eB
            generalize B (jn ac) = jb at *
            go_wp2_with fail
            refine (unhide CS).mono ?_
            rintro _ w5 ⟨rfl, hb5⟩
            have hz5 := hb5.size
            have HB5 := hide ((unhide HB).trans (hb5.mono hwz))
            clear hb5
            go_wp2_with fail
            refine ((unhide CR) _).mono ?_
            rintro _ w6 ⟨v6, rfl, hr6, hb6, hx⟩
            have HB6 := hide ((unhide HB5).trans (hb6.mono (by omega)))
            clear hr6 hb6 hx
            go_wp2
            go_ret
            exact ⟨rfl, unhide HB6⟩
    · have hef : errF f = errN f := by simp [errF, hf]
      have how : ownF f = spl f := by simp [ownF, hf]
      have hne := str_none (B f) hf
      have CP := hide (fun W => parted_any f W (by unfold maxLen; omega))
      by_cases hen : errN f = 0
      · rw [hen] at hef
        have hfl := (errN_ok hen).1
        have h41 := spl_le41 hfl
        have hts := tot_spl f
        rw [hen, prow_ok hen] at CP
        obtain ⟨acc, hacc⟩ : ∃ acc : List (List UInt8), spl f = acc := ⟨_, rfl⟩
        rw [hacc] at CP h41 hts how
        obtain ⟨own, hown⟩ : ∃ own, acc.length = own := ⟨_, rfl⟩
        have HOL := hide hown
        rw [hown] at h41
        have HWN : Hid (walkF own acc (spl s) = none → joinF f s = ([], 1)) := by intro h; exact joinF_out (unhide H160) hef (by rw [how, hown]; exact h)
        have HWS : Hid (∀ ps, walkF own acc (spl s) = some ps → (errN (jn ps) = 0 → joinF f s = (jn ps, 0)) ∧ (errN (jn ps) ≠ 0 → joinF f s = ([], errN (jn ps)))) := by intro ps h; exact joinF_in (unhide H160) hef (by rw [how, hown]; exact h)
        have HWT : Hid (∀ ps, walkF own acc (spl s) = some ps → tot ps ≤ 400) := by intro ps h; exact (unhide HTOT) acc ps (by omega) (by rw [hown]; exact h)
        clear hacc hown hf hsf hss h160 hef how HTOT hen hfl hts hfs
        generalize B s = u at *
        generalize B f = t at *
        go_enter Tryd.func4, Tryd.ntmps4
        go_wp2_with fail
        refine (unhide CJ).mono ?_
        rintro _ w1 ⟨rfl, hb1⟩
        have hzz1 := hb1.size
        have HB1 := hide hb1
        clear hb1
        go_wp2_with fail
        refine (named_any _).mono ?_
        rintro _ w2 ⟨rfl, hb2⟩
        have hzz2 := hb2.size
        have HB2 := hide ((unhide HB1).trans (hb2.mono hzz1))
        clear hb2
        go_wp2_with fail
        refine ((unhide CP) _).mono ?_
        rintro _ w3 ⟨v3, rfl, hr3, hb3, hx⟩
        clear hx
        have hzz3 := hb3.size
        have HBW := hide ((unhide HB2).trans (hb3.mono (by omega)))
        have hr4 := hr3.mono (show w.heap.size ≤ w2.heap.size by omega)
        obtain ⟨a0, c0, rfl⟩ := hr4.slice
        rw [unhide HOL] at hr4 ⊢
        have HR0 := hide hr4
        clear hr3 hr4 hb3
        go_wp2_with fail
        refine (hsp _).mono ?_
        rintro _ wS ⟨rfl, hw⟩
        clear hsp
        obtain ⟨g, hg⟩ : ∃ g, w3.heap.size = g := ⟨_, rfl⟩
        have hbg : w.heap.size ≤ g := by have := (unhide HBW).size; omega
        have HST : Hid (Below w.heap.size w wS ∧ wS.heap[g]? = some (.cells (strV (spl s)).toArray 9 (0, 0)) ∧ g < wS.heap.size) := by
          rw [hw]
          exact ⟨(unhide HBW).alloc (by omega) _, by rw [← hg]; exact heap_alloc_new w3 _, by simp; omega⟩
        have HS0 : Hid (SRow wS w.heap.size (.slice a0 own c0) acc) := by
          rw [hw]
          exact (unhide HR0).below (below_new w3 (.cells (strV (spl s)).toArray 9))
        rw [hg]
        clear hg hw
        go_wp2
        go_loopw [7, 12, 63] (fun v0 _ i wr => ∃ (k n : Nat) (acc' : List (List UInt8)) (a : Option Addr) (c : Nat), k ≤ L ∧ i = .int .i64 k ∧ v0 = .slice a n c ∧ own ≤ n ∧ n ≤ 41 + k ∧ Hid (acc'.length = n) ∧ Hid (SRow wr w.heap.size (.slice a n c) acc') ∧ Hid (Below w.heap.size w wr) ∧ Hid (wr.heap[g]? = some (.cells (strV (spl s)).toArray 9 (0, 0))) ∧ g < wr.heap.size ∧ Hid (walkF own acc' ((spl s).drop k) = walkF own acc (spl s))) (fun _ _ i _ => L - (intOf i).toNat)
        case atStart => exact ⟨0, own, acc, a0, c0, Nat.zero_le _, rfl, rfl, Nat.le_refl _, by omega, unhide HOL, unhide HS0, (unhide HST).1, (unhide HST).2.1, (unhide HST).2.2, rfl⟩
        case round =>
          obtain ⟨k, n, ac, a, c, hk, rfl, rfl, hn1, hn2, HA, HR, HB, HC, hgs, HF⟩ := hrel
          have hwz := (unhide HB).size
          by_cases hlt : k < L
          · have hlt' : k < (spl s).length := by rw [unhide HL]; exact hlt
            have hcell : wr.cell? ⟨g, k, none⟩ = some (.string (B ((spl s)[k]'hlt'))) := by
              rw [Lib.cell_of_heap (unhide HC)]
              simp [strV, hlt']
            have HD : Hid ((spl s).drop k = (spl s)[k]'hlt' :: (spl s).drop (k + 1)) := List.drop_eq_getElem_cons hlt'
            have hql := (unhide HSl) _ (List.getElem_mem hlt')
            generalize (spl s)[k]'hlt' = q at *
            by_cases hq0 : q = [] ∨ q = [46]
            · have HF2 : Hid (walkF own ac ((spl s).drop (k + 1)) = walkF own acc (spl s)) := by
                have := unhide HF
                rw [unhide HD, walkF_skip hq0] at this
                exact this
              clear HF HD
              rcases hq0 with rfl | rfl
              · have hcell2 : wr.cell? ⟨g, k, none⟩ = some (.string ⟨#[]⟩) := hcell
                clear hcell
                go_wp2
                go_roundw
                case rel => exact ⟨k + 1, n, ac, a, c, by omega, by go_num, rfl, hn1, by omega, HA, HR, HB, HC, hgs, HF2⟩
                case measure => simp [intOf]; omega
              · have hcell2 : wr.cell? ⟨g, k, none⟩ = some (.string ⟨#[46]⟩) := hcell
                clear hcell
                go_wp2
                go_roundw
                case rel => exact ⟨k + 1, n, ac, a, c, by omega, by go_num, rfl, hn1, by omega, HA, HR, HB, HC, hgs, HF2⟩
                case measure => simp [intOf]; omega
            · by_cases hq2 : q = [46, 46]
              · subst hq2
                have hcell2 : wr.cell? ⟨g, k, none⟩ = some (.string ⟨#[46, 46]⟩) := hcell
                clear hcell hq0 hql
                by_cases hno : n ≤ own
                · have hx : walkF own acc (spl s) = none := by
                    have := unhide HF
                    rw [unhide HD, walkF_stop (by rw [unhide HA]; exact hno)] at this
                    exact this.symm
                  have hj : joinF f s = ([], 1) := (unhide HWN) hx
                  have hj2 := (unhide HJ).symm.trans hj
                  injection hj2 with j1 j2
                  subst j1
                  subst j2
                  have eB : B [] = ⟨#[]⟩ := rfl
                  rw [eB]
                  have hno' : n = own := by omega
                  subst hno'
                  clear hx hj hno eB
                  go_wp2
                  go_ret
                  exact ⟨rfl, unhide HB⟩
                · have HF2 : Hid (walkF own ac.dropLast ((spl s).drop (k + 1)) = walkF own acc (spl s)) := by
                    have := unhide HF
                    rw [unhide HD, walkF_up (by rw [unhide HA]; omega)] at this
                    exact this
                  obtain ⟨g0, hcap, rfl⟩ : ∃ g0, n ≤ c ∧ a = some ⟨g0, 0, none⟩ := by
                    rcases (unhide HR).cases with ⟨e, e2⟩ | ⟨g0, cap, e, _, _, e3, _⟩
                    · injection e with e1 e2 e3
                      omega
                    · injection e with f1 f2 f3
                      subst f1; subst f3
                      exact ⟨g0, by rw [← unhide HA]; exact e3, rfl⟩
                  have HR2 : Hid (SRow wr w.heap.size (.slice (some ⟨g0, 0, none⟩) (n - 1) c) ac.dropLast) := by
                    have h1 := unhide HR
                    rw [← unhide HA] at h1
                    have := h1.cut
                    rw [unhide HA] at this
                    exact this
                  have HA2 : Hid (ac.dropLast.length = n - 1) := by rw [Hid, List.length_dropLast, unhide HA]
                  have h1n : 1 ≤ n := by omega
                  have hnm : ((n : Int) - 1).toNat = n - 1 := by omega
                  clear HF HD HA HR
                  go_wp2
                  go_roundw
                  case rel => exact ⟨k + 1, n - 1, ac.dropLast, _, c, by omega, by go_num, rfl, by omega, by omega, HA2, HR2, HB, HC, hgs, HF2⟩
                  case measure => simp [intOf]; omega
              · have hq0' : q ≠ [] := fun e => hq0 (.inl e)
                have hq1' : q ≠ [46] := fun e => hq0 (.inr e)
                have HF2 : Hid (walkF own (ac ++ [q]) ((spl s).drop (k + 1)) = walkF own acc (spl s)) := by
                  have := unhide HF
                  rw [unhide HD, walkF_on hq0' hq1' hq2] at this
                  exact this
                have e0 := str_none (B q) hq0'
                have e1 := str_ne (B q) [46] hq1'
                have e2 := str_ne (B q) [46, 46] hq2
                have HV : Hid (strV ac ++ [Value.string (B q)] = strV (ac ++ [q])) := by simp [Hid, strV]
                have HA2 : Hid ((ac ++ [q]).length = n + 1) := by simp [Hid, unhide HA]
                have hal : ac.length ≤ 1000 := by rw [unhide HA]; omega
                have HCL := hide (fun W (h : SRow W w.heap.size (.slice a n c) ac) => cloneS h hal)
                generalize B q = qb at *
                clear HF HD hq0 hq2 hq0' hq1' hql hal
                go_wp2_with fail
                refine ((unhide HCL) wr (unhide HR)).mono ?_
                rintro _ w5 ⟨v5, rfl, hr5, hb5⟩
                have hz5 := hb5.size
                obtain ⟨a5, c5, rfl⟩ := hr5.slice
                rw [unhide HA] at hr5 ⊢
                have HO : Hid (w5.ownsRow wr.heap.size 9 1 (.slice a5 n c5) n (strV ac)) := by
                  unfold SRow at hr5
                  rw [unhide HA] at hr5
                  exact hr5
                have HB5 := hide ((unhide HB).trans (hb5.mono hwz))
                have HC5 : Hid (w5.heap[g]? = some (.cells (strV (spl s)).toArray 9 (0, 0))) := (hb5.block g hgs).trans (unhide HC)
                clear hr5 hb5 HA HR HCL
                go_wp2_with (at_builtin; refine wpList_append_own_at _ rfl _ _ 22 rfl wr.heap.size 9 i0 (.string ByteArray.empty) 1 16 Tryd.underlying22 hi hz0 hz1 hz2 rfl (by decide) _ n (strV ac) rfl ((unhide HO).alloc _) ⟨w5.heap.size, 0, none⟩ 1 1 [.string qb] rfl rfl (cell_one_new _ _ _) (one_cell1 rfl) (by unfold maxLen; omega) (by omega) (by simp; omega) ?_; intro v' w6 hown' hgrow hnil hat; have HO2 := hide hown'; have HG2 := hide hgrow; clear hown' hgrow hnil hat)
                obtain ⟨a', c', rfl⟩ : ∃ a' c', v' = .slice a' (n + 1) c' := by
                  rcases (unhide HO2).2 with ⟨_, h0⟩ | ⟨g', cap', cur', hv, _⟩
                  · omega
                  · exact ⟨_, _, hv⟩
                go_wp2
                go_roundw
                case rel =>
                  have hG2 := unhide HG2
                  have hblk : ∀ j, (Value.slice a5 n c5).ownBlock = some j → wr.heap.size ≤ j := fun j hj => ((unhide HO).lt j hj).1
                  refine ⟨k + 1, n + 1, ac ++ [q], a', c', by omega, by go_num, rfl, by omega, by omega, HA2, ?_, ?_, ?_, ?_, HF2⟩
                  · have h1 := unhide HO2
                    rw [unhide HV] at h1
                    show World.ownsRow _ _ _ _ _ _ _
                    rw [unhide HA2]
                    exact (SRow.mono (b := wr.heap.size) (c := w.heap.size) (v := .slice a' (n + 1) c') (ps := ac ++ [q]) (by unfold SRow; rw [unhide HA2]; exact h1) hwz) |> fun h => by unfold SRow at h; rw [unhide HA2] at h; exact h
                  · refine ((unhide HB5).alloc (by omega) _).grown hG2 (by simp; omega) ?_
                    intro j hj
                    have := hblk j hj
                    omega
                  · have h1 : (w5.alloc (.cells #[.string qb] 9)).heap[g]? = some (.cells (strV (spl s)).toArray 9 (0, 0)) := by rw [alloc_old _ (by omega)]; exact unhide HC5
                    refine (hG2.block g (by simp; omega) ?_).trans h1
                    intro e
                    have := hblk g e.symm
                    omega
                  · have := hG2.size
                    simp at this
                    omega
                case measure => simp [intOf]; omega
          · obtain rfl : k = L := by omega
            have hd : walkF own acc (spl s) = some ac := by
              have := unhide HF
              rw [List.drop_eq_nil_of_le (by rw [unhide HL]; exact Nat.le_refl _)] at this
              exact this.symm
            have ht := (unhide HWT) ac hd
            have hl1 := Nat.le_trans (tot_len ac) ht
            have hl2 := Nat.le_trans (tot_jn ac) ht
            obtain ⟨hj1, hj2⟩ := (unhide HWS) ac hd
            have CS := hide (joinS (unhide HR) (by omega) (by omega))
            have CR := hide (fun W => parted_any (jn ac) W (by unfold maxLen; omega))
            clear hd ht hl1 hl2 HF
            by_cases hen : errN (jn ac) = 0
            · have hj := (unhide HJ).symm.trans (hj1 hen)
              injection hj with j1 j2
              subst j1
              subst j2
              have hsame := str_same2 (B (jn ac))
              rw [hen] at CR
              clear hj1 hj2 hen
              generalize B (jn ac) = jb at *
              go_wp2_with fail
              refine (unhide CS).mono ?_
              rintro _ w5 ⟨rfl, hb5⟩
              have hz5 := hb5.size
              have HB5 := hide ((unhide HB).trans (hb5.mono hwz))
              clear hb5
              go_wp2_with fail
              refine ((unhide CR) _).mono ?_
              rintro _ w6 ⟨v6, rfl, hr6, hb6, hx⟩
              have HB6 := hide ((unhide HB5).trans (hb6.mono (by omega)))
              clear hr6 hb6 hx
              go_wp2
              go_ret
              exact ⟨rfl, unhide HB6⟩
            · obtain ⟨m, hm⟩ : ∃ m, errN (jn ac) = m := ⟨_, rfl⟩
              have hj := (unhide HJ).symm.trans (hj2 hen)
              rw [hm] at hj CR hen
              injection hj with j1 j2
              subst j1
              subst j2
              have eB : B [] = ⟨#[]⟩ := rfl
              rw [eB]
              clear hj1 hj2 hm eB
              generalize B (jn ac) = jb at *
              go_wp2_with fail
              refine (unhide CS).mono ?_
              rintro _ w5 ⟨rfl, hb5⟩
              have hz5 := hb5.size
              have HB5 := hide ((unhide HB).trans (hb5.mono hwz))
              clear hb5
              go_wp2_with fail
              refine ((unhide CR) _).mono ?_
              rintro _ w6 ⟨v6, rfl, hr6, hb6, hx⟩
              have HB6 := hide ((unhide HB5).trans (hb6.mono (by omega)))
              clear hr6 hb6 hx
              go_wp2
              go_ret
              exact ⟨rfl, unhide HB6⟩
      · obtain ⟨m, hm⟩ : ∃ m, errN f = m := ⟨_, rfl⟩
        have hj := (unhide HJ).symm.trans (joinF_fold (unhide H160) (by rw [hef]; exact hen))
        rw [hef, hm] at hj
        rw [hm] at CP hen
        injection hj with j1 j2
        subst j1
        subst j2
        have eB : B [] = ⟨#[]⟩ := rfl
        rw [eB] at CJ
        have hnn : ((e : Int) == (e : Int)) = true := by simp
        clear hm hf hsf hss h160 hef how HTOT hfs hsp eB
        generalize B s = u at *
        generalize B f = t at *
        go_enter Tryd.func4, Tryd.ntmps4
        go_wp2_with fail
        refine (unhide CJ).mono ?_
        rintro _ w1 ⟨rfl, hb1⟩
        have hzz1 := hb1.size
        have HB1 := hide hb1
        clear hb1
        go_wp2_with fail
        refine (named_any _).mono ?_
        rintro _ w2 ⟨rfl, hb2⟩
        have hzz2 := hb2.size
        have HB2 := hide ((unhide HB1).trans (hb2.mono hzz1))
        clear hb2
        go_wp2_with fail
        refine ((unhide CP) _).mono ?_
        rintro _ w3 ⟨v3, rfl, hr3, hb3, hx⟩
        have HB3 := hide ((unhide HB2).trans (hb3.mono (by omega)))
        clear hx hr3 hb3
        go_wp2
        go_ret
        exact ⟨rfl, unhide HB3⟩
end Go.Proofs.YtblagchhjobefaeDoor
