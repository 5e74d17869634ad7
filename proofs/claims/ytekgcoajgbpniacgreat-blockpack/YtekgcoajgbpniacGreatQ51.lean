/-
  The law BlockPack: parts that can be packed.
-/
import Derived.Test.YtekgcoajgbpniacGreatQ50
namespace Go.Proofs.YtekgcoajgbpniacGreat
open Go.RowKit
set_option linter.unusedVariables false
set_option maxRecDepth 100000

theorem kinds_back {ks : List Int} (h : ∀ x ∈ ks, x = 0 ∨ x = 1 ∨ x = 2) : (ks.map Int.toNat).map (fun n => ((n : Nat) : Int)) = ks := by
  rw [List.map_map]
  conv => rhs; rw [← List.map_id ks]
  apply List.map_congr_left
  intro x hx
  rcases h x hx with e | e | e <;> subst e <;> rfl
theorem pad_len {S : List Bool} {n : Nat} (h : 8 * n = (padB S).length) : n = (S.length + 7) / 8 := by
  unfold padB freeN at h
  rw [List.length_append, List.length_replicate] at h
  omega

theorem pack_facts (bss : List (List Nat)) (ks : List Int) (out : List Nat) (np : Nat) (hp : bss.length = np) (hkl : ks.length = np) (hnp : 0 < np) (hval : ∀ j i, (bss.getD j []).getD i 0 < 256) (hks : ∀ x ∈ ks, x = 0 ∨ x = 1 ∨ x = 2) (hT : (allK bss np).length ≤ 3000) (hrow : rowB out out.length = padB (packF (itemsP bss ks) [])) :
    unpk (rowB out out.length) = ⟨(packF (itemsP bss ks) []).length, allK bss np, ks.map Int.toNat, 0⟩ ∧ out.length = ((packF (itemsP bss ks) []).length + 7) / 8 ∧ (packF (itemsP bss ks) []).length ≤ mostK bss ks np ∧ out.length ≤ (mostK bss ks np + 7) / 8 ∧ mostK bss ks np ≤ 3210 * np + 27000 := by
  have hkb : ks.length = bss.length := by rw [hkl, hp]
  have hlen := itemsP_len bss ks hkb
  have hAll : allK bss np = bss.flatten := by rw [← hp]; exact allK_all bss
  have hflat := items_flat bss ks hkb
  have hmem : ∀ i ∈ itemsP bss ks, i.2 ≤ 2 ∧ (∀ j, i.1.getD j 0 < 256) ∧ i.1.length ≤ 3000 := by
    intro i hi
    unfold itemsP at hi
    obtain ⟨p, hp2, rfl⟩ := List.mem_map.1 hi
    have h1 := (List.of_mem_zip hp2).1
    have h2 := (List.of_mem_zip hp2).2
    obtain ⟨q, hq, e⟩ := List.getElem_of_mem h1
    refine ⟨?_, ?_, ?_⟩
    · show p.2.toNat ≤ 2
      rcases hks p.2 h2 with e | e | e <;> rw [e] <;> decide
    · intro j
      have h4 := hval q j
      have h5 : bss.getD q [] = p.1 := by rw [List.getD, List.getElem?_eq_getElem hq, e]; rfl
      rw [h5] at h4
      exact h4
    · have h3 : p.1.length ≤ bss.flatten.length := mem_flat_len h1
      rw [← hAll] at h3
      show p.1.length ≤ 3000
      omega
  have hne : itemsP bss ks ≠ [] := by
    intro e
    rw [e] at hlen
    simp at hlen
    omega
  have hun := unpk_pack (itemsP bss ks) (List.replicate (freeN (packF (itemsP bss ks) []).length) false) hne (fun i hi => ⟨(hmem i hi).1, (hmem i hi).2.1⟩) (by rw [hflat, ← hAll]; exact hT)
  have hbd := pack_bound (itemsP bss ks) [] (fun i hi => (hmem i hi).2)
  have hm : mostK bss ks np = sumB (itemsP bss ks) := by unfold mostK; rw [List.take_of_length_le (by rw [hlen, hp]; exact Nat.le_refl _)]
  have hpl : out.length = ((packF (itemsP bss ks) []).length + 7) / 8 := pad_len (by rw [← hrow, rowB_length])
  have hle := mostK_le bss ks hkb np (by omega)
  simp only [List.length_nil, Nat.zero_add] at hbd
  rw [← hm] at hbd
  refine ⟨?_, hpl, hbd, by rw [hpl]; omega, by omega⟩
  rw [hrow]
  unfold padB
  rw [hun, hflat, ← hAll, items_kinds bss ks hkb]

set_option maxHeartbeats 4000000 in
theorem blockPack_ok (b o cp b2 o2 np ck : Nat) (A : Nat → Option Addr) (C : Nat → Nat) (bss : List (List Nat)) (ks : List Int) (w : World) (hp : bss.length = np) (hkl : ks.length = np) (hP : PartsIn w b o A C bss) (hb2 : b2 < w.heap.size) (hK : Row .i64 w b2 o2 ks) (hbig : ∀ j, j < np → (bss.getD j []).length ≤ 140737488351232) (hE : errP (bss.map List.length) ks = 0) :
    Calls Tryz.prog 3 #[.slice (some ⟨b, o, none⟩) np cp, .slice (some ⟨b2, o2, none⟩) np ck] w fun e w' => e = .returned (.bool true) ∧ Below w.heap.size w w' := by
  have hPK := hide (pack_ok b o cp b2 o2 np ck A C bss ks w hp hkl hP hb2 hK hE)
  have hc0 : chkP (bss.map List.length) ks 0 0 = 0 ∧ 0 < np := by
    unfold errP at hE
    by_cases c : (bss.map List.length).length = 0 ∨ ks.length ≠ (bss.map List.length).length
    · rw [if_pos c] at hE; cases hE
    · rw [if_neg c] at hE
      exact ⟨hE, by simp at c; rw [← hp]; exact List.length_pos_iff.2 c.1⟩
  obtain ⟨hc0, hnp⟩ := hc0
  have hne : bss.map List.length ≠ [] := by intro e; have := congrArg List.length e; simp at this; rw [this] at hp; simp at hp; omega
  have hnp40 := chkP_len _ _ 0 0 hc0 hne
  rw [Nat.zero_add, List.length_map, hp] at hnp40
  have hks := chkP_all _ ks 0 0 (by rw [List.length_map, hkl, hp]) hc0
  have hkb : ks.length = bss.length := by rw [hkl, hp]
  have HKB := hide hkb
  have HKS := hide hks
  have HP := hide hP
  have HK := hide hK
  have HBIG := hide hbig
  have HLP := hide hp
  have HLK := hide hkl
  have HC0 := hide hc0
  have hbw := hP.lt
  clear hP hK hbig hp hkl hE hc0 hne hks hkb
  have hnp0 : ((np : Int) == 0) = false := by rw [beq_eq_false_iff_ne]; omega
  go_enter Tryz.func3, Tryz.ntmps3
  go_wp2_with fail
  refine (unhide hPK).mono ?_
  rintro e w1 ⟨pv, out, rfl, hO1, hrow, hov, hB1⟩
  have HO1 := hide hO1
  have HROW := hide hrow
  have HOV := hide hov
  have HB1 := hide hB1
  have hz1 := hB1.size
  obtain ⟨av, cv, rfl⟩ := own_slice' hO1
  clear hO1 hrow hov hB1 hPK
  go_wp2
  go_loopw [7, 8, 9, 34] (fun v7 v8 v9 v34 wr => ∃ k : Nat, k ≤ np ∧ v7 = .int .i64 0 ∧ v34 = .int .i64 (k : Int) ∧ v9 = .int .i64 ((mostK bss ks k : Nat) : Int) ∧ Hid (wr.ownsRow w1.heap.size 5 1 v8 (allK bss k).length (u8s (allK bss k))) ∧ Hid (Below w1.heap.size w1 wr) ∧ Hid (chkP ((bss.map List.length).drop k) (ks.drop k) k (allK bss k).length = 0) ∧ Hid ((allK bss k).length ≤ 3000)) (fun _ _ _ v34 _ => np - (intOf v34).toNat)
  case atStart => exact ⟨0, Nat.zero_le _, rfl, rfl, rfl, hide (World.ownsRow_nil _ _ _ _), hide (Below.refl _ _), HC0, hide (Nat.zero_le _)⟩
  case round =>
    obtain ⟨k, hk, rfl, rfl, rfl, hO, hB, hC, hT3⟩ := hrel
    have hmk := mostK_le bss ks (unhide HKB) k (by rw [unhide HLP]; exact hk)
    by_cases hlt : k < np
    · have hkb : k < bss.length := by rw [unhide HLP]; exact hlt
      have hkk : k < ks.length := by rw [unhide HLK]; exact hlt
      obtain ⟨n, hn⟩ : ∃ n, (bss.getD k []).length = n := ⟨_, rfl⟩
      obtain ⟨x, hx⟩ : ∃ x, ks.getD k 0 = x := ⟨_, rfl⟩
      obtain ⟨s1, s2, s3, s4⟩ := chkP_step (ns := bss.map List.length) (ks := ks) (k := k) (t := (allK bss k).length) (n := n) (x := x) (by rw [List.length_map]; exact hkb) hkk (by rw [← hn]; simp [List.getD, hkb]) hx (unhide hC)
      have c1 := ((unhide hB).cell (p := ⟨b, o + k, none⟩) (by show b < _; omega)).trans (((unhide HB1).cell (p := ⟨b, o + k, none⟩) hbw).trans ((unhide HP).cell k hkb))
      have c2 := ((unhide hB).cell (p := ⟨b2, o2 + k, none⟩) (by show b2 < _; omega)).trans (((unhide HB1).cell (p := ⟨b2, o2 + k, none⟩) hb2).trans (unhide HK k hkk))
      rw [hn] at c1
      rw [hx] at c2
      have HBY := hide ((((unhide HP).byt k hkb).below (unhide HB1) (Nat.le_refl _)).below (unhide hB) (Nat.le_refl _))
      have hnil := (unhide HP).nil k hkb
      have HMN := hide (mostK_next bss ks (unhide HKB) hkb)
      have HAN := hide (allK_next bss hkb)
      rw [hx, hn] at HMN
      have HN := hide hn
      have hzr := (unhide hB).size
      generalize mostK bss ks k = M at *
      obtain ⟨t, ht⟩ : ∃ t, (allK bss k).length = t := ⟨_, rfl⟩
      rw [ht] at s1 hO hmk s4
      have S4 := hide s4
      have HT := hide ht
      generalize A k = ak at *
      generalize C k = ck' at *
      obtain ⟨a8, c8, rfl⟩ := own_slice' (unhide hO)
      have hkI : (k : Int) < (np : Int) := by omega
      have h3k : ¬ (3000 : Int) < ((t + n : Nat) : Int) := by omega
      have h40 : ¬ (40 : Int) ≤ (k : Int) := by omega
      clear hn hx ht s4 hC
      go_wp2_with (at_builtin; refine wpList_append_in _ rfl (.tmp 41) (.tmp 42) rfl w1.heap.size _ t (allK bss k) rfl (unhide hO) ak n ck' (bss.getD k []) rfl (unhide HN) (unhide HBY) hnil (by omega) hzr ?_)
      intro v' w3 hO3 hgrow
      replace hO3 := unhide hO3
      replace hgrow := unhide hgrow
      obtain ⟨a9, c9, rfl⟩ := own_slice' hO3
      have HB3 := hide ((unhide hB).grown hgrow (by omega) (fun g e => ((unhide hO).lt g e).1))
      have d2 := hgrow.cell c2 (fun e => by have := ((unhide hO).lt b2 e.symm).1; omega)
      have HO3 : Hid (w3.ownsRow w1.heap.size 5 1 (.slice a9 (t + n) c9) (allK bss (k + 1)).length (u8s (allK bss (k + 1)))) := hide (by rw [unhide HAN, List.length_append, unhide HT, unhide HN]; first | exact hO3 | simpa [u8s, List.getD, hkb] using hO3)
      have HC3 : Hid (chkP ((bss.map List.length).drop (k + 1)) (ks.drop (k + 1)) (k + 1) (allK bss (k + 1)).length = 0) := hide (by rw [unhide HAN, List.length_append, unhide HT, unhide HN]; exact unhide S4)
      have HT3 : Hid ((allK bss (k + 1)).length ≤ 3000) := hide (by rw [unhide HAN, List.length_append, unhide HT, unhide HN]; exact s1)
      clear hO3 hgrow c1 c2
      rcases s3 with e | e | e
      · subst e
        have hM : mostK bss ks (k + 1) = M + (47 + 8 * n) := unhide HMN
        have HM := hide hM
        clear hM
        go_wp2
        go_roundw
        case rel => exact ⟨k + 1, by omega, rfl, by go_num, by rw [unhide HM]; go_num, HO3, HB3, HC3, HT3⟩
        case measure => simp [intOf]; omega
      · subst e
        have hM : mostK bss ks (k + 1) = M + (10 + 9 * n) := unhide HMN
        have HM := hide hM
        clear hM
        go_wp2
        go_roundw
        case rel => exact ⟨k + 1, by omega, rfl, by go_num, by rw [unhide HM]; go_num, HO3, HB3, HC3, HT3⟩
        case measure => simp [intOf]; omega
      · subst e
        have hM : mostK bss ks (k + 1) = M + (3210 + 9 * n) := unhide HMN
        have HM := hide hM
        clear hM
        go_wp2
        go_roundw
        case rel => exact ⟨k + 1, by omega, rfl, by go_num, by rw [unhide HM]; go_num, HO3, HB3, HC3, HT3⟩
        case measure => simp [intOf]; omega
    · obtain rfl : np = k := by omega
      obtain ⟨f1, f2, f3, f4, f5⟩ := pack_facts bss ks out np (unhide HLP) (unhide HLK) hnp (unhide HP).val (unhide HKS) (unhide hT3) (unhide HROW)
      obtain ⟨U, hU⟩ : ∃ U, unpk (rowB out out.length) = U := ⟨_, rfl⟩
      rw [hU] at f1
      have hUe : U.e = 0 := by rw [f1]
      have hUo : U.out = allK bss np := by rw [f1]
      have hUk : U.ks = ks.map Int.toNat := by rw [f1]
      have hUp : U.p = (packF (itemsP bss ks) []).length := by rw [f1]
      rw [← hUp] at f2 f3
      clear f1 hUp
      have HOB := hide (BytesIn.ofOwn (unhide HO1))
      obtain ⟨_, a', c', he', hby'⟩ := unhide HOB
      cases he'
      have HBY := hide ((hby'.below (unhide hB) (Nat.le_refl _)))
      obtain ⟨a8, c8, rfl⟩ := own_slice' (unhide hO)
      obtain ⟨_, a8', c8', he8, hby8⟩ := BytesIn.ofOwn (unhide hO)
      cases he8
      have HBA := hide hby8
      have HAV := hide (allK_val (unhide HP).val np)
      have HKR : Hid (RowIn .i64 wr (some ⟨b2, o2, none⟩) ks) := hide (((RowIn.below (.inr ⟨b2, o2, rfl, hb2, unhide HK⟩) (unhide HB1) (Nat.le_refl _))).below (unhide hB) (Nat.le_refl _))
      have hmI : (out.length : Int) ≤ ((mostK bss ks np : Nat) : Int) := by omega
      have HW := hide ((unhide HB1).trans ((unhide hB).mono hz1))
      have HF4 := hide f4
      have hKB := kinds_back (unhide HKS)
      have HKB2 := hide hKB
      have hlk := unhide HLK
      generalize hAL : allK bss np = AL at *
      generalize mostK bss ks np = MM at *
      obtain ⟨OL, hOL⟩ : ∃ OL, out.length = OL := ⟨_, rfl⟩
      have HOL := hide hOL
      have hol2 : OL ≤ 25000 := by omega
      rw [hOL] at hU f2 f4 hmI ⊢
      have HF2 := hide f2
      have HU := hide hU
      have HUO := hide hUo
      have HUK := hide hUk
      have HALe := hide hAL
      clear hOL f2 hU hUo hUk hAL
      clear HOB hby' hby8 hO hC HO1 hKB
      go_wp2_with fail
      refine (packed_any wr).mono ?_
      rintro e w3 ⟨rfl, hB3⟩
      have HB3 := hide hB3
      have hz3 := hB3.size
      have HW3 := hide ((unhide HW).trans (hB3.mono (unhide HW).size))
      clear hB3
      go_wp2_with fail
      refine (unpacked_ok av OL cv out w3 (unhide HOL) hol2 ((unhide HBY).below (unhide HB3) (Nat.le_refl _)) (unhide HOV) U (unhide HU) hUe (by rw [unhide HUK, List.length_map]; omega)).mono ?_
      rintro e w4 ⟨ov, kv, rfl, hoo, hok, hB4⟩
      rw [unhide HUO] at hoo
      rw [unhide HUK] at hok
      have HB4 := hide hB4
      have hz4 := hB4.size
      have HW4 := hide ((unhide HW3).trans (hB4.mono (unhide HW3).size))
      obtain ⟨_, ao, co, rfl, hbo⟩ := BytesIn.ofOwn hoo
      obtain ⟨gk, gc, rfl, hgk, _⟩ := own_shape hok (by rw [List.length_map]; omega)
      have hrk := RowIn.own hok
      rw [unhide HKB2] at hrk
      have HRK := hide hrk
      have HBO := hide hbo
      rw [← unhide HF2]
      clear hoo hok hbo hrk hB4
      have hlm : (ks.map Int.toNat).length = np := by rw [List.length_map]; exact hlk
      rw [hlm]
      obtain ⟨LL, hLL⟩ : ∃ LL, AL.length = LL := ⟨_, rfl⟩
      have HLL := hide hLL
      rw [hLL]
      have hqI : (OL : Int) ≤ ((MM : Int) + 7) / 8 := by omega
      clear hlm hLL
      go_wp2_with fail
      refine (bequal_in ao a8 LL co LL c8 AL AL w4 (unhide HLL) (unhide HLL) (unhide HAV) (unhide HAV) (unhide HBO) (((unhide HBA).below (unhide HB3) (Nat.le_refl _)).below (unhide HB4) (Nat.le_refl _))).mono ?_
      rintro e w5 ⟨rfl, rfl⟩
      rw [show (AL == AL) = true by simp]
      go_wp2_with fail
      refine (equal_in (some ⟨gk, 0, none⟩) (some ⟨b2, o2, none⟩) np gc np ck ks ks w5 hlk hlk (by omega) (by omega) (unhide HRK) (((unhide HKR).below (unhide HB3) (Nat.le_refl _)).below (unhide HB4) (Nat.le_refl _))).mono ?_
      rintro e w6 ⟨rfl, q, rfl⟩
      rw [show (ks == ks) = true by simp]
      have HW6 := hide (below_drewN (unhide HW4) q)
      go_wp2
      go_ret
      exact ⟨rfl, unhide HW6⟩
end Go.Proofs.YtekgcoajgbpniacGreat

/-
  The law BlockPack: parts that can't be packed. (Written by tools/mk_bp2.py.)
-/
namespace Go.Proofs.YtekgcoajgbpniacGreat
open Go.RowKit
set_option linter.unusedVariables false
set_option maxRecDepth 100000

set_option maxHeartbeats 2000000 in
theorem blockPack_none (ap bk : Option Addr) (cp nk ck : Nat) (ks : List Int) (w : World) (hkl : ks.length = nk) (hK : RowIn .i64 w bk ks) :
    Calls Tryz.prog 3 #[.slice ap 0 cp, .slice bk nk ck] w fun e w' => e = .returned (.bool true) ∧ Below w.heap.size w w' := by
  have hPK := hide (pack_err 0 0 cp bk 0 nk ck (fun _ => none) (fun _ => 0) [] ks w rfl hkl (.inl rfl) hK ap (fun e => absurd rfl e) 4 (hide (by unfold errP; rw [if_pos (.inl rfl)])) (by decide))
  have BW := hide (Below.refl w.heap.size w)
  clear hK hkl
  go_enter Tryz.func3, Tryz.ntmps3
  go_wp2_with fail
  refine (unhide hPK).mono ?_
  rintro e w1 ⟨rfl, rfl⟩
  go_wp2
  go_loop [7, 34] (fun v7 v34 => v7 = .int .i64 4 ∧ v34 = .int .i64 0) (fun _ _ => 0)
  case atStart => exact ⟨rfl, rfl⟩
  case round =>
    obtain ⟨rfl, rfl⟩ := hrel
    go_wp2_with fail
    refine (packed_any w1).mono ?_
    rintro e wX ⟨rfl, hBX⟩
    have WX := hide ((unhide BW).trans (hBX.mono (unhide BW).size))
    clear hBX
    go_wp2_with fail
    refine (packed_any wX).mono ?_
    rintro e wY ⟨rfl, hBY⟩
    have WY := hide ((unhide WX).trans (hBY.mono (unhide WX).size))
    clear hBY
    go_wp2
    go_ret
    exact ⟨rfl, unhide WY⟩

set_option maxHeartbeats 2000000 in
theorem blockPack_form (b o cp np nk ck : Nat) (bk : Option Addr) (A : Nat → Option Addr) (C : Nat → Nat) (bss : List (List Nat)) (ks : List Int) (w : World) (hp : bss.length = np) (hkl : ks.length = nk) (hP : PartsIn w b o A C bss) (hK : RowIn .i64 w bk ks) (hnp : 0 < np) (hne : np ≠ nk) (hmp : np ≤ 9223372036854775807) (hmk : nk ≤ 9223372036854775807) :
    Calls Tryz.prog 3 #[.slice (some ⟨b, o, none⟩) np cp, .slice bk nk ck] w fun e w' => e = .returned (.bool true) ∧ Below w.heap.size w w' := by
  have hPK := hide (pack_err b o cp bk np nk ck A C bss ks w hp hkl (.inr hP) hK (some ⟨b, o, none⟩) (fun _ => rfl) 4 (hide (by unfold errP; rw [if_pos (.inr (by rw [List.length_map, hkl, hp]; exact fun e => hne e.symm))])) (by decide))
  have BW := hide (Below.refl w.heap.size w)
  have c0 := hP.cell 0 (by omega)
  rw [Nat.add_zero] at c0
  generalize A 0 = a0 at c0
  generalize C 0 = cc0 at c0
  generalize (bss.getD 0 []).length = n0 at c0
  have h0 : ((np : Int) == 0) = false := by rw [beq_eq_false_iff_ne]; omega
  have h1 : ((np : Int) != (nk : Int)) = true := by rw [bne_iff_ne]; omega
  have h2 : (0 : Int) < (np : Int) := by omega
  clear hK hkl hP hp
  go_enter Tryz.func3, Tryz.ntmps3
  go_wp2_with fail
  refine (unhide hPK).mono ?_
  rintro e w1 ⟨rfl, rfl⟩
  go_wp2
  go_loop [7, 34] (fun v7 v34 => v7 = .int .i64 4 ∧ v34 = .int .i64 0) (fun _ _ => 0)
  case atStart => exact ⟨rfl, rfl⟩
  case round =>
    obtain ⟨rfl, rfl⟩ := hrel
    go_wp2_with fail
    refine (packed_any w1).mono ?_
    rintro e wX ⟨rfl, hBX⟩
    have WX := hide ((unhide BW).trans (hBX.mono (unhide BW).size))
    clear hBX
    go_wp2_with fail
    refine (packed_any wX).mono ?_
    rintro e wY ⟨rfl, hBY⟩
    have WY := hide ((unhide WX).trans (hBY.mono (unhide WX).size))
    clear hBY
    go_wp2
    go_ret
    exact ⟨rfl, unhide WY⟩

/-- one step of what is wrong -/
theorem chkP_bad {ns : List Nat} {ks : List Int} {k t n : Nat} {x E : Int} (hn : k < ns.length) (hk : k < ks.length) (en : ns.getD k 0 = n) (ex : ks.getD k 0 = x) (h : chkP (ns.drop k) (ks.drop k) k t = E) :
    ((3000 < t + n ∨ 40 ≤ k) ∧ E = 2) ∨ (t + n ≤ 3000 ∧ k < 40 ∧ (x = 0 ∨ x = 1 ∨ x = 2) ∧ chkP (ns.drop (k + 1)) (ks.drop (k + 1)) (k + 1) (t + n) = E) ∨ (t + n ≤ 3000 ∧ k < 40 ∧ ¬ (x = 0 ∨ x = 1 ∨ x = 2) ∧ E = 3) := by
  have hd1 := getD_drop ns 0 hn
  have hd2 := getD_drop ks 0 hk
  rw [en] at hd1
  rw [ex] at hd2
  rw [hd1, hd2, chkP] at h
  split at h
  · rename_i h1
    exact .inl ⟨h1, h.symm⟩
  · rename_i h1
    split at h
    · rename_i h2
      exact .inr (.inl ⟨by omega, by omega, h2, h⟩)
    · rename_i h2
      exact .inr (.inr ⟨by omega, by omega, h2, h.symm⟩)

set_option maxHeartbeats 4000000 in
theorem blockPack_bad (b o cp b2 o2 np ck : Nat) (A : Nat → Option Addr) (C : Nat → Nat) (bss : List (List Nat)) (ks : List Int) (w : World) (hp : bss.length = np) (hkl : ks.length = np) (hP : PartsIn w b o A C bss) (hb2 : b2 < w.heap.size) (hK : Row .i64 w b2 o2 ks) (hbig : ∀ j, j < np → (bss.getD j []).length ≤ 140737488351232) (hnp : 0 < np) (hmp : np ≤ 9223372036854775807) (E : Int) (hE : chkP (bss.map List.length) ks 0 0 = E) (hE0 : E ≠ 0) :
    Calls Tryz.prog 3 #[.slice (some ⟨b, o, none⟩) np cp, .slice (some ⟨b2, o2, none⟩) np ck] w fun e w' => e = .returned (.bool true) ∧ Below w.heap.size w w' := by
  have hPK := hide (pack_err b o cp (some ⟨b2, o2, none⟩) np np ck A C bss ks w hp hkl (.inr hP) (.inr ⟨b2, o2, rfl, hb2, hK⟩) (some ⟨b, o, none⟩) (fun _ => rfl) E (hide (by unfold errP; rw [if_neg (by rw [List.length_map, hkl, hp]; omega)]; exact hE)) hE0)
  have hkb : ks.length = bss.length := by rw [hkl, hp]
  have HKB := hide hkb
  have HP := hide hP
  have HK := hide hK
  have HBIG := hide hbig
  have HLP := hide hp
  have HLK := hide hkl
  have HC0 := hide hE
  have hbw := hP.lt
  have HE0 := hide hE0
  clear hP hK hbig hp hkl hE hkb hE0
  have hnp0 : ((np : Int) == 0) = false := by rw [beq_eq_false_iff_ne]; omega
  have hnp1 : ((np : Int) != (np : Int)) = false := by simp
  go_enter Tryz.func3, Tryz.ntmps3
  go_wp2_with fail
  refine (unhide hPK).mono ?_
  rintro e w1 ⟨rfl, rfl⟩
  go_wp2
  go_loopw [7, 8, 9, 34] (fun v7 v8 v9 v34 wr => ∃ k : Nat, k ≤ np ∧ v34 = .int .i64 (k : Int) ∧ Hid (Below w1.heap.size w1 wr) ∧ ((v7 = .int .i64 0 ∧ v9 = .int .i64 ((mostK bss ks k : Nat) : Int) ∧ Hid (wr.ownsRow w1.heap.size 5 1 v8 (allK bss k).length (u8s (allK bss k))) ∧ Hid (chkP ((bss.map List.length).drop k) (ks.drop k) k (allK bss k).length = E) ∧ Hid ((allK bss k).length ≤ 3000)) ∨ (v7 = .int .i64 3 ∧ Hid (E = 3)))) (fun _ _ _ v34 _ => np - (intOf v34).toNat)
  case atStart => exact ⟨0, Nat.zero_le _, rfl, hide (Below.refl _ _), .inl ⟨rfl, rfl, hide (World.ownsRow_nil _ _ _ _), HC0, hide (Nat.zero_le _)⟩⟩
  case round =>
    obtain ⟨k, hk, rfl, hB, hor⟩ := hrel
    have hzr := (unhide hB).size
    by_cases hlt : k < np
    · have hkb : k < bss.length := by rw [unhide HLP]; exact hlt
      have hkk : k < ks.length := by rw [unhide HLK]; exact hlt
      obtain ⟨n, hn⟩ : ∃ n, (bss.getD k []).length = n := ⟨_, rfl⟩
      obtain ⟨x, hx⟩ : ∃ x, ks.getD k 0 = x := ⟨_, rfl⟩
      have c1 := ((unhide hB).cell (p := ⟨b, o + k, none⟩) hbw).trans ((unhide HP).cell k hkb)
      have c2 := ((unhide hB).cell (p := ⟨b2, o2 + k, none⟩) hb2).trans (unhide HK k hkk)
      rw [hn] at c1
      rw [hx] at c2
      have hnil := (unhide HP).nil k hkb
      have hkI : (k : Int) < (np : Int) := by omega
      rcases hor with ⟨rfl, rfl, hO, hC, hT3⟩ | ⟨rfl, hE3⟩
      · have hmk := mostK_le bss ks (unhide HKB) k (by rw [unhide HLP]; exact hk)
        have hst := chkP_bad (ns := bss.map List.length) (ks := ks) (k := k) (t := (allK bss k).length) (n := n) (x := x) (E := E) (by rw [List.length_map]; exact hkb) hkk (by rw [← hn]; simp [List.getD, hkb]) hx (unhide hC)
        have HBY := hide (((unhide HP).byt k hkb).below (unhide hB) (Nat.le_refl _))
        have HMN := hide (mostK_next bss ks (unhide HKB) hkb)
        have HAN := hide (allK_next bss hkb)
        have hbg := unhide HBIG k hlt
        rw [hn] at hbg
        rw [hx, hn] at HMN
        have HN := hide hn
        generalize mostK bss ks k = M at *
        obtain ⟨t, ht⟩ : ∃ t, (allK bss k).length = t := ⟨_, rfl⟩
        have hT := unhide hT3
        rw [ht] at hst hO hmk hT
        have HT := hide ht
        generalize A k = ak at *
        generalize C k = ck' at *
        obtain ⟨a8, c8, rfl⟩ := own_slice' (unhide hO)
        have HST := hide hst
        clear hn hx ht hC hst
        go_wp2_with (at_builtin; refine wpList_append_in _ rfl (.tmp 41) (.tmp 42) rfl w1.heap.size _ t (allK bss k) rfl (unhide hO) ak n ck' (bss.getD k []) rfl (unhide HN) (unhide HBY) hnil (by omega) hzr ?_)
        intro v' w3 hO3 hgrow
        replace hO3 := unhide hO3
        replace hgrow := unhide hgrow
        obtain ⟨a9, c9, rfl⟩ := own_slice' hO3
        have HB3 := hide ((unhide hB).grown hgrow (by omega) (fun g e => ((unhide hO).lt g e).1))
        have d2 := hgrow.cell c2 (fun e => by have := ((unhide hO).lt b2 e.symm).1; omega)
        have HO3 : Hid (w3.ownsRow w1.heap.size 5 1 (.slice a9 (t + n) c9) (allK bss (k + 1)).length (u8s (allK bss (k + 1)))) := hide (by rw [unhide HAN, List.length_append, unhide HT, unhide HN]; first | exact hO3 | simpa [u8s, List.getD, hkb] using hO3)
        clear hO3 hgrow c1 c2
        rcases unhide HST with ⟨s1, s2⟩ | ⟨s1, s2, s3, s4⟩ | ⟨s1, s2, s3, s4⟩
        · subst s2
          by_cases h3 : 3000 < t + n
          · have h3I : (3000 : Int) < ((t + n : Nat) : Int) := by omega
            go_wp2_with fail
            refine (packed_any w3).mono ?_
            rintro e wX ⟨rfl, hBX⟩
            have WX := hide ((unhide HB3).trans (hBX.mono (unhide HB3).size))
            clear hBX
            go_wp2_with fail
            refine (packed_any wX).mono ?_
            rintro e wY ⟨rfl, hBY⟩
            have WY := hide ((unhide WX).trans (hBY.mono (unhide WX).size))
            clear hBY
            go_wp2
            go_ret
            exact ⟨rfl, unhide WY⟩
          · have h3I : ¬ (3000 : Int) < ((t + n : Nat) : Int) := by omega
            have h40 : (40 : Int) ≤ (k : Int) := by omega
            go_wp2_with fail
            refine (packed_any w3).mono ?_
            rintro e wX ⟨rfl, hBX⟩
            have WX := hide ((unhide HB3).trans (hBX.mono (unhide HB3).size))
            clear hBX
            go_wp2_with fail
            refine (packed_any wX).mono ?_
            rintro e wY ⟨rfl, hBY⟩
            have WY := hide ((unhide WX).trans (hBY.mono (unhide WX).size))
            clear hBY
            go_wp2
            go_ret
            exact ⟨rfl, unhide WY⟩
        · have HC3 : Hid (chkP ((bss.map List.length).drop (k + 1)) (ks.drop (k + 1)) (k + 1) (allK bss (k + 1)).length = E) := hide (by rw [unhide HAN, List.length_append, unhide HT, unhide HN]; exact s4)
          have HT3 : Hid ((allK bss (k + 1)).length ≤ 3000) := hide (by rw [unhide HAN, List.length_append, unhide HT, unhide HN]; exact s1)
          have h3I : ¬ (3000 : Int) < ((t + n : Nat) : Int) := by omega
          have h40 : ¬ (40 : Int) ≤ (k : Int) := by omega
          clear s4 HST
          rcases s3 with e | e | e
          · subst e
            have HM : Hid (mostK bss ks (k + 1) = M + (47 + 8 * n)) := hide (unhide HMN)
            go_wp2
            go_roundw
            case rel => exact ⟨k + 1, by omega, by go_num, HB3, .inl ⟨rfl, by rw [unhide HM]; go_num, HO3, HC3, HT3⟩⟩
            case measure => simp [intOf]; omega
          · subst e
            have HM : Hid (mostK bss ks (k + 1) = M + (10 + 9 * n)) := hide (unhide HMN)
            go_wp2
            go_roundw
            case rel => exact ⟨k + 1, by omega, by go_num, HB3, .inl ⟨rfl, by rw [unhide HM]; go_num, HO3, HC3, HT3⟩⟩
            case measure => simp [intOf]; omega
          · subst e
            have HM : Hid (mostK bss ks (k + 1) = M + (3210 + 9 * n)) := hide (unhide HMN)
            go_wp2
            go_roundw
            case rel => exact ⟨k + 1, by omega, by go_num, HB3, .inl ⟨rfl, by rw [unhide HM]; go_num, HO3, HC3, HT3⟩⟩
            case measure => simp [intOf]; omega
        · have h3I : ¬ (3000 : Int) < ((t + n : Nat) : Int) := by omega
          have h40 : ¬ (40 : Int) ≤ (k : Int) := by omega
          have x0 : (x == 0) = false := by rw [beq_eq_false_iff_ne]; intro e; exact s3 (.inl e)
          have x1 : (x == 1) = false := by rw [beq_eq_false_iff_ne]; intro e; exact s3 (.inr (.inl e))
          have x2 : (x == 2) = false := by rw [beq_eq_false_iff_ne]; intro e; exact s3 (.inr (.inr e))
          have HE3 := hide s4
          clear s3 s4 HST
          go_wp2
          go_roundw
          case rel => exact ⟨k + 1, by omega, by go_num, HB3, .inr ⟨rfl, HE3⟩⟩
          case measure => simp [intOf]; omega
      · have hE := unhide hE3
        subst hE
        generalize A k = ak at *
        generalize C k = ck' at *
        clear hn hx c2
        go_wp2_with fail
        refine (packed_any wr).mono ?_
        rintro e wX ⟨rfl, hBX⟩
        have WX := hide ((unhide hB).trans (hBX.mono (unhide hB).size))
        clear hBX
        go_wp2_with fail
        refine (packed_any wX).mono ?_
        rintro e wY ⟨rfl, hBY⟩
        have WY := hide ((unhide WX).trans (hBY.mono (unhide WX).size))
        clear hBY
        go_wp2
        go_ret
        exact ⟨rfl, unhide WY⟩
    · obtain rfl : np = k := by omega
      rcases hor with ⟨rfl, rfl, hO, hC, hT3⟩ | ⟨rfl, hE3⟩
      · exfalso
        have := unhide hC
        rw [List.drop_eq_nil_of_le (by rw [List.length_map, unhide HLP]; exact Nat.le_refl _), chkP] at this
        exact unhide HE0 this.symm
      · have hE := unhide hE3
        subst hE
        go_wp2_with fail
        refine (packed_any wr).mono ?_
        rintro e wX ⟨rfl, hBX⟩
        have WX := hide ((unhide hB).trans (hBX.mono (unhide hB).size))
        clear hBX
        go_wp2_with fail
        refine (packed_any wX).mono ?_
        rintro e wY ⟨rfl, hBY⟩
        have WY := hide ((unhide WX).trans (hBY.mono (unhide WX).size))
        clear hBY
        go_wp2
        go_ret
        exact ⟨rfl, unhide WY⟩
end Go.Proofs.YtekgcoajgbpniacGreat
