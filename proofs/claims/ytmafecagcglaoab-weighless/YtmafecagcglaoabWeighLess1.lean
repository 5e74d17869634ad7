/-
  The walk of the law WeighLess.
-/
import Derived.Test.YtmafecagcglaoabWeighed
import Derived.Test.YtmafecagcglaoabWeighKraft
import Derived.Test.YtmafecagcglaoabWeighTurn
import Derived.Test.YtmafecagcglaoabSlc
import Derived.Test.YtmafecagcglaoabCheck1
import Derived.Test.YtmafecagcglaoabCodeChk
namespace Go.Proofs.Ytmafecagcglaoab
open Go.RowKit
set_option linter.unusedVariables false

/-- a code that has room leaves it to what is wanted -/
theorem room_wpl (l o : List Int) (ho : ∀ p, p < l.length → 0 < l.getD p 0 → 0 < o.getD p 0) : ∀ k, k ≤ l.length → nsum ((wpl l k).map fun p => 2 ^ (15 - (o.getD p 0).toNat)) ≤ roomN o k
  | 0, _ => Nat.zero_le _
  | k + 1, hk => by
    have ih := room_wpl l o ho k (by omega)
    have h3 : ∀ A B : List Nat, nsum (A ++ B) = nsum A + nsum B := by
      intro A B
      induction A with
      | nil => simp [nsum]
      | cons x A ih => rw [List.cons_append, nsum, nsum, ih]; omega
    rw [wpl, List.map_append, h3, roomN]
    by_cases h : 0 < l.getD k 0
    · rw [if_pos h, if_pos (ho k (by omega) h)]
      simp only [List.map_cons, List.map_nil, nsum]
      omega
    · rw [if_neg h]
      simp only [List.map_nil, nsum]
      omega
/-- whatever code there is takes no fewer -/
theorem any_code {l s o : List Int} {m : Nat} (hG : GoodW l m) (hs : IsLens l m s) (hl : o.length = l.length) (hO : Good o) (hmx : ∀ j, j < l.length → o.getD j 0 ≤ m) (he : errC l o = 0) : costK l s l.length ≤ costK l o l.length := by
  have hok : ∀ j, j < l.length → okC (l.getD j 0) (o.getD j 0) = true := by
    intro j hj
    cases e : okC (l.getD j 0) (o.getD j 0) with
    | true => rfl
    | false =>
      exfalso
      unfold errC at he
      have h15 := good_errW (hG.more hG.hi (Nat.le_refl 15))
      rw [if_neg (by omega), if_neg (fun h => h h15), if_pos ⟨j, hj, e⟩] at he
      cases he
  have hw : ∀ p, p < l.length → 0 < l.getD p 0 → 1 ≤ o.getD p 0 ∧ o.getD p 0 ≤ m := by
    intro p h1 h2
    have h3 := of_decide_eq_true (hok p h1)
    refine ⟨?_, hmx p h1⟩
    rcases Int.lt_or_le 0 (o.getD p 0) with h4 | h4
    · omega
    · exact absurd h2 (h3.2.2 (by omega))
  refine best hG hs hw ?_
  have h1 := room_wpl l o (fun p a b => by have := hw p a b; omega) l.length (Nat.le_refl _)
  have h2 := roomN_taken o hO.ok o.length (Nat.le_refl _)
  rw [List.take_length] at h2
  have h3 := hO.room
  rw [hl] at h2
  have hm15 := hG.hi
  have e : ((wpl l l.length).map fun p => 2 ^ (15 - (o.getD p 0).toNat)) = (wpl l l.length).map fun p => 2 ^ (15 - m) * 2 ^ (m - (o.getD p 0).toNat) := by
    apply List.map_congr_left
    intro p hp
    have hp' := (mem_wpl l p l.length).1 hp
    have := hw p hp'.1 hp'.2
    rw [← Nat.pow_add]
    congr 1
    omega
  rw [e, nsum_mul] at h1
  have h4 : 2 ^ (15 - m) * nsum ((wpl l l.length).map fun p => 2 ^ (m - (o.getD p 0).toNat)) ≤ 2 ^ (15 - m) * 2 ^ m := by
    rw [← Nat.pow_add, show 15 - m + m = 15 by omega]
    omega
  exact Nat.le_of_mul_le_mul_left h4 (Nat.pow_pos (by decide))

set_option maxRecDepth 100000 in
theorem weighLess_err (a : Option Addr) (len cap : Nat) (l : List Int) (most : Int) (vo : Value) (w : World) (hl : l.length = len) (hM : len ≤ 9223372036854775807) (hR : RowIn .i64 w a l) (he : errW l most ≠ 0) :
    Calls Try.prog 6 #[.slice a len cap, .int .i64 most, vo] w fun e w' => e = .returned (.bool true) ∧ Below w.heap.size w w' := by
  have HL := hide (lengths_err a len cap l most w hl hM hR he)
  have hb : (errW l most != 0) = true := by rw [bne_iff_ne]; exact he
  clear hR he
  generalize errW l most = r at *
  go_enter Try.func6, Try.ntmps6
  go_wp2_with fail
  refine (unhide HL).mono ?_
  rintro e w1 ⟨rfl, rfl⟩
  go_wp2_with fail
  refine (weighed_any _).mono ?_
  rintro e w2 ⟨rfl, hB2⟩
  have HB2 := hide hB2
  clear hB2 HL
  go_wp2_with fail
  refine (weighed_any _).mono ?_
  rintro e w3 ⟨rfl, hB3⟩
  have HB3 := hide ((unhide HB2).trans (hB3.mono (unhide HB2).size))
  clear hB3
  go_wp2
  go_ret
  exact ⟨rfl, unhide HB3⟩

set_option maxHeartbeats 4000000 in
set_option maxRecDepth 100000 in
theorem weighLess_ok (a : Option Addr) (len cap : Nat) (l : List Int) (m : Nat) (a2 : Option Addr) (n2 c2 : Nat) (o : List Int) (w : World) (hl : l.length = len) (hR : RowIn .i64 w a l) (hG : GoodW l m) (hl2 : o.length = n2) (hM2 : n2 ≤ 9223372036854775807) (hR2 : RowIn .i64 w a2 o) :
    Calls Try.prog 6 #[.slice a len cap, .int .i64 m, .slice a2 n2 c2] w fun e w' => e = .returned (.bool true) ∧ Below w.heap.size w w' := by
  have hlen := hG.len
  have hm1 := hG.lo
  have hm15 := hG.hi
  have HG := hide hG
  have HR := hide hR
  have HO := hide hR2
  have HLn := hide (lengths_ok a len cap l m w hl hR hG)
  clear hR hG hR2
  go_enter Try.func6, Try.ntmps6
  go_wp2_with fail
  refine (unhide HLn).mono ?_
  rintro e w1 ⟨g, s, rfl, hI, hsl, hWs, hB1, hg⟩
  have HI := hide hI
  have HSl := hide hsl
  have HB1 := hide hB1
  have HS1 := hide hWs.row
  have HR1 := hide ((unhide HR).below hB1 (Nat.le_refl _))
  have HO1 := hide ((unhide HO).below hB1 (Nat.le_refl _))
  clear hI hsl hWs hB1 HLn HR HO
  go_wp2_with fail
  refine (weighed_any _).mono ?_
  rintro e w2 ⟨rfl, hB2⟩
  have HB2 := hide ((unhide HB1).trans (hB2.mono (unhide HB1).size))
  have HS2 := hide ((unhide HS1).below hB2 (Nat.le_refl _))
  have HR2 := hide ((unhide HR1).below hB2 (Nat.le_refl _))
  have HO2 := hide ((unhide HO1).below hB2 (Nat.le_refl _))
  clear hB2 HB1 HS1 HR1 HO1
  have hC1 := cost_any a (some ⟨g, 0, none⟩) len cap len len l s w2 hl (unhide HSl) (by omega) (by omega) (unhide HR2) (unhide HS2)
  rw [errC_lens (unhide HG) (unhide HI), if_pos rfl] at hC1
  obtain ⟨c, hc⟩ : ∃ c, costK l s l.length = c := ⟨_, rfl⟩
  rw [hc] at hC1
  have HC1 := hide hC1
  have HCc := hide hc
  clear hC1 hc
  go_wp2_with fail
  refine (unhide HC1).mono ?_
  rintro e w3 ⟨rfl, rfl⟩
  clear HC1
  by_cases hm : m < 15
  case' pos =>
    have hmI : (m : Int) < 15 := by omega
    have HG2 := hide ((unhide HG).more (show m ≤ m + 1 by omega) (by omega))
    have hL4 := lengths_ok a len cap l (m + 1) w3 hl (unhide HR2) (unhide HG2)
    push_cast at hL4
    have HL4 := hide hL4
    clear hL4
    go_wp2_with fail
    refine (unhide HL4).mono ?_
    rintro e w4 ⟨g4, s4, rfl, hI4, hs4, hW4, hB4, hg4⟩
    have HB4 := hide ((unhide HB2).trans (hB4.mono (unhide HB2).size))
    have HR4 := hide ((unhide HR2).below hB4 (Nat.le_refl _))
    have HO4 := hide ((unhide HO2).below hB4 (Nat.le_refl _))
    have hC4 := cost_any a (some ⟨g4, 0, none⟩) len cap len len l s4 w4 hl hs4 (by omega) (by omega) (unhide HR4) hW4.row
    rw [errC_lens (unhide HG2) hI4, if_pos rfl] at hC4
    have hdc := less_more (unhide HG) (unhide HI) (unhide HG2) hI4
    rw [unhide HCc] at hdc
    obtain ⟨d, hd⟩ : ∃ d, costK l s4 l.length = d := ⟨_, rfl⟩
    rw [hd] at hC4 hdc
    have HC4 := hide hC4
    have hdn : ¬ c < d := by omega
    clear hI4 hs4 hW4 hB4 hC4 hd HL4 HB2 HS2 HR2 HO2
    go_wp2_with fail
    refine (unhide HC4).mono ?_
    rintro e w5 ⟨rfl, rfl⟩
    clear HC4
  case' neg =>
    have hmI : ¬ (m : Int) < 15 := by omega
    obtain ⟨w5, hw5⟩ : ∃ w5, w5 = w3 := ⟨_, rfl⟩
    have HB4 : Hid (Below w.heap.size w w5) := by rw [hw5]; exact HB2
    have HR4 : Hid (RowIn .i64 w5 a l) := by rw [hw5]; exact HR2
    have HO4 : Hid (RowIn .i64 w5 a2 o) := by rw [hw5]; exact HO2
    subst hw5
    clear HB2 HS2 HR2 HO2
  all_goals
    by_cases hn : n2 = len
    · subst hn
      have hnb : ((n2 : Int) != (n2 : Int)) = false := by simp
      have HCk := hide (codeCheck_any a2 n2 c2 o w5 hl2 hM2 (unhide HO4))
      by_cases he : errL o = 0
      · rw [he] at HCk
        have HGo := hide (errL_good he)
        clear he
        go_wp2_with fail
        refine (unhide HCk).mono ?_
        rintro e w6 ⟨rfl, hB6⟩
        have HB6 := hide ((unhide HB4).trans (hB6.mono (unhide HB4).size))
        have HR6 := hide ((unhide HR4).below hB6 (Nat.le_refl _))
        have HO6 := hide ((unhide HO4).below hB6 (Nat.le_refl _))
        clear hB6 HCk HB4 HR4 HO4
        by_cases h0 : n2 = 0
        · subst h0
          go_wp2
          go_ret
          exact ⟨rfl, unhide HB6⟩
        · have h0b : ((n2 : Int) == 0) = false := by rw [beq_eq_false_iff_ne]; omega
          have HMx := hide (max_any a2 n2 c2 o w6 hl2 (by omega) (by omega) (unhide HO6))
          go_wp2_with fail
          refine (unhide HMx).mono ?_
          rintro e w7 ⟨M, rfl, hMx, _, rfl⟩
          by_cases hMm : (m : Int) < M
          · clear hMx
            go_wp2
            go_ret
            exact ⟨rfl, unhide HB6⟩
          · have hC7 := cost_any a a2 n2 cap n2 c2 l o w7 hl hl2 (by omega) (by omega) (unhide HR6) (unhide HO6)
            have HAny := hide (fun h => any_code (unhide HG) (unhide HI) (by omega) (unhide HGo) (fun j hj => by have := hMx j (by omega); omega) h)
            rw [unhide HCc] at HAny
            have HC7 := hide hC7
            clear hMx hC7
            go_wp2_with fail
            refine (unhide HC7).mono ?_
            rintro e w8 ⟨rfl, rfl⟩
            clear HC7
            by_cases hee : errC l o = 0
            · have hge := unhide HAny hee
              rw [hee, if_pos rfl]
              generalize costK l o l.length = d9 at *
              clear HAny hee
              go_wp2
              go_ret
              exact ⟨rfl, unhide HB6⟩
            · rw [if_neg hee]
              have heb : (errC l o != 0) = true := by rw [bne_iff_ne]; exact hee
              clear HAny hee
              generalize errC l o = r9 at *
              go_wp2
              go_ret
              exact ⟨rfl, unhide HB6⟩
      · have heb : (errL o != 0) = true := by rw [bne_iff_ne]; exact he
        clear he
        generalize errL o = r9 at *
        go_wp2_with fail
        refine (unhide HCk).mono ?_
        rintro e w6 ⟨rfl, hB6⟩
        have HB6 := hide ((unhide HB4).trans (hB6.mono (unhide HB4).size))
        clear hB6 HCk HB4 HR4 HO4
        go_wp2
        go_ret
        exact ⟨rfl, unhide HB6⟩
    · have hnb : ((n2 : Int) != (len : Int)) = true := by rw [bne_iff_ne]; omega
      go_wp2
      go_ret
      exact ⟨rfl, unhide HB4⟩
end Go.Proofs.Ytmafecagcglaoab
