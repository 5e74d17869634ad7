/-
  The walk of the law CodeWrite.
-/
import Derived.Test.YtmafecagcglaoaaCodeWrite1
import Derived.Test.YtmafecagcglaoaaCodesOf2
import Derived.Test.YtmafecagcglaoaaCoded
import Derived.Test.YtmafecagcglaoaaPackLaw
namespace Go.Proofs.Ytmafecagcglaoaa
open Go.RowKit
set_option linter.unusedVariables false
set_option maxRecDepth 100000

/-- the bits of a number turned round are those of the number, the highest first -/
theorem numBits_turn : ∀ n c, numBits (turnL c n) n = hb c n := by
  intro n c
  apply List.ext_getElem
  · rw [numBits_length, hb_length]
  · intro i h1 h2
    rw [numBits_length] at h1
    have e1 : (numBits (turnL c n) n).getD i false = (numBits (turnL c n) n)[i]'(by rw [numBits_length]; exact h1) := by simp [List.getD, numBits_length, h1]
    rw [← e1, numBits_getD, decide_eq_true h1, Bool.true_and, turnL_bit, decide_eq_true h1, Bool.true_and]
    exact (hb_at n c i h1 h2).symm
where
  hb_at : ∀ n c i (h : i < n) (h2 : i < (hb c n).length), (hb c n)[i] = c.testBit (n - 1 - i)
  | 0, c, i, h, _ => by omega
  | n + 1, c, i, h, h2 => by
    by_cases e : i = n
    · subst e
      have : (hb c (i + 1))[i]'h2 = decide (c % 2 = 1) := by
        have hl := hb_length i (c / 2)
        simp only [hb]
        rw [List.getElem_append_right (by omega)]
        simp [hl]
      rw [this]
      rw [show i + 1 - 1 - i = 0 by omega, Nat.testBit_zero]
    · have hl := hb_length n (c / 2)
      have : (hb c (n + 1))[i]'h2 = (hb (c / 2) n)[i]'(by omega) := by
        simp only [hb]
        rw [List.getElem_append_left (by omega)]
      rw [this, hb_at n (c / 2) i (by omega) (by omega), show n + 1 - 1 - i = (n - 1 - i) + 1 by omega, Nat.testBit_succ]

theorem bits_code (l : List Int) (ps : List Int) {k : Nat} (hk : k < ps.length) (hp : okPlace l (ps.getD k 0) = true) (hG : Good l) : bitsTo (ps.map (prL l)) (k + 1) = bitsTo (ps.map (prL l)) k ++ codeT l (ps.getD k 0).toNat := by
  have e : (ps.map (prL l)).getD k (0, 0) = prL l (ps.getD k 0) := by simp [List.getD, hk]
  obtain ⟨h0, h1, h2⟩ := okPlace_true hp
  rw [bitsTo, e]
  unfold prL codeT
  simp only [Int.toNat_natCast]
  rw [numBits_turn]

theorem codeWrite_err (a : Option Addr) (len cap : Nat) (l : List Int) (v : Value) (hv : v.oneCell' = true) (w : World) (hl : l.length = len) (hM : len ≤ 9223372036854775807) (hR : RowIn .i64 w a l) (he : errL l ≠ 0) :
    Calls Try.prog 8 #[.slice a len cap, v] w fun e w' => e = .returned (.bool true) ∧ Below w.heap.size w w' := by
  have hb : (errL l != 0) = true := by rw [bne_iff_ne]; exact he
  have hb2 : (errL l == 0) = false := by rw [beq_eq_false_iff_ne]; exact he
  have hee : (errL l == errL l) = true := by simp
  have HR0 := hide (hR.alloc (.cells #[.slice a len cap] 24))
  have HB0 := hide ((Below.refl w.heap.size w).alloc (Nat.le_refl _) (.cells #[.slice a len cap] 24))
  have hz0 : w.heap.size < (w.alloc (.cells #[.slice a len cap] 24)).heap.size := by simp
  have HC0 : Hid ((w.alloc (.cells #[.slice a len cap] 24)).cell? ⟨w.heap.size, 0, none⟩ = some (.slice a len cap)) := by unfold Hid; simp
  go_enter Try.func8, Try.ntmps8
  go_wp2_with fail
  refine (write_err a len cap l v _ hl hM (unhide HR0) he).mono ?_
  rintro e w1 ⟨rfl, hB1⟩
  have HB1 := hide ((unhide HB0).trans (hB1.mono (unhide HB0).size))
  have HR1 := hide ((unhide HR0).below hB1 (Nat.le_refl _))
  have c1 := (hB1.cell (p := ⟨w.heap.size, 0, none⟩) hz0).trans (unhide HC0)
  clear hB1 hR he HR0 HB0 HC0
  go_wp2_with fail
  refine (checkLengths_any a len cap l w1 hl hM (unhide HR1)).mono ?_
  rintro e w2 ⟨rfl, hw⟩
  rw [hw]
  clear hw w2
  generalize errL l = E at *
  go_wp2_with fail
  refine (coded_any _).mono ?_
  rintro e w4 ⟨rfl, hB4⟩
  have HB4 := hide ((unhide HB1).trans (hB4.mono (unhide HB1).size))
  clear hB4
  go_wp2_with fail
  refine (coded_any _).mono ?_
  rintro e w5 ⟨rfl, hB5⟩
  have HB5 := hide ((unhide HB4).trans (hB5.mono (unhide HB4).size))
  clear hB5
  go_wp2
  go_ret
  exact ⟨rfl, unhide HB5⟩

theorem codeWrite_many (a : Option Addr) (len cap : Nat) (l : List Int) (a2 : Option Addr) (len2 cap2 : Nat) (ps : List Int) (w : World) (hl : l.length = len) (hR : RowIn .i64 w a l) (hG : Good l) (hm : 3000 < len2) (hM2 : len2 ≤ 9223372036854775807) (hR2 : RowIn .i64 w a2 ps) :
    Calls Try.prog 8 #[.slice a len cap, .slice a2 len2 cap2] w fun e w' => e = .returned (.bool true) ∧ Below w.heap.size w w' := by
  have HR0 := hide (hR.alloc (.cells #[.slice a len cap] 24))
  have HR20 := hide (hR2.alloc (.cells #[.slice a len cap] 24))
  have HB0 := hide ((Below.refl w.heap.size w).alloc (Nat.le_refl _) (.cells #[.slice a len cap] 24))
  have hz0 : w.heap.size < (w.alloc (.cells #[.slice a len cap] 24)).heap.size := by simp
  have HC0 : Hid ((w.alloc (.cells #[.slice a len cap] 24)).cell? ⟨w.heap.size, 0, none⟩ = some (.slice a len cap)) := by unfold Hid; simp
  have hlen := hG.len
  have hM : len ≤ 9223372036854775807 := by omega
  have EE := hide (good_errL hG)
  have HG := hide hG
  have hmf : ∀ (fn : Fn) (first cap : Array Value) (w : World), (Instr.makeFunc fn first cap).run Try.prog w = .ok (.func fn first cap) w := fun _ _ _ _ => rfl
  go_enter Try.func8, Try.ntmps8
  go_wp2_with fail
  refine (write_many a len cap l a2 len2 cap2 _ hl (unhide HR0) hG hm hM2).mono ?_
  rintro e w1 ⟨rfl, hB1⟩
  have HB1 := hide ((unhide HB0).trans (hB1.mono (unhide HB0).size))
  have HR1 := hide ((unhide HR0).below hB1 (Nat.le_refl _))
  have c1 := (hB1.cell (p := ⟨w.heap.size, 0, none⟩) hz0).trans (unhide HC0)
  clear hB1 hR hR2 hG HR0 HR20 HB0 HC0
  go_wp2_with fail
  refine (checkLengths_any a len cap l w1 hl hM (unhide HR1)).mono ?_
  rintro e w2 ⟨rfl, hw⟩
  rw [hw, unhide EE]
  clear hw w2
  go_wp2_with fail
  refine (coded_any _).mono ?_
  rintro e w4 ⟨rfl, hB4⟩
  have HB4 := hide ((unhide HB1).trans (hB4.mono (unhide HB1).size))
  clear hB4
  go_wp2_with fail
  refine (coded_any _).mono ?_
  rintro e w5 ⟨rfl, hB5⟩
  have HB5 := hide ((unhide HB4).trans (hB5.mono (unhide HB4).size))
  clear hB5
  go_wp2
  go_ret
  exact ⟨rfl, unhide HB5⟩

theorem codeWrite_who (a : Option Addr) (len cap : Nat) (l : List Int) (a2 : Option Addr) (len2 cap2 : Nat) (ps : List Int) (w : World) (hl : l.length = len) (hR : RowIn .i64 w a l) (hG : Good l) (hl2 : ps.length = len2) (hm : len2 ≤ 3000) (hR2 : RowIn .i64 w a2 ps)
    (j0 : Nat) (hj0 : j0 < len2) (hbad : okPlace l (ps.getD j0 0) = false) (hf : ∀ j, j < j0 → okPlace l (ps.getD j 0) = true) :
    Calls Try.prog 8 #[.slice a len cap, .slice a2 len2 cap2] w fun e w' => e = .returned (.bool true) ∧ Below w.heap.size w w' := by
  have HR0 := hide (hR.alloc (.cells #[.slice a len cap] 24))
  have HR20 := hide (hR2.alloc (.cells #[.slice a len cap] 24))
  have HB0 := hide ((Below.refl w.heap.size w).alloc (Nat.le_refl _) (.cells #[.slice a len cap] 24))
  have hz0 : w.heap.size < (w.alloc (.cells #[.slice a len cap] 24)).heap.size := by simp
  have HC0 : Hid ((w.alloc (.cells #[.slice a len cap] 24)).cell? ⟨w.heap.size, 0, none⟩ = some (.slice a len cap)) := by unfold Hid; simp
  have hlen := hG.len
  have hM : len ≤ 9223372036854775807 := by omega
  have EE := hide (good_errL hG)
  have HG := hide hG
  have hmf : ∀ (fn : Fn) (first cap : Array Value) (w : World), (Instr.makeFunc fn first cap).run Try.prog w = .ok (.func fn first cap) w := fun _ _ _ _ => rfl
  have HD : Hid (decide (∃ j, j < len2 ∧ okPlace l (ps.getD j 0) = false) = true) := decide_eq_true ⟨j0, hj0, hbad⟩
  go_enter Try.func8, Try.ntmps8
  go_wp2_with fail
  refine (write_who a len cap l a2 len2 cap2 ps _ hl (unhide HR0) hG hl2 hm (unhide HR20) j0 hj0 hbad hf).mono ?_
  rintro e w1 ⟨rfl, hB1⟩
  have HB1 := hide ((unhide HB0).trans (hB1.mono (unhide HB0).size))
  have HR1 := hide ((unhide HR0).below hB1 (Nat.le_refl _))
  have HR21 := hide ((unhide HR20).below hB1 (Nat.le_refl _))
  have c1 := (hB1.cell (p := ⟨w.heap.size, 0, none⟩) hz0).trans (unhide HC0)
  clear hB1 hR hR2 hG HR0 HR20 HB0 HC0 hbad hf hj0
  go_wp2_with fail
  refine (checkLengths_any a len cap l w1 hl hM (unhide HR1)).mono ?_
  rintro e w2 ⟨rfl, hw⟩
  rw [hw, unhide EE]
  clear hw w2
  go_wp2_with fail
  refine (containsFunc_any a len cap l w.heap.size a2 len2 cap2 ps w1 hl (by omega) (unhide HR1) c1 hl2 hm (unhide HR21)).mono ?_
  rintro e w3 ⟨rfl, hw⟩
  rw [hw, unhide HD]
  clear hw w3
  go_wp2_with fail
  refine (coded_any _).mono ?_
  rintro e w4 ⟨rfl, hB4⟩
  have HB4 := hide ((unhide HB1).trans (hB4.mono (unhide HB1).size))
  clear hB4
  go_wp2_with fail
  refine (coded_any _).mono ?_
  rintro e w5 ⟨rfl, hB5⟩
  have HB5 := hide ((unhide HB4).trans (hB5.mono (unhide HB4).size))
  clear hB5
  go_wp2
  go_ret
  exact ⟨rfl, unhide HB5⟩

set_option maxHeartbeats 4000000 in
theorem codeWrite_ok (a : Option Addr) (len cap : Nat) (l : List Int) (a2 : Option Addr) (len2 cap2 : Nat) (ps : List Int) (w : World) (hl : l.length = len) (hR : RowIn .i64 w a l) (hG : Good l) (hl2 : ps.length = len2) (hm : len2 ≤ 3000) (hR2 : RowIn .i64 w a2 ps)
    (hall : ∀ j, j < len2 → okPlace l (ps.getD j 0) = true) :
    Calls Try.prog 8 #[.slice a len cap, .slice a2 len2 cap2] w fun e w' => e = .returned (.bool true) ∧ Below w.heap.size w w' := by
  have HR0 := hide (hR.alloc (.cells #[.slice a len cap] 24))
  have HR20 := hide (hR2.alloc (.cells #[.slice a len cap] 24))
  have HB0 := hide ((Below.refl w.heap.size w).alloc (Nat.le_refl _) (.cells #[.slice a len cap] 24))
  have hz0 : w.heap.size < (w.alloc (.cells #[.slice a len cap] 24)).heap.size := by simp
  have HC0 : Hid ((w.alloc (.cells #[.slice a len cap] 24)).cell? ⟨w.heap.size, 0, none⟩ = some (.slice a len cap)) := by unfold Hid; simp
  have hlen := hG.len
  have hM : len ≤ 9223372036854775807 := by omega
  have EE := hide (good_errL hG)
  have HG := hide hG
  have hmf : ∀ (fn : Fn) (first cap : Array Value) (w : World), (Instr.makeFunc fn first cap).run Try.prog w = .ok (.func fn first cap) w := fun _ _ _ _ => rfl
  have HD : Hid (decide (∃ j, j < len2 ∧ okPlace l (ps.getD j 0) = false) = false) := decide_eq_false (by
    rintro ⟨j, hj, e⟩
    rw [hall j hj] at e; cases e)
  have HALL := hide hall
  have HF : Hid (AllFit (ps.map (prL l))) := fun j hj => by
    have hj' : j < ps.length := by simpa using hj
    have e : (ps.map (prL l)).getD j (0, 0) = prL l (ps.getD j 0) := by simp [List.getD, hj']
    rw [e]; exact prL_fit l hG (hall j (by omega))
  have HPL : Hid ((ps.map (prL l)).length = len2) := by unfold Hid; rw [List.length_map]; exact hl2
  go_enter Try.func8, Try.ntmps8
  go_wp2_with fail
  refine (write_ok a len cap l a2 len2 cap2 ps _ hl (unhide HR0) hG hl2 hm (unhide HR20) hall).mono ?_
  rintro e w1 ⟨g1, nb, rfl, hnb, hO1, hB1, hg1⟩
  have HB1 := hide ((unhide HB0).trans (hB1.mono (unhide HB0).size))
  have HR1 := hide ((unhide HR0).below hB1 (Nat.le_refl _))
  have HR21 := hide ((unhide HR20).below hB1 (Nat.le_refl _))
  have HX1 := hide (BytesIn.own hO1)
  have c1 := (hB1.cell (p := ⟨w.heap.size, 0, none⟩) hz0).trans (unhide HC0)
  have hz1 := hB1.size
  have HNB := hide hnb
  clear hB1 hR hR2 hG HR0 HR20 HB0 HC0 hall hO1 hnb
  go_wp2_with fail
  refine (checkLengths_any a len cap l w1 hl hM (unhide HR1)).mono ?_
  rintro e w2 ⟨rfl, hw⟩
  rw [hw, unhide EE]
  clear hw w2
  go_wp2_with fail
  refine (containsFunc_any a len cap l w.heap.size a2 len2 cap2 ps w1 hl (by omega) (unhide HR1) c1 hl2 hm (unhide HR21)).mono ?_
  rintro e w3 ⟨rfl, hw⟩
  rw [hw, unhide HD]
  clear hw w3
  go_wp2_with fail
  refine (coded_any _).mono ?_
  rintro e w4 ⟨rfl, hB4⟩
  have HB4 := hide ((unhide HB1).trans (hB4.mono (unhide HB1).size))
  have HR4 := hide ((unhide HR1).below hB4 (Nat.le_refl _))
  have HR24 := hide ((unhide HR21).below hB4 (Nat.le_refl _))
  have HX4 := hide ((unhide HX1).below hB4 (Nat.le_refl _))
  have c4 := (hB4.cell (p := ⟨w.heap.size, 0, none⟩) (by simp at hz1 ⊢; omega)).trans c1
  clear hB4 c1 HB1 HR1 HR21 HX1
  go_wp2_with fail
  refine (codesOf_any a len cap l w4 hl (unhide HR4) (unhide HG)).mono ?_
  rintro e w7 ⟨g7, rfl, hB7, hg7, hO7⟩
  have HO7 := hide hO7
  have hgl7 := (hO7.lt g7 rfl).2
  have hz7 := hB7.size
  have HB7 := hide ((unhide HB4).trans (hB7.mono (unhide HB4).size))
  have HR27 := hide ((unhide HR24).below hB7 (Nat.le_refl _))
  have HX7 := hide ((unhide HX4).below hB7 (Nat.le_refl _))
  clear hB7 hO7 HR4 HR24 HX4 HB4 c4
  go_wp2
  go_loopw [55] (fun vi wr => ∃ i : Nat, i ≤ len2 ∧ vi = .int .i64 (i : Int) ∧ IsB wr w7.heap.size (Lib.byteCells ((bitsTo (ps.map (prL l)) i).map chr)) ∧ Below w7.heap.size w7 wr) (fun vi _ => len2 - (intOf vi).toNat)
  case atStart => exact ⟨0, Nat.zero_le _, rfl, IsB.new w7, (Below.refl _ _).alloc (Nat.le_refl _) _⟩
  case round =>
    obtain ⟨i, hi, rfl, hI, hB⟩ := hrel
    have HI := hide hI
    have HBr := hide hB
    have hzr := hB.size
    by_cases hlt : i < len2
    · have hli : i < ps.length := by omega
      obtain ⟨b2, o2, rfl, hb2, hRw2⟩ : ∃ b o, a2 = some ⟨b, o, none⟩ ∧ b < w7.heap.size ∧ Row .i64 w7 b o ps := by
        rcases unhide HR27 with rfl | h
        · simp at hli
        · exact h
      have c1 := (hB.cell (p := ⟨b2, o2 + i, none⟩) hb2).trans (hRw2 i hli)
      have hok := unhide HALL i hlt
      have HBC := hide (bits_code l ps hli hok (unhide HG))
      obtain ⟨h0, h1, _⟩ := okPlace_true hok
      obtain ⟨q, hq⟩ := Int.eq_ofNat_of_zero_le h0
      rw [hq] at c1 h1 HBC
      rw [Int.toNat_natCast] at HBC
      have hql : q < len := by omega
      have hqI : (q : Int) < (len : Int) := by omega
      have c7 : wr.cell? ⟨g7, q, none⟩ = some (.string (text (codeT l q))) := by
        refine (hB.cell (p := ⟨g7, q, none⟩) (by simp; omega)).trans ?_
        rw [(unhide HO7).cellAt q (by omega)]
        simp [hql]
      have hsz : (text (codeT l q)).size ≤ 1000000 := by
        rw [text_size]; unfold codeT; rw [hb_length]
        have := (unhide HG).ok q (by omega)
        omega
      have hbl : (Lib.byteCells ((bitsTo (ps.map (prL l)) i).map chr)).length ≤ 1000000 := by
        rw [Lib.byteCells_length, List.length_map, bitsTo_length]
        have := atL_le (ps.map (prL l)) (unhide HF) i (by rw [unhide HPL]; omega)
        omega
      clear hI hB hRw2 hok h0 h1 hq
      generalize codeT l q = T at *
      go_wp2_with fail
      refine (writeString_any _ _ _ _ (unhide HI) hbl hsz).mono ?_
      rintro e w8 ⟨rfl, hI8, hB8⟩
      have HI8 := hide hI8
      have HB8 := hide ((unhide HBr).trans hB8)
      clear hI8 hB8
      go_wp2
      go_roundw
      case rel => exact ⟨i + 1, by omega, by go_num, by rw [unhide HBC, ← cells_text]; exact unhide HI8, unhide HB8⟩
      case measure => simp [intOf]; omega
    · obtain rfl : i = len2 := by omega
      have hal := atL_le (ps.map (prL l)) (unhide HF) i (by rw [unhide HPL]; exact Nat.le_refl _)
      have hbl := bitsTo_length (ps.map (prL l)) i
      clear hI hB
      go_wp2_with fail
      refine (string_any _ _ _ (unhide HI) (by omega)).mono ?_
      rintro e w9 ⟨rfl, hB9⟩
      have HB9 := hide ((unhide HBr).trans hB9)
      have hz9 := hB9.size
      clear hB9
      go_wp2_with fail
      refine (bytesOf_any (bitsTo (ps.map (prL l)) i) _ (by omega)).mono ?_
      rintro e wA ⟨v, rfl, hOA, hBA⟩
      have HBA := hide ((unhide HB9).trans (hBA.mono (by omega)))
      rw [hbl] at hOA
      rw [← pack_bytes (ps.map (prL l)) i (unhide HPL), ← unhide HNB] at hOA
      obtain ⟨aA, cA, hv⟩ : ∃ a c, v = .slice a nb c := by
        rcases hOA.2 with ⟨hv, h0⟩ | ⟨g, cap, cur, hv, _⟩
        · exact ⟨_, _, by rw [hv, h0]⟩
        · exact ⟨_, _, hv⟩
      have HLE : Hid ((rowL (ps.map (prL l)) i).length = nb) := by unfold Hid; rw [rowL_length, unhide HPL]; exact (unhide HNB).symm
      have hXA : Hid (BytesIn wA aA (rowL (ps.map (prL l)) i)) := by
        rcases hOA.2 with ⟨hv', h0⟩ | ⟨g, cap, cur, hv', _⟩
        · exact .inl (List.eq_nil_of_length_eq_zero (by rw [unhide HLE]; exact h0))
        · rw [hv'] at hOA hv
          have := BytesIn.own hOA
          cases hv
          exact this
      subst hv
      have hX1 := hide ((unhide HX7).below (unhide HBA) (Nat.le_refl _))
      clear hOA hBA
      go_wp2_with fail
      refine (bequal_in _ _ _ _ _ _ (rowL (ps.map (prL l)) i) (rowL (ps.map (prL l)) i) _ (unhide HLE) (unhide HLE) (rowL_lt _ i) (rowL_lt _ i) (unhide hX1) (unhide hXA)).mono ?_
      rintro e wB ⟨rfl, rfl⟩
      have e1 : (rowL (ps.map (prL l)) i == rowL (ps.map (prL l)) i) = true := by simp
      rw [e1]
      go_wp2
      go_ret
      exact ⟨rfl, (unhide HB7).trans ((unhide HBA).mono (unhide HB7).size)⟩
end Go.Proofs.Ytmafecagcglaoaa
