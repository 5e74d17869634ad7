/-
  The walk of the law CodeRead.
-/
import Derived.Test.YtmafecagcglaoabBook3
import Derived.Test.YtmafecagcglaoabCoded
import Derived.Test.YtmafecagcglaoabApp
namespace Go.Proofs.Ytmafecagcglaoab
open Go.RowKit Go.Maps
set_option linter.unusedVariables false
set_option maxRecDepth 100000

theorem outcome_det {l : List Int} {bs : List Nat} {p x y p1 p2 : Nat} {e f : Int} (h : Outcome l bs p x e p1) (k : Outcome l bs p y f p2) : x = y ∧ e = f ∧ p1 = p2 := by
  rcases h with ⟨a, a1, a2, a3, a4, a5, a6, a7, a8⟩ | ⟨a, a1, a2, a3, a4, a5, a6⟩ | ⟨a1, a2, a3, a4, a5⟩ <;>
  rcases k with ⟨b, b1, b2, b3, b4, b5, b6, b7, b8⟩ | ⟨b, b1, b2, b3, b4, b5, b6⟩ | ⟨b1, b2, b3, b4, b5⟩
  · have hab : a = b := by
      by_cases h1 : a < b
      · exact absurd a5 (b3 a a1 h1)
      · by_cases h2 : b < a
        · exact absurd b5 (a3 b b1 h2)
        · omega
    subst hab
    exact ⟨Option.some.inj (a8.symm.trans b8), a7.trans b7.symm, a6.trans b6.symm⟩
  · exact absurd a5 (b2 a a1 (by omega))
  · exact absurd a5 (b1 a a1 a2)
  · exact absurd b5 (a2 b b1 (by omega))
  · exact ⟨a6.trans b6.symm, a5.trans b5.symm, by omega⟩
  · omega
  · exact absurd b5 (a1 b b1 b2)
  · omega
  · exact ⟨a5.trans b5.symm, a4.trans b4.symm, by omega⟩
theorem readTo_det {l : List Int} {bs xs : List Nat} : ∀ {k p q : Nat}, ReadTo l bs xs k p → ReadTo l bs xs k q → p = q
  | 0, _, _, h, h' => h.trans h'.symm
  | k + 1, _, _, ⟨p, h1, h2⟩, ⟨q, g1, g2⟩ => by
    have := readTo_det h1 g1
    subst this
    exact (outcome_det h2 g2).2.2
theorem readTo_pre {l : List Int} {bs xs : List Nat} : ∀ {K P i : Nat}, ReadTo l bs xs K P → i < K → ∃ p p', ReadTo l bs xs i p ∧ Outcome l bs p (xs.getD i 0) 0 p'
  | 0, _, _, _, h => by omega
  | K + 1, P, i, ⟨p, h1, h2⟩, hi => by
    by_cases e : i = K
    · subst e; exact ⟨p, P, h1, h2⟩
    · exact readTo_pre h1 (by omega)

theorem codeRead_bad (v1 : Value) (l : List Int) (a : Option Addr) (len cap n2 c2 : Nat) (ad : Option Addr) (m pe bad : Int) (w : World) (hl : l.length = len) (hM : len ≤ 9223372036854775807) (hR : RowIn .i64 w a l)
    (hway : (errL l ≠ 0 ∧ pe = errL l) ∨ (errL l = 0 ∧ pe = 2 ∧ ((6000 : Int) < (n2 : Int) ∨ (¬ (6000 : Int) < (n2 : Int) ∧ m < 0) ∨ (¬ (6000 : Int) < (n2 : Int) ∧ ¬ m < 0 ∧ 3000 < m))))
    (hw : Hid (Calls Try.prog 9 #[.slice a len cap, .slice ad n2 c2, .int .i64 m] w fun e w' => e = .returned (.tuple #[.slice none 0 0, .int .i64 pe]) ∧ Below w.heap.size w w')) :
    Calls Try.prog 3 #[.slice a len cap, .slice ad n2 c2, .int .i64 m] w fun e w' => e = .returned (.bool true) ∧ Below w.heap.size w w' := by
  go_enter Try.func3, Try.ntmps3
  go_wp2_with fail
  refine (unhide hw).mono ?_
  rintro e w1 ⟨rfl, hB1⟩
  have HB1 := hide hB1
  have HR1 := hide (hR.below hB1 (Nat.le_refl _))
  clear hB1 hR
  go_wp2_with fail
  refine (checkLengths_any a len cap l w1 hl hM (unhide HR1)).mono ?_
  rintro e w2 ⟨rfl, hw2⟩
  rw [hw2]
  clear hw2 w2
  rcases hway with ⟨he, rfl⟩ | ⟨he, rfl, hc | ⟨hc1, hc2⟩ | ⟨hc1, hc2, hc3⟩⟩
  case' inl =>
    have hb : (errL l != 0) = true := by rw [bne_iff_ne]; exact he
    have hb2 : (errL l == 0) = false := by rw [beq_eq_false_iff_ne]; exact he
    have hee : (errL l == errL l) = true := by simp
    clear he
    generalize errL l = E at *
  case' inr.inl => rw [he]
  case' inr.inr.inl => rw [he]
  case' inr.inr.inr => rw [he]
  all_goals
    go_wp2_with fail
    refine (coded_any _).mono ?_
    rintro e w4 ⟨rfl, hB4⟩
    have HB4 := hide ((unhide HB1).trans (hB4.mono (unhide HB1).size))
    clear hB4
    go_wp2_with fail
    refine (coded_any _).mono ?_
    rintro e w5 ⟨rfl, hB5⟩
    have HB5 := hide ((unhide HB4).trans (hB5.mono (unhide HB4).size))
    clear hB5
    go_wp2
    go_ret
    exact ⟨rfl, unhide HB5⟩

/-- what Read has answered: K places, all that were asked for, or an error behind them -/
def ReadAns (l : List Int) (bs xs : List Nat) (m K : Nat) (e : Int) : Prop :=
  (K = m ∧ e = 0 ∧ xs.length = m ∧ ∃ p, ReadTo l bs xs m p) ∨ (K < m ∧ e ≠ 0 ∧ ∃ p p', ReadTo l bs xs K p ∧ Outcome l bs p 0 e p')

/-- the first i of the places -/
def wl (xs : List Nat) (i : Nat) : List Nat := (List.range i).map fun j => xs.getD j 0
theorem wl_next (xs : List Nat) (i : Nat) : wl xs (i + 1) = wl xs i ++ [xs.getD i 0] := by unfold wl; rw [List.range_succ, List.map_append]; rfl
theorem wl_all (xs : List Nat) : wl xs xs.length = xs := by
  apply List.ext_getElem
  · simp [wl]
  · intro j h1 h2
    simp [wl, List.getD, h2]
theorem text_drop (bs : List Nat) (n2 p u : Nat) : (text ((rowB bs n2).drop p)).extract u (8 * n2 - p) = text ((rowB bs n2).drop (p + u)) := by
  have hl := rowB_length bs n2
  apply ByteArray.ext
  simp only [text, ByteArray.data_extract]
  rw [List.extract_toArray]
  congr 1
  rw [List.extract_eq_drop_take', List.take_of_length_le (by simp; omega), ← List.map_drop, List.drop_drop]

set_option maxHeartbeats 4000000 in
theorem codeRead_ok (a : Option Addr) (len cap : Nat) (l : List Int) (ad : Option Addr) (n2 c2 : Nat) (bs : List Nat) (m : Nat) (w : World) (hl : l.length = len) (hR : RowIn .i64 w a l) (hG : Good l)
    (hl2 : bs.length = n2) (hn : n2 ≤ 6000) (hx : ∀ j, bs.getD j 0 < 256) (hB2 : BytesIn w ad bs) (hm : m ≤ 3000) :
    Calls Try.prog 3 #[.slice a len cap, .slice ad n2 c2, .int .i64 (m : Int)] w fun e w' => e = .returned (.bool true) ∧ Below w.heap.size w w' := by
  have hlen := hG.len
  have hM : len ≤ 9223372036854775807 := by omega
  have EE := hide (good_errL hG)
  have HG := hide hG
  have HX := hide hx
  have k1 : ¬ (6000 : Int) < (n2 : Int) := by omega
  have k2 : ¬ (m : Int) < 0 := by omega
  have k3 : ¬ (3000 : Int) < (m : Int) := by omega
  go_enter Try.func3, Try.ntmps3
  go_wp2_with fail
  refine (read_ok a len cap l ad n2 c2 bs m w hl hR hG hl2 hn hx hB2 hm).mono ?_
  rintro e w1 ⟨hB1, hans⟩
  obtain ⟨vp, np, cp, e1, K, xs, hans2, rfl, hvp⟩ : ∃ (vp : Option Addr) (np cp : Nat) (e1 : Int) (K : Nat) (xs : List Nat), ReadAns l bs xs m K e1 ∧ e = .returned (.tuple #[.slice vp np cp, .int .i64 e1]) ∧ ((e1 = 0 ∧ np = m ∧ RowIn .i64 w1 vp (xs.map fun x : Nat => (x : Int))) ∨ (e1 ≠ 0 ∧ np = 0)) := by
    rcases hans with ⟨g, xs, p, rfl, h2, h3, h4⟩ | ⟨xs, k, p, p', err, rfl, h2, h3, h4, h5⟩
    · exact ⟨_, _, _, 0, m, xs, .inl ⟨rfl, rfl, h2, p, h4⟩, rfl, .inl ⟨rfl, rfl, RowIn.own h3⟩⟩
    · exact ⟨_, _, _, err, k, xs, .inr ⟨h3, h2, p, p', h4, h5⟩, rfl, .inr ⟨h2, rfl⟩⟩
  have HAns := hide hans2
  have HVP := hide hvp
  have HB1 := hide hB1
  have HR1 := hide (hR.below hB1 (Nat.le_refl _))
  have HY1 := hide (hB2.below hB1 (Nat.le_refl _))
  clear hans hans2 hvp hB1 hR hB2 hG hx
  go_wp2_with fail
  refine (checkLengths_any a len cap l w1 hl hM (unhide HR1)).mono ?_
  rintro e w2 ⟨rfl, hw2⟩
  rw [hw2, unhide EE]
  clear hw2 w2
  go_wp2_with fail
  refine (coded_any _).mono ?_
  rintro e w4 ⟨rfl, hB4⟩
  have HB4 := hide ((unhide HB1).trans (hB4.mono (unhide HB1).size))
  have HR4 := hide ((unhide HR1).below hB4 (Nat.le_refl _))
  have HY4 := hide ((unhide HY1).below hB4 (Nat.le_refl _))
  have HV4 : Hid ((e1 = 0 ∧ np = m ∧ RowIn .i64 w4 vp (xs.map fun x : Nat => (x : Int))) ∨ (e1 ≠ 0 ∧ np = 0)) := by
    rcases unhide HVP with ⟨h1, h2, h3⟩ | h
    · exact .inl ⟨h1, h2, h3.below hB4 (Nat.le_refl _)⟩
    · exact .inr h
  clear hB4 HVP HR1 HY1 HB1
  go_wp2_with fail
  refine (codebook_any a len cap l w4 hl (unhide HR4) (unhide HG)).mono ?_
  rintro e w5 ⟨b, nn, rfl, hb5, hM5, hB5⟩
  have HB5 := hide ((unhide HB4).trans (hB5.mono (unhide HB4).size))
  have HY5 := hide ((unhide HY4).below hB5 (Nat.le_refl _))
  have HV5 : Hid ((e1 = 0 ∧ np = m ∧ RowIn .i64 w5 vp (xs.map fun x : Nat => (x : Int))) ∨ (e1 ≠ 0 ∧ np = 0)) := by
    rcases unhide HV4 with ⟨h1, h2, h3⟩ | h
    · exact .inl ⟨h1, h2, h3.below hB5 (Nat.le_refl _)⟩
    · exact .inr h
  have HM5 := hide hM5
  have hbl := hM5.lt
  clear hB5 hM5 HV4 HY4 HR4 HB4
  go_wp2_with fail
  refine (rowOf_in ad n2 c2 bs w5 hl2 (unhide HX) (by omega) (unhide HY5)).mono ?_
  rintro e w6 ⟨rfl, hB6⟩
  have HB6 := hide ((unhide HB5).trans (hB6.mono (unhide HB5).size))
  have HV6 : Hid ((e1 = 0 ∧ np = m ∧ RowIn .i64 w6 vp (xs.map fun x : Nat => (x : Int))) ∨ (e1 ≠ 0 ∧ np = 0)) := by
    rcases unhide HV5 with ⟨h1, h2, h3⟩ | h
    · exact .inl ⟨h1, h2, h3.below hB6 (Nat.le_refl _)⟩
    · exact .inr h
  have HM6 : Hid (BookIs w6 b nn (bookD l l.length)) := by
    have := (unhide HM5).kept (below_grown hB6) (by simp)
    rw [hl]; exact this
  have hz6 := hB6.size
  clear hB6 HV5 HY5 HB5 HM5
  go_wp2
  go_loopw [11, 12, 62] (fun vr vw vi wr => ∃ (i p : Nat), i ≤ K ∧ K ≤ m ∧ vi = .int .i64 (i : Int) ∧ vr = .string (text ((rowB bs n2).drop p)) ∧ ReadTo l bs xs i p ∧ p ≤ 8 * n2 ∧ wr.ownsRow w6.heap.size 3 1 vw i (i64s (wl xs i)) ∧ Below w6.heap.size w6 wr) (fun _ _ vi _ => m - (intOf vi).toNat)
  case atStart => exact ⟨0, 0, Nat.zero_le _, by rcases unhide HAns with ⟨h, _⟩ | ⟨h, _⟩ <;> omega, rfl, rfl, rfl, Nat.zero_le _, World.ownsRow_nil _ _ _ _, Below.refl _ _⟩
  case round =>
    rename_i vw _
    obtain ⟨i, p, hiK, hKm, rfl, rfl, hRT, hp8, hW, hB⟩ := hrel
    obtain ⟨va, vc, rfl⟩ := own_slice hW
    have HRT := hide hRT
    have HW := hide hW
    have HBr := hide hB
    have hzr := hB.size
    have HMr := hide ((unhide HM6).kept (below_grown hB) (by simp))
    clear hRT hW hB
    by_cases hlt : i < K
    · have him : (i : Int) < (m : Int) := by omega
      have HPre : Hid (∃ p', Outcome l bs p (xs.getD i 0) 0 p') := by
        have hans : ∃ P, ReadTo l bs xs K P := by
          rcases unhide HAns with ⟨h1, _, _, P, h⟩ | ⟨_, _, P, _, h, _⟩
          · rw [h1]; exact ⟨P, h⟩
          · exact ⟨P, h⟩
        obtain ⟨P, hP⟩ := hans
        obtain ⟨p0, p', h1, h2⟩ := readTo_pre hP hlt
        have := readTo_det h1 (unhide HRT)
        subst this
        exact ⟨p', h2⟩
      go_wp2_with fail
      refine (next_any l (unhide HG) b nn bs n2 p wr hl2 hn hp8 (unhide HMr)).mono ?_
      rintro e w7 ⟨x, u, p'', err, rfl, hw7, hout, hp', hu⟩
      rw [hw7]
      obtain ⟨p', hp'o⟩ := unhide HPre
      obtain ⟨d1, d2, d3⟩ := outcome_det hout hp'o
      have hu2 := hu d2
      have HRn : Hid (ReadTo l bs xs (i + 1) (p + u)) := ⟨p, unhide HRT, by rw [← hu2, d3]; exact hp'o⟩
      subst d2
      have hpu : p + u ≤ 8 * n2 := by omega
      have HXv : Hid (x = xs.getD i 0) := d1
      clear hw7 w7 hout hp' hu hp'o d1 d3 hu2 HPre p' p''
      have hsz : (text ((rowB bs n2).drop p)).size = 8 * n2 - p := by rw [text_size, List.length_drop, rowB_length]
      have hex : (text ((rowB bs n2).drop p)).extract u (8 * n2 - p) = text ((rowB bs n2).drop (p + u)) := text_drop bs n2 p u
      have hu8 : (u : Int) ≤ ((8 * n2 - p : Nat) : Int) := by omega
      generalize text ((rowB bs n2).drop p) = T at *
      generalize hT2 : text ((rowB bs n2).drop (p + u)) = T2 at *
      have HT2 := hide hT2
      clear hT2
      have hi3 : i ≤ 3000 := by omega
      go_wp2
      go_region_held3 (fun _ => True) (trivial) (first | (refine step_app rfl (.tmp 81) (.tmp 83) rfl wr w6.heap.size _ i _ rfl (unhide HW) hi3 hzr _ rfl (x : Int) (by repeat (first | with_reducible exact grown_refl _ _ | with_reducible refine grown_drew ?_ | with_reducible refine ga ?_ _)) (by repeat (first | with_reducible refine cell_drew ?_ | with_reducible exact cell_last (by simp) | with_reducible exact cell_prev (by simp))) ?_; intro g5 cap5 w5' A5))
      all_goals
        have HA := hide A5.own
        have HBn := hide (A5.below (unhide HBr) hzr)
        have EW : Hid (i64s (wl xs (i + 1)) = i64s (wl xs i) ++ [.int .i64 (x : Int)]) := by unfold Hid; rw [wl_next, i64s, List.map_append, ← unhide HXv]; rfl
        clear A5
        go_wp2
        go_roundw
        case rel => exact ⟨i + 1, p + u, by omega, hKm, by go_num, by rw [unhide HT2], unhide HRn, hpu, by rw [unhide EW]; exact unhide HA, unhide HBn⟩
        case measure => simp [intOf]; omega
    · obtain rfl : i = K := by omega
      rcases unhide HAns with ⟨h1, h2, h3, P, h4⟩ | ⟨h1, h2, P, P', h4, h5⟩
      · subst h1 h2
        have HV7 : Hid (np = i ∧ RowIn .i64 wr vp (xs.map fun x : Nat => (x : Int))) := by
          rcases unhide HV6 with ⟨_, q2, q3⟩ | ⟨q, _⟩
          · exact ⟨q2, q3.below (unhide HBr) (Nat.le_refl _)⟩
          · exact absurd rfl q
        have HW7 : Hid (RowIn .i64 wr va (xs.map fun x : Nat => (x : Int))) := by
          have hO := unhide HW
          rw [show wl xs i = xs by rw [← h3]; exact wl_all xs] at hO
          by_cases h0 : i = 0
          · exact .inl (by rw [List.map_eq_nil_iff]; exact List.eq_nil_of_length_eq_zero (by omega))
          · obtain ⟨g, c, e, _⟩ := own_form hO (by omega)
            rw [e] at hO
            cases e
            exact RowIn.own hO
        have hno : ¬ (i : Int) < (i : Int) := by omega
        obtain rfl := (unhide HV7).1
        have hxl : (xs.map fun x : Nat => (x : Int)).length = np := by rw [List.length_map]; exact h3
        clear h3 h4 HAns HV6
        go_wp2_with fail
        refine (equal_in _ _ _ _ _ _ (xs.map fun x : Nat => (x : Int)) (xs.map fun x : Nat => (x : Int)) _ hxl hxl (by omega) (by omega) (unhide HV7).2 (unhide HW7)).mono ?_
        rintro e w8 ⟨rfl, q8, rfl⟩
        have e9 : ((xs.map fun x : Nat => (x : Int)) == (xs.map fun x : Nat => (x : Int))) = true := by simp
        rw [e9]
        go_wp2
        go_ret
        exact ⟨rfl, below_drewN ((unhide HB6).trans ((unhide HBr).mono (unhide HB6).size)) q8⟩
      · have him : (i : Int) < (m : Int) := by omega
        have hpe := readTo_det h4 (unhide HRT)
        subst hpe
        have hnp : np = 0 := by
          rcases unhide HV6 with ⟨q, _⟩ | ⟨_, q⟩
          · exact absurd q h2
          · exact q
        subst hnp
        go_wp2_with fail
        refine (next_any l (unhide HG) b nn bs n2 P wr hl2 hn hp8 (unhide HMr)).mono ?_
        rintro e w7 ⟨x, u, p'', err, rfl, hw7, hout, _, _⟩
        rw [hw7]
        obtain ⟨d1, d2, d3⟩ := outcome_det hout h5
        subst d1 d2
        have hb1 : (err != 0) = true := by rw [bne_iff_ne]; exact h2
        have hb2 : (err == err) = true := by simp
        clear hw7 w7 hout d3 h5 h2 h4 HAns HV6
        go_wp2
        go_ret
        exact ⟨rfl, (unhide HB6).trans ((unhide HBr).mono (unhide HB6).size)⟩
end Go.Proofs.Ytmafecagcglaoab
