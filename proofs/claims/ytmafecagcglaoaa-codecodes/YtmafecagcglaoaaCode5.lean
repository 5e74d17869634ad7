/-
  What code.Write answers.
-/
import Derived.Test.YtmafecagcglaoaaCode4
import Derived.Test.YtmafecagcglaoaaPack
namespace Go.Proofs.Ytmafecagcglaoaa
open Go.RowKit
set_option linter.unusedVariables false

def okPlace (l : List Int) (p : Int) : Bool := decide (0 ≤ p ∧ p < (l.length : Int) ∧ l.getD p.toNat 0 ≠ 0)
theorem okPlace_true {l : List Int} {p : Int} (h : okPlace l p = true) : 0 ≤ p ∧ p < (l.length : Int) ∧ l.getD p.toNat 0 ≠ 0 := of_decide_eq_true h
theorem okPlace_false {l : List Int} {p : Int} (h : okPlace l p = false) : ¬ (0 ≤ p ∧ p < (l.length : Int) ∧ l.getD p.toNat 0 ≠ 0) := of_decide_eq_false h
/-- what is packed of place p -/
def prL (l : List Int) (p : Int) : Int × Int := (((turnL (codeN l p.toNat) (l.getD p.toNat 0).toNat : Nat) : Int), l.getD p.toNat 0)

theorem prL_fit (l : List Int) (h : Good l) {p : Int} (hp : okPlace l p = true) : fitsB (prL l p).1 (prL l p).2 = true := by
  obtain ⟨h0, h1, h2⟩ := okPlace_true hp
  have hk : p.toNat < l.length := by omega
  obtain ⟨n, hn⟩ := Int.eq_ofNat_of_zero_le (h.ok _ hk).1
  have h15 := (h.ok _ hk).2
  unfold prL
  rw [hn] at h2 h15 ⊢
  rw [Int.toNat_natCast]
  refine decide_eq_true ⟨by omega, by omega, by omega, ?_⟩
  rw [Int.toNat_natCast]
  have := turnL_lt (codeN l p.toNat) n
  have : ((turnL (codeN l p.toNat) n : Nat) : Int) < ((2 ^ n : Nat) : Int) := by omega
  push_cast at this
  exact this

theorem write_err (a : Option Addr) (len cap : Nat) (l : List Int) (v : Value) (w : World) (hl : l.length = len) (hM : len ≤ 9223372036854775807) (hR : RowIn .i64 w a l) (he : errL l ≠ 0) :
    Calls Try.prog 30 #[.slice a len cap, v] w fun e w' => e = .returned (.tuple #[.slice none 0 0, .int .i64 (errL l)]) ∧ Below w.heap.size w w' := by
  have hb : (errL l != 0) = true := by rw [bne_iff_ne]; exact he
  go_enter Try.func30, Try.ntmps30
  go_wp2_with fail
  refine (codes_err a len cap l w hl hM hR he).mono ?_
  rintro e w1 ⟨rfl, hB1⟩
  have HB := hide hB1
  clear hB1 he
  go_wp2
  go_ret2
  exact ⟨rfl, unhide HB⟩

theorem write_many (a : Option Addr) (len cap : Nat) (l : List Int) (a2 : Option Addr) (len2 cap2 : Nat) (w : World) (hl : l.length = len) (hR : RowIn .i64 w a l) (hG : Good l) (hm : 3000 < len2) (hM2 : len2 ≤ 9223372036854775807) :
    Calls Try.prog 30 #[.slice a len cap, .slice a2 len2 cap2] w fun e w' => e = .returned (.tuple #[.slice none 0 0, .int .i64 2]) ∧ Below w.heap.size w w' := by
  go_enter Try.func30, Try.ntmps30
  go_wp2_with fail
  refine (codes_ok a len cap l w hl hR hG).mono ?_
  rintro e w1 ⟨g, rfl, _, hB1, _⟩
  have HB := hide hB1
  clear hB1
  go_wp2
  go_ret2
  exact ⟨rfl, unhide HB⟩

theorem own_base {w : World} {B B' e size n : Nat} {v : Value} {xs : List Value} (h : w.ownsRow B e size v n xs) (hB : B' ≤ B) : w.ownsRow B' e size v n xs := by
  refine ⟨h.1, ?_⟩
  rcases h.2 with h | ⟨g, cap, cur, h1, h2, h3⟩
  · exact .inl h
  · exact .inr ⟨g, cap, cur, h1, by omega, h3⟩

theorem info_pair : (Try.prog.info? 34).map (fun i => (i.zero, i.size, i.bytes)) = some (some (.agg #[.int .i64 0, .int .i64 0]), 2, 16) := by kernel_rfl

set_option maxHeartbeats 2000000 in
set_option maxRecDepth 100000 in
theorem write_ok (a : Option Addr) (len cap : Nat) (l : List Int) (a2 : Option Addr) (len2 cap2 : Nat) (ps : List Int) (w : World) (hl : l.length = len) (hR : RowIn .i64 w a l) (hG : Good l)
    (hl2 : ps.length = len2) (hm : len2 ≤ 3000) (hR2 : RowIn .i64 w a2 ps) (hall : ∀ j, j < len2 → okPlace l (ps.getD j 0) = true) :
    Calls Try.prog 30 #[.slice a len cap, .slice a2 len2 cap2] w fun e w' => ∃ g nb, e = .returned (.tuple #[.slice (some ⟨g, 0, none⟩) nb nb, .int .i64 0]) ∧
      nb = (atL (ps.map (prL l)) len2 + 7) / 8 ∧ w'.ownsRow w.heap.size 5 1 (.slice (some ⟨g, 0, none⟩) nb nb) nb (u8s (rowL (ps.map (prL l)) len2)) ∧ Below w.heap.size w w' ∧ w.heap.size ≤ g := by
  obtain ⟨i0, hi, hz0, hz1, hz2⟩ := info_parts info_pair
  have hlen := hG.len
  have HG := hide hG
  have HR := hide hR
  have HR2 := hide hR2
  have HL := hide hl
  have HL2 := hide hl2
  have HALL := hide hall
  go_enter Try.func30, Try.ntmps30
  go_wp2_with fail
  refine (codes_ok a len cap l w hl hR hG).mono ?_
  rintro e w1 ⟨gc, rfl, hOc, hB1, hgc⟩
  have hz := hB1.size
  have HB1 := hide hB1
  have HOc := hide hOc
  have hgcl := (hOc.lt gc rfl).2
  clear hB1 hOc hR hR2 hG hall
  go_wp2_with (at_make; refine wpList_make_full _ rfl _ _ 27 rfl w.heap.size 34 i0 (.agg #[.int .i64 0, .int .i64 0]) 2 Try.underlying27 hi hz0 hz1 _ _ _ _ len2 rfl rfl rfl rfl (by rw [hz2]; omega) (by unfold maxLen; omega) (by omega) ?_)
  intro w2 hown2 hgrow2
  have HO := hide hown2
  have HB2 := hide ((unhide HB1).grown hgrow2 (by omega) (fun j h => by cases h))
  have HOc2 := hide (own_kept (unhide HOc) hgrow2)
  have hg1 : w.heap.size ≤ w1.heap.size := hz
  have hgne : gc ≠ w1.heap.size := by omega
  clear hown2 hgrow2 HOc HB1
  generalize w1.heap.size = g at *
  go_wp2
  go_loopw [29] (fun i wr => ∃ (k : Nat) (xs : List Value), k ≤ len2 ∧ i = .int .i64 k ∧ wr.ownsRow w.heap.size 34 2 (.slice (some ⟨g, 0, none⟩) len2 len2) len2 xs ∧
      (∀ j, j < k → xs[j * 2]? = some (.int .i64 (prL l (ps.getD j 0)).1) ∧ xs[j * 2 + 1]? = some (.int .i64 (prL l (ps.getD j 0)).2)) ∧
      wr.ownsRow w.heap.size 3 1 (.slice (some ⟨gc, 0, none⟩) len len) len (i64s (codL l len)) ∧ Below w.heap.size w wr) (fun i _ => len2 - (intOf i).toNat)
  case atStart => exact ⟨0, _, Nat.zero_le _, rfl, unhide HO, fun j h => by omega, unhide HOc2, unhide HB2⟩
  case round =>
    obtain ⟨k, xs, hk, rfl, hO, hxs, hOc, hB⟩ := hrel
    have HO1 := hide hO
    have HX := hide hxs
    have HC1 := hide hOc
    have HB1 := hide hB
    have hxl : xs.length = len2 * 2 := hO.1
    by_cases hlt : k < len2
    · have hlk : k < ps.length := by omega
      obtain ⟨b2, o2, rfl, hb2, hR2⟩ : ∃ b o, a2 = some ⟨b, o, none⟩ ∧ b < w.heap.size ∧ Row .i64 w b o ps := by
        rcases unhide HR2 with rfl | h
        · simp at hlk
        · exact h
      have c1 := (hB.cell (p := ⟨b2, o2 + k, none⟩) hb2).trans (hR2 k hlk)
      have hfit := prL_fit l (unhide HG) (unhide HALL k hlt)
      obtain ⟨h0, h1, h2⟩ := okPlace_true (unhide HALL k hlt)
      obtain ⟨p, hp⟩ := Int.eq_ofNat_of_zero_le h0
      have HP := hide hp
      rw [hp] at c1 h1 h2 hfit
      rw [Int.toNat_natCast] at h2
      have hpl : p < l.length := by omega
      obtain ⟨b, o, rfl, hb, hR⟩ : ∃ b o, a = some ⟨b, o, none⟩ ∧ b < w.heap.size ∧ Row .i64 w b o l := by
        rcases unhide HR with rfl | h
        · simp at hpl
        · exact h
      have c2 := (hB.cell (p := ⟨b, o + p, none⟩) hb).trans (hR p hpl)
      have hok := (unhide HG).ok p hpl
      obtain ⟨n, hn⟩ := Int.eq_ofNat_of_zero_le hok.1
      have hn15 := hok.2
      rw [hn] at c2 h2 hn15
      have c3 : wr.cell? ⟨gc, p, none⟩ = some (.int .i64 ((codeN l p : Nat) : Int)) := by
        rw [hOc.cellAt p (by simp; omega)]
        have e := codL_at l hpl len
        rw [if_pos (by omega)] at e
        have hpl2 : p < (codL l len).length := by rw [codL_length]; exact hpl
        have e2 : (codL l len)[p] = codeN l p := by simpa [List.getD, hpl2] using e
        simp [i64s, hpl2, e2]
      obtain ⟨x0, hx0⟩ : ∃ x, xs[k * 2]? = some x := ⟨xs[k * 2], by simp⟩
      obtain ⟨x1, hx1⟩ : ∃ x, xs[k * 2 + 1]? = some x := ⟨xs[k * 2 + 1], by simp⟩
      have g0 := (hO.cellAt (k * 2) (by omega)).trans hx0
      have g1 := (hO.cellAt (k * 2 + 1) (by omega)).trans hx1
      have f0 := hO.frozenAt (k * 2)
      have f1 := hO.frozenAt (k * 2 + 1)
      have hcl := (code_lt l (unhide HG) hpl hn (by omega)).2.2
      have hp16 := pow_le_16 (k := n) (by omega)
      have hpr : prL l (p : Int) = (((turnL (codeN l p) n : Nat) : Int), (n : Int)) := by unfold prL; rw [Int.toNat_natCast, hn, Int.toNat_natCast]
      rw [hpr] at hfit
      have hfit2 : fitsB ((codeN l p : Nat) : Int) (n : Int) = true := decide_eq_true ⟨by omega, by omega, by omega, by
        rw [Int.toNat_natCast]
        have : ((codeN l p : Nat) : Int) < ((2 ^ n : Nat) : Int) := by omega
        push_cast at this
        exact this⟩
      have HPR := hide hpr
      have HF := hide hfit2
      have hne : ((n : Int) == 0) = false := by rw [beq_eq_false_iff_ne]; exact h2
      have hm16 : codeN l p < 65536 := by omega
      have hpl3 : (p : Int) < (len : Int) := by omega
      clear hO hxs hOc hB hR2 hR hfit hp h0 h1 h2 hok hn hfit2 hpr hx0 hx1 hcl hp16
      generalize codeN l p = m at *
      go_wp2
      go_quiet ((go_at_call 18; refine Calls.quiet_of_same (turn_yes m n _ (unhide HF) (by omega) hm16)))
      go_wp2
      go_roundw
      case rel =>
        have s1 := World.ownsRow.stored (w := wr.drewN nq) (unhide HO1) (k * 2) (.int .i64 ((turnL m n : Nat) : Int))
        have s2 := s1.1.stored (k * 2 + 1) (.int .i64 (n : Int))
        refine ⟨k + 1, _, by omega, by go_num, s2.1, ?_, ?_, ((below_drewN (unhide HB1) nq).setCell (by simp; omega) _).setCell (by simp; omega) _⟩
        · intro j hj
          by_cases e : j = k
          · subst e
            rw [unhide HP, unhide HPR]
            constructor
            · rw [List.getElem?_set_ne (by omega), List.getElem?_set_self (by omega)]
            · rw [List.getElem?_set_self (by rw [List.length_set]; omega)]
          · have h := unhide HX j (by omega)
            constructor
            · rw [List.getElem?_set_ne (by omega), List.getElem?_set_ne (by omega)]; exact h.1
            · rw [List.getElem?_set_ne (by omega), List.getElem?_set_ne (by omega)]; exact h.2
        · have hk1 : (wr.drewN nq).ownsRow w.heap.size 3 1 (.slice (some ⟨gc, 0, none⟩) len len) len (i64s (codL l len)) := unhide HC1
          exact (hk1.kept s1.2 (.inr (by simp [Value.ownBlock]; omega))).kept s2.2 (.inr (by simp [Value.ownBlock]; omega))
      case measure => simp [intOf]; omega
    · obtain rfl : k = len2 := by omega
      have hgl := (hO.lt g rfl).2
      have hml : (ps.map (prL l)).length = k := by simp; omega
      have hget : ∀ j, j < k → (ps.map (prL l)).getD j (0, 0) = prL l (ps.getD j 0) := fun j hj => by
        have : j < ps.length := by omega
        simp [List.getD, this]
      have HPa : Hid (Pairs wr g 0 (ps.map (prL l))) := fun j hj => by
        have hj' : j < k := by omega
        rw [hget j hj', Nat.zero_add]
        exact ⟨(hO.cellAt (j * 2) (by omega)).trans (hxs j hj').1, (hO.cellAt (j * 2 + 1) (by omega)).trans (hxs j hj').2⟩
      have HAF : Hid (AllFit (ps.map (prL l))) := fun j hj => by
        have hj' : j < k := by omega
        rw [hget j hj']
        exact prL_fit l (unhide HG) (unhide HALL j hj')
      clear hO hxs hOc hB hget
      go_wp2_with fail
      refine (pack_yes g 0 k k (ps.map (prL l)) wr hml hm hgl (unhide HPa) (unhide HAF)).mono ?_
      rintro e w5 ⟨g5, rfl, hO5, hB5, hg5⟩
      have HO5 := hide (own_base hO5 (unhide HB1).size)
      have HB5 := hide ((unhide HB1).trans (hB5.mono (unhide HB1).size))
      have hz5 := (unhide HB1).size
      clear hO5 hB5
      go_wp2
      go_ret2
      exact ⟨g5, _, rfl, rfl, unhide HO5, unhide HB5, by omega⟩
end Go.Proofs.Ytmafecagcglaoaa
