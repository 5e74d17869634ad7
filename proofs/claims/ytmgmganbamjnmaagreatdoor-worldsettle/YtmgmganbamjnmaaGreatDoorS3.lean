/-
  Rows of texts of a call's own.
-/
import Derived.Test.YtmgmganbamjnmaaGreatDoorS2
import Derived.Test.YtmgmganbamjnmaaGreatDoorQ1
namespace Go.Proofs.YtmgmganbamjnmaaGreatDoor
open Go.RowKit
set_option linter.unusedVariables false
set_option maxRecDepth 100000

/-- v is a row of the call's own, from block b on, that holds the texts ps -/
def SRow (w : World) (b : Nat) (v : Value) (ps : List (List UInt8)) : Prop := w.ownsRow b 9 1 v ps.length (strV ps)
theorem strV_len (ps : List (List UInt8)) : (strV ps).length = ps.length := by simp [strV]
theorem SRow.nil (w : World) (b : Nat) : SRow w b (.slice none 0 0) [] := World.ownsRow_nil _ _ _ _
theorem SRow.new (w : World) (ps : List (List UInt8)) (h : ps.length ≤ maxLen) : SRow (w.alloc (.cells (strV ps).toArray 9)) w.heap.size (.slice (some ⟨w.heap.size, 0, none⟩) ps.length ps.length) ps :=
  ⟨by rw [strV_len]; omega, .inr ⟨w.heap.size, ps.length, (strV ps).toArray, rfl, Nat.le_refl _, heap_alloc_new w _, Nat.le_refl _, h, by simp [strV_len], by simp [← strV_len]⟩⟩
theorem SRow.below {w w' : World} {b : Nat} {v : Value} {ps : List (List UInt8)} (h : SRow w b v ps) (hg : Below w.heap.size w w') : SRow w' b v ps := own_below h hg
theorem SRow.drewN {w : World} {b : Nat} {v : Value} {ps : List (List UInt8)} (h : SRow w b v ps) (n : Nat) : SRow (w.drewN n) b v ps := h.below (below_drewN (Below.refl _ _) n)
theorem SRow.mono {w : World} {b c : Nat} {v : Value} {ps : List (List UInt8)} (h : SRow w b v ps) (hc : c ≤ b) : SRow w c v ps := by
  obtain ⟨h1, h2⟩ := h
  refine ⟨h1, h2.imp id ?_⟩
  rintro ⟨g, cap, cur, a1, a2, a3⟩
  exact ⟨g, cap, cur, a1, Nat.le_trans hc a2, a3⟩
/-- what it is -/
theorem SRow.cases {w : World} {b : Nat} {v : Value} {ps : List (List UInt8)} (h : SRow w b v ps) : (v = .slice none 0 0 ∧ ps = []) ∨ ∃ g cap, v = .slice (some ⟨g, 0, none⟩) ps.length cap ∧ b ≤ g ∧ g < w.heap.size ∧ ps.length ≤ cap ∧ cap ≤ maxLen ∧ ∀ j x, (ps.map B)[j]? = some x → w.cell? ⟨g, 0 + j, none⟩ = some (.string x) := by
  obtain ⟨h1, h2 | ⟨g, cap, cur, a1, a2, a3, a4, a5, a6, a7⟩⟩ := h
  · exact .inl ⟨h2.1, List.length_eq_zero_iff.1 h2.2⟩
  · have hg : g < w.heap.size := by
      rcases Nat.lt_or_ge g w.heap.size with h' | h'
      · exact h'
      · simp [Array.getElem?_eq_none h'] at a3
    refine .inr ⟨g, cap, a1, a2, hg, a4, a5, ?_⟩
    intro j x hx
    have hj : j < ps.length := by
      rcases Nat.lt_or_ge j ps.length with h' | h'
      · exact h'
      · rw [List.getElem?_eq_none (by simpa using h')] at hx; exact absurd hx (by simp)
    rw [Nat.zero_add, Lib.cell_of_heap a3]
    have e : (cur.toList.take (ps.length * 1))[j]? = (strV ps)[j]? := by rw [a7]
    rw [List.getElem?_take, if_pos (by omega)] at e
    simp only [strV, List.getElem?_map] at e hx
    rw [← Array.getElem?_toList, e]
    cases hp : ps[j]? with
    | none => rw [hp] at hx; exact absurd hx (by simp)
    | some p => rw [hp] at hx; simp at hx ⊢; exact hx
/-- its last text taken off -/
theorem SRow.cut {w : World} {b g cap : Nat} {ps : List (List UInt8)} (h : SRow w b (.slice (some ⟨g, 0, none⟩) ps.length cap) ps) : SRow w b (.slice (some ⟨g, 0, none⟩) (ps.length - 1) cap) ps.dropLast := by
  obtain ⟨h1, h2 | ⟨g', cap', cur, a1, a2, a3, a4, a5, a6, a7⟩⟩ := h
  · exact absurd h2.1 (by simp)
  · injection a1 with b1 b2 b3
    injection b1 with b1
    injection b1 with b1
    subst b1; subst b3
    refine ⟨by simp [strV_len], .inr ⟨g, cap, cur, by simp, a2, a3, by simp; omega, a5, a6, ?_⟩⟩
    simp only [List.length_dropLast, Nat.mul_one] at a7 ⊢
    have : strV ps.dropLast = (strV ps).take (ps.length - 1) := by
      simp [strV, List.dropLast_eq_take]
    rw [this, ← a7, List.take_take]
    congr 1
    omega
end Go.Proofs.YtmgmganbamjnmaaGreatDoor

/-
  Package name: Parts, Check, Under of any texts.
-/
namespace Go.Proofs.YtmgmganbamjnmaaGreatDoor
open Go.RowKit
set_option linter.unusedVariables false
set_option maxRecDepth 100000

/-- where all of a row may stand, or one doesn't -/
theorem errN_long {s : List UInt8} (h : 40 < s.length) : errN s = 2 := by unfold errN; rw [if_pos h]
theorem errN_bad {s : List UInt8} (h : s.length ≤ 40) {p : List UInt8} (hp : p ∈ spl s) (hb : okP p = false) : errN s = 1 := by
  unfold errN
  rw [if_neg (by omega), if_neg]
  intro hall
  have := List.all_eq_true.1 hall p hp
  rw [hb] at this
  exact absurd this (by simp)
theorem spl_le41 {s : List UInt8} (h : s.length ≤ 40) : (spl s).length ≤ 41 := by
  have := List.count_le_length (a := (47 : UInt8)) (l := s)
  rw [spl_len]
  omega

/-- the parts of a name; none of what is no name -/
def prow (s : List UInt8) : List (List UInt8) := if errN s = 0 then spl s else []
theorem prow_ok {s : List UInt8} (h : errN s = 0) : prow s = spl s := by unfold prow; rw [if_pos h]
theorem prow_bad {s : List UInt8} (h : errN s ≠ 0) : prow s = [] := by unfold prow; rw [if_neg h]
theorem below_new (w : World) (o : Obj) : Below w.heap.size w (w.alloc o) := (Below.refl _ _).alloc (Nat.le_refl _) o

set_option maxHeartbeats 1000000 in
theorem parts_any (s : List UInt8) (w : World) (hs : s.length ≤ maxLen) :
    Calls Tryz.prog 76 #[.string (B s)] w fun e w' => ∃ v, e = .returned (.tuple #[v, .int .i64 (errN s : Nat)]) ∧ SRow w' w.heap.size v (prow s) ∧ Below w.heap.size w w' ∧ (errN s ≠ 0 → v = .slice none 0 0) := by
  have hsz := B_size s
  unfold maxLen at hs
  by_cases h40 : 40 < s.length
  · have HE := hide (errN_long h40)
    have h40' : 40 < (B s).size := by rw [hsz]; omega
    have hms : (B s).size ≤ 9223372036854775807 := by rw [hsz]; omega
    clear hsz h40 hs
    generalize B s = t at *
    go_enter Tryz.func76, Tryz.ntmps76
    go_wp2
    go_ret2
    rw [prow_bad (by rw [unhide HE]; decide), unhide HE]
    exact ⟨_, rfl, SRow.nil _ _, Below.refl _ _, fun _ => rfl⟩
  · have hsp := split_any (B s) w (by rw [hsz]; omega)
    rw [data_B] at hsp
    have h40' : (B s).size ≤ 40 := by rw [hsz]; omega
    have h41 := spl_le41 (s := s) (by omega)
    have HR := hide (SRow.new w (spl s) (by unfold maxLen; omega))
    have HE := hide (fun p hp hb => errN_bad (s := s) (p := p) (by omega) hp hb)
    have HO := hide (errN_of (l := s) (by omega))
    have hmem : ∀ p ∈ spl s, p.length ≤ s.length := spl_le s
    obtain ⟨L, hL⟩ : ∃ L, (spl s).length = L := ⟨_, rfl⟩
    rw [hL] at hsp HR h41
    have HL := hide hL
    have HC : Hid (∀ j (hj : j < (spl s).length) (W : World), Below (w.heap.size + 1) (w.alloc (.cells (strV (spl s)).toArray 9)) W → W.cell? ⟨w.heap.size, j, none⟩ = some (.string (B ((spl s)[j]'hj)))) := by
      intro j hj W hW
      rw [hW.cell (p := ⟨w.heap.size, j, none⟩) (Nat.lt_succ_self _), World.cell?_alloc_at _ _ _ _ rfl]
      simp [strV, hj]
    have hs40 : s.length ≤ 40 := by omega
    clear hL hsz h40 hs
    generalize B s = t at *
    go_enter Tryz.func76, Tryz.ntmps76
    go_wp2_with (go_at_call 47; refine hsp.mono ?_; rintro e w' ⟨rfl, hw⟩; rw [hw])
    clear hsp
    go_loopw [6, 14] (fun _ i wr => ∃ k : Nat, k ≤ L ∧ i = .int .i64 k ∧ Hid (∀ j (hj : j < (spl s).length), j < k → okP ((spl s)[j]'hj) = true) ∧ Hid (Below (w.heap.size + 1) (w.alloc (.cells (strV (spl s)).toArray 9)) wr)) (fun _ i _ => L - (intOf i).toNat)
    case atStart => exact ⟨0, Nat.zero_le _, rfl, fun j _ hj => absurd hj (by omega), Below.refl _ _⟩
    case round =>
      obtain ⟨k, hk, rfl, HN, HB⟩ := hrel
      by_cases hlt : k < L
      · have hlt' : k < (spl s).length := by rw [unhide HL]; exact hlt
        have hcell := (unhide HC) k hlt' wr (unhide HB)
        have hz := (unhide HB).size
        have hlen := hmem _ (List.getElem_mem hlt')
        have HM := hide (List.getElem_mem hlt')
        have HQ := hide (fun h => (unhide HE) _ (unhide HM) h)
        have HN2 : Hid (okP ((spl s)[k]'hlt') = true → ∀ j (hj : j < (spl s).length), j < k + 1 → okP ((spl s)[j]'hj) = true) := by
          intro h j hj hjk
          by_cases e : j = k
          · subst e; exact h
          · exact (unhide HN) j hj (by omega)
        generalize (spl s)[k]'hlt' = q at *
        have hI := isPart_any (B q) (by rw [B_size]; unfold maxLen; omega) wr
        rw [data_B] at hI
        clear HM
        generalize B q = qb at *
        have hz2 : w.heap.size + 1 ≤ wr.heap.size := by simp at hz; omega
        cases ho : okP q with
        | true =>
          rw [ho] at hI
          have HO2 := hide ho
          clear ho
          go_wp2_with (go_at_call 104; refine hI.mono ?_; rintro e w1 ⟨rfl, hb1⟩; have HB1 := hide ((unhide HB).trans (hb1.mono hz2)); clear hb1)
          go_roundw
          case rel => exact ⟨k + 1, by omega, by go_num, (unhide HN2) (unhide HO2), unhide HB1⟩
          case measure => simp [intOf]; omega
        | false =>
          rw [ho] at hI
          have HO2 := hide ho
          clear ho
          go_wp2_with (go_at_call 104; refine hI.mono ?_; rintro e w1 ⟨rfl, hb1⟩; have HB1 := hide ((unhide HB).trans (hb1.mono hz2)); clear hb1)
          go_ret2
          have he := (unhide HQ) (unhide HO2)
          rw [prow_bad (by rw [he]; decide), he]
          exact ⟨_, rfl, SRow.nil _ _, (below_new w _).trans ((unhide HB1).mono (Nat.le_succ _)), fun _ => rfl⟩
      · obtain rfl : k = L := by omega
        have HZ : Hid (errN s = 0) := (unhide HO) (by
          rw [List.all_eq_true]
          intro p hp
          obtain ⟨j, hj, rfl⟩ := List.mem_iff_getElem.1 hp
          exact (unhide HN) j hj (by rw [unhide HL] at hj; exact hj))
        go_wp2
        go_ret2
        rw [prow_ok (unhide HZ), unhide HZ]
        refine ⟨_, rfl, ?_, (below_new w _).trans ((unhide HB).mono (Nat.le_succ _)), fun h => absurd rfl h⟩
        exact (unhide HR).below (by simpa using unhide HB)
end Go.Proofs.YtmgmganbamjnmaaGreatDoor

/-
  Package name: Check of any text.
-/
namespace Go.Proofs.YtmgmganbamjnmaaGreatDoor
open Go.RowKit
set_option linter.unusedVariables false
set_option maxRecDepth 100000

theorem check_any (s : List UInt8) (w : World) (hs : s.length ≤ maxLen) :
    Calls Tryz.prog 54 #[.string (B s)] w fun e w' => e = .returned (.int .i64 (errN s : Nat)) ∧ Below w.heap.size w w' := by
  have c := parts_any s w hs
  generalize B s = t at *
  go_enter Tryz.func54, Tryz.ntmps54
  go_wp2_with (go_at_call 76; refine c.mono ?_; rintro e w' ⟨v, rfl, _, hb, _⟩; have HB := hide hb; clear hb)
  go_ret
  exact ⟨rfl, unhide HB⟩
end Go.Proofs.YtmgmganbamjnmaaGreatDoor

/-
  Package merge: a file is checked.
-/
namespace Go.Proofs.YtmgmganbamjnmaaGreatDoor
open Go.RowKit
set_option linter.unusedVariables false
set_option maxRecDepth 100000
theorem errV_name {f : Fl} (h : errN f.name ≠ 0) : errV f = errN f.name := by unfold errV; rw [if_pos h]
theorem errV_many {f : Fl} (h : errN f.name = 0) (h2 : 3000 < f.bytes.length) : errV f = 2 := by unfold errV; rw [if_neg (by simp [h]), if_pos h2]
theorem errV_range {f : Fl} (h : errN f.name = 0) (h2 : ¬ 3000 < f.bytes.length) (h3 : f.stamp < 0 ∨ 1000000 < f.stamp ∨ f.node < 0 ∨ 3 < f.node) : errV f = 3 := by
  unfold errV; rw [if_neg (by simp [h]), if_neg h2, if_pos h3]
theorem errV_rest {f : Fl} (h : errN f.name = 0) (h2 : ¬ 3000 < f.bytes.length) (h3 : ¬ (f.stamp < 0 ∨ 1000000 < f.stamp ∨ f.node < 0 ∨ 3 < f.node)) : errV f = if f.gone = true ∧ 0 < f.bytes.length then 4 else 0 := by
  unfold errV; rw [if_neg (by simp [h]), if_neg h2, if_neg h3]

set_option maxHeartbeats 2000000 in
theorem checkFile_any (x : Fv) (w : World) (h : FvIn w x) :
    Calls Tryz.prog 46 #[x.val] w fun e w' => e = .returned (.int .i64 (errV x.f : Nat)) ∧ Below w.heap.size w w' := by
  have hc := fun W => check_any x.f.name W (by have := h.txt; unfold maxLen; omega)
  have e0 := @errV_name x.f
  have e1 := @errV_many x.f
  have e2 := @errV_range x.f
  have e3 := @errV_rest x.f
  rw [val_is]
  clear h
  obtain ⟨⟨nm, bs, st, nd, gn⟩, a, c⟩ := x
  simp only at *
  have hbox : ∀ W W' : World, Below W.heap.size W W' → Below W.heap.size W W' := fun _ _ h => h
  generalize B nm = t at *
  generalize bs.length = n at *
  have HC := hide hc
  by_cases h0 : errN nm = 0
  · replace e1 := e1 h0
    replace e2 := e2 h0
    replace e3 := e3 h0
    rw [h0] at HC
    clear e0 h0 hc
    have leaf : ∀ (E : Nat), Hid (errV ⟨nm, bs, st, nd, gn⟩ = E) → Hid ((E = 2 ∧ 3000 < n) ∨ (E = 3 ∧ n ≤ 3000 ∧ (st < 0 ∨ (0 ≤ st ∧ 1000000 < st) ∨ (0 ≤ st ∧ st ≤ 1000000 ∧ nd < 0) ∨ (0 ≤ st ∧ st ≤ 1000000 ∧ 0 ≤ nd ∧ 4 ≤ nd))) ∨ (E = 4 ∧ n ≤ 3000 ∧ 0 ≤ st ∧ st ≤ 1000000 ∧ 0 ≤ nd ∧ nd < 4 ∧ gn = true ∧ 0 < n) ∨ (E = 0 ∧ n ≤ 3000 ∧ 0 ≤ st ∧ st ≤ 1000000 ∧ 0 ≤ nd ∧ nd < 4 ∧ gn = true ∧ n = 0) ∨ (E = 0 ∧ n ≤ 3000 ∧ 0 ≤ st ∧ st ≤ 1000000 ∧ 0 ≤ nd ∧ nd < 4 ∧ gn = false)) →
        Calls Tryz.prog 46 #[.agg #[.string t, .slice a n c, .int .i64 st, .int .i64 nd, .bool gn]] w fun e w' => e = .returned (.int .i64 ((errV ⟨nm, bs, st, nd, gn⟩ : Nat) : Int)) ∧ Below w.heap.size w w' := by
      intro E hE hcs
      rw [unhide hE]
      clear e1 e2 e3 hE
      rcases unhide hcs with ⟨rfl, h1⟩ | ⟨rfl, h1, h2 | ⟨h2, h3⟩ | ⟨h2, h3, h4⟩ | ⟨h2, h3, h4, h5⟩⟩ | ⟨rfl, h1, h2, h3, h4, h5, rfl, h6⟩ | ⟨rfl, h1, h2, h3, h4, h5, rfl, rfl⟩ | ⟨rfl, h1, h2, h3, h4, h5, rfl⟩
      all_goals (
        clear hcs
        go_enter Tryz.func46, Tryz.ntmps46
        go_wp2_with fail
        refine (unhide HC _).mono ?_
        rintro e w' ⟨rfl, hb⟩
        have c1 := (hb.cell (p := ⟨w.heap.size, 1, none⟩) (by simp)).trans (by simp; rfl)
        have c2 := (hb.cell (p := ⟨w.heap.size, 2, none⟩) (by simp)).trans (by simp; rfl)
        have c3 := (hb.cell (p := ⟨w.heap.size, 3, none⟩) (by simp)).trans (by simp; rfl)
        have c4 := (hb.cell (p := ⟨w.heap.size, 4, none⟩) (by simp)).trans (by simp; rfl)
        have HB := hide (((Below.refl w.heap.size w).alloc (Nat.le_refl _) _).trans (hb.mono (by simp)))
        clear hb
        go_wp2
        go_ret
        exact ⟨rfl, unhide HB⟩)
    have HN := hide (rfl : bs.length = bs.length)
    by_cases h1 : 3000 < n
    · exact leaf 2 (e1 h1) (.inl ⟨rfl, h1⟩)
    · by_cases h3 : st < 0 ∨ 1000000 < st ∨ nd < 0 ∨ 3 < nd
      · refine leaf 3 (e2 h1 h3) (.inr (.inl ⟨rfl, by omega, by omega⟩))
      · have e4 := e3 h1 h3
        cases gn with
        | true =>
          by_cases hn : 0 < n
          · exact leaf 4 (by rw [e4, if_pos ⟨rfl, hn⟩]; rfl) (.inr (.inr (.inl ⟨rfl, by omega, by omega, by omega, by omega, by omega, rfl, hn⟩)))
          · exact leaf 0 (by rw [e4, if_neg (fun k => hn k.2)]; rfl) (.inr (.inr (.inr (.inl ⟨rfl, by omega, by omega, by omega, by omega, by omega, rfl, by omega⟩))))
        | false => exact leaf 0 (by rw [e4, if_neg (fun k => by cases k.1)]; rfl) (.inr (.inr (.inr (.inr ⟨rfl, by omega, by omega, by omega, by omega, by omega, rfl⟩))))
  · rw [e0 h0]
    clear e0 e1 e2 e3 hc
    obtain ⟨k, hk⟩ : ∃ k, errN nm = k := ⟨_, rfl⟩
    rw [hk] at HC h0 ⊢
    go_enter Tryz.func46, Tryz.ntmps46
    go_wp2_with fail
    refine (unhide HC _).mono ?_
    rintro e w' ⟨rfl, hb⟩
    have HB := hide (((Below.refl w.heap.size w).alloc (Nat.le_refl _) _).trans (hb.mono (by simp)))
    clear hb
    go_wp2
    go_ret
    exact ⟨rfl, unhide HB⟩

end Go.Proofs.YtmgmganbamjnmaaGreatDoor

/-
  Package merge: what is wrong with one file, the order of names, a copy of a file.
-/
namespace Go.Proofs.YtmgmganbamjnmaaGreatDoor
open Go.RowKit
set_option linter.unusedVariables false
set_option maxRecDepth 100000
theorem names_any (x y : Fv) (w : World) :
    Calls Tryz.prog 70 #[x.val, y.val] w fun e w' => e = .returned (.int .i64 (cmpB x.f.name y.f.name)) ∧ w' = (w.alloc (.cells x.cells.toArray 49)).alloc (.cells y.cells.toArray 49) := by
  have hc := cmp_str x.f.name y.f.name
  rw [val_is, val_is]
  unfold Fv.cells Fv.sl
  obtain ⟨⟨nm, bs, st, nd, gn⟩, a, c⟩ := x
  obtain ⟨⟨nm2, bs2, st2, nd2, gn2⟩, a2, c2⟩ := y
  simp only at *
  generalize B nm = t at *
  generalize B nm2 = t2 at *
  generalize bs.length = n at *
  generalize bs2.length = n2 at *
  have HC := hide hc
  clear hc
  go_enter Tryz.func70, Tryz.ntmps70
  go_wp2_with (go_at_call 88; refine (unhide HC _).mono ?_; rintro e w' ⟨rfl, rfl⟩)
  go_ret
  exact ⟨rfl, rfl⟩
end Go.Proofs.YtmgmganbamjnmaaGreatDoor
