/-
  The document's own reader of names.
-/
import Derived.Test.YtfojmdbpjkkpbaeDoorNmP
import Derived.Test.YtfojmdbpjkkpbaeDoorNmT
namespace Go.Proofs.YtfojmdbpjkkpbaeDoor
open Go.RowKit
set_option linter.unusedVariables false
set_option maxRecDepth 100000

/-! ### the document's reader -/
theorem okP_trim {p : List UInt8} (h0 : p ≠ []) (h1 : p ≠ [46]) (h2 : p ≠ [46, 46]) : okP p = true ↔ Lib.trimS p cutset = [] := by
  rw [trim_nil]
  simp [okP, h0, h1, h2]

set_option maxHeartbeats 2000000 in
theorem parted_any (s : List UInt8) (w : World) (hs : s.length ≤ maxLen) :
    Calls Tryd.prog 11 #[.string (B s)] w fun e w' => ∃ v, e = .returned (.tuple #[v, .int .i64 (errN s : Nat)]) ∧ SRow w' w.heap.size v (prow s) ∧ Below w.heap.size w w' ∧ (errN s ≠ 0 → v = .slice none 0 0) := by
  have hsz := B_size s
  unfold maxLen at hs
  by_cases h40 : 40 < s.length
  · have HE := hide (errN_long h40)
    have h40' : 40 < (B s).size := by rw [hsz]; omega
    have hms : (B s).size ≤ 9223372036854775807 := by rw [hsz]; omega
    clear hsz h40 hs
    generalize B s = t at *
    go_enter Tryd.func11, Tryd.ntmps11
    go_wp2
    go_ret2
    rw [prow_bad (by rw [unhide HE]; decide), unhide HE]
    exact ⟨_, rfl, SRow.nil _ _, Below.refl _ _, fun _ => rfl⟩
  · have hsp := split_any (B s) w (by rw [hsz]; omega)
    rw [data_B] at hsp
    have h40' : (B s).size ≤ 40 := by rw [hsz]; omega
    have h41 := spl_le41 (s := s) (by omega)
    have HR := hide (SRow.new w (spl s) (by unfold maxLen; omega))
    have HE := hide (fun p hp hb => errN_bad (s := s) (p := p) (by omega) hp hb)
    have HO := hide (errN_of (l := s) (by omega))
    have hmem : ∀ p ∈ spl s, p.length ≤ s.length := spl_le s
    obtain ⟨L, hL⟩ : ∃ L, (spl s).length = L := ⟨_, rfl⟩
    rw [hL] at hsp HR h41
    have HL := hide hL
    have HC : Hid (∀ j (hj : j < (spl s).length) (W : World), Below (w.heap.size + 1) (w.alloc (.cells (strV (spl s)).toArray 9)) W → W.cell? ⟨w.heap.size, j, none⟩ = some (.string (B ((spl s)[j]'hj)))) := by
      intro j hj W hW
      rw [hW.cell (p := ⟨w.heap.size, j, none⟩) (Nat.lt_succ_self _), World.cell?_alloc_at _ _ _ _ rfl]
      simp [strV, hj]
    have hs40 : s.length ≤ 40 := by omega
    clear hL hsz h40 hs
    generalize B s = t at *
    go_enter Tryd.func11, Tryd.ntmps11
    go_wp2_with (go_at_call 16; refine hsp.mono ?_; rintro e w' ⟨rfl, hw⟩; rw [hw])
    clear hsp
    go_loopw [6, 14] (fun _ i wr => ∃ k : Nat, k ≤ L ∧ i = .int .i64 k ∧ Hid (∀ j (hj : j < (spl s).length), j < k → okP ((spl s)[j]'hj) = true) ∧ Hid (Below (w.heap.size + 1) (w.alloc (.cells (strV (spl s)).toArray 9)) wr)) (fun _ i _ => L - (intOf i).toNat)
    case atStart => exact ⟨0, Nat.zero_le _, rfl, fun j _ hj => absurd hj (by omega), Below.refl _ _⟩
    case round =>
      obtain ⟨k, hk, rfl, HN, HB⟩ := hrel
      by_cases hlt : k < L
      · have hlt' : k < (spl s).length := by rw [unhide HL]; exact hlt
        have hcell := (unhide HC) k hlt' wr (unhide HB)
        have hz := (unhide HB).size
        have hlen := hmem _ (List.getElem_mem hlt')
        have HM := hide (List.getElem_mem hlt')
        have HQ := hide (fun h => (unhide HE) _ (unhide HM) h)
        have HN2 : Hid (okP ((spl s)[k]'hlt') = true → ∀ j (hj : j < (spl s).length), j < k + 1 → okP ((spl s)[j]'hj) = true) := by
          intro h j hj hjk
          by_cases e : j = k
          · subst e; exact h
          · exact (unhide HN) j hj (by omega)
        generalize (spl s)[k]'hlt' = q at *
        have hz2 : w.heap.size + 1 ≤ wr.heap.size := by simp at hz; omega
        clear HM
        have BAD : ∀ W, Hid (Below (w.heap.size + 1) (w.alloc (.cells (strV (spl s)).toArray 9)) W) → Hid (okP q = false) → Hid (SRow W w.heap.size (.slice none 0 0) (prow s) ∧ errN s = 1 ∧ Below w.heap.size w W) := by
          intro W h1 h2
          have he := (unhide HQ) (unhide h2)
          refine ⟨?_, he, (below_new w _).trans ((unhide h1).mono (Nat.le_succ _))⟩
          rw [prow_bad (by rw [he]; decide)]
          exact SRow.nil _ _
        by_cases h0 : q = []
        · subst h0
          have hcell2 : wr.cell? ⟨w.heap.size, k, none⟩ = some (.string ⟨#[]⟩) := hcell
          have HX := BAD wr HB rfl
          clear hcell BAD
          go_wp2
          go_ret2
          obtain ⟨x1, x2, x3⟩ := unhide HX
          rw [x2]
          exact ⟨_, rfl, x1, x3, fun _ => rfl⟩
        by_cases h1 : q = [46]
        · subst h1
          have hcell2 : wr.cell? ⟨w.heap.size, k, none⟩ = some (.string ⟨#[46]⟩) := hcell
          have HX := BAD wr HB rfl
          clear hcell BAD
          go_wp2
          go_ret2
          obtain ⟨x1, x2, x3⟩ := unhide HX
          rw [x2]
          exact ⟨_, rfl, x1, x3, fun _ => rfl⟩
        by_cases h2 : q = [46, 46]
        · subst h2
          have hcell2 : wr.cell? ⟨w.heap.size, k, none⟩ = some (.string ⟨#[46, 46]⟩) := hcell
          have HX := BAD wr HB rfl
          clear hcell BAD
          go_wp2
          go_ret2
          obtain ⟨x1, x2, x3⟩ := unhide HX
          rw [x2]
          exact ⟨_, rfl, x1, x3, fun _ => rfl⟩
        have HOK := hide (okP_trim h0 h1 h2)
        have e0 := str_none (B q) h0
        have e1 := str_ne (B q) [46] h1
        have e2 := str_ne (B q) [46, 46] h2
        have cT := trimS q wr (by unfold maxLen; omega)
        clear h0 h1 h2
        generalize B q = qb at *
        by_cases ht : Lib.trimS q cutset = []
        · have HO2 := hide ((unhide HOK).2 ht)
          have hB : B (Lib.trimS q cutset) = ⟨#[]⟩ := by rw [ht]; rfl
          rw [hB] at cT
          clear ht hB HOK BAD
          go_wp2_with (go_at_call 36; refine cT.mono ?_; rintro e w1 ⟨rfl, hb1⟩; have HB1 := hide ((unhide HB).trans (hb1.mono hz2)); clear hb1)
          go_roundw
          case rel => exact ⟨k + 1, by omega, by go_num, (unhide HN2) (unhide HO2), unhide HB1⟩
          case measure => simp [intOf]; omega
        · have HO2 : Hid (okP q = false) := by
            cases ho : okP q with
            | false => rfl
            | true => exact absurd ((unhide HOK).1 ho) ht
          have et := str_none (B (Lib.trimS q cutset)) ht
          clear ht HOK
          generalize B (Lib.trimS q cutset) = tb at *
          have HBAD := hide BAD
          clear BAD
          go_wp2_with (go_at_call 36; refine cT.mono ?_; rintro e w1 ⟨rfl, hb1⟩; have HB1 := hide ((unhide HB).trans (hb1.mono hz2)); clear hb1)
          go_ret2
          obtain ⟨x1, x2, x3⟩ := unhide ((unhide HBAD) w1 HB1 HO2)
          rw [x2]
          exact ⟨_, rfl, x1, x3, fun _ => rfl⟩
      · obtain rfl : k = L := by omega
        have HZ : Hid (errN s = 0) := (unhide HO) (by
          rw [List.all_eq_true]
          intro p hp
          obtain ⟨j, hj, rfl⟩ := List.mem_iff_getElem.1 hp
          exact (unhide HN) j hj (by rw [unhide HL] at hj; exact hj))
        go_wp2
        go_ret2
        rw [prow_ok (unhide HZ), unhide HZ]
        refine ⟨_, rfl, ?_, (below_new w _).trans ((unhide HB).mono (Nat.le_succ _)), fun h => absurd rfl h⟩
        exact (unhide HR).below (by simpa using unhide HB)
end Go.Proofs.YtfojmdbpjkkpbaeDoor
