/-
  Package name: Parts, Check, Under of any texts.
-/
import Derived.Test.YtfojmdbpjkkpbaeDoorNmL0
namespace Go.Proofs.YtfojmdbpjkkpbaeDoor
open Go.RowKit
set_option linter.unusedVariables false
set_option maxRecDepth 100000

/-- where all of a row may stand, or one doesn't -/
theorem errN_long {s : List UInt8} (h : 40 < s.length) : errN s = 2 := by unfold errN; rw [if_pos h]
theorem errN_bad {s : List UInt8} (h : s.length ≤ 40) {p : List UInt8} (hp : p ∈ spl s) (hb : okP p = false) : errN s = 1 := by
  unfold errN
  rw [if_neg (by omega), if_neg]
  intro hall
  have := List.all_eq_true.1 hall p hp
  rw [hb] at this
  exact absurd this (by simp)
theorem spl_le41 {s : List UInt8} (h : s.length ≤ 40) : (spl s).length ≤ 41 := by
  have := List.count_le_length (a := (47 : UInt8)) (l := s)
  rw [spl_len]
  omega

/-- the parts of a name; none of what is no name -/
def prow (s : List UInt8) : List (List UInt8) := if errN s = 0 then spl s else []
theorem prow_ok {s : List UInt8} (h : errN s = 0) : prow s = spl s := by unfold prow; rw [if_pos h]
theorem prow_bad {s : List UInt8} (h : errN s ≠ 0) : prow s = [] := by unfold prow; rw [if_neg h]
theorem below_new (w : World) (o : Obj) : Below w.heap.size w (w.alloc o) := (Below.refl _ _).alloc (Nat.le_refl _) o

set_option maxHeartbeats 1000000 in
theorem parts_any (s : List UInt8) (w : World) (hs : s.length ≤ maxLen) :
    Calls Tryd.prog 9 #[.string (B s)] w fun e w' => ∃ v, e = .returned (.tuple #[v, .int .i64 (errN s : Nat)]) ∧ SRow w' w.heap.size v (prow s) ∧ Below w.heap.size w w' ∧ (errN s ≠ 0 → v = .slice none 0 0) := by
  have hsz := B_size s
  unfold maxLen at hs
  by_cases h40 : 40 < s.length
  · have HE := hide (errN_long h40)
    have h40' : 40 < (B s).size := by rw [hsz]; omega
    have hms : (B s).size ≤ 9223372036854775807 := by rw [hsz]; omega
    clear hsz h40 hs
    generalize B s = t at *
    go_enter Tryd.func9, Tryd.ntmps9
    go_wp2
    go_ret2
    rw [prow_bad (by rw [unhide HE]; decide), unhide HE]
    exact ⟨_, rfl, SRow.nil _ _, Below.refl _ _, fun _ => rfl⟩
  · have hsp := split_any (B s) w (by rw [hsz]; omega)
    rw [data_B] at hsp
    have h40' : (B s).size ≤ 40 := by rw [hsz]; omega
    have h41 := spl_le41 (s := s) (by omega)
    have HR := hide (SRow.new w (spl s) (by unfold maxLen; omega))
    have HE := hide (fun p hp hb => errN_bad (s := s) (p := p) (by omega) hp hb)
    have HO := hide (errN_of (l := s) (by omega))
    have hmem : ∀ p ∈ spl s, p.length ≤ s.length := spl_le s
    obtain ⟨L, hL⟩ : ∃ L, (spl s).length = L := ⟨_, rfl⟩
    rw [hL] at hsp HR h41
    have HL := hide hL
    have HC : Hid (∀ j (hj : j < (spl s).length) (W : World), Below (w.heap.size + 1) (w.alloc (.cells (strV (spl s)).toArray 9)) W → W.cell? ⟨w.heap.size, j, none⟩ = some (.string (B ((spl s)[j]'hj)))) := by
      intro j hj W hW
      rw [hW.cell (p := ⟨w.heap.size, j, none⟩) (Nat.lt_succ_self _), World.cell?_alloc_at _ _ _ _ rfl]
      simp [strV, hj]
    have hs40 : s.length ≤ 40 := by omega
    clear hL hsz h40 hs
    generalize B s = t at *
    go_enter Tryd.func9, Tryd.ntmps9
    go_wp2_with (go_at_call 16; refine hsp.mono ?_; rintro e w' ⟨rfl, hw⟩; rw [hw])
    clear hsp
    go_loopw [6, 14] (fun _ i wr => ∃ k : Nat, k ≤ L ∧ i = .int .i64 k ∧ Hid (∀ j (hj : j < (spl s).length), j < k → okP ((spl s)[j]'hj) = true) ∧ Hid (Below (w.heap.size + 1) (w.alloc (.cells (strV (spl s)).toArray 9)) wr)) (fun _ i _ => L - (intOf i).toNat)
    case atStart => exact ⟨0, Nat.zero_le _, rfl, fun j _ hj => absurd hj (by omega), Below.refl _ _⟩
    case round =>
      obtain ⟨k, hk, rfl, HN, HB⟩ := hrel
      by_cases hlt : k < L
      · have hlt' : k < (spl s).length := by rw [unhide HL]; exact hlt
        have hcell := (unhide HC) k hlt' wr (unhide HB)
        have hz := (unhide HB).size
        have hlen := hmem _ (List.getElem_mem hlt')
        have HM := hide (List.getElem_mem hlt')
        have HQ := hide (fun h => (unhide HE) _ (unhide HM) h)
        have HN2 : Hid (okP ((spl s)[k]'hlt') = true → ∀ j (hj : j < (spl s).length), j < k + 1 → okP ((spl s)[j]'hj) = true) := by
          intro h j hj hjk
          by_cases e : j = k
          · subst e; exact h
          · exact (unhide HN) j hj (by omega)
        generalize (spl s)[k]'hlt' = q at *
        have hI := isPart_any (B q) (by rw [B_size]; unfold maxLen; omega) wr
        rw [data_B] at hI
        clear HM
        generalize B q = qb at *
        have hz2 : w.heap.size + 1 ≤ wr.heap.size := by simp at hz; omega
        cases ho : okP q with
        | true =>
          rw [ho] at hI
          have HO2 := hide ho
          clear ho
          go_wp2_with (go_at_call 34; refine hI.mono ?_; rintro e w1 ⟨rfl, hb1⟩; have HB1 := hide ((unhide HB).trans (hb1.mono hz2)); clear hb1)
          go_roundw
          case rel => exact ⟨k + 1, by omega, by go_num, (unhide HN2) (unhide HO2), unhide HB1⟩
          case measure => simp [intOf]; omega
        | false =>
          rw [ho] at hI
          have HO2 := hide ho
          clear ho
          go_wp2_with (go_at_call 34; refine hI.mono ?_; rintro e w1 ⟨rfl, hb1⟩; have HB1 := hide ((unhide HB).trans (hb1.mono hz2)); clear hb1)
          go_ret2
          have he := (unhide HQ) (unhide HO2)
          rw [prow_bad (by rw [he]; decide), he]
          exact ⟨_, rfl, SRow.nil _ _, (below_new w _).trans ((unhide HB1).mono (Nat.le_succ _)), fun _ => rfl⟩
      · obtain rfl : k = L := by omega
        have HZ : Hid (errN s = 0) := (unhide HO) (by
          rw [List.all_eq_true]
          intro p hp
          obtain ⟨j, hj, rfl⟩ := List.mem_iff_getElem.1 hp
          exact (unhide HN) j hj (by rw [unhide HL] at hj; exact hj))
        go_wp2
        go_ret2
        rw [prow_ok (unhide HZ), unhide HZ]
        refine ⟨_, rfl, ?_, (below_new w _).trans ((unhide HB).mono (Nat.le_succ _)), fun h => absurd rfl h⟩
        exact (unhide HR).below (by simpa using unhide HB)
end Go.Proofs.YtfojmdbpjkkpbaeDoor
