/-
  Package inflate: a decoder is made.
-/
import Derived.Test.YtfoaaamcpknjnahDec0
import Derived.Test.YtfoaaamcpknjnahInf1
import Derived.Test.YtfoaaamcpknjnahCode4
import Derived.Deep.RegionHeld3
import Derived.OwnWalk
namespace Go.Proofs.Ytfoaaamcpknjnah
open Go.RowKit Go.Maps Go.WideMaps
set_option linter.unusedVariables false
set_option maxRecDepth 100000

abbrev DecIs (w : World) (mb n : Nat) (D : DataW Unit) : Prop := w.ownsMap Try.prog 140 (plainElem Try.prog 3) mb n D
abbrev DV (gr gm : Nat) : Value := .func (.func 93) #[] #[.pointer (some ⟨gr, 0, none⟩), .pointer (some ⟨gm, 0, none⟩)]
/-- what a decoder's function has: the reader, and its map -/
structure DIs (w : World) (gr gm mb nn b : Nat) (l : List Int) : Prop where
  r : w.cell? ⟨gr, 0, none⟩ = some (.pointer (some ⟨b, 0, none⟩))
  m : w.cell? ⟨gm, 0, none⟩ = some (.map (some mb))
  lt : gr < w.heap.size ∧ gm < w.heap.size
  is : DecIs w mb nn (decD l l.length)
theorem DIs.keep {w w' : World} {gr gm mb nn b : Nat} {l : List Int} (h : DIs w gr gm mb nn b l) (hs : w.heap.size ≤ w'.heap.size) (k1 : w'.heap[gr]? = w.heap[gr]?) (k2 : w'.heap[gm]? = w.heap[gm]?) (k3 : w'.heap[mb]? = w.heap[mb]?) : DIs w' gr gm mb nn b l := by
  obtain ⟨es, clock, hb, F, h1, h2⟩ := h.is
  have := h.lt
  exact ⟨(World.cell?_of_block (a := ⟨gr, 0, none⟩) k1).trans h.r, (World.cell?_of_block (a := ⟨gm, 0, none⟩) k2).trans h.m, ⟨by omega, by omega⟩, es, clock, k3.trans hb, F, h1, h2⟩
theorem step_mapUpdate {w : World} {ops : Array Oper} {o : Oper} {a : Act} {K' : Act → World → Prop} {Q : Exit → Act → World → Prop} {E : Prop} (hgd : o.guard = none) (m x v : Operand) (hop : o.op = Op.mapUpdate 139 m x v) (b n : Nat) (D : DataW Unit) (hm : a.eval m = .map (some b)) (hown : DecIs w b n D) (hn : n < maxLen) (key val : Value) (kl : Lit) (hx : a.eval x = key) (hv : a.eval v = val) (hkey : keyOf Try.prog 140 key = some kl)
    (d : DataW Unit) (ps : List MemPlace) (hval : plainElem Try.prog 3 val = some (d, ps)) (hK : ∀ w', DecIs w' b (n + 1) (D.put kl d) → w.grownBy w' (some b) → K' (a.put o.dst undef) w') : if Region.wanted o (yielded ops a.tmps) = true then Oper.wp Try.prog o a w K' Q else E := by
  have e : Region.wanted o (yielded ops a.tmps) = true := by unfold Region.wanted; rw [hgd]
  rw [if_pos e]
  obtain ⟨w', hrun, r1, r2⟩ := hown.update lawW Try.underlying139 hn hkey hval
  unfold Oper.wp
  simp [execOp, hop, hm, hx, hv, hrun, Result.andThen]
  exact hK w' r1 r2

set_option maxHeartbeats 4000000 in
theorem decoder_ok (b : Nat) (a : Option Addr) (len cap : Nat) (l : List Int) (w : World) (hl : l.length = len) (hR : RowIn .i64 w a l) (hG : Good l) :
    Calls Try.prog 87 #[.pointer (some ⟨b, 0, none⟩), .slice a len cap] w fun e w' => ∃ gr gm mb nn, e = .returned (DV gr gm) ∧ w.heap.size ≤ gr ∧ w.heap.size ≤ gm ∧ w.heap.size ≤ mb ∧ mb < w'.heap.size ∧ DIs w' gr gm mb nn b l ∧ Below w.heap.size w w' := by
  have hlen := hG.len
  have hmm := @run_makeMap Try.prog
  have HG := hide hG
  have HL := hide hl
  have HR := hide hR
  clear hG hl hR
  go_enter Try.func87, Try.ntmps87
  go_wp2_with fail
  refine (codes_ok a len cap l _ (unhide HL) ((unhide HR).alloc _) (unhide HG)).mono ?_
  rintro e w1 ⟨g, rfl, hO1, hB1, hg1⟩
  have HO1 := hide hO1
  have HB1 := hide hB1
  have hz1 := hB1.size
  simp only [World.size_alloc] at hz1 hg1
  have hgl := (hO1.lt g rfl).2
  clear hO1 hB1
  obtain ⟨mb, hmb⟩ : ∃ mb, w1.heap.size = mb := ⟨_, rfl⟩
  have HM0 : Hid (DecIs ((w1.alloc (.map #[] 0)).alloc (.cells #[.map (some mb)] 139)) mb 0 (decD l 0)) := hide (by rw [← hmb]; exact (World.ownsMap_made w1 Try.prog 140 (plainElem Try.prog 3)).alloc _)
  have HV0 : Hid (((w1.alloc (.map #[] 0)).alloc (.cells #[.map (some mb)] 139)).heap[mb + 1]? = some (.cells #[.map (some mb)] 139 (0, 0))) := hide (by
    have := heap_alloc_new (w1.alloc (.map #[] 0)) (.cells #[.map (some mb)] 139)
    rw [World.size_alloc, hmb] at this
    exact this)
  have HBW : Hid (Below (w.heap.size + 1) (w.alloc (.cells #[.pointer (some ⟨b, 0, none⟩)] 86)) ((w1.alloc (.map #[] 0)).alloc (.cells #[.map (some mb)] 139))) := hide (by
    have h1 := unhide HB1
    rw [World.size_alloc] at h1
    exact (h1.alloc (by omega) _).alloc (by rw [World.size_alloc]; omega) _)
  have HOW : Hid (((w1.alloc (.map #[] 0)).alloc (.cells #[.map (some mb)] 139)).ownsRow (w.heap.size + 1) 3 1 (.slice (some ⟨g, 0, none⟩) len len) len (i64s (codL l len))) := hide (by
    have h1 := unhide HO1
    rw [World.size_alloc] at h1
    exact (h1.alloc _).alloc _)
  go_wp2
  obtain ⟨W2, hW2⟩ : ∃ W2, (w1.alloc (.map #[] 0)).alloc (.cells #[.map (some mb)] 139) = W2 := ⟨_, rfl⟩
  rw [hW2] at HM0 HV0 HBW HOW ⊢
  have hmw : w.heap.size + 1 ≤ mb := by omega
  have hgm : g < mb := by omega
  have hW2s : W2.heap.size = mb + 2 := by rw [← hW2]; simp; omega
  clear hW2 HO1
  go_loopw [22] (fun v22 wr => ∃ k n : Nat, k ≤ len ∧ n ≤ k ∧ v22 = .int .i64 (k : Int) ∧ Hid (DecIs wr mb n (decD l k)) ∧ Hid (W2.grownBy wr (some mb))) (fun v22 _ => len - (intOf v22).toNat)
  case atStart => exact ⟨0, 0, Nat.zero_le _, Nat.le_refl _, rfl, HM0, hide (grown_refl _ _)⟩
  case round =>
    obtain ⟨k, n, hk, hn, rfl, HM, HGr⟩ := hrel
    by_cases hlt : k < len
    · have hkl : k < l.length := by rw [unhide HL]; exact hlt
      obtain ⟨ba, oa, rfl, hba, hrow⟩ : ∃ ba oa, a = some ⟨ba, oa, none⟩ ∧ ba < w.heap.size ∧ Row .i64 w ba oa l := by
        rcases unhide HR with h0 | h0
        · rw [h0] at hkl; simp at hkl
        · exact h0
      have c1 : wr.cell? ⟨ba, oa + k, none⟩ = some (.int .i64 (l.getD k 0)) := (unhide HGr).cell (((unhide HBW).cell (p := ⟨ba, oa + k, none⟩) (by show ba < _; omega)).trans ((World.cell?_alloc_past _ _ _ hba).trans (hrow k hkl))) (by simp; omega)
      have c2 : wr.cell? ⟨g, k, none⟩ = some (.int .i64 ((codeN l k : Nat) : Int)) := by
        refine (unhide HGr).cell ?_ (by simp; omega)
        rw [(unhide HOW).cellAt k (by omega)]
        have hc := codL_length l len
        have hcl : k < (codL l len).length := by rw [hc]; exact hkl
        have := codL_at l (j := k) hkl len
        rw [if_pos hlt] at this
        rw [← this]
        simp [i64s, List.getD, hcl]
      have c3 : wr.cell? ⟨mb + 1, 0, none⟩ = some (.map (some mb)) := (unhide HGr).cell (heap_row (unhide HV0)) (by simp)
      obtain ⟨h0, h15⟩ := (unhide HG).ok k hkl
      obtain ⟨m, hm⟩ := Int.eq_ofNat_of_zero_le h0
      have HD : Hid (decD l (k + 1) = if codeT l k = [] then decD l k else (decD l k).put (kb (codeT l k)) (.lit (.int .i64 (k : Int)))) := hide rfl
      by_cases hm0 : m = 0
      · subst hm0
        have hct : codeT l k = [] := by unfold codeT; rw [hm]; rfl
        rw [if_pos hct] at HD
        rw [hm] at c1
        clear c2 c3 hct
        go_wp2
        go_roundw
        case rel => exact ⟨k + 1, n, by omega, by omega, by go_num, hide (by rw [unhide HD]; exact unhide HM), HGr⟩
        case measure => simp [intOf]; omega
      · obtain ⟨k1, k2, k3⟩ := codeT_key (unhide HG) hkl hm (by omega)
        rw [if_neg k2, k1] at HD
        have HKey := hide (keyOf_kw k3)
        have hwf : (Lit.int .i64 (k : Int)).wf = true := wf_small (by omega)
        have HPE := hide (plainElem_int (H := Unit) Try.underlying3 hwf)
        rw [hm] at c1 h15
        have hmI : (0 : Int) < (m : Int) := by omega
        generalize codeN l k = c at *
        clear k1 k2 k3 hm h0
        go_wp2
        refine wp_region_held_drew (S := fun w' => w'.cell? ⟨mb + 1, 0, none⟩ = some (.map (some mb)) ∧ w'.cell? ⟨g, k, none⟩ = some (.int .i64 (c : Int))) (by kernel_rfl) ⟨c3, c2⟩ (fun hHeld => ?_)
        refine wpAnyH_take (i := 0) (oi := { dst := some 29, op := .load 139 (.tmp 7), type := 139, pos := "reader.go:134", after := #[], guard := none }) (v := .map (some mb)) rfl (by kernel_rfl) (by kernel_rfl) (by kernel_rfl) (fun _ _ _ h => h) (Or.inl ⟨by rfl, fun W hS => by obtain ⟨h1, h2⟩ := hS; go_simp⟩) hHeld ?_
        simp only [Act.put, List.setIfInBounds_toArray, List.set_cons_zero, List.set_cons_succ]
        refine wpAnyH_take (i := 1) (oi := { dst := some 30, op := .move (.tmp 9), type := 3, pos := "reader.go:134", after := #[], guard := none }) (v := .int .i64 (m : Int)) rfl (by kernel_rfl) (by kernel_rfl) (by kernel_rfl) (fun _ _ _ h => h) (Or.inl ⟨by rfl, fun W hS => by obtain ⟨h1, h2⟩ := hS; go_simp⟩) hHeld ?_
        simp only [Act.put, List.setIfInBounds_toArray, List.set_cons_zero, List.set_cons_succ]
        refine wpAnyH_take (i := 2) (oi := { dst := some 31, op := .move (.tmp 5), type := 22, pos := "reader.go:134", after := #[], guard := none }) (v := .slice (some ⟨g, 0, none⟩) len len) rfl (by kernel_rfl) (by kernel_rfl) (by kernel_rfl) (fun _ _ _ h => h) (Or.inl ⟨by rfl, fun W hS => by obtain ⟨h1, h2⟩ := hS; go_simp⟩) hHeld ?_
        simp only [Act.put, List.setIfInBounds_toArray, List.set_cons_zero, List.set_cons_succ]
        refine wpAnyH_take (i := 3) (oi := { dst := some 32, op := .move (.tmp 8), type := 3, pos := "reader.go:134", after := #[], guard := none }) (v := .int .i64 (k : Int)) rfl (by kernel_rfl) (by kernel_rfl) (by kernel_rfl) (fun _ _ _ h => h) (Or.inl ⟨by rfl, fun W hS => by obtain ⟨h1, h2⟩ := hS; go_simp⟩) hHeld ?_
        simp only [Act.put, List.setIfInBounds_toArray, List.set_cons_zero, List.set_cons_succ]
        refine wpAnyH_take (i := 4) (oi := { dst := some 33, op := .indexAddr 22 (.tmp 31) (.tmp 32), type := 0, pos := "reader.go:134", after := #[{ on := 2, ground := .data }, { on := 3, ground := .data }], guard := none }) (v := .pointer (some ⟨g, k, none⟩)) rfl (by kernel_rfl) (by kernel_rfl) (by kernel_rfl) (fun _ _ _ h => h) (Or.inl ⟨by rfl, fun W hS => by obtain ⟨h1, h2⟩ := hS; go_simp⟩) hHeld ?_
        simp only [Act.put, List.setIfInBounds_toArray, List.set_cons_zero, List.set_cons_succ]
        refine wpAnyH_take (i := 5) (oi := { dst := some 34, op := .load 3 (.tmp 33), type := 3, pos := "reader.go:134", after := #[{ on := 4, ground := .data }], guard := none }) (v := .int .i64 (c : Int)) rfl (by kernel_rfl) (by kernel_rfl) (by kernel_rfl) (fun _ _ _ h => h) (Or.inl ⟨by rfl, fun W hS => by obtain ⟨h1, h2⟩ := hS; go_simp⟩) hHeld ?_
        simp only [Act.put, List.setIfInBounds_toArray, List.set_cons_zero, List.set_cons_succ]
        refine wpAnyH_take (i := 6) (oi := { dst := some 35, op := .build 140 #[(0, .tmp 30), (1, .tmp 34)], type := 140, pos := "reader.go:134", after := #[{ on := 1, ground := .data }, { on := 5, ground := .data }], guard := none }) (v := .agg #[.int .i64 (m : Int), .int .i64 (c : Int)]) rfl (by kernel_rfl) (by kernel_rfl) (by kernel_rfl) (fun _ _ _ h => h) (Or.inl ⟨by rfl, fun W hS => by obtain ⟨h1, h2⟩ := hS; go_simp⟩) hHeld ?_
        simp only [Act.put, List.setIfInBounds_toArray, List.set_cons_zero, List.set_cons_succ]
        refine wpAnyH_take (i := 7) (oi := { dst := some 36, op := .move (.tmp 8), type := 3, pos := "reader.go:134", after := #[], guard := none }) (v := .int .i64 (k : Int)) rfl (by kernel_rfl) (by kernel_rfl) (by kernel_rfl) (fun _ _ _ h => h) (Or.inl ⟨by rfl, fun W hS => by obtain ⟨h1, h2⟩ := hS; go_simp⟩) hHeld ?_
        simp only [Act.put, List.setIfInBounds_toArray, List.set_cons_zero, List.set_cons_succ]
        refine wpAnyH_ready (rs := [8]) (by kernel_rfl) (by simp) (AllReadyH.cons rfl (fun K hK => ?_) AllReadyH.nil)
        refine step_mapUpdate rfl (.tmp 29) (.tmp 35) (.tmp 36) rfl mb n (decD l k) rfl (unhide HM) (by unfold maxLen; omega) (kw (m, c)) _ (kwl (m, c)) rfl rfl (unhide HKey) _ [] (unhide HPE) ?_
        intro w3 hM3 hg3
        have HM3 := hide hM3
        have HG3 := hide (grown_trans (unhide HGr) (show wr.grownBy w3 (some mb) from ⟨hg3.os, hg3.tape, hg3.output, hg3.size, hg3.block⟩))
        have z1 : w3.cell? ⟨mb + 1, 0, none⟩ = some (.map (some mb)) := hg3.cell (show wr.cell? ⟨mb + 1, 0, none⟩ = some (.map (some mb)) from c3) (by simp)
        have z2 : w3.cell? ⟨g, k, none⟩ = some (.int .i64 (c : Int)) := hg3.cell (show wr.cell? ⟨g, k, none⟩ = some (.int .i64 (c : Int)) from c2) (by simp; omega)
        refine hK.out _ _ ⟨z1, z2⟩ (fun hHeld3 => ?_)
        clear hK K hM3 hg3
        refine wpAnyH_done (by kernel_rfl) ?_ _
        go_wp2
        go_roundw
        case rel => exact ⟨k + 1, n + 1, by omega, by omega, by go_num, hide (by rw [unhide HD]; exact unhide HM3), HG3⟩
        case measure => simp [intOf]; omega
    · obtain rfl : len = k := by omega
      have HF : Hid (DIs wr w.heap.size (mb + 1) mb n b l ∧ Below w.heap.size w wr) := hide (by
        have hb0 : (w.alloc (.cells #[.pointer (some ⟨b, 0, none⟩)] 86)).cell? ⟨w.heap.size, 0, none⟩ = some (.pointer (some ⟨b, 0, none⟩)) := by rw [cell_of_row _ _ _ _ _ _ (heap_alloc_new w _)]; rfl
        have hs := (unhide HGr).size
        refine ⟨⟨?_, ?_, ⟨by omega, by omega⟩, ?_⟩, ?_⟩
        · exact (unhide HGr).cell (((unhide HBW).cell (p := ⟨w.heap.size, 0, none⟩) (by show w.heap.size < _; omega)).trans hb0) (by simp; omega)
        · exact (unhide HGr).cell (heap_row (unhide HV0)) (by simp)
        · rw [unhide HL]; exact unhide HM
        · have h1 : Below w.heap.size w W2 := ((Below.refl w.heap.size w).alloc (Nat.le_refl _) _).trans ((unhide HBW).mono (by omega))
          exact h1.grown (unhide HGr) (by omega) (fun j h => by cases h; omega))
      have hs := (unhide HGr).size
      go_wp2
      go_ret
      exact ⟨_, _, mb, n, rfl, Nat.le_refl _, by omega, by omega, by omega, (unhide HF).1, (unhide HF).2⟩
end Go.Proofs.Ytfoaaamcpknjnah
