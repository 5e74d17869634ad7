/-
  Package inflate: a decoder is made.
-/
import Derived.Test.YtfoaaamcpknjnacQ33
import Derived.Test.YtfoaaamcpknjnacQ21
import Derived.Deep.RegionHeld3
import Derived.OwnWalk
import Derived.Test.YtfoaaamcpknjnacQ2
namespace Go.Proofs.Ytfoaaamcpknjnac
open Go.RowKit Go.Maps Go.WideMaps
set_option linter.unusedVariables false
set_option maxRecDepth 100000

abbrev DecIs (w : World) (mb n : Nat) (D : DataW Unit) : Prop := w.ownsMap Try.prog 169 (plainElem Try.prog 3) mb n D
abbrev DV (gr gm : Nat) : Value := .func (.func 110) #[] #[.pointer (some ⟨gr, 0, none⟩), .pointer (some ⟨gm, 0, none⟩)]
/-- what a decoder's function has: the reader, and its map -/
structure DIs (w : World) (gr gm mb nn b : Nat) (l : List Int) : Prop where
  r : w.cell? ⟨gr, 0, none⟩ = some (.pointer (some ⟨b, 0, none⟩))
  m : w.cell? ⟨gm, 0, none⟩ = some (.map (some mb))
  lt : gr < w.heap.size ∧ gm < w.heap.size
  is : DecIs w mb nn (decD l l.length)
theorem DIs.keep {w w' : World} {gr gm mb nn b : Nat} {l : List Int} (h : DIs w gr gm mb nn b l) (hs : w.heap.size ≤ w'.heap.size) (k1 : w'.heap[gr]? = w.heap[gr]?) (k2 : w'.heap[gm]? = w.heap[gm]?) (k3 : w'.heap[mb]? = w.heap[mb]?) : DIs w' gr gm mb nn b l := by
  obtain ⟨es, clock, hb, F, h1, h2⟩ := h.is
  have := h.lt
  exact ⟨(World.cell?_of_block (a := ⟨gr, 0, none⟩) k1).trans h.r, (World.cell?_of_block (a := ⟨gm, 0, none⟩) k2).trans h.m, ⟨by omega, by omega⟩, es, clock, k3.trans hb, F, h1, h2⟩
theorem step_mapUpdate {w : World} {ops : Array Oper} {o : Oper} {a : Act} {K' : Act → World → Prop} {Q : Exit → Act → World → Prop} {E : Prop} (hgd : o.guard = none) (m x v : Operand) (hop : o.op = Op.mapUpdate 168 m x v) (b n : Nat) (D : DataW Unit) (hm : a.eval m = .map (some b)) (hown : DecIs w b n D) (hn : n < maxLen) (key val : Value) (kl : Lit) (hx : a.eval x = key) (hv : a.eval v = val) (hkey : keyOf Try.prog 169 key = some kl)
    (d : DataW Unit) (ps : List MemPlace) (hval : plainElem Try.prog 3 val = some (d, ps)) (hK : ∀ w', DecIs w' b (n + 1) (D.put kl d) → w.grownBy w' (some b) → K' (a.put o.dst undef) w') : if Region.wanted o (yielded ops a.tmps) = true then Oper.wp Try.prog o a w K' Q else E := by
  have e : Region.wanted o (yielded ops a.tmps) = true := by unfold Region.wanted; rw [hgd]
  rw [if_pos e]
  obtain ⟨w', hrun, r1, r2⟩ := hown.update lawW Try.underlying168 hn hkey hval
  unfold Oper.wp
  simp [execOp, hop, hm, hx, hv, hrun, Result.andThen]
  exact hK w' r1 r2

set_option maxHeartbeats 4000000 in
theorem decoder_ok (b : Nat) (a : Option Addr) (len cap : Nat) (l : List Int) (w : World) (hl : l.length = len) (hR : RowIn .i64 w a l) (hG : Good l) :
    Calls Try.prog 85 #[.pointer (some ⟨b, 0, none⟩), .slice a len cap] w fun e w' => ∃ gr gm mb nn, e = .returned (DV gr gm) ∧ w.heap.size ≤ gr ∧ w.heap.size ≤ gm ∧ w.heap.size ≤ mb ∧ mb < w'.heap.size ∧ DIs w' gr gm mb nn b l ∧ Below w.heap.size w w' := by
  have hlen := hG.len
  have hmm := @run_makeMap Try.prog
  have HG := hide hG
  have HL := hide hl
  have HR := hide hR
  clear hG hl hR
  go_enter Try.func85, Try.ntmps85
  go_wp2_with fail
  refine (codes_ok a len cap l _ (unhide HL) ((unhide HR).alloc _) (unhide HG)).mono ?_
  rintro e w1 ⟨g, rfl, hO1, hB1, hg1⟩
  have HO1 := hide hO1
  have HB1 := hide hB1
  have hz1 := hB1.size
  simp only [World.size_alloc] at hz1 hg1
  have hgl := (hO1.lt g rfl).2
  clear hO1 hB1
  obtain ⟨mb, hmb⟩ : ∃ mb, w1.heap.size = mb := ⟨_, rfl⟩
  have HM0 : Hid (DecIs ((w1.alloc (.map #[] 0)).alloc (.cells #[.map (some mb)] 168)) mb 0 (decD l 0)) := hide (by rw [← hmb]; exact (World.ownsMap_made w1 Try.prog 169 (plainElem Try.prog 3)).alloc _)
  have HV0 : Hid (((w1.alloc (.map #[] 0)).alloc (.cells #[.map (some mb)] 168)).heap[mb + 1]? = some (.cells #[.map (some mb)] 168 (0, 0))) := hide (by
    have := heap_alloc_new (w1.alloc (.map #[] 0)) (.cells #[.map (some mb)] 168)
    rw [World.size_alloc, hmb] at this
    exact this)
  have HBW : Hid (Below (w.heap.size + 1) (w.alloc (.cells #[.pointer (some ⟨b, 0, none⟩)] 56)) ((w1.alloc (.map #[] 0)).alloc (.cells #[.map (some mb)] 168))) := hide (by
    have h1 := unhide HB1
    rw [World.size_alloc] at h1
    exact (h1.alloc (by omega) _).alloc (by rw [World.size_alloc]; omega) _)
  have HOW : Hid (((w1.alloc (.map #[] 0)).alloc (.cells #[.map (some mb)] 168)).ownsRow (w.heap.size + 1) 3 1 (.slice (some ⟨g, 0, none⟩) len len) len (i64s (codL l len))) := hide (by
    have h1 := unhide HO1
    rw [World.size_alloc] at h1
    exact (h1.alloc _).alloc _)
  go_wp2
  obtain ⟨W2, hW2⟩ : ∃ W2, (w1.alloc (.map #[] 0)).alloc (.cells #[.map (some mb)] 168) = W2 := ⟨_, rfl⟩
  rw [hW2] at HM0 HV0 HBW HOW ⊢
  have hmw : w.heap.size + 1 ≤ mb := by omega
  have hgm : g < mb := by omega
  have hW2s : W2.heap.size = mb + 2 := by rw [← hW2]; simp; omega
  clear hW2 HO1
  go_loopw [22] (fun v22 wr => ∃ k n : Nat, k ≤ len ∧ n ≤ k ∧ v22 = .int .i64 (k : Int) ∧ Hid (DecIs wr mb n (decD l k)) ∧ Hid (W2.grownBy wr (some mb))) (fun v22 _ => len - (intOf v22).toNat)
  case atStart => exact ⟨0, 0, Nat.zero_le _, Nat.le_refl _, rfl, HM0, hide (grown_refl _ _)⟩
  case round =>
    obtain ⟨k, n, hk, hn, rfl, HM, HGr⟩ := hrel
    by_cases hlt : k < len
    · have hkl : k < l.length := by rw [unhide HL]; exact hlt
      obtain ⟨ba, oa, rfl, hba, hrow⟩ : ∃ ba oa, a = some ⟨ba, oa, none⟩ ∧ ba < w.heap.size ∧ Row .i64 w ba oa l := by
        rcases unhide HR with h0 | h0
        · rw [h0] at hkl; simp at hkl
        · exact h0
      have c1 : wr.cell? ⟨ba, oa + k, none⟩ = some (.int .i64 (l.getD k 0)) := (unhide HGr).cell (((unhide HBW).cell (p := ⟨ba, oa + k, none⟩) (by show ba < _; omega)).trans ((World.cell?_alloc_past _ _ _ hba).trans (hrow k hkl))) (by simp; omega)
      have c2 : wr.cell? ⟨g, k, none⟩ = some (.int .i64 ((codeN l k : Nat) : Int)) := by
        refine (unhide HGr).cell ?_ (by simp; omega)
        rw [(unhide HOW).cellAt k (by omega)]
        have hc := codL_length l len
        have hcl : k < (codL l len).length := by rw [hc]; exact hkl
        have := codL_at l (j := k) hkl len
        rw [if_pos hlt] at this
        rw [← this]
        simp [i64s, List.getD, hcl]
      have c3 : wr.cell? ⟨mb + 1, 0, none⟩ = some (.map (some mb)) := (unhide HGr).cell (heap_row (unhide HV0)) (by simp)
      obtain ⟨h0, h15⟩ := (unhide HG).ok k hkl
      obtain ⟨m, hm⟩ := Int.eq_ofNat_of_zero_le h0
      have HD : Hid (decD l (k + 1) = if codeT l k = [] then decD l k else (decD l k).put (kb (codeT l k)) (.lit (.int .i64 (k : Int)))) := hide rfl
      by_cases hm0 : m = 0
      · subst hm0
        have hct : codeT l k = [] := by unfold codeT; rw [hm]; rfl
        rw [if_pos hct] at HD
        rw [hm] at c1
        clear c2 c3 hct
        go_wp2
        go_roundw
        case rel => exact ⟨k + 1, n, by omega, by omega, by go_num, hide (by rw [unhide HD]; exact unhide HM), HGr⟩
        case measure => simp [intOf]; omega
      · obtain ⟨k1, k2, k3⟩ := codeT_key (unhide HG) hkl hm (by omega)
        rw [if_neg k2, k1] at HD
        have HKey := hide (keyOf_kw k3)
        have hwf : (Lit.int .i64 (k : Int)).wf = true := wf_small (by omega)
        have HPE := hide (plainElem_int (H := Unit) Try.underlying3 hwf)
        rw [hm] at c1 h15
        have hmI : (0 : Int) < (m : Int) := by omega
        generalize codeN l k = c at *
        clear k1 k2 k3 hm h0
        go_wp2
        refine wp_region_held_drew (S := fun w' => w'.cell? ⟨mb + 1, 0, none⟩ = some (.map (some mb)) ∧ w'.cell? ⟨g, k, none⟩ = some (.int .i64 (c : Int))) (by kernel_rfl) ⟨c3, c2⟩ (fun hHeld => ?_)
        refine wpAnyH_take (i := 0) (oi := { dst := some 29, op := .load 168 (.tmp 7), type := 168, pos := "reader.go:134", after := #[], guard := none }) (v := .map (some mb)) rfl (by kernel_rfl) (by kernel_rfl) (by kernel_rfl) (fun _ _ _ h => h) (Or.inl ⟨by rfl, fun W hS => by obtain ⟨h1, h2⟩ := hS; go_simp⟩) hHeld ?_
        simp only [Act.put, List.setIfInBounds_toArray, List.set_cons_zero, List.set_cons_succ]
        refine wpAnyH_take (i := 1) (oi := { dst := some 30, op := .move (.tmp 9), type := 3, pos := "reader.go:134", after := #[], guard := none }) (v := .int .i64 (m : Int)) rfl (by kernel_rfl) (by kernel_rfl) (by kernel_rfl) (fun _ _ _ h => h) (Or.inl ⟨by rfl, fun W hS => by obtain ⟨h1, h2⟩ := hS; go_simp⟩) hHeld ?_
        simp only [Act.put, List.setIfInBounds_toArray, List.set_cons_zero, List.set_cons_succ]
        refine wpAnyH_take (i := 2) (oi := { dst := some 31, op := .move (.tmp 5), type := 36, pos := "reader.go:134", after := #[], guard := none }) (v := .slice (some ⟨g, 0, none⟩) len len) rfl (by kernel_rfl) (by kernel_rfl) (by kernel_rfl) (fun _ _ _ h => h) (Or.inl ⟨by rfl, fun W hS => by obtain ⟨h1, h2⟩ := hS; go_simp⟩) hHeld ?_
        simp only [Act.put, List.setIfInBounds_toArray, List.set_cons_zero, List.set_cons_succ]
        refine wpAnyH_take (i := 3) (oi := { dst := some 32, op := .move (.tmp 8), type := 3, pos := "reader.go:134", after := #[], guard := none }) (v := .int .i64 (k : Int)) rfl (by kernel_rfl) (by kernel_rfl) (by kernel_rfl) (fun _ _ _ h => h) (Or.inl ⟨by rfl, fun W hS => by obtain ⟨h1, h2⟩ := hS; go_simp⟩) hHeld ?_
        simp only [Act.put, List.setIfInBounds_toArray, List.set_cons_zero, List.set_cons_succ]
        refine wpAnyH_take (i := 4) (oi := { dst := some 33, op := .indexAddr 36 (.tmp 31) (.tmp 32), type := 0, pos := "reader.go:134", after := #[{ on := 2, ground := .data }, { on := 3, ground := .data }], guard := none }) (v := .pointer (some ⟨g, k, none⟩)) rfl (by kernel_rfl) (by kernel_rfl) (by kernel_rfl) (fun _ _ _ h => h) (Or.inl ⟨by rfl, fun W hS => by obtain ⟨h1, h2⟩ := hS; go_simp⟩) hHeld ?_
        simp only [Act.put, List.setIfInBounds_toArray, List.set_cons_zero, List.set_cons_succ]
        refine wpAnyH_take (i := 5) (oi := { dst := some 34, op := .load 3 (.tmp 33), type := 3, pos := "reader.go:134", after := #[{ on := 4, ground := .data }], guard := none }) (v := .int .i64 (c : Int)) rfl (by kernel_rfl) (by kernel_rfl) (by kernel_rfl) (fun _ _ _ h => h) (Or.inl ⟨by rfl, fun W hS => by obtain ⟨h1, h2⟩ := hS; go_simp⟩) hHeld ?_
        simp only [Act.put, List.setIfInBounds_toArray, List.set_cons_zero, List.set_cons_succ]
        refine wpAnyH_take (i := 6) (oi := { dst := some 35, op := .build 169 #[(0, .tmp 30), (1, .tmp 34)], type := 169, pos := "reader.go:134", after := #[{ on := 1, ground := .data }, { on := 5, ground := .data }], guard := none }) (v := .agg #[.int .i64 (m : Int), .int .i64 (c : Int)]) rfl (by kernel_rfl) (by kernel_rfl) (by kernel_rfl) (fun _ _ _ h => h) (Or.inl ⟨by rfl, fun W hS => by obtain ⟨h1, h2⟩ := hS; go_simp⟩) hHeld ?_
        simp only [Act.put, List.setIfInBounds_toArray, List.set_cons_zero, List.set_cons_succ]
        refine wpAnyH_take (i := 7) (oi := { dst := some 36, op := .move (.tmp 8), type := 3, pos := "reader.go:134", after := #[], guard := none }) (v := .int .i64 (k : Int)) rfl (by kernel_rfl) (by kernel_rfl) (by kernel_rfl) (fun _ _ _ h => h) (Or.inl ⟨by rfl, fun W hS => by obtain ⟨h1, h2⟩ := hS; go_simp⟩) hHeld ?_
        simp only [Act.put, List.setIfInBounds_toArray, List.set_cons_zero, List.set_cons_succ]
        refine wpAnyH_ready (rs := [8]) (by kernel_rfl) (by simp) (AllReadyH.cons rfl (fun K hK => ?_) AllReadyH.nil)
        refine step_mapUpdate rfl (.tmp 29) (.tmp 35) (.tmp 36) rfl mb n (decD l k) rfl (unhide HM) (by unfold maxLen; omega) (kw (m, c)) _ (kwl (m, c)) rfl rfl (unhide HKey) _ [] (unhide HPE) ?_
        intro w3 hM3 hg3
        have HM3 := hide hM3
        have HG3 := hide (grown_trans (unhide HGr) (show wr.grownBy w3 (some mb) from ⟨hg3.os, hg3.tape, hg3.output, hg3.size, hg3.block⟩))
        have z1 : w3.cell? ⟨mb + 1, 0, none⟩ = some (.map (some mb)) := hg3.cell (show wr.cell? ⟨mb + 1, 0, none⟩ = some (.map (some mb)) from c3) (by simp)
        have z2 : w3.cell? ⟨g, k, none⟩ = some (.int .i64 (c : Int)) := hg3.cell (show wr.cell? ⟨g, k, none⟩ = some (.int .i64 (c : Int)) from c2) (by simp; omega)
        refine hK.out _ _ ⟨z1, z2⟩ (fun hHeld3 => ?_)
        clear hK K hM3 hg3
        refine wpAnyH_done (by kernel_rfl) ?_ _
        go_wp2
        go_roundw
        case rel => exact ⟨k + 1, n + 1, by omega, by omega, by go_num, hide (by rw [unhide HD]; exact unhide HM3), HG3⟩
        case measure => simp [intOf]; omega
    · obtain rfl : len = k := by omega
      have HF : Hid (DIs wr w.heap.size (mb + 1) mb n b l ∧ Below w.heap.size w wr) := hide (by
        have hb0 : (w.alloc (.cells #[.pointer (some ⟨b, 0, none⟩)] 56)).cell? ⟨w.heap.size, 0, none⟩ = some (.pointer (some ⟨b, 0, none⟩)) := by rw [cell_of_row _ _ _ _ _ _ (heap_alloc_new w _)]; rfl
        have hs := (unhide HGr).size
        refine ⟨⟨?_, ?_, ⟨by omega, by omega⟩, ?_⟩, ?_⟩
        · exact (unhide HGr).cell (((unhide HBW).cell (p := ⟨w.heap.size, 0, none⟩) (by show w.heap.size < _; omega)).trans hb0) (by simp; omega)
        · exact (unhide HGr).cell (heap_row (unhide HV0)) (by simp)
        · rw [unhide HL]; exact unhide HM
        · have h1 : Below w.heap.size w W2 := ((Below.refl w.heap.size w).alloc (Nat.le_refl _) _).trans ((unhide HBW).mono (by omega))
          exact h1.grown (unhide HGr) (by omega) (fun j h => by cases h; omega))
      have hs := (unhide HGr).size
      go_wp2
      go_ret
      exact ⟨_, _, mb, n, rfl, Nat.le_refl _, by omega, by omega, by omega, (unhide HF).1, (unhide HF).2⟩
end Go.Proofs.Ytfoaaamcpknjnac

/-
  The document's reader, where nothing goes wrong: an error stays. Of bits alone.
-/
namespace Go.Proofs.Ytfoaaamcpknjnac
set_option linter.unusedVariables false
set_option maxRecDepth 100000

theorem uget_e {row : List Bool} {n : Nat} {u : US} (h : (uget row n u).2.e = 0) : u.e = 0 := by
  unfold uget at h
  by_cases e : u.e = 0
  · exact e
  · rw [if_neg e] at h; exact h
theorem uwrong_e {x : Int} {u : US} (hx : x ≠ 0) : (uwrong x u).e ≠ 0 := by
  unfold uwrong
  by_cases e : u.e = 0
  · rw [if_pos e]; exact hx
  · rw [if_neg e]; exact e
theorem uplace_e {l : List Int} {row : List Bool} {u : US} (h : (uplace l row u).2.e = 0) : u.e = 0 := by
  unfold uplace at h
  by_cases e : u.e = 0
  · exact e
  · rw [if_neg e] at h; exact h
theorem usmall_e {row : List Bool} : ∀ {ks : List Nat} {s : List Int} {u : US}, (usmall row ks s u).2.e = 0 → u.e = 0
  | [], s, u, h => h
  | k :: r, s, u, h => by
    rw [usmall] at h
    exact uget_e (usmall_e h)
theorem usmall_len {row : List Bool} : ∀ {ks : List Nat} {s : List Int} {u : US}, (usmall row ks s u).1.length = s.length
  | [], s, u => rfl
  | k :: r, s, u => by rw [usmall, usmall_len, List.length_set]
/-- one round of lengths, where all goes well -/
structure Round (row : List Bool) (small : List Int) (tot : Nat) (l : List Int) (u : US) : Prop where
  pe : (uplace small row u).2.e = 0
  ke : (ukind row l (uplace small row u).1 (uplace small row u).2).2.2.e = 0
  le : l.length + (ukind row l (uplace small row u).1 (uplace small row u).2).2.1 ≤ tot
  st : ustep row small tot l u = (l ++ List.replicate (ukind row l (uplace small row u).1 (uplace small row u).2).2.1 (ukind row l (uplace small row u).1 (uplace small row u).2).1, (ukind row l (uplace small row u).1 (uplace small row u).2).2.2)
theorem ukind_e {row : List Bool} {l : List Int} {k : Nat} {u : US} (h : (ukind row l k u).2.2.e = 0) : u.e = 0 := by
  unfold ukind at h
  split at h
  · split at h
    · exact absurd h (uwrong_e (by decide))
    · exact uget_e h
  · split at h
    · exact uget_e h
    · split at h
      · exact uget_e h
      · exact h
theorem ulens_stop {row : List Bool} {small : List Int} {tot F : Nat} {l : List Int} {u : US} (h : u.e ≠ 0) : ulens row small tot F l u = (l, u) := by
  cases F with
  | zero => rfl
  | succ F => rw [ulens, if_neg (fun h2 => h h2.2)]
theorem ulens_round {row : List Bool} {small : List Int} {tot F : Nat} {l : List Int} {u : US} (hl : l.length < tot) (he : u.e = 0) (hF : (ulens row small tot (F + 1) l u).2.e = 0) : Round row small tot l u ∧ ulens row small tot (F + 1) l u = ulens row small tot F (ustep row small tot l u).1 (ustep row small tot l u).2 := by
  have e1 : ulens row small tot (F + 1) l u = ulens row small tot F (ustep row small tot l u).1 (ustep row small tot l u).2 := by rw [ulens, if_pos ⟨hl, he⟩]
  have e2 : (ustep row small tot l u).2.e = 0 := by
    by_cases e : (ustep row small tot l u).2.e = 0
    · exact e
    · rw [e1, ulens_stop e] at hF; exact absurd hF e
  refine ⟨?_, e1⟩
  unfold ustep umore at e2
  simp only at e2
  by_cases hc : (ukind row l (uplace small row u).1 (uplace small row u).2).2.2.e = 0 ∧ tot < l.length + (ukind row l (uplace small row u).1 (uplace small row u).2).2.1
  · rw [if_pos hc] at e2
    exact absurd e2 (uwrong_e (by decide))
  · rw [if_neg hc] at e2
    refine ⟨ukind_e e2, e2, by omega, ?_⟩
    unfold ustep umore
    rw [if_neg hc]
theorem ulens_len {row : List Bool} {small : List Int} {tot : Nat} : ∀ (F : Nat) (l : List Int) (u : US), tot ≤ l.length + F → l.length ≤ tot → u.e = 0 → (ulens row small tot F l u).2.e = 0 → (∀ l u, Round row small tot l u → 1 ≤ (ukind row l (uplace small row u).1 (uplace small row u).2).2.1) → (ulens row small tot F l u).1.length = tot
  | 0, l, u, h1, h2, he, hF, hp => by rw [ulens]; simp only; omega
  | F + 1, l, u, h1, h2, he, hF, hp => by
    by_cases hl : l.length < tot
    · obtain ⟨r, e⟩ := ulens_round hl he hF
      have h3 := hp l u r
      have h4 := r.le
      rw [e] at hF ⊢
      rw [r.st] at hF ⊢
      exact ulens_len F _ _ (by simp; omega) (by simp; omega) r.ke hF hp
    · rw [ulens, if_neg (fun h => hl h.1)]
      simp only
      omega
theorem ulow (row : List Bool) (n : Nat) (u : US) : (uget row n u).1 < 2 ^ n := by
  unfold uget
  split
  · split
    · exact Nat.two_pow_pos n
    · refine Nat.lt_of_lt_of_le (numOf_lt _) (Nat.pow_le_pow_right (by decide) ?_)
      rw [List.length_take]
      exact Nat.min_le_left _ _
  · exact Nat.two_pow_pos n
theorem ukind_pos (row : List Bool) (l : List Int) (k : Nat) (u : US) : 1 ≤ (ukind row l k u).2.1 ∧ (ukind row l k u).2.1 ≤ 138 := by
  have h2 : (uget row 2 u).1 < 2 ^ 2 := ulow row 2 u
  have h3 : (uget row 3 u).1 < 2 ^ 3 := ulow row 3 u
  have h7 : (uget row 7 u).1 < 2 ^ 7 := ulow row 7 u
  unfold ukind
  split
  · split
    · exact ⟨Nat.le_refl _, by simp⟩
    · simp only; omega
  · split
    · simp only; omega
    · split
      · simp only; omega
      · exact ⟨Nat.le_refl _, by simp⟩
end Go.Proofs.Ytfoaaamcpknjnac

/-
  The document's reader: a block that is read without an error, of bits alone.
-/
namespace Go.Proofs.Ytfoaaamcpknjnac
set_option linter.unusedVariables false
set_option maxRecDepth 100000

theorem usay_e {c : Nat} {u : US} (h : (usay c u).e = 0) : u.e = 0 ∧ u.out.length ≠ 3000 ∧ usay c u = { u with out := u.out ++ [c] } := by
  unfold usay at h ⊢
  by_cases e : u.e = 0
  · rw [if_pos e] at h ⊢
    by_cases e2 : u.out.length = 3000
    · rw [if_pos e2] at h
      exact absurd (show (2 : Int) = 0 from h) (by decide)
    · rw [if_neg e2]
      exact ⟨e, e2, rfl⟩
  · rw [if_neg e] at h
    exact absurd h e
theorem uget_p2 {row : List Bool} {n r : Nat} {u v : US} (h : uget row n u = (r, v)) (hv : v.e = 0) : v.p = u.p + n ∧ v.p ≤ row.length ∧ v.out = u.out ∧ v.ks = u.ks ∧ u.e = 0 := by
  have hu : u.e = 0 := uget_e (by rw [h]; exact hv)
  unfold uget at h
  rw [if_pos hu] at h
  by_cases e : row.length < u.p + n
  · rw [if_pos e] at h
    have := (Prod.mk.inj h).2
    rw [← this] at hv
    exact absurd (show (7 : Int) = 0 from hv) (by decide)
  · rw [if_neg e] at h
    have := (Prod.mk.inj h).2
    subst this
    exact ⟨rfl, by show u.p + n ≤ row.length; omega, rfl, rfl, hu⟩
theorem nextF_pos {l : List Int} {row : List Bool} {p : Nat} : ∀ (f n : Nat), 1 ≤ n → (nextF l row p f n).2.2 = 0 → 1 ≤ (nextF l row p f n).2.1 ∧ p + (nextF l row p f n).2.1 ≤ row.length ∧ (nextF l row p f n).1 < l.length
  | 0, n, _, h => by rw [nextF] at h; exact absurd h (by decide)
  | f + 1, n, hn, h => by
    rw [nextF] at h ⊢
    by_cases e : row.length < p + n
    · rw [if_pos e] at h; exact absurd h (by decide)
    · rw [if_neg e] at h ⊢
      cases hf : findC l ((row.drop p).take n) with
      | some q =>
        simp only
        refine ⟨hn, by omega, ?_⟩
        have := List.mem_of_find?_eq_some hf
        simpa using this
      | none =>
        rw [hf] at h
        simp only at h ⊢
        exact nextF_pos f (n + 1) (by omega) h
theorem uplace_p2 {l : List Int} {row : List Bool} {k : Nat} {u v : US} (h : uplace l row u = (k, v)) (hv : v.e = 0) : u.p + 1 ≤ v.p ∧ v.p ≤ row.length ∧ v.out = u.out ∧ v.ks = u.ks ∧ u.e = 0 ∧ k < l.length := by
  have hu : u.e = 0 := uplace_e (by rw [h]; exact hv)
  unfold uplace at h
  rw [if_pos hu] at h
  have h1 := (Prod.mk.inj h).2
  have h2 := (Prod.mk.inj h).1
  subst h1
  have := nextF_pos (l := l) (row := row) (p := u.p) 15 1 (Nat.le_refl _) hv
  refine ⟨?_, ?_, rfl, rfl, hu, ?_⟩
  · show u.p + 1 ≤ u.p + (nextR l row u.p).2.1
    have h3 := this.1
    unfold nextR
    omega
  · show u.p + (nextR l row u.p).2.1 ≤ row.length
    exact this.2.1
  · rw [← h2]; exact this.2.2
theorem ucopy_e {d : Nat} : ∀ {n : Nat} {u : US}, (ucopy d n u).e = 0 → u.e = 0
  | 0, u, h => h
  | n + 1, u, h => by
    rw [ucopy] at h
    by_cases e : u.e = 0
    · exact e
    · rw [if_neg e] at h; exact h
theorem ucopy_p {d : Nat} : ∀ {n : Nat} {u : US}, (ucopy d n u).e = 0 → (ucopy d n u).p = u.p ∧ (ucopy d n u).ks = u.ks ∧ (u.out.length ≤ 3000 → (ucopy d n u).out.length ≤ 3000)
  | 0, u, h => ⟨rfl, rfl, fun h => h⟩
  | n + 1, u, h => by
    have e := ucopy_e h
    rw [ucopy, if_pos e] at h ⊢
    obtain ⟨h1, h2, h3⟩ := usay_e (ucopy_e h)
    have ih := ucopy_p h
    rw [h3] at ih ⊢
    refine ⟨ih.1, ih.2.1, fun ho => ih.2.2 ?_⟩
    simp only [List.length_append, List.length_cons, List.length_nil]
    omega
/-- one token that is read without an error -/
inductive Tok1 (row : List Bool) (a b : List Int) (u : US) : Bool → US → Prop
  | stop (v : US) : uplace a row u = (256, v) → v.e = 0 → Tok1 row a b u false v
  | byte (c : Nat) (x : US) : uplace a row u = (c, x) → x.e = 0 → c < 256 → x.out.length ≠ 3000 → Tok1 row a b u true { x with out := x.out ++ [c] }
  | same (k n0 f d0 : Nat) (x1 x2 x3 x4 v : US) : uplace a row u = (k, x1) → x1.e = 0 → 257 ≤ k → k ≤ 285 → uget row (samesL.getD (k - 257) (0, 0)).2 x1 = (n0, x2) → x2.e = 0 → uplace b row x2 = (f, x3) → x3.e = 0 → f ≤ 29 →
      uget row (farsL.getD f (0, 0)).2 x3 = (d0, x4) → x4.e = 0 → (farsL.getD f (0, 0)).1 + d0 ≤ x4.out.length → ucopy ((farsL.getD f (0, 0)).1 + d0) ((samesL.getD (k - 257) (0, 0)).1 + n0) x4 = v → v.e = 0 → Tok1 row a b u true v
theorem utok1_good {row : List Bool} {a b : List Int} {u : US} (h : (utok1 row a b u).2.e = 0) : Tok1 row a b u (utok1 row a b u).1 (utok1 row a b u).2 := by
  obtain ⟨k, x1, e1⟩ : ∃ k x1, uplace a row u = (k, x1) := ⟨_, _, rfl⟩
  unfold utok1 at h ⊢
  simp only [e1] at h ⊢
  by_cases c1 : x1.e ≠ 0 ∨ k = 256
  · rw [if_pos c1] at h ⊢
    simp only at h ⊢
    rcases c1 with c1 | c1
    · exact absurd h c1
    · subst c1
      exact .stop x1 e1 h
  · rw [if_neg c1] at h ⊢
    have hx1 : x1.e = 0 := by
      by_cases e : x1.e = 0
      · exact e
      · exact absurd (.inl e) c1
    have hk : k ≠ 256 := fun e => c1 (.inr e)
    by_cases c2 : k < 256
    · rw [if_pos c2] at h ⊢
      simp only at h ⊢
      obtain ⟨_, h2, h3⟩ := usay_e h
      rw [h3]
      exact .byte k x1 e1 hx1 c2 h2
    · rw [if_neg c2] at h ⊢
      by_cases c3 : 285 < k
      · rw [if_pos c3] at h
        exact absurd h (uwrong_e (by decide))
      · rw [if_neg c3] at h ⊢
        unfold usame at h ⊢
        obtain ⟨n0, x2, e2⟩ : ∃ n0 x2, uget row (samesL.getD (k - 257) (0, 0)).2 x1 = (n0, x2) := ⟨_, _, rfl⟩
        obtain ⟨f, x3, e3⟩ : ∃ f x3, uplace b row x2 = (f, x3) := ⟨_, _, rfl⟩
        simp only [e2, e3] at h ⊢
        by_cases c4 : x3.e = 0 ∧ 29 < f
        · rw [if_pos c4] at h
          rw [if_pos (uwrong_e (by decide))] at h
          exact absurd h (uwrong_e (by decide))
        · rw [if_neg c4] at h ⊢
          by_cases c5 : x3.e ≠ 0
          · rw [if_pos c5] at h
            exact absurd h c5
          · rw [if_neg c5] at h ⊢
            have hx3 : x3.e = 0 := by omega
            simp only at h ⊢
            unfold ufar at h ⊢
            obtain ⟨d0, x4, e4⟩ : ∃ d0 x4, uget row (farsL.getD f (0, 0)).2 x3 = (d0, x4) := ⟨_, _, rfl⟩
            simp only [e4] at h ⊢
            have hx := ucopy_e h
            by_cases c6 : x4.e = 0 ∧ x4.out.length < (farsL.getD f (0, 0)).1 + d0
            · rw [if_pos c6] at hx
              exact absurd hx (uwrong_e (by decide))
            · rw [if_neg c6] at h hx ⊢
              have hx2 : x2.e = 0 := uplace_e (by rw [e3]; exact hx3)
              exact .same k n0 f d0 x1 x2 x3 x4 _ e1 hx1 (by omega) (by omega) e2 hx2 e3 hx3 (by omega) e4 hx (by omega) rfl h
theorem Tok1.ahead {row : List Bool} {a b : List Int} {u v : US} {t : Bool} (h : Tok1 row a b u t v) : u.p + 1 ≤ v.p ∧ v.p ≤ row.length ∧ v.e = 0 ∧ v.ks = u.ks ∧ (u.out.length ≤ 3000 → v.out.length ≤ 3000) := by
  cases h with
  | stop _ h1 h2 =>
    have := uplace_p2 h1 h2
    exact ⟨this.1, this.2.1, h2, this.2.2.2.1, fun h => by rw [this.2.2.1]; exact h⟩
  | byte c x h1 h2 h3 h4 =>
    have := uplace_p2 h1 h2
    refine ⟨this.1, this.2.1, h2, this.2.2.2.1, fun h => ?_⟩
    rw [this.2.2.1] at h4 ⊢
    simp only [List.length_append, List.length_cons, List.length_nil]
    omega
  | same k n0 f d0 x1 x2 x3 x4 _ h1 h2 h3 h4 h5 h6 h7 h8 h9 h10 h11 h12 h13 h14 =>
    have p1 := uplace_p2 h1 h2
    have p2 := uget_p2 h5 h6
    have p3 := uplace_p2 h7 h8
    have p4 := uget_p2 h10 h11
    have p5 := ucopy_p (by rw [h13]; exact h14 : (ucopy ((farsL.getD f (0, 0)).1 + d0) ((samesL.getD (k - 257) (0, 0)).1 + n0) x4).e = 0)
    rw [h13] at p5
    refine ⟨by omega, by omega, h14, ?_, fun h => p5.2.2 ?_⟩
    · rw [p5.2.1, p4.2.2.2.1, p3.2.2.2.1, p2.2.2.2.1, p1.2.2.2.1]
    · rw [p4.2.2.1, p3.2.2.1, p2.2.2.1, p1.2.2.1]; exact h
theorem utok_e {row : List Bool} {a b : List Int} : ∀ {F : Nat} {u : US}, (utok row a b F u).e = 0 → u.e = 0
  | 0, u, h => h
  | F + 1, u, h => by
    rw [utok] at h
    by_cases e : u.e = 0
    · exact e
    · rw [if_neg e] at h; exact h
/-- one round of tokens, where all goes well -/
theorem utok_round {row : List Bool} {a b : List Int} {F : Nat} {u : US} (h : (utok row a b (F + 1) u).e = 0) : ∃ t x, Tok1 row a b u t x ∧ utok row a b (F + 1) u = if t = true then utok row a b F x else x := by
  have hu := utok_e h
  rw [utok, if_pos hu] at h ⊢
  obtain ⟨t, x, e⟩ : ∃ t x, utok1 row a b u = (t, x) := ⟨_, _, rfl⟩
  have hg := utok1_good (row := row) (a := a) (b := b) (u := u)
  rw [e] at h hg ⊢
  simp only at h hg ⊢
  refine ⟨t, x, hg ?_, rfl⟩
  by_cases ht : t = true
  · rw [if_pos ht] at h
    exact utok_e h
  · rw [if_neg ht] at h
    exact h
/-- a block that is read without an error -/
inductive Blk1R (row : List Bool) (u : US) : Bool → US → Prop
  | stored (l : Nat) (x1 x2 : US) : uget row 1 u = (l, x1) → uget row 2 x1 = (0, x2) → x2.e = 0 → (ustored row x2).e = 0 → Blk1R row u (decide (l = 1)) (ukept 0 (ustored row x2))
  | coded (l k : Nat) (x1 x2 x3 : US) (a b : List Int) : uget row 1 u = (l, x1) → uget row 2 x1 = (k, x2) → x2.e = 0 → (k = 1 ∨ k = 2) → uopen row k x2 = ((a, b), x3) → x3.e = 0 → (utok row a b row.length x3).e = 0 → Blk1R row u (decide (l = 1)) (ukept k (utok row a b row.length x3))
theorem ublock_good {row : List Bool} {u : US} (h : (ublock row u).2.e = 0) : Blk1R row u (ublock row u).1 (ublock row u).2 := by
  obtain ⟨l, x1, e1⟩ : ∃ l x1, uget row 1 u = (l, x1) := ⟨_, _, rfl⟩
  obtain ⟨k, x2, e2⟩ : ∃ k x2, uget row 2 x1 = (k, x2) := ⟨_, _, rfl⟩
  unfold ublock at h ⊢
  simp only [e1, e2] at h ⊢
  by_cases c1 : x2.e ≠ 0
  · rw [if_pos c1] at h
    exact absurd h c1
  · rw [if_neg c1] at h ⊢
    have hx2 : x2.e = 0 := by omega
    by_cases c2 : k = 0
    · subst c2
      rw [if_pos rfl] at h ⊢
      exact .stored l x1 x2 e1 e2 hx2 h
    · rw [if_neg c2] at h ⊢
      obtain ⟨a, b, x3, e3⟩ : ∃ a b x3, uopen row k x2 = ((a, b), x3) := ⟨_, _, _, rfl⟩
      rw [e3] at h ⊢
      simp only at h ⊢
      by_cases c3 : x3.e ≠ 0
      · rw [if_pos c3] at h
        exact absurd h c3
      · rw [if_neg c3] at h ⊢
        have hx3 : x3.e = 0 := by omega
        have hk : k = 1 ∨ k = 2 := by
          by_cases d1 : k = 1
          · exact .inl d1
          · by_cases d2 : k = 2
            · exact .inr d2
            · unfold uopen at e3
              rw [if_neg d1, if_neg d2] at e3
              have := (Prod.mk.inj e3).2
              rw [← this] at hx3
              exact absurd hx3 (uwrong_e (by decide))
        exact .coded l k x1 x2 x3 a b e1 e2 hx2 hk e3 hx3 h
end Go.Proofs.Ytfoaaamcpknjnac
