/-
  What the document's own Next answers.
-/
import Derived.Test.YtekgcoajgbpniacGreatQ41
import Derived.Test.YtekgcoajgbpniacGreatQ35
namespace Go.Proofs.YtekgcoajgbpniacGreat
open Go.RowKit Go.Maps
set_option linter.unusedVariables false
set_option maxRecDepth 100000

instance (l : List Int) (bs : List Nat) (p n : Nat) : Decidable (Hit l bs p n) := by unfold Hit; infer_instance
theorem zeroInt (w : World) : (zeroValue 3).run Tryz.prog w = .ok (.int .i64 0) w := by kernel_rfl
theorem text_take (l : List Bool) (n : Nat) : (text l).extract 0 n = text (l.take n) := by
  apply ByteArray.ext
  simp [text, List.map_take]

set_option maxHeartbeats 2000000 in
theorem next_big (l : List Int) (hG : Good l) (b nn : Nat) (bs : List Nat) (n2 p : Nat) (w : World) (hl2 : bs.length = n2) (hn2 : n2 ≤ 100000) (hp : p ≤ 8 * n2) (hM : BookIs w b nn (bookD l l.length)) :
    Calls Tryz.prog 46 #[.map (some b), .string (text ((rowB bs n2).drop p))] w fun e w' => ∃ (x u p' : Nat) (err : Int), e = .returned (.tuple #[.int .i64 (x : Int), .int .i64 (u : Int), .int .i64 err]) ∧ w' = w ∧ Outcome l bs p x err p' ∧ p' ≤ 8 * n2 ∧ (err = 0 → p' = p + u) ∧ (err ≠ 0 → u = 0) := by
  have HG := hide hG
  have HM := hide hM
  have HL2 := hide hl2
  have hsz : (text ((rowB bs n2).drop p)).size = 8 * n2 - p := by rw [text_size, List.length_drop, rowB_length]
  have HPre : Hid (∀ n, p + n ≤ 8 * n2 → (text ((rowB bs n2).drop p)).extract 0 n = text (hb (codeAt bs p n) n)) := fun n h => by rw [text_take, pre_hb bs n2 p n h]
  have HKey : Hid (∀ n, n ≤ 15 → keyOf Tryz.prog 9 (.string (text (hb (codeAt bs p n) n))) = some (kT (hb (codeAt bs p n) n))) := fun n h => WideMaps.keyOf_string_mk Tryz.underlying9 (by rw [text_size, hb_length]; unfold maxLen; omega)
  have HHas : Hid (∀ n, 1 ≤ n → n ≤ 15 → Maps.has (bookD l l.length) (kT (hb (codeAt bs p n) n)) = decide (Hit l bs p n)) := fun n h1 h2 => by
    rw [book_has l _ (fun e => by have := congrArg List.length e; rw [hb_length] at this; simp at this; omega)]
    rw [Bool.eq_iff_iff]
    simp only [decide_eq_true_eq]
    exact (hit_iff l hG bs p n h1 h2).symm
  have HAt : Hid (∀ n, 1 ≤ n → n ≤ 15 → Hit l bs p n → ∃ q : Nat, (plcK l n l.length)[codeAt bs p n - firstN (cnt l) n]? = some q ∧ (bookD l l.length).atKey (kT (hb (codeAt bs p n) n)) (.lit (.int .i64 0)) = .lit (.int .i64 (q : Int))) := fun n h1 h2 hh => by
    obtain ⟨q, hq, e⟩ := (hit_iff l hG bs p n h1 h2).1 hh
    have hne : hb (codeAt bs p n) n ≠ [] := fun e => by have := congrArg List.length e; rw [hb_length] at this; simp at this; omega
    exact ⟨q, hit_place l hG bs p n q h1 hq e, book_at l _ hne (codeT_inj l hG _ hne) _ l.length (Nat.le_refl _) q hq e⟩
  clear hG hM
  generalize text ((rowB bs n2).drop p) = T at *
  generalize bookD l l.length = D at *
  go_enter Tryz.func46, Tryz.ntmps46
  go_wp2
  go_loop [7] (fun vi => ∃ k : Nat, k ≤ 15 ∧ vi = .int .i64 ((k : Int) + 1) ∧ p + k ≤ 8 * n2 ∧ ∀ j, 1 ≤ j → j ≤ k → ¬ Hit l bs p j) (fun vi => 16 - (intOf vi).toNat)
  case atStart => exact ⟨0, by omega, rfl, by omega, fun j h1 h2 => by omega⟩
  case round =>
    obtain ⟨k, hk, rfl, hpk, hno⟩ := hrel
    have HNo := hide hno
    clear hno
    by_cases hlt : k < 15
    · by_cases hend : p + k = 8 * n2
      · have hgt : ((8 * n2 - p : Nat) : Int) < (k : Int) + 1 := by omega
        have HOut : Hid (Outcome l bs p 0 7 (p + k)) := .inr (.inl ⟨k, hlt, unhide HNo, by rw [unhide HL2]; exact hend, rfl, rfl, rfl⟩)
        clear HPre HKey HHas HAt HNo
        go_wp2
        go_ret3
        exact ⟨0, 0, p + k, 7, rfl, rfl, unhide HOut, hpk, (fun h => by cases h), fun _ => rfl⟩
      · have hgt : ¬ ((8 * n2 - p : Nat) : Int) < (k : Int) + 1 := by omega
        have e1 := unhide HPre (k + 1) (by omega)
        have hkey := unhide HKey (k + 1) (by omega)
        have hhas := unhide HHas (k + 1) (by omega) (by omega)
        have HE1 := hide e1
        have HKk := hide hkey
        have HHk := hide hhas
        have HAk := hide (unhide HAt (k + 1) (by omega) (by omega))
        have HNoN : Hid (¬ Hit l bs p (k + 1) → ∀ j, 1 ≤ j → j ≤ k + 1 → ¬ Hit l bs p j) := fun hh j a1 a2 => by
          by_cases e : j = k + 1
          · rw [e]; exact hh
          · exact unhide HNo j a1 (by omega)
        have HOutN : Hid (∀ x, Hit l bs p (k + 1) → (plcK l (k + 1) l.length)[codeAt bs p (k + 1) - firstN (cnt l) (k + 1)]? = some x → Outcome l bs p x 0 (p + (k + 1))) := fun x hh hx =>
          .inl ⟨k + 1, by omega, by omega, fun j a1 a2 => unhide HNo j a1 (by omega), by rw [unhide HL2]; omega, hh, rfl, rfl, hx⟩
        have hpk2 : p + (k + 1) ≤ 8 * n2 := by omega
        clear e1 hkey hhas HPre HKey HHas HAt HNo
        generalize text (hb (codeAt bs p (k + 1)) (k + 1)) = S at *
        generalize kT (hb (codeAt bs p (k + 1)) (k + 1)) = KK at *
        have hk8 : (k : Int) + 1 ≤ ((8 * n2 - p : Nat) : Int) := by omega
        have hex : T.extract 0 (k + 1) = S := unhide HE1
        go_wp2_with (at_lookup; refine wpList_lookup_own_ok_int _ rfl _ _ 68 rfl 9 3 .i64 klaw Tryz.underlying68 Tryz.underlying3 (zeroInt _) b nn D rfl (unhide HM) _ _ rfl (unhide HKk) ?_)
        intro c hat hwc
        have HAT := hide hat
        clear hat hwc
        rw [unhide HHk]
        by_cases hh : Hit l bs p (k + 1)
        · obtain ⟨q, hq1, hq2⟩ := unhide HAk hh
          have hc : c = (q : Int) := by
            have := (unhide HAT).symm.trans hq2
            simpa using this
          have HO := hide (unhide HOutN q hh hq1)
          rw [decide_eq_true hh]
          subst hc
          clear hh hq1 hq2 HOutN HNoN HAk HHk HAT
          go_wp2
          go_ret3
          exact ⟨q, k + 1, p + (k + 1), 0, rfl, rfl, unhide HO, hpk2, fun _ => rfl, fun h => absurd rfl h⟩
        · have HN2 := hide (unhide HNoN hh)
          rw [decide_eq_false hh]
          clear hh HOutN HNoN HAk HHk HAT
          go_wp2
          go_round
          case rel => exact ⟨k + 1, by omega, by go_num, hpk2, unhide HN2⟩
          case measure => simp [intOf]; omega
    · obtain rfl : k = 15 := by omega
      have HOut : Hid (Outcome l bs p 0 8 (p + 15)) := .inr (.inr ⟨unhide HNo, by rw [unhide HL2]; exact hpk, rfl, rfl, rfl⟩)
      clear HPre HKey HHas HAt HNo
      go_wp2
      go_ret3
      exact ⟨0, 0, p + 15, 8, rfl, rfl, unhide HOut, hpk, (fun h => by cases h), fun _ => rfl⟩
theorem next_any (l : List Int) (hG : Good l) (b nn : Nat) (bs : List Nat) (n2 p : Nat) (w : World) (hl2 : bs.length = n2) (hn2 : n2 ≤ 6000) (hp : p ≤ 8 * n2) (hM : BookIs w b nn (bookD l l.length)) :
    Calls Tryz.prog 46 #[.map (some b), .string (text ((rowB bs n2).drop p))] w fun e w' => ∃ (x u p' : Nat) (err : Int), e = .returned (.tuple #[.int .i64 (x : Int), .int .i64 (u : Int), .int .i64 err]) ∧ w' = w ∧ Outcome l bs p x err p' ∧ p' ≤ 8 * n2 ∧ (err = 0 → p' = p + u) := by
  refine (next_big l hG b nn bs n2 p w hl2 (by omega) hp hM).mono ?_
  rintro e w' ⟨x, u, p', err, h1, h2, h3, h4, h5, _⟩
  exact ⟨x, u, p', err, h1, h2, h3, h4, h5⟩
end Go.Proofs.YtekgcoajgbpniacGreat

/-
  The document's own reader: say, place.
-/
namespace Go.Proofs.YtekgcoajgbpniacGreat
open Go.RowKit
set_option linter.unusedVariables false
set_option maxRecDepth 100000

theorem UIs.rows {No : Nat → Prop} {B b : Nat} {w : World} {row : List Bool} {u : US} (h : UIs No B w b row u) : ∃ ov kv, w.cell? ⟨b, 2, none⟩ = some ov ∧ w.cell? ⟨b, 3, none⟩ = some kv ∧ w.heap[b]? = some (.cells (ucells row u ov kv) 44 (0, 0)) ∧ w.ownsRow (b + 1) 5 1 ov u.out.length (u8s u.out) ∧ w.ownsRow (b + 1) 3 1 kv u.ks.length (i64s u.ks) ∧ (ov.ownBlock = none ∨ ov.ownBlock ≠ kv.ownBlock) ∧ (∀ g, ov.ownBlock = some g → ¬ No g) ∧ (∀ g, kv.ownBlock = some g → ¬ No g) := by
  obtain ⟨ov, kv, h1, h2⟩ := h.ex
  exact ⟨ov, kv, heap_row h1, heap_row h1, h1, h2⟩

set_option maxHeartbeats 1000000 in
theorem say_any (No : Nat → Prop) (B b c : Nat) (row : List Bool) (u : US) (w : World) (h : UIs No B w b row u) (ho : u.out.length ≤ 3000) (hNo : ∀ g, w.heap.size ≤ g → ¬ No g) :
    Calls Tryz.prog 23 #[.pointer (some ⟨b, 0, none⟩), .int .u8 (c : Int)] w fun e w' => e = .returned (.tuple #[]) ∧ UUp No B w b row (usay c u) w' := by
  obtain ⟨i0, hi, hz0, hz1, hz2⟩ := info_parts info_u8
  obtain ⟨c0, c1, c4, fr⟩ := h.cell
  obtain ⟨ov, kv, c2, c3, hh, hov, hkv, hap, hn1, hn2⟩ := h.rows
  have H := hide h
  have hbl := h.lt
  have hbb := h.base
  have hbn := h.no
  clear h
  by_cases h0 : u.e = 0
  · rw [h0] at c4
    by_cases hl : u.out.length = 3000
    · have HU : Hid (usay c u = { u with e := 2 }) := hide (by unfold usay; rw [if_pos h0, if_pos hl])
      obtain ⟨a, cc, rfl⟩ := own_slice' hov
      rw [hl] at c2
      rw [unhide HU]
      clear hov hkv hh HU h0 hn1 hn2 hap
      go_enter Tryz.func23, Tryz.ntmps23
      go_wp2
      go_end0
      exact ⟨rfl, (unhide H).setE 2⟩
    · have HU : Hid (usay c u = { u with out := u.out ++ [c] }) := hide (by unfold usay; rw [if_pos h0, if_neg hl])
      obtain ⟨L, hL⟩ : ∃ L, u.out.length = L := ⟨_, rfl⟩
      rw [hL] at hl ho hov
      have HL := hide hL
      obtain ⟨a, cc, hv⟩ := own_slice' hov
      have hb3 : ((L : Int) == 3000) = false := by rw [beq_eq_false_iff_ne]; omega
      have HOV := hide hov
      have HKV := hide hkv
      have HH := hide hh
      have HAP := hide hap
      have HN1 := hide hn1
      have HN2 := hide hn2
      have HNo := hide hNo
      have HVb : Hid (ov.ownBlock = none ∨ ov.ownBlock ≠ some b) := by
        cases hx : ov.ownBlock with
        | none => exact .inl rfl
        | some g =>
          refine .inr (fun e => ?_)
          have := (hov.lt g hx).1
          cases e
          omega
      subst hv
      rw [unhide HU]
      clear hov hkv hh HU h0 hn1 hn2 hap hL hNo
      go_enter Tryz.func23, Tryz.ntmps23
      go_wp2_with (at_builtin; refine wpList_append_own_at _ rfl _ _ 24 rfl (b + 1) 5 i0 (.int .u8 0) 1 1 Tryz.underlying24 hi hz0 hz1 hz2 rfl (by decide) _ L (u8s u.out) rfl ((unhide HOV).alloc _) ⟨w.heap.size, 0, none⟩ 1 1 [.int .u8 (c : Int)] rfl rfl (cell_one_new _ _ _) (one_cell rfl) (by unfold maxLen; omega) (by omega) (by simp; omega) ?_)
      intro v' w3 hO3 hgrow _ hspot
      obtain ⟨g9, c9, hv9, _, _⟩ := own_shape hO3 (by omega)
      have hgb : w3.heap[b]? = some (.cells (ucells row u (.slice a L cc) kv) 44 (0, 0)) := by
        rw [hgrow.block b (by simp; omega) (fun e => by rcases unhide HVb with h | h; rw [h] at e; cases e; exact h e.symm)]
        exact (Below.heap_alloc w _ b hbl).trans (unhide HH)
      have hgw : ∀ g, g < w.heap.size → (Value.slice a L cc).ownBlock ≠ some g → w3.heap[g]? = w.heap[g]? := fun g hg hne => by
        rw [hgrow.block g (by simp; omega) (fun e => hne e.symm)]
        exact Below.heap_alloc w _ g hg
      have q2 : w3.cell? ⟨b, 2, none⟩ = some (.slice a L cc) := heap_row hgb
      have f2 := frozen_of_row w3 b 2 _ _ hgb
      have hsz := hgrow.size
      have HFIN : Hid (UUp No B w b row { u with out := u.out ++ [c] } (w3.setCell ⟨b, 2, none⟩ v')) := by
        have hset := grown_setCell w3 b 2 v'
        simp only [World.size_alloc] at hsz
        have hv'b : v'.ownBlock = none ∨ v'.ownBlock ≠ some b := by
          cases hx : v'.ownBlock with
          | none => exact .inl rfl
          | some g =>
            refine .inr (fun e => ?_)
            have := (hO3.lt g hx).1
            cases e
            omega
        have hk3 : w3.ownsRow (b + 1) 3 1 kv u.ks.length (i64s u.ks) := own_kp (unhide HKV) (fun g hg => hgw g ((unhide HKV).lt g hg).2 (fun e => by
          rcases unhide HAP with h | h
          · rw [h] at e; cases e
          · exact h (by rw [hg]; exact e)))
        have hkb : kv.ownBlock = none ∨ kv.ownBlock ≠ some b := by
          cases hx : kv.ownBlock with
          | none => exact .inl rfl
          | some g =>
            refine .inr (fun e => ?_)
            have := ((unhide HKV).lt g hx).1
            cases e
            omega
        refine ⟨⟨hbb, hbn, v', kv, ?_, ?_, hk3.kept hset hkb, ?_, ?_, unhide HN2⟩, ?_, ?_⟩
        · rw [heap_setCell_same w3 b 2 _ _ _ hgb]; rfl
        · have := hO3.kept hset hv'b
          show (w3.setCell ⟨b, 2, none⟩ v').ownsRow (b + 1) 5 1 v' (u.out ++ [c]).length (u8s (u.out ++ [c]))
          rw [u8_snoc, List.length_append, unhide HL]
          exact this
        · rcases hspot with h | h
          · rw [h]; exact unhide HAP
          · refine .inr (fun e => ?_)
            rw [h] at e
            have := ((unhide HKV).lt _ e.symm).2
            omega
        · intro g hg
          rcases hspot with h | h
          · exact unhide HN1 g (by rw [← h]; exact hg)
          · rw [h] at hg
            have := Option.some.inj hg
            exact unhide HNo g (by omega)
        · refine ⟨hset.os.trans (hgrow.os.trans rfl), hset.tape.trans (hgrow.tape.trans rfl), hset.output.trans (hgrow.output.trans rfl), by have := hset.size; omega, ?_⟩
          intro g hg
          rw [hset.block g (by omega) (fun e => by simp at e; omega), hgw g (by omega) (fun e => by have := ((unhide HOV).lt g e).1; omega)]
        · intro g h1 h2
          rw [hset.block g (by omega) (fun e => by simp at e; subst e; exact hbn h2), hgw g h1 (fun e => unhide HN1 g e h2)]
      subst hv9
      clear hO3 hgrow hspot hgb hgw hsz
      go_wp2
      go_end0
      exact ⟨rfl, unhide HFIN⟩
  · have HU : Hid (usay c u = u) := hide (by unfold usay; rw [if_neg h0])
    have hb : (u.e == 0) = false := by rw [beq_eq_false_iff_ne]; exact h0
    rw [unhide HU]
    generalize u.e = e0 at c4 hb
    clear h0 HU hov hkv hh hn1 hn2 hap c2 c3
    go_enter Tryz.func23, Tryz.ntmps23
    go_wp2
    go_end0
    exact ⟨rfl, UUp.refl (unhide H)⟩
theorem findC_hit (l : List Int) (hG : Good l) (bs : List Nat) (n2 p n : Nat) (hl : bs.length = n2) (h1 : 1 ≤ n) (h15 : n ≤ 15) (hp : p + n ≤ 8 * n2) :
    (¬ Hit l bs p n → findC l (((rowB bs n2).drop p).take n) = none) ∧ (∀ x, Hit l bs p n → (plcK l n l.length)[codeAt bs p n - firstN (cnt l) n]? = some x → findC l (((rowB bs n2).drop p).take n) = some x) := by
  rw [pre_hb bs n2 p n hp]
  have hs : hb (codeAt bs p n) n ≠ [] := fun e => by have := congrArg List.length e; rw [hb_length] at this; simp at this; omega
  constructor
  · intro hh
    unfold findC
    rw [List.find?_eq_none]
    intro q hq
    simp only [decide_eq_true_eq]
    intro e
    exact hh ((hit_iff l hG bs p n h1 h15).2 ⟨q, by simpa using hq, e⟩)
  · intro x hh hx
    obtain ⟨q, hq, e⟩ := (hit_iff l hG bs p n h1 h15).1 hh
    have hxq : x = q := by
      have := hit_place l hG bs p n q h1 hq e
      rw [hx] at this
      exact Option.some.inj this
    subst hxq
    unfold findC
    cases hf : (List.range l.length).find? (fun q => decide (codeT l q = hb (codeAt bs p n) n)) with
    | none =>
      rw [List.find?_eq_none] at hf
      exact absurd (by simpa using e) (hf x (by simpa using hq))
    | some y =>
      have hy := List.find?_some hf
      have hy2 := List.mem_of_find?_eq_some hf
      simp only [decide_eq_true_eq] at hy
      rw [codeT_inj l hG _ hs y x (by simpa using hy2) hq hy e]
theorem nextR_eq (l : List Int) (hG : Good l) (bs : List Nat) (n2 p x u p' : Nat) (err : Int) (hl : bs.length = n2) (ho : Outcome l bs p x err p') (hu : err = 0 → p' = p + u) (hu0 : err ≠ 0 → u = 0) : nextR l (rowB bs n2) p = (x, u, err) := by
  have hlen := rowB_length bs n2
  unfold nextR
  rcases ho with ⟨k, k1, k15, hno, hpk, hit, rfl, rfl, hx⟩ | ⟨k, k15, hno, hpk, rfl, rfl, rfl⟩ | ⟨hno, hpk, rfl, rfl, rfl⟩
  · rw [hl] at hpk
    have hu' := hu rfl
    obtain rfl : u = k := by omega
    obtain ⟨m, rfl⟩ : ∃ m, u = m + 1 := ⟨u - 1, by omega⟩
    have := nextF_go l (rowB bs n2) p m (15 - m) (fun j h1 h2 => ⟨by omega, (findC_hit l hG bs n2 p j hl h1 (by omega) (by omega)).1 (hno j h1 (by omega))⟩) 1 (by omega)
    rw [show m + (15 - m) = 15 by omega] at this
    rw [this, show 15 - m = (14 - m) + 1 by omega, nextF, show 1 + m = m + 1 by omega, if_neg (by omega), (findC_hit l hG bs n2 p (m + 1) hl (by omega) (by omega) hpk).2 x hit hx]
  · rw [hl] at hpk
    obtain rfl := hu0 (by decide)
    have := nextF_go l (rowB bs n2) p k (15 - k) (fun j h1 h2 => ⟨by omega, (findC_hit l hG bs n2 p j hl h1 (by omega) (by omega)).1 (hno j h1 h2)⟩) 1 (by omega)
    rw [show k + (15 - k) = 15 by omega] at this
    rw [this, show 15 - k = (14 - k) + 1 by omega, nextF, if_pos (by omega)]
  · rw [hl] at hpk
    obtain rfl := hu0 (by decide)
    have := nextF_go l (rowB bs n2) p 15 0 (fun j h1 h2 => ⟨by omega, (findC_hit l hG bs n2 p j hl h1 (by omega) (by omega)).1 (hno j h1 h2)⟩) 1 (by omega)
    rw [this, nextF]

theorem next_det (l : List Int) (hG : Good l) (b nn : Nat) (bs : List Nat) (n2 p : Nat) (w : World) (hl2 : bs.length = n2) (hn2 : n2 ≤ 100000) (hp : p ≤ 8 * n2) (hM : BookIs w b nn (bookD l l.length)) (x u : Nat) (err : Int) (hr : nextR l (rowB bs n2) p = (x, u, err)) :
    Calls Tryz.prog 46 #[.map (some b), .string (text ((rowB bs n2).drop p))] w fun e w' => e = .returned (.tuple #[.int .i64 (x : Int), .int .i64 (u : Int), .int .i64 err]) ∧ w' = w := by
  refine (next_big l hG b nn bs n2 p w hl2 hn2 hp hM).mono ?_
  rintro e w' ⟨x', u', p', err', rfl, rfl, ho, _, h5, h6⟩
  have := nextR_eq l hG bs n2 p x' u' p' err' hl2 ho h5 h6
  rw [hr] at this
  simp only [Prod.mk.injEq] at this
  obtain ⟨rfl, rfl, rfl⟩ := this
  exact ⟨rfl, rfl⟩
theorem nextR_le (l : List Int) (row : List Bool) (p : Nat) (hp : p ≤ row.length) : p + (nextR l row p).2.1 ≤ row.length := by
  have : ∀ f n, p + (nextF l row p f n).2.1 ≤ row.length := by
    intro f
    induction f with
    | zero => intro n; rw [nextF]; exact hp
    | succ f ih =>
      intro n
      rw [nextF]
      by_cases h : row.length < p + n
      · rw [if_pos h]; exact hp
      · rw [if_neg h]
        cases hf : findC l ((row.drop p).take n) with
        | none => exact ih (n + 1)
        | some q => show p + n ≤ row.length; omega
  exact this 15 1
theorem text_rest (row : List Bool) (p N : Nat) (h : row.length = N) : (text row).extract p N = text (row.drop p) := by
  apply ByteArray.ext
  simp only [ByteArray.data_extract]
  simp [text, List.map_drop, ← h]
  exact List.take_of_length_le (by simp)

set_option maxHeartbeats 1000000 in
theorem place_any_u (No : Nat → Prop) (B b mb nn n2 : Nat) (l : List Int) (bs : List Nat) (u : US) (w : World) (h : UIs No B w b (rowB bs n2) u) (hG : Good l) (hl : bs.length = n2) (hn2 : n2 ≤ 25000) (hp : u.p ≤ 8 * n2) (hM : BookIs w mb nn (bookD l l.length)) (hmb : mb ≠ b) :
    Calls Tryz.prog 28 #[.pointer (some ⟨b, 0, none⟩), .map (some mb)] w fun e w' => e = .returned (.int .i64 ((uplace l (rowB bs n2) u).1 : Int)) ∧ UUp No B w b (rowB bs n2) (uplace l (rowB bs n2) u).2 w' := by
  obtain ⟨c0, c1, c4, fr⟩ := h.cell
  have H := hide h
  have hsz : (text (rowB bs n2)).size = 8 * n2 := by rw [text_size, rowB_length]
  clear h
  by_cases h0 : u.e = 0
  · rw [h0] at c4
    have hx := text_rest (rowB bs n2) u.p (8 * n2) (rowB_length bs n2)
    obtain ⟨x, v, err, hr⟩ : ∃ x v err, nextR l (rowB bs n2) u.p = (x, v, err) := ⟨_, _, _, rfl⟩
    have hle := nextR_le l (rowB bs n2) u.p (by rw [rowB_length]; exact hp)
    rw [rowB_length, hr] at hle
    simp only at hle
    have HN := hide (fun (W : World) (hW : BookIs W mb nn (bookD l l.length)) => next_det l hG mb nn bs n2 u.p W hl (by omega) hp hW x v err hr)
    have HM := hide hM
    have HU : Hid (uplace l (rowB bs n2) u = (x, { u with e := err, p := u.p + v })) := hide (by unfold uplace; rw [if_pos h0, hr])
    rw [unhide HU]
    clear hM h0 HU hr
    generalize text ((rowB bs n2).drop u.p) = S at *
    generalize text (rowB bs n2) = T at *
    obtain ⟨p, out, ks, e⟩ := u
    simp only at *
    go_enter Tryz.func28, Tryz.ntmps28
    go_wp2
    go_quiet ((go_at_call 46; refine Calls.quiet_of_same (unhide HN _ (unhide HM))))
    go_wp2
    go_ret
    have U0 := (UUp.refl (unhide H)).drewN nq
    have U1 := U0.trans (U0.is.setE err)
    exact ⟨rfl, U1.trans (U1.is.setP (p + v))⟩
  · have HU : Hid (uplace l (rowB bs n2) u = (0, u)) := hide (by unfold uplace; rw [if_neg h0])
    rw [unhide HU]
    have hb : (u.e != 0) = true := by rw [bne_iff_ne]; exact h0
    generalize u.e = e0 at c4 hb
    clear h0 HU
    go_enter Tryz.func28, Tryz.ntmps28
    go_wp2
    go_ret
    exact ⟨rfl, UUp.refl (unhide H)⟩
end Go.Proofs.YtekgcoajgbpniacGreat

/-
  Small facts on the document's own reader: where it is behind a number, a place; what must stay, turned.
-/
namespace Go.Proofs.YtekgcoajgbpniacGreat
open Go.RowKit
set_option linter.unusedVariables false
set_option maxRecDepth 100000

theorem uget_p (row : List Bool) (n : Nat) (u : US) (h : u.p ≤ row.length) : (uget row n u).2.p ≤ row.length := by
  unfold uget
  by_cases h0 : u.e = 0
  · rw [if_pos h0]
    by_cases h1 : row.length < u.p + n
    · rw [if_pos h1]; exact h
    · rw [if_neg h1]; show u.p + n ≤ row.length; omega
  · rw [if_neg h0]; exact h
theorem uget_lt (row : List Bool) (n : Nat) (u : US) : (uget row n u).1 < 2 ^ n := by
  have hpos : 0 < 2 ^ n := Nat.two_pow_pos n
  unfold uget
  by_cases h0 : u.e = 0
  · rw [if_pos h0]
    by_cases h1 : row.length < u.p + n
    · rw [if_pos h1]; exact hpos
    · rw [if_neg h1]
      refine Nat.lt_of_lt_of_le (numOf_lt _) (Nat.pow_le_pow_right (by omega) ?_)
      simp
      omega
  · rw [if_neg h0]; exact hpos
theorem uwrong_p (x : Int) (u : US) : (uwrong x u).p = u.p := by unfold uwrong; split <;> rfl
theorem uplace_p (l : List Int) (row : List Bool) (u : US) (h : u.p ≤ row.length) : (uplace l row u).2.p ≤ row.length := by
  unfold uplace
  by_cases h0 : u.e = 0
  · rw [if_pos h0]; exact nextR_le l row u.p h
  · rw [if_neg h0]; exact h
/-- get, by letters -/
theorem get_l (No : Nat → Prop) (B b n : Nat) (row : List Bool) (u : US) (w : World) (h : UIs No B w b row u) (hn : n ≤ 16) (hrow : row.length ≤ 200000) (hp : u.p ≤ row.length) (r : Nat) (v : US) (hr : uget row n u = (r, v)) :
    Calls Tryz.prog 21 #[.pointer (some ⟨b, 0, none⟩), .int .i64 (n : Int)] w fun e w' => e = .returned (.int .i64 (r : Int)) ∧ UUp No B w b row v w' := by
  have := get_any No B b n row u w h hn hrow hp
  rw [hr] at this
  exact this
theorem UIs.more {No No' : Nat → Prop} {B b : Nat} {w : World} {row : List Bool} {u : US} (h : UIs No B w b row u) (hb : ¬ No' b) (hn : ∀ g, No' g → No g ∨ w.heap.size ≤ g) : UIs No' B w b row u := by
  obtain ⟨ov, kv, h1, h2, h3, h4, h5, h6⟩ := h.ex
  refine ⟨h.base, hb, ov, kv, h1, h2, h3, h4, ?_, ?_⟩
  · intro g hg hN
    rcases hn g hN with e | e
    · exact h5 g hg e
    · have := (h2.lt g hg).2; omega
  · intro g hg hN
    rcases hn g hN with e | e
    · exact h6 g hg e
    · have := (h3.lt g hg).2; omega
theorem UIs.weaken {No No' : Nat → Prop} {B b : Nat} {w : World} {row : List Bool} {u : US} (h : UIs No' B w b row u) (hn : ∀ g, No g → No' g) : UIs No B w b row u := by
  obtain ⟨ov, kv, h1, h2, h3, h4, h5, h6⟩ := h.ex
  exact ⟨h.base, fun e => h.no (hn b e), ov, kv, h1, h2, h3, h4, fun g hg hN => h5 g hg (hn g hN), fun g hg hN => h6 g hg (hn g hN)⟩
end Go.Proofs.YtekgcoajgbpniacGreat
