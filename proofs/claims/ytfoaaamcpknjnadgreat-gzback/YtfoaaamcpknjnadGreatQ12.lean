/-
  Package inflate: a kind is kept; a Stored block as a block.
-/
import Derived.Test.YtfoaaamcpknjnadGreatQ11
import Derived.Maps.AppendAt
namespace Go.Proofs.YtfoaaamcpknjnadGreat
open Go.RowKit
set_option linter.unusedVariables false
set_option maxRecDepth 100000

theorem ik_snoc (xs : List Nat) (y : Nat) : i64s (xs ++ [y]) = i64s xs ++ [.int .i64 (y : Int)] := by simp [i64s]

/-- a kind was appended to what the reader keeps, behind a new block -/
theorem IIs.kept {No : Nat → Prop} {B b c : Nat} {w w3 : World} {R f1 f2 ov kv v' : Value} {u : US} {o : Obj} (hb : B ≤ b) (hbn : ¬ No b) (hh : w.heap[b]? = some (.cells (icells R f1 f2 u ov kv) 68 (0, 0)))
    (hov : w.ownsRow (b + 1) 5 1 ov u.out.length (u8s u.out)) (hkv : w.ownsRow (b + 1) 3 1 kv u.ks.length (i64s u.ks)) (hap : ov.ownBlock = none ∨ ov.ownBlock ≠ kv.ownBlock) (hn1 : ∀ g, ov.ownBlock = some g → ¬ No g) (hn2 : ∀ g, kv.ownBlock = some g → ¬ No g) (hNo : ∀ g, w.heap.size ≤ g → ¬ No g)
    (hO3 : w3.ownsRow (b + 1) 3 1 v' (u.ks.length + 1) (i64s u.ks ++ [.int .i64 (c : Int)])) (hgrow : (w.alloc o).grownBy w3 kv.ownBlock) (hspot : v'.ownBlock = kv.ownBlock ∨ v'.ownBlock = some (w.alloc o).heap.size) :
    w3.cell? ⟨b, 3, none⟩ = some kv ∧ w3.frozen? ⟨b, 3, none⟩ = false ∧ IUp No B w b R f1 f2 { u with ks := u.ks ++ [c] } (w3.setCell ⟨b, 3, none⟩ v') := by
  have hbl : b < w.heap.size := (Array.getElem?_eq_some_iff.1 hh).1
  have hVb : kv.ownBlock = none ∨ kv.ownBlock ≠ some b := by
    cases hx : kv.ownBlock with
    | none => exact .inl rfl
    | some g =>
      refine .inr (fun e => ?_)
      have := (hkv.lt g hx).1
      cases e
      omega
  have hgb : w3.heap[b]? = some (.cells (icells R f1 f2 u ov kv) 68 (0, 0)) := by
    rw [hgrow.block b (by simp; omega) (fun e => by rcases hVb with h | h; rw [h] at e; cases e; exact h e.symm)]
    exact (Below.heap_alloc w _ b hbl).trans hh
  have hgw : ∀ g, g < w.heap.size → kv.ownBlock ≠ some g → w3.heap[g]? = w.heap[g]? := fun g hg hne => by
    rw [hgrow.block g (by simp; omega) (fun e => hne e.symm)]
    exact Below.heap_alloc w _ g hg
  have hsz := hgrow.size
  simp only [World.size_alloc] at hsz hspot
  have hset := grown_setCell w3 b 3 v'
  have hv'b : v'.ownBlock = none ∨ v'.ownBlock ≠ some b := by
    cases hx : v'.ownBlock with
    | none => exact .inl rfl
    | some g =>
      refine .inr (fun e => ?_)
      have := (hO3.lt g hx).1
      cases e
      omega
  have hk3 : w3.ownsRow (b + 1) 5 1 ov u.out.length (u8s u.out) := own_kp hov (fun g hg => hgw g (hov.lt g hg).2 (fun e => by
    rcases hap with h | h
    · rw [h] at hg; cases hg
    · exact h (by rw [hg]; exact e.symm)))
  have hkb : ov.ownBlock = none ∨ ov.ownBlock ≠ some b := by
    cases hx : ov.ownBlock with
    | none => exact .inl rfl
    | some g =>
      refine .inr (fun e => ?_)
      have := (hov.lt g hx).1
      cases e
      omega
  refine ⟨heap_row hgb, frozen_of_row w3 b 3 _ _ hgb, ⟨hb, hbn, ov, v', ?_, hk3.kept hset hkb, ?_, ?_, hn1, ?_⟩, ?_, ?_⟩
  · rw [heap_setCell_same w3 b 3 _ _ _ hgb]; rfl
  · have := hO3.kept hset hv'b
    show (w3.setCell ⟨b, 3, none⟩ v').ownsRow (b + 1) 3 1 v' (u.ks ++ [c]).length (i64s (u.ks ++ [c]))
    rw [ik_snoc, List.length_append]
    exact this
  · rcases hspot with h | h
    · rw [h]; exact hap
    · cases hx : ov.ownBlock with
      | none => exact .inl rfl
      | some g =>
        refine .inr (fun e => ?_)
        rw [h] at e
        have := (hov.lt g hx).2
        have := Option.some.inj e
        omega
  · intro g hg
    rcases hspot with h | h
    · exact hn2 g (by rw [← h]; exact hg)
    · rw [h] at hg
      have := Option.some.inj hg
      exact hNo g (by omega)
  · refine ⟨hset.os.trans (hgrow.os.trans rfl), hset.tape.trans (hgrow.tape.trans rfl), hset.output.trans (hgrow.output.trans rfl), by have := hset.size; omega, ?_⟩
    intro g hg
    rw [hset.block g (by omega) (fun e => by simp at e; omega), hgw g (by omega) (fun e => by have := (hkv.lt g e).1; omega)]
  · intro g h1 h2
    rw [hset.block g (by omega) (fun e => by simp at e; subst e; exact hbn h2), hgw g h1 (fun e => hn2 g e h2)]

theorem iget_ks (row : List Bool) (n : Nat) (u : US) : (uget row n u).2.ks = u.ks := by
  unfold uget
  split
  · split <;> rfl
  · rfl
theorem iwrong_ks (x : Int) (u : US) : (uwrong x u).ks = u.ks := by unfold uwrong; split <;> rfl
theorem isay_ks (c : Nat) (u : US) : (usay c u).ks = u.ks := by
  unfold usay
  split
  · split <;> rfl
  · rfl
theorem istore_ks (row : List Bool) : ∀ (k : Nat) (u : US), (ustore row k u).ks = u.ks
  | 0, u => rfl
  | k + 1, u => by
    unfold ustore
    split
    · rw [istore_ks row k, isay_ks, iget_ks]
    · rfl
theorem istored_ks (row : List Bool) (u : US) : (istored row u).ks = u.ks := by
  have h1 : (istored1 row u).2.ks = u.ks := by
    unfold istored1
    dsimp only
    split
    · rw [iwrong_ks, iget_ks, iget_ks]
    · rw [iget_ks, iget_ks]
  unfold istored
  dsimp only
  split
  · rw [iwrong_ks, h1]
  · rw [istore_ks, h1]

theorem blockStored_any (No : Nat → Prop) (B b : Nat) (a : Option Addr) (n cap : Nat) (bs : List Nat) (f1 f2 : Value) (u : US) (w : World) (h : IIs No B w b (.slice a n cap) f1 f2 u) (hR : Rd w No a n bs) (hp : u.p ≤ 8 * n) (he : u.e = 0) (ho : u.out.length ≤ 3000) (hk : u.ks.length ≤ 48000) (hNo : ∀ g, w.heap.size ≤ g → ¬ No g) (hbB : B ≤ b) (V : US) (hV : Hid (istored (rowB bs n) u = V)) :
    Calls Tryz.prog 48 #[.pointer (some ⟨b, 0, none⟩), .int .i64 0] w fun e w' => Got No B w b (.slice a n cap) f1 f2 (.tuple #[]) (if V.e = 0 then ukept 0 V else V) e w' := by
  have HS := hide (stored_any No B b a n cap bs f1 f2 u w h hR hp he ho hNo hbB V hV)
  have hVk : V.ks.length ≤ 48000 := by rw [← unhide hV, istored_ks]; exact hk
  have HNo := hide hNo
  obtain ⟨i0, hi0, hz0, hz1, hz2⟩ := info_parts info_int
  obtain ⟨V2, hV2⟩ : ∃ V2, (if V.e = 0 then ukept 0 V else V) = V2 := ⟨_, rfl⟩
  rw [hV2]
  have HV2 := hide hV2
  clear h hR hp he ho hk hNo hV hV2
  go_enter Tryz.func48, Tryz.ntmps48
  go_wp2_with fail
  refine (unhide HS).mono ?_
  rintro e w4 hg
  rcases hg with ⟨e0, rfl, hU⟩ | ⟨e0, rfl, hBl⟩
  rotate_left
  · have HF : Hid (V2 = V) := hide (by rw [← unhide HV2, if_neg e0])
    have HB := hide hBl
    clear hBl
    go_wp2
    exact ⟨rfl, .inr ⟨by rw [unhide HF]; exact e0, by rw [unhide HF], unhide HB⟩⟩
  have HF : Hid (V2 = { V with ks := V.ks ++ [0] }) := hide (by rw [← unhide HV2, if_pos e0]; rfl)
  have HU := hide hU
  have hIs4 := hU.is
  have hbel4 := hU.below.size
  have hbl4 := hIs4.lt
  obtain ⟨ov4, kv4, d2, d3, hh4, hov4, hkv4, hap4, hn14, hn24⟩ := hIs4.rows
  obtain ⟨L, hL⟩ : ∃ L, V.ks.length = L := ⟨_, rfl⟩
  have hkvL := hkv4
  rw [hL] at hkvL hVk
  obtain ⟨oa, oc, rfl⟩ := own_slice' hkvL
  have HKL := hide hkvL
  have HIS := hide hIs4
  have HH4 := hide hh4
  have HO4 := hide hov4
  have HK4 := hide hkv4
  have HA4 := hide hap4
  have HN1 := hide hn14
  have HN2 := hide hn24
  have HLL := hide hL
  clear hU hIs4 hh4 hov4 hkv4 hap4 hn14 hn24 hkvL hL d2
  go_wp2_with (at_builtin; refine wpList_append_own_at _ rfl _ _ 37 rfl (b + 1) 3 i0 (.int .i64 0) 1 8 Tryz.underlying37 hi0 hz0 hz1 hz2 rfl (by decide) _ L (i64s V.ks) rfl ((unhide HKL).alloc _) ⟨w4.heap.size, 0, none⟩ 1 1 [.int .i64 ((0 : Nat) : Int)] rfl rfl (cell_one_new _ _ _) (one_cell rfl) (by unfold maxLen; omega) (by omega) (by simp; omega) ?_)
  intro v' w5 hO5 hgrow5 _ hspot5
  obtain ⟨g9, c9, hv9, _, _⟩ := own_shape hO5 (by omega)
  obtain ⟨q3, f35, hI5⟩ := IIs.kept (c := 0) (v' := v') (unhide HIS).base (unhide HIS).no (unhide HH4) (unhide HO4) (unhide HK4) (unhide HA4) (unhide HN1) (unhide HN2) (fun g hg => unhide HNo g (by omega)) (by rw [unhide HLL]; exact hO5) hgrow5 (by simpa using hspot5)
  have HI5 := hide ((unhide HU).trans hI5)
  subst hv9
  clear hI5 hO5 hgrow5 hspot5
  go_wp2
  go_end0
  exact .inl ⟨by rw [unhide HF]; exact e0, rfl, by rw [unhide HF]; exact unhide HI5⟩
end Go.Proofs.YtfoaaamcpknjnadGreat
