/-
  Package merge: which of two files is newer.
-/
import Derived.Test.YtmgmganbamjnmaaDoorQ3
import Derived.Test.YtmgmganbamjnmaaDoorQ8
import Derived.Deep.RegionHeld3
namespace Go.Proofs.YtmgmganbamjnmaaDoor
open Go.RowKit
set_option linter.unusedVariables false
set_option maxRecDepth 100000

theorem newer_b0 (w : World) (o1 o2 : Obj) : Below w.heap.size w ((w.alloc o1).alloc o2).drew := below_drewN (((Below.refl _ w).alloc (Nat.le_refl _) o1).alloc (by simp) o2) 1
theorem newer_b1 (w : World) (o1 o2 o3 : Obj) : Below w.heap.size w (((w.alloc o1).alloc o2).alloc o3).drew := below_drewN ((((Below.refl _ w).alloc (Nat.le_refl _) o1).alloc (by simp) o2).alloc (by simp; omega) o3) 1
theorem newer_b2 (w : World) (o1 o2 o3 : Obj) (v1 v2 v3 v4 : Value) : Below w.heap.size w (((w.alloc o1).alloc o2).alloc o3).drew := below_drewN ((((Below.refl _ w).alloc (Nat.le_refl _) o1).alloc (by simp) o2).alloc (by simp; omega) o3) 1
theorem idxN0 (a b c d : Int) (W : World) : (Instr.index 72 (.agg #[.int .i64 a, .int .i64 b, .int .i64 c, .int .i64 d]) (.int .i64 0)).run Tryd.prog W = .ok (.int .i64 a) W := by kernel_rfl
theorem idxN1 (a b c d : Int) (W : World) : (Instr.index 72 (.agg #[.int .i64 a, .int .i64 b, .int .i64 c, .int .i64 d]) (.int .i64 1)).run Tryd.prog W = .ok (.int .i64 b) W := by kernel_rfl
theorem idxN2 (a b c d : Int) (W : World) : (Instr.index 72 (.agg #[.int .i64 a, .int .i64 b, .int .i64 c, .int .i64 d]) (.int .i64 2)).run Tryd.prog W = .ok (.int .i64 c) W := by kernel_rfl
theorem idxN3 (a b c d : Int) (W : World) : (Instr.index 72 (.agg #[.int .i64 a, .int .i64 b, .int .i64 c, .int .i64 d]) (.int .i64 3)).run Tryd.prog W = .ok (.int .i64 d) W := by kernel_rfl
theorem nz_at {a b : Int} (h : a ≠ 0) : nz a b = a := by unfold nz; rw [if_pos h]
theorem nz_past {b : Int} : nz 0 b = b := by unfold nz; rw [if_neg (by decide)]
theorem ne_b {a : Int} (h : a ≠ 0) : (a != 0) = true := by rw [bne_iff_ne]; exact h

set_option maxHeartbeats 4000000 in
theorem newer_any (x y : Fv) (w : World) (hx : FvIn w x) (hy : FvIn w y) :
    Calls Tryd.prog 17 #[x.val, y.val] w fun e w' => e = .returned (.int .i64 (nwr x.f y.f)) ∧ Below w.heap.size w w' := by
  have hb : ∀ W, Below w.heap.size w W → Calls Tryd.prog 33 #[.slice x.a x.f.bytes.length x.c, .slice y.a y.f.bytes.length y.c] W fun e w' => e = .returned (.int .i64 (cmpB x.f.bytes y.f.bytes)) ∧ w' = W :=
    fun W hW => cmp_bytes (hx.bs.below hW (Nat.le_refl _)) (hy.bs.below hW (Nat.le_refl _))
  have hd : nwr x.f y.f = nz (cmpI x.f.stamp y.f.stamp) (nz (cmpI x.f.node y.f.node) (nz (cmpG x.f.gone y.f.gone) (cmpB x.f.bytes y.f.bytes))) := rfl
  rw [val_is, val_is, hd]
  clear hx hy hd
  obtain ⟨⟨nm, bs, st, nd, gn⟩, a, c⟩ := x
  obtain ⟨⟨nm2, bs2, st2, nd2, gn2⟩, a2, c2⟩ := y
  simp only at *
  generalize B nm = t at *
  generalize B nm2 = t2 at *
  generalize bs.length = n at *
  generalize bs2.length = n2 at *
  have h3 := gone_cmp gn gn2
  generalize cmpG gn gn2 = k3 at *
  generalize cmpB bs bs2 = k4 at *
  have H3 := hide h3
  have H4 := hide hb
  clear h3 hb
  go_enter Tryd.func17, Tryd.ntmps17
  go_wp2
  go_region_held3 (fun W => Below w.heap.size w W ∧ W.cell? ⟨w.heap.size, 1, none⟩ = some (.slice a n c) ∧ W.cell? ⟨w.heap.size, 2, none⟩ = some (.int .i64 st) ∧ W.cell? ⟨w.heap.size, 3, none⟩ = some (.int .i64 nd) ∧ W.cell? ⟨w.heap.size, 4, none⟩ = some (.bool gn) ∧ W.cell? ⟨w.heap.size + 1, 1, none⟩ = some (.slice a2 n2 c2) ∧ W.cell? ⟨w.heap.size + 1, 2, none⟩ = some (.int .i64 st2) ∧ W.cell? ⟨w.heap.size + 1, 3, none⟩ = some (.int .i64 nd2) ∧ W.cell? ⟨w.heap.size + 1, 4, none⟩ = some (.bool gn2)) (refine ⟨?_, ?_, ?_, ?_, ?_, ?_, ?_, ?_, ?_⟩ <;> first | exact newer_b0 _ _ _ | exact newer_b1 _ _ _ _ | exact newer_b2 _ _ _ _ _ _ _ _ | go_keep)
    (first | (go_at_call 31; refine (cmp_int _ _ _).mono ?_; rintro e w' ⟨rfl, rfl⟩) | (go_at_call 32; refine (unhide H3 _).mono ?_; rintro e w' ⟨rfl, rfl⟩) | (go_at_call 33; refine (unhide H4 _ (by first | exact newer_b0 _ _ _ | exact newer_b1 _ _ _ _)).mono ?_; rintro e w' ⟨rfl, rfl⟩))
  all_goals (
    generalize hk1 : cmpI st st2 = k1
    generalize hk2 : cmpI nd nd2 = k2
    have HK1 := hide hk1
    have HK2 := hide hk2
    clear hk1 hk2
    have i0 := idxN0 k1 k2 k3 k4
    have i1 := idxN1 k1 k2 k3 k4
    have i2 := idxN2 k1 k2 k3 k4
    have i3 := idxN3 k1 k2 k3 k4
    clear H3 H4
    go_wp2
    go_loopw [7, 30] (fun _ i wr => Hid (Below w.heap.size w wr) ∧ ((i = .int .i64 0) ∨ (i = .int .i64 1 ∧ k1 = 0) ∨ (i = .int .i64 2 ∧ k1 = 0 ∧ k2 = 0) ∨ (i = .int .i64 3 ∧ k1 = 0 ∧ k2 = 0 ∧ k3 = 0) ∨ (i = .int .i64 4 ∧ k1 = 0 ∧ k2 = 0 ∧ k3 = 0 ∧ k4 = 0))) (fun _ i _ => 4 - (intOf i).toNat)
    case atStart => exact ⟨newer_b1 _ _ _ _, .inl rfl⟩
    case round =>
      obtain ⟨HB, rfl | ⟨rfl, rfl⟩ | ⟨rfl, rfl, rfl⟩ | ⟨rfl, rfl, rfl, rfl⟩ | ⟨rfl, rfl, rfl, rfl, rfl⟩⟩ := hrel
      · by_cases h : k1 = 0
        · subst h
          go_wp2
          go_roundw
          case rel => exact ⟨HB, by simp⟩
          case measure => simp [intOf]
        · have hb := ne_b h
          go_wp2
          go_ret
          exact ⟨ret_int (by rw [unhide HK1, nz_at h]), unhide HB⟩
      · by_cases h : k2 = 0
        · subst h
          go_wp2
          go_roundw
          case rel => exact ⟨HB, by simp⟩
          case measure => simp [intOf]
        · have hb := ne_b h
          go_wp2
          go_ret
          exact ⟨ret_int (by rw [unhide HK1, unhide HK2, nz_past, nz_at h]), unhide HB⟩
      · by_cases h : k3 = 0
        · subst h
          go_wp2
          go_roundw
          case rel => exact ⟨HB, by simp⟩
          case measure => simp [intOf]
        · have hb := ne_b h
          go_wp2
          go_ret
          exact ⟨ret_int (by rw [unhide HK1, unhide HK2, nz_past, nz_past, nz_at h]), unhide HB⟩
      · by_cases h : k4 = 0
        · subst h
          go_wp2
          go_roundw
          case rel => exact ⟨HB, by simp⟩
          case measure => simp [intOf]
        · have hb := ne_b h
          go_wp2
          go_ret
          exact ⟨ret_int (by rw [unhide HK1, unhide HK2, nz_past, nz_past, nz_past]), unhide HB⟩
      · go_wp2
        go_ret
        exact ⟨ret_int (by rw [unhide HK1, unhide HK2, nz_past, nz_past, nz_past]), unhide HB⟩)
end Go.Proofs.YtmgmganbamjnmaaDoor
