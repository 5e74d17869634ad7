/-
  The law MergeBoth, walked: any files are checked, held against each other, and come together, as the document says, errors too.
-/
import Derived.Test.YtfojmdbpjkkpbaeDoorMg20
namespace Go.Proofs.YtfojmdbpjkkpbaeDoor
open Go.RowKit
set_option linter.unusedVariables false
set_option maxRecDepth 100000

theorem bel_step {a W W' : World} (h : Below a.heap.size a W) (k : Below W.heap.size W W') : Below a.heap.size a W' := h.trans (k.mono h.size)
theorem b3_0 (w : World) (o2 o3 : Obj) (cs : Array Value) (t : TypeId) (j : Nat) : (((w.alloc (.cells cs t)).alloc o2).alloc o3).cell? ⟨w.heap.size, j, none⟩ = cs[j]? := by
  rw [World.cell?_alloc_past _ _ _ (by rw [World.size_alloc, World.size_alloc]; omega), World.cell?_alloc_past _ _ _ (by rw [World.size_alloc]; omega)]
  exact World.cell?_alloc_at _ _ _ _ rfl
theorem b3_1 (w : World) (o1 o3 : Obj) (cs : Array Value) (t : TypeId) (j : Nat) : (((w.alloc o1).alloc (.cells cs t)).alloc o3).cell? ⟨w.heap.size + 1, j, none⟩ = cs[j]? := by
  rw [World.cell?_alloc_past _ _ _ (by rw [World.size_alloc, World.size_alloc]; omega)]
  exact World.cell?_alloc_at _ _ _ _ (by rw [World.size_alloc])
theorem b3_2 (w : World) (o1 o2 : Obj) (cs : Array Value) (t : TypeId) (j : Nat) : (((w.alloc o1).alloc o2).alloc (.cells cs t)).cell? ⟨w.heap.size + 1 + 1, j, none⟩ = cs[j]? :=
  World.cell?_alloc_at _ _ _ _ (by rw [World.size_alloc, World.size_alloc])

set_option maxHeartbeats 8000000 in
theorem bothLaw_any (a b : Value) (A Bl : List Fl) (x y : Fv) (w : World) (ha : LIn w a A) (hb : LIn w b Bl) (hx : FvIn w x) (hy : FvIn w y) :
    Calls Tryd.prog 6 #[a, b, x.val, y.val] w fun e w' => e = .returned (.bool true) ∧ Below w.heap.size w w' := by
  obtain ⟨ad, c, hsa⟩ := ha.shape
  subst hsa
  obtain ⟨n, hn⟩ : ∃ n, A.length = n := ⟨_, rfl⟩
  rw [hn] at ha ⊢
  clear hn
  have HXC : Hid (x.cells.toArray = #[.string (B x.f.name), .slice x.a x.f.bytes.length x.c, .int .i64 x.f.stamp, .int .i64 x.f.node, .bool x.f.gone]) := rfl
  have HN1 := hide (fun W (hW : Below w.heap.size w W) => newer_any x y W (hx.below hW (Nat.le_refl _)) (hy.below hW (Nat.le_refl _)))
  have HN2 := hide (fun W (hW : Below w.heap.size w W) => later_any x y W (hx.below hW (Nat.le_refl _)) (hy.below hW (Nat.le_refl _)))
  have HPT := hide (fun (v : Value) W (hW : Below w.heap.size w W) (h : LIn W v A) => put_l h (hx.below hW (Nat.le_refl _)))
  have HC1 := hide (fun (W : World) (h : LIn W (.slice ad n c) A) => check_l h)
  have HC2 := hide (fun (W : World) (h : LIn W (.slice ad n c) A) => cfl h)
  have HONE := hide (fun W (hW : Below w.heap.size w W) => one_lin (hx.below hW (Nat.le_refl _)))
  rw [val_is, val_is] at HN1 HN2
  rw [val_is] at HPT
  rw [val_is, val_is]
  rw [unhide HXC] at HONE
  have HA := hide ha
  have HB := hide hb
  clear ha hb hx hy HXC
  obtain ⟨EA, hEA⟩ : ∃ EA, errM A = EA := ⟨_, rfl⟩
  rw [hEA] at HC1 HC2
  obtain ⟨nw, hnw⟩ : ∃ nw, nwr x.f y.f = nw := ⟨_, rfl⟩
  rw [hnw] at HN1 HN2
  obtain ⟨E1, hE1⟩ : ∃ E1, bothE A Bl = E1 := ⟨_, rfl⟩
  obtain ⟨E2, hE2⟩ : ∃ E2, bothE A [x.f] = E2 := ⟨_, rfl⟩
  have HE1 := hide hE1
  have HE2 := hide hE2
  have HBO := hide (fun (v u : Value) (W : World) (h : LIn W v A) (k : LIn W u Bl) => both_l h k)
  rw [hE1] at HBO
  rw [hE2] at HPT
  have hq1 : ((EA : Int) != (EA : Int)) = false := by simp
  have hq2 : (nw != nw) = false := by simp
  clear hEA hnw hE1 hE2
  generalize B x.f.name = xt at *
  generalize B y.f.name = yt at *
  generalize x.f.bytes.length = xn at *
  generalize y.f.bytes.length = yn at *
  generalize x.f.stamp = xs at *
  generalize y.f.stamp = ys at *
  generalize x.f.node = xd at *
  generalize y.f.node = yd at *
  generalize x.f.gone = xg at *
  generalize y.f.gone = yg at *
  have HB0 := hide (bel_al (bel_al (bel_al (Below.refl w.heap.size w) (.cells #[.slice ad n c] 37)) (.cells #[.string xt, .slice x.a xn x.c, .int .i64 xs, .int .i64 xd, .bool xg] 40)) (.cells #[.string yt, .slice y.a yn y.c, .int .i64 ys, .int .i64 yd, .bool yg] 40))
  have HCELL : Hid (∀ W : World, Below (((w.alloc (.cells #[.slice ad n c] 37)).alloc (.cells #[.string xt, .slice x.a xn x.c, .int .i64 xs, .int .i64 xd, .bool xg] 40)).alloc (.cells #[.string yt, .slice y.a yn y.c, .int .i64 ys, .int .i64 yd, .bool yg] 40)).heap.size (((w.alloc (.cells #[.slice ad n c] 37)).alloc (.cells #[.string xt, .slice x.a xn x.c, .int .i64 xs, .int .i64 xd, .bool xg] 40)).alloc (.cells #[.string yt, .slice y.a yn y.c, .int .i64 ys, .int .i64 yd, .bool yg] 40)) W → W.cell? ⟨w.heap.size, 0, none⟩ = some (.slice ad n c) ∧ (W.cell? ⟨w.heap.size + 1, 0, none⟩ = some (.string xt) ∧ W.cell? ⟨w.heap.size + 1, 1, none⟩ = some (.slice x.a xn x.c) ∧ W.cell? ⟨w.heap.size + 1, 2, none⟩ = some (.int .i64 xs) ∧ W.cell? ⟨w.heap.size + 1, 3, none⟩ = some (.int .i64 xd) ∧ W.cell? ⟨w.heap.size + 1, 4, none⟩ = some (.bool xg)) ∧ (W.cell? ⟨w.heap.size + 1 + 1, 0, none⟩ = some (.string yt) ∧ W.cell? ⟨w.heap.size + 1 + 1, 1, none⟩ = some (.slice y.a yn y.c) ∧ W.cell? ⟨w.heap.size + 1 + 1, 2, none⟩ = some (.int .i64 ys) ∧ W.cell? ⟨w.heap.size + 1 + 1, 3, none⟩ = some (.int .i64 yd) ∧ W.cell? ⟨w.heap.size + 1 + 1, 4, none⟩ = some (.bool yg))) := by
    intro W hW
    have hs : (((w.alloc (.cells #[.slice ad n c] 37)).alloc (.cells #[.string xt, .slice x.a xn x.c, .int .i64 xs, .int .i64 xd, .bool xg] 40)).alloc (.cells #[.string yt, .slice y.a yn y.c, .int .i64 ys, .int .i64 yd, .bool yg] 40)).heap.size = w.heap.size + 1 + 1 + 1 := by rw [World.size_alloc, World.size_alloc, World.size_alloc]
    have l0 : w.heap.size < (((w.alloc (.cells #[.slice ad n c] 37)).alloc (.cells #[.string xt, .slice x.a xn x.c, .int .i64 xs, .int .i64 xd, .bool xg] 40)).alloc (.cells #[.string yt, .slice y.a yn y.c, .int .i64 ys, .int .i64 yd, .bool yg] 40)).heap.size := by omega
    have l1 : w.heap.size + 1 < (((w.alloc (.cells #[.slice ad n c] 37)).alloc (.cells #[.string xt, .slice x.a xn x.c, .int .i64 xs, .int .i64 xd, .bool xg] 40)).alloc (.cells #[.string yt, .slice y.a yn y.c, .int .i64 ys, .int .i64 yd, .bool yg] 40)).heap.size := by omega
    have l2 : w.heap.size + 1 + 1 < (((w.alloc (.cells #[.slice ad n c] 37)).alloc (.cells #[.string xt, .slice x.a xn x.c, .int .i64 xs, .int .i64 xd, .bool xg] 40)).alloc (.cells #[.string yt, .slice y.a yn y.c, .int .i64 ys, .int .i64 yd, .bool yg] 40)).heap.size := by omega
    exact ⟨(hW.cell (p := ⟨w.heap.size, 0, none⟩) l0).trans (b3_0 _ _ _ _ _ _), ⟨(hW.cell (p := ⟨w.heap.size + 1, 0, none⟩) l1).trans (b3_1 _ _ _ _ _ _), (hW.cell (p := ⟨w.heap.size + 1, 1, none⟩) l1).trans (b3_1 _ _ _ _ _ _), (hW.cell (p := ⟨w.heap.size + 1, 2, none⟩) l1).trans (b3_1 _ _ _ _ _ _), (hW.cell (p := ⟨w.heap.size + 1, 3, none⟩) l1).trans (b3_1 _ _ _ _ _ _), (hW.cell (p := ⟨w.heap.size + 1, 4, none⟩) l1).trans (b3_1 _ _ _ _ _ _)⟩, ⟨(hW.cell (p := ⟨w.heap.size + 1 + 1, 0, none⟩) l2).trans (b3_2 _ _ _ _ _ _), (hW.cell (p := ⟨w.heap.size + 1 + 1, 1, none⟩) l2).trans (b3_2 _ _ _ _ _ _), (hW.cell (p := ⟨w.heap.size + 1 + 1, 2, none⟩) l2).trans (b3_2 _ _ _ _ _ _), (hW.cell (p := ⟨w.heap.size + 1 + 1, 3, none⟩) l2).trans (b3_2 _ _ _ _ _ _), (hW.cell (p := ⟨w.heap.size + 1 + 1, 4, none⟩) l2).trans (b3_2 _ _ _ _ _ _)⟩⟩
  replace HA := hide ((unhide HA).below (unhide HB0))
  replace HB := hide ((unhide HB).below (unhide HB0))
  go_enter Tryd.func6, Tryd.ntmps6
  go_wp2_with fail
  refine (own_l (unhide HA)).mono ?_
  rintro e w1 ⟨ow, rfl, hl1, hb1⟩
  have HOW := hide hl1
  replace HA := hide ((unhide HA).below hb1)
  replace HB := hide ((unhide HB).below hb1)
  have HW := hide hb1
  clear hl1 hb1
  go_wp2_with fail
  refine (own_l (unhide HB)).mono ?_
  rintro e w2 ⟨ot, rfl, hl2, hb2⟩
  have HOT := hide hl2
  replace HA := hide ((unhide HA).below hb2)
  replace HB := hide ((unhide HB).below hb2)
  replace HOW := hide ((unhide HOW).below hb2)
  replace HW := hide (bel_step (unhide HW) hb2)
  clear hl2 hb2
  go_wp2_with fail
  refine (unhide HBO _ _ _ (unhide HOW) (unhide HOT)).mono ?_
  rintro e w3 ⟨l, rfl, hl3, hb3⟩
  have HL := hide hl3
  replace HA := hide ((unhide HA).below hb3)
  replace HB := hide ((unhide HB).below hb3)
  replace HOW := hide ((unhide HOW).below hb3)
  replace HOT := hide ((unhide HOT).below hb3)
  replace HW := hide (bel_step (unhide HW) hb3)
  clear hl3 hb3
  obtain ⟨_, ⟨f0, f1, f2, f3, f4⟩, _⟩ := unhide HCELL w3 (unhide HW)
  have HBw := hide ((unhide HB0).trans ((unhide HW).mono (unhide HB0).size))
  go_wp2_with fail
  refine (unhide HPT _ _ (unhide HBw) (unhide HOW)).mono ?_
  rintro e w4 ⟨p, rfl, hl4, hb4⟩
  have HP := hide hl4
  replace HA := hide ((unhide HA).below hb4)
  replace HB := hide ((unhide HB).below hb4)
  replace HOW := hide ((unhide HOW).below hb4)
  replace HOT := hide ((unhide HOT).below hb4)
  replace HL := hide ((unhide HL).below hb4)
  replace HW := hide (bel_step (unhide HW) hb4)
  replace HBw := hide (bel_step (unhide HBw) hb4)
  clear hl4 hb4 f0 f1 f2 f3 f4 HBO HPT
  -- the cells that are read, in whatever world comes of this one
  have hcl := fun W (hW : Below w4.heap.size w4 W) => unhide HCELL W (bel_step (unhide HW) hW)
  have ka := fun W hW => (hcl W hW).1
  have kx0 := fun W hW => (hcl W hW).2.1.1
  have kx1 := fun W hW => (hcl W hW).2.1.2.1
  have kx2 := fun W hW => (hcl W hW).2.1.2.2.1
  have kx3 := fun W hW => (hcl W hW).2.1.2.2.2.1
  have kx4 := fun W hW => (hcl W hW).2.1.2.2.2.2
  have ky0 := fun W hW => (hcl W hW).2.2.1
  have ky1 := fun W hW => (hcl W hW).2.2.2.1
  have ky2 := fun W hW => (hcl W hW).2.2.2.2.1
  have ky3 := fun W hW => (hcl W hW).2.2.2.2.2.1
  have ky4 := fun W hW => (hcl W hW).2.2.2.2.2.2
  have HCL := hide hcl
  clear hcl
  have HR1 := hide (fun W (hW : Below w4.heap.size w4 W) => unhide HC1 W ((unhide HA).below hW))
  have HR2 := hide (fun W (hW : Below w4.heap.size w4 W) => unhide HC2 W ((unhide HA).below hW))
  have HR3 := hide (fun W (hW : Below w4.heap.size w4 W) => unhide HN1 W (bel_step (unhide HBw) hW))
  have HR4 := hide (fun W (hW : Below w4.heap.size w4 W) => unhide HN2 W (bel_step (unhide HBw) hW))
  have HR5 : Hid (∀ (v u : Value) W (hW : Below w4.heap.size w4 W), (v = ow ∧ u = .slice ad n c) ∨ (v = ot ∧ u = b) → Calls Tryd.prog 27 #[v, u] W fun e w' => e = .returned (.bool true) ∧ Below W.heap.size W w') := by
    intro v u W hW h
    rcases h with ⟨rfl, rfl⟩ | ⟨rfl, rfl⟩
    · exact same_yes ((unhide HOW).below hW) ((unhide HA).below hW) rfl
    · exact same_yes ((unhide HOT).below hW) ((unhide HB).below hW) rfl
  clear HC1 HC2 HN1 HN2
  go_wp2_with fail
  go_region_held3 (fun W => Below w4.heap.size w4 W) (first | exact bel_dr (Below.refl _ _) | assumption)
    (first | (go_at_call 22; refine (merged_any _).mono ?_; rintro e wN ⟨rfl, hbN⟩; have hbM := bel_step (by first | assumption | exact bel_dr (Below.refl _ _)) hbN; clear hbN) | (go_at_call 23; refine (unhide HR1 _ (by first | assumption | exact bel_dr (Below.refl _ _))).mono ?_; rintro e wN ⟨rfl, hbN⟩; have hbM := bel_step (by first | assumption | exact bel_dr (Below.refl _ _)) hbN; clear hbN) | (go_at_call 24; refine (unhide HR2 _ (by first | assumption | exact bel_dr (Below.refl _ _))).mono ?_; rintro e wN ⟨rfl, hbN⟩; have hbM := bel_step (by first | assumption | exact bel_dr (Below.refl _ _)) hbN; clear hbN) | (go_at_call 25; refine (unhide HR3 _ (by first | assumption | exact bel_dr (Below.refl _ _))).mono ?_; rintro e wN ⟨rfl, hbN⟩; have hbM := bel_step (by first | assumption | exact bel_dr (Below.refl _ _)) hbN; clear hbN) | (go_at_call 26; refine (unhide HR4 _ (by first | assumption | exact bel_dr (Below.refl _ _))).mono ?_; rintro e wN ⟨rfl, hbN⟩; have hbM := bel_step (by first | assumption | exact bel_dr (Below.refl _ _)) hbN; clear hbN) | (go_at_call 27; refine (unhide HR5 _ _ _ (by first | assumption | exact bel_dr (Below.refl _ _)) (by first | exact .inl ⟨rfl, rfl⟩ | exact .inr ⟨rfl, rfl⟩)).mono ?_; rintro e wN ⟨rfl, hbN⟩; have hbM := bel_step (by first | assumption | exact bel_dr (Below.refl _ _)) hbN; clear hbN))
  rename World => wZ
  have HZ : Hid (Below w4.heap.size w4 wZ) := hide (by assumption)
  clear ka kx0 kx1 kx2 kx3 kx4 ky0 ky1 ky2 ky3 ky4 HR1 HR2 HR3 HR4 HR5
  obtain ⟨g0, _⟩ := unhide HCL wZ (unhide HZ)
  have hgl : w.heap.size < wZ.heap.size := by
    have h1 := (unhide HW).size
    have h2 := (unhide HZ).size
    rw [World.size_alloc, World.size_alloc, World.size_alloc] at h1
    omega
  have HSA := hide (says_any l b (.slice ad n c) (bothL A Bl) A Bl w.heap.size E1 wZ ((unhide HL).below (unhide HZ)) ((unhide HB).below (unhide HZ)) ((unhide HA).below (unhide HZ)) g0 hgl rfl (unhide HE1))
  clear g0
  go_wp2_with fail
  refine (unhide HSA).mono ?_
  rintro e w6 ⟨rfl, hb6⟩
  have HZ6 := hide (bel_step (unhide HZ) hb6)
  have hz6 := hb6.size
  clear hb6 HSA
  obtain ⟨_, ⟨f0, f1, f2, f3, f4⟩, _⟩ := unhide HCL w6 (unhide HZ6)
  have HZ7 := hide (bel_al (unhide HZ6) (.cells #[.string xt, .slice x.a xn x.c, .int .i64 xs, .int .i64 xd, .bool xg] 40))
  obtain ⟨g7, _⟩ := unhide HCL _ (unhide HZ7)
  have HON := hide (unhide HONE w6 (bel_step (unhide HBw) (unhide HZ6)))
  have HSB := hide (says_any p (.slice (some ⟨w6.heap.size, 0, none⟩) 1 1) (.slice ad n c) (bothL A [x.f]) A [x.f] w.heap.size E2 _ ((unhide HP).below (unhide HZ7)) (unhide HON) ((unhide HA).below (unhide HZ7)) g7 (by rw [World.size_alloc]; omega) rfl (unhide HE2))
  have HFI := hide (bel_step (unhide HBw) (unhide HZ7))
  clear g7
  go_wp2_with fail
  refine (unhide HSB).mono ?_
  rintro e w8 ⟨rfl, hb8⟩
  have HF8 := hide (bel_step (unhide HFI) hb8)
  clear hb8
  go_wp2
  go_ret
  exact ⟨rfl, unhide HF8⟩
end Go.Proofs.YtfojmdbpjkkpbaeDoor
