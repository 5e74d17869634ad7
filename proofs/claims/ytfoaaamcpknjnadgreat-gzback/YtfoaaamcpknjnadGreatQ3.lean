/-
  Package gz: what stands ahead of the blocks, and behind them.
-/
import Derived.Test.YtfoaaamcpknjnadGreatQ1
import Derived.Test.YtfoaaamcpknjnadGreatQ2
import Derived.Deep.DeepCutAuto
import Derived.Stop.BytesEq
namespace Go.Proofs.YtfoaaamcpknjnadGreat
open Go.RowKit
set_option linter.unusedVariables false
set_option linter.unusedSimpArgs false
set_option maxRecDepth 100000

def headL : List Nat := [31, 139, 8, 0, 0, 0, 0, 0, 0, 255]
def tailL (c n : Nat) : List Nat := [c % 256, c / 256 % 256, c / 65536 % 256, c / 16777216 % 256, n % 256, n / 256 % 256, n / 65536 % 256, n / 16777216 % 256]
/-- block g holds the bytes xs -/
def URow (T : TypeId) (w : World) (g : Nat) (xs : List Nat) : Prop := w.heap[g]? = some (.cells (u8s xs).toArray T (0, 0))
theorem URow.lt {T : TypeId} {w : World} {g : Nat} {xs : List Nat} (h : URow T w g xs) : g < w.heap.size := (Array.getElem?_eq_some_iff.1 h).1
theorem URow.cell {T : TypeId} {w : World} {g : Nat} {xs : List Nat} (h : URow T w g xs) (j : Nat) (hj : j < xs.length) : w.cell? ⟨g, j, none⟩ = some (.int .u8 ((xs.getD j 0 : Nat) : Int)) := (heap_row h).trans (by simp [u8s, List.getD, hj])
theorem URow.frozen {T : TypeId} {w : World} {g : Nat} {xs : List Nat} (h : URow T w g xs) (j : Nat) : w.frozen? ⟨g, j, none⟩ = false := frozen_of_row w g j _ _ h
theorem URow.bytes {T : TypeId} {w : World} {g : Nat} {xs : List Nat} (h : URow T w g xs) : Bytes w g 0 xs := fun j hj => by rw [Nat.zero_add]; exact h.cell j hj
theorem URow.keep {T : TypeId} {w w' : World} {g : Nat} {xs : List Nat} (h : URow T w g xs) (hk : w'.heap[g]? = w.heap[g]?) : URow T w' g xs := hk.trans h
theorem URow.set {T : TypeId} {w : World} {g : Nat} {xs : List Nat} (h : URow T w g xs) (i y : Nat) : URow T (w.setCell ⟨g, i, none⟩ (.int .u8 (y : Int))) g (xs.set i y) := by
  have := heap_setCell_same w g i _ _ (.int .u8 (y : Int)) h
  unfold URow
  rw [this]
  simp [u8s, List.map_set]
theorem u8s_all (xs : List Nat) : (u8s xs).toArray.all (·.oneCell') = true := by
  simp [u8s]
  intro x hx
  rfl
theorem info10 : (Tryz.prog.info? 42).map (·.size) = some 10 := by kernel_rfl
theorem info8 : (Tryz.prog.info? 44).map (·.size) = some 8 := by kernel_rfl

theorem head_any (w : World) : Calls Tryz.prog 16 #[] w fun e w' => e = .returned (.agg (u8s headL).toArray) ∧ Below w.heap.size w w' := by
  have hsz : (u8s headL).toArray.size = 10 := by simp [headL]
  have hi1 : (Tryz.prog.info? 42).map (·.size) = some (u8s headL).toArray.size := by rw [info10, hsz]
  obtain ⟨OZ, hOZ⟩ : ∃ OZ, headL = OZ := ⟨_, rfl⟩
  rw [hOZ] at hi1 hsz ⊢
  have HZ := hide hOZ
  clear hOZ
  go_enter Tryz.func16, Tryz.ntmps16
  go_upto_region 1 with (fail)
  refine wp_region_lit ?_
  refine wpList_build rfl 42 _ rfl (by kernel_rfl) ?_
  generalize hV : (Program.built _ _ _).getD #[] = V
  have hV2 : V = (u8s OZ).toArray := by rw [← hV, ← unhide HZ]; kernel_rfl
  clear hV
  subst hV2
  simp only [Act.put]
  generalize hW : w.alloc _ = W
  have hA : W.heap[w.heap.size]? = some (.cells (u8s (List.replicate 10 0)).toArray 42 (0, 0)) := by rw [← hW]; exact (heap_alloc_new _ _).trans (by kernel_rfl)
  have hB : Below w.heap.size w W := by rw [← hW]; exact (Below.refl w.heap.size w).alloc (Nat.le_refl _) _
  clear hW
  refine wpList_store_row rfl 42 (.tmp 0) (.tmp 1) rfl w.heap.size (u8s OZ).toArray rfl rfl 42 _ hA hi1 (by rw [hsz]; simp) (u8s_all OZ) ?_
  refine wpList_nil ?_
  have HF : Hid (Below w.heap.size w (W.setRow w.heap.size (u8s OZ).toArray) ∧ URow 42 (W.setRow w.heap.size (u8s OZ).toArray) w.heap.size OZ) := hide ⟨below_setRow hB (Nat.le_refl _) _, setRow_heap _ _ _ _ _ _ hA⟩
  clear hA hB
  go_wp2
  refine bodyPost_ret (v := .agg (u8s OZ).toArray) ?_ rfl ⟨rfl, (unhide HF).1⟩
  exact results_cell_row rfl _ _ _ _ _ _ _ rfl (unhide HF).2 Tryz.underlying42 rfl hi1

theorem idxU0 (c n : Int) (W : World) : (Instr.index 57 (.agg #[.int .u32 c, .int .u32 n]) (.int .i64 0)).run Tryz.prog W = .ok (.int .u32 c) W := by kernel_rfl
theorem idxU1 (c n : Int) (W : World) : (Instr.index 57 (.agg #[.int .u32 c, .int .u32 n]) (.int .i64 1)).run Tryz.prog W = .ok (.int .u32 n) W := by kernel_rfl

theorem part_setN (l : List Nat) (k : Nat) (hk : k < l.length) : (l.take k ++ List.replicate (l.length - k) 0).set k (l.getD k 0) = l.take (k + 1) ++ List.replicate (l.length - (k + 1)) 0 := by
  have h1 : (l.take k).length = k := by simp; omega
  rw [List.set_append_right _ _ (by omega), h1, Nat.sub_self]
  obtain ⟨q, hq⟩ : ∃ q, l.length - k = q + 1 := ⟨l.length - k - 1, by omega⟩
  have e : l.take (k + 1) = l.take k ++ [l.getD k 0] := by rw [List.take_add_one]; simp [List.getD, hk]
  rw [hq, List.replicate_succ, List.set_cons_zero, e, show l.length - (k + 1) = q by omega]
  simp
def TSt (c n g5 N : Nat) (w : World) (j : Nat) (W : World) : Prop := URow 44 W g5 ((tailL c n).take j ++ List.replicate (8 - j) 0) ∧ URow 44 W N (List.replicate 8 0) ∧ Below N w W
theorem TSt.cell {c n g5 N j : Nat} {w W : World} (h : TSt c n g5 N w j W) (hj : j < 8) : ∃ x, W.cell? ⟨g5, j, none⟩ = some x ∧ W.frozen? ⟨g5, j, none⟩ = false := ⟨_, h.1.cell j (by simp [tailL]; omega), h.1.frozen j⟩
theorem TSt.step {c n g5 N j : Nat} {w W : World} {v : Int} (h : TSt c n g5 N w j W) (hj : j < 8) (hN : N < g5) (hv : v = (((tailL c n).getD j 0 : Nat) : Int)) : TSt c n g5 N w (j + 1) (W.setCell ⟨g5, j, none⟩ (.int .u8 v)) := by
  have hgr := grown_setCell W g5 j (.int .u8 v)
  have hl : (tailL c n).length = 8 := rfl
  refine ⟨?_, h.2.1.keep (hgr.block _ h.2.1.lt (fun e => by have := Option.some.inj e; omega)), h.2.2.grown hgr (Nat.le_of_lt h.2.1.lt) (fun g e => by cases e; omega)⟩
  have := h.1.set j ((tailL c n).getD j 0)
  have e := part_setN (tailL c n) j (by omega)
  rw [hl] at e
  rw [e] at this
  rw [hv]
  exact this

set_option maxHeartbeats 2000000 in
theorem tail_any (a : Option Addr) (n cap : Nat) (bs : List Nat) (w : World) (hl : bs.length = n) (hn : n ≤ 12000) (hby : BytesIn w a bs) (hv : ∀ j, bs.getD j 0 < 256) :
    Calls Tryz.prog 17 #[.slice a n cap] w fun e w' => e = .returned (.agg (u8s (tailL (crcN 0 bs) n)).toArray) ∧ Below w.heap.size w w' := by
  obtain ⟨N, hN⟩ : ∃ N, w.heap.size = N := ⟨_, rfl⟩
  have HC := hide (fun X => crc_ok 0 a n cap bs (w.alloc X) hl hn (by decide) (hby.alloc _) hv)
  have hlt : crcN 0 bs < 4294967296 := crcN_lt (fun x hx => by
    obtain ⟨i, hi, rfl⟩ := List.getElem_of_mem hx
    have := hv i
    rw [List.getD, List.getElem?_eq_getElem hi] at this
    exact this) (by decide)
  obtain ⟨c, hc⟩ : ∃ c, crcN 0 bs = c := ⟨_, rfl⟩
  rw [hc] at HC hlt ⊢
  have i0 := idxU0 (c : Int) (n : Int)
  have i1 := idxU1 (c : Int) (n : Int)
  clear hc hby hv hl
  go_enter Tryz.func17, Tryz.ntmps17
  go_wp2_with fail
  refine (unhide HC _).mono ?_
  rintro e w1 ⟨rfl, hB1⟩
  have R0 : URow 44 w1 N (List.replicate 8 0) := by
    rw [← hN]
    exact (hB1.block _ (by simp)).trans ((heap_alloc_new _ _).trans (by kernel_rfl))
  have B1 : Below N w w1 := by rw [← hN]; exact ((Below.refl w.heap.size w).alloc (Nat.le_refl _) _).trans (hB1.mono (by simp))
  have hz1 := hB1.size
  simp only [World.size_alloc] at hz1
  obtain ⟨g5, hg5⟩ : ∃ g5, w1.heap.size = g5 := ⟨_, rfl⟩
  have R5 : ∀ A : Array Value, A = (u8s (List.replicate 8 0)).toArray → URow 44 (w1.alloc (.cells A 44)) g5 (List.replicate 8 0) := fun A hA => by rw [hA, ← hg5]; exact heap_alloc_new _ _
  have HST : Hid (∀ A : Array Value, A = (u8s (List.replicate 8 0)).toArray → URow 44 (w1.alloc (.cells A 44)) g5 (List.replicate 8 0) ∧ URow 44 (w1.alloc (.cells A 44)) N (List.replicate 8 0) ∧ Below N w (w1.alloc (.cells A 44))) := hide (fun A hA => ⟨R5 A hA, R0.keep (Below.heap_alloc _ _ _ R0.lt), B1.alloc (by omega) _⟩)
  have hNg : N < g5 := by omega
  clear R0 R5 B1 hB1
  go_wp2
  go_loopw [19] (fun v19 wr => ∃ i : Nat, i ≤ 2 ∧ v19 = .int .i64 (i : Int) ∧ Hid (TSt c n g5 N w (4 * i) wr)) (fun v19 _ => 2 - (intOf v19).toNat)
  case atStart => exact ⟨0, by decide, rfl, hide (unhide HST _ (by kernel_rfl))⟩
  case round =>
    obtain ⟨i, hi, rfl, hst⟩ := hrel
    rcases (by omega : i = 0 ∨ i = 1 ∨ i = 2) with rfl | rfl | rfl
    · generalize wr = wl at *
      go_wp2
      go_loopw [23] (fun v23 wr => ∃ k : Nat, k ≤ 4 ∧ v23 = .int .i64 (k : Int) ∧ Hid (TSt c n g5 N w (0 + k) wr)) (fun v23 _ => 4 - (intOf v23).toNat)
      case atStart => exact ⟨0, by decide, rfl, hst⟩
      case round =>
        obtain ⟨k, hk, rfl, hsk⟩ := hrel
        rcases (by omega : k = 0 ∨ k = 1 ∨ k = 2 ∨ k = 3 ∨ k = 4) with rfl | rfl | rfl | rfl | rfl
        · obtain ⟨x0, c0, f0⟩ := (unhide hsk).cell (by decide)
          have c1 : wr.cell? ⟨g5, 0, none⟩ = some x0 := c0
          have f1 : wr.frozen? ⟨g5, 0, none⟩ = false := f0
          clear c0 f0
          go_wp2
          refine ⟨⟨1, by decide, rfl, hide ((unhide hsk).step (by decide) hNg ?_)⟩, by simp [intOf]⟩
          show _ = ((c % 256 : Nat) : Int)
          omega
        · obtain ⟨x0, c0, f0⟩ := (unhide hsk).cell (by decide)
          have c1 : wr.cell? ⟨g5, 1, none⟩ = some x0 := c0
          have f1 : wr.frozen? ⟨g5, 1, none⟩ = false := f0
          clear c0 f0
          go_wp2
          refine ⟨⟨2, by decide, rfl, hide ((unhide hsk).step (by decide) hNg ?_)⟩, by simp [intOf]⟩
          show _ = ((c / 256 % 256 : Nat) : Int)
          omega
        · obtain ⟨x0, c0, f0⟩ := (unhide hsk).cell (by decide)
          have c1 : wr.cell? ⟨g5, 2, none⟩ = some x0 := c0
          have f1 : wr.frozen? ⟨g5, 2, none⟩ = false := f0
          clear c0 f0
          go_wp2
          refine ⟨⟨3, by decide, rfl, hide ((unhide hsk).step (by decide) hNg ?_)⟩, by simp [intOf]⟩
          show _ = ((c / 65536 % 256 : Nat) : Int)
          omega
        · obtain ⟨x0, c0, f0⟩ := (unhide hsk).cell (by decide)
          have c1 : wr.cell? ⟨g5, 3, none⟩ = some x0 := c0
          have f1 : wr.frozen? ⟨g5, 3, none⟩ = false := f0
          clear c0 f0
          go_wp2
          refine ⟨⟨4, by decide, rfl, hide ((unhide hsk).step (by decide) hNg ?_)⟩, by simp [intOf]⟩
          show _ = ((c / 16777216 % 256 : Nat) : Int)
          omega
        · have hsn : Hid (TSt c n g5 N w (4 * 1) wr) := hsk
          clear hsk
          go_wp2
          refine ⟨⟨1, by decide, rfl, hsn⟩, by simp [intOf]⟩
    · generalize wr = wl at *
      go_wp2
      go_loopw [23] (fun v23 wr => ∃ k : Nat, k ≤ 4 ∧ v23 = .int .i64 (k : Int) ∧ Hid (TSt c n g5 N w (4 + k) wr)) (fun v23 _ => 4 - (intOf v23).toNat)
      case atStart => exact ⟨0, by decide, rfl, hst⟩
      case round =>
        obtain ⟨k, hk, rfl, hsk⟩ := hrel
        rcases (by omega : k = 0 ∨ k = 1 ∨ k = 2 ∨ k = 3 ∨ k = 4) with rfl | rfl | rfl | rfl | rfl
        · obtain ⟨x0, c0, f0⟩ := (unhide hsk).cell (by decide)
          have c1 : wr.cell? ⟨g5, 4, none⟩ = some x0 := c0
          have f1 : wr.frozen? ⟨g5, 4, none⟩ = false := f0
          clear c0 f0
          go_wp2
          refine ⟨⟨1, by decide, rfl, hide ((unhide hsk).step (by decide) hNg ?_)⟩, by simp [intOf]⟩
          show _ = ((n % 256 : Nat) : Int)
          omega
        · obtain ⟨x0, c0, f0⟩ := (unhide hsk).cell (by decide)
          have c1 : wr.cell? ⟨g5, 5, none⟩ = some x0 := c0
          have f1 : wr.frozen? ⟨g5, 5, none⟩ = false := f0
          clear c0 f0
          go_wp2
          refine ⟨⟨2, by decide, rfl, hide ((unhide hsk).step (by decide) hNg ?_)⟩, by simp [intOf]⟩
          show _ = ((n / 256 % 256 : Nat) : Int)
          omega
        · obtain ⟨x0, c0, f0⟩ := (unhide hsk).cell (by decide)
          have c1 : wr.cell? ⟨g5, 6, none⟩ = some x0 := c0
          have f1 : wr.frozen? ⟨g5, 6, none⟩ = false := f0
          clear c0 f0
          go_wp2
          refine ⟨⟨3, by decide, rfl, hide ((unhide hsk).step (by decide) hNg ?_)⟩, by simp [intOf]⟩
          show _ = ((n / 65536 % 256 : Nat) : Int)
          omega
        · obtain ⟨x0, c0, f0⟩ := (unhide hsk).cell (by decide)
          have c1 : wr.cell? ⟨g5, 7, none⟩ = some x0 := c0
          have f1 : wr.frozen? ⟨g5, 7, none⟩ = false := f0
          clear c0 f0
          go_wp2
          refine ⟨⟨4, by decide, rfl, hide ((unhide hsk).step (by decide) hNg ?_)⟩, by simp [intOf]⟩
          show _ = ((n / 16777216 % 256 : Nat) : Int)
          omega
        · have hsn : Hid (TSt c n g5 N w (4 * 2) wr) := hsk
          clear hsk
          go_wp2
          refine ⟨⟨2, by decide, rfl, hsn⟩, by simp [intOf]⟩
    · have hF : Hid (URow 44 wr g5 (tailL c n) ∧ URow 44 wr N (List.replicate 8 0) ∧ Below N w wr) := hst
      clear hst
      obtain ⟨TL, hTL⟩ : ∃ TL, tailL c n = TL := ⟨_, rfl⟩
      have hTl : TL.length = 8 := by rw [← hTL]; rfl
      rw [hTL] at hF
      have HTL := hide hTL
      clear hTL
      have hi1 : (Tryz.prog.info? 44).map (·.size) = some (u8s TL).toArray.size := by rw [info8]; simp [hTl]
      obtain ⟨r5, r0, bN⟩ := unhide hF
      have R5 := hide r5
      have R0 := hide r0
      have BN := hide bN
      have hu8 := Tryz.underlying44
      clear r5 r0 bN hF
      have HFN : Hid (∀ W, wr.setRow N (u8s TL).toArray = W → W.heap[N]? = some (.cells (u8s TL).toArray 44 (0, 0)) ∧ Below N w W) := hide (fun W hW => by rw [← hW]; exact ⟨setRow_heap _ _ _ _ _ _ (unhide R0), below_setRow (unhide BN) (Nat.le_refl _) _⟩)
      go_wp2_with (first | refine wpList_load_row rfl 44 (.tmp 5) rfl g5 rfl 44 (u8s TL).toArray (0, 0) _ (unhide R5) hu8 rfl hi1 ?_ | refine wpList_store_row rfl 44 (.tmp 2) (.tmp 38) rfl N (u8s TL).toArray rfl rfl 44 _ (unhide R0) hi1 (by simp [hTl]) (u8s_all TL) ?_)
      obtain ⟨W9, hW9⟩ : ∃ W9, wr.setRow N (u8s TL).toArray = W9 := ⟨_, rfl⟩
      obtain ⟨z1, z2⟩ := unhide HFN W9 hW9
      rw [hW9]
      refine bodyPost_ret (v := .agg (u8s TL).toArray) ?_ rfl ⟨by rw [unhide HTL], by rw [hN]; exact z2⟩
      exact results_cell_row rfl _ _ N _ _ _ _ rfl z1 hu8 rfl hi1
end Go.Proofs.YtfoaaamcpknjnadGreat

/-
  Package gz: what stands behind the blocks is checked.
-/
namespace Go.Proofs.YtfoaaamcpknjnadGreat
open Go.RowKit
set_option linter.unusedVariables false
set_option linter.unusedSimpArgs false
set_option maxRecDepth 100000

theorem u8_cells {xs : List Nat} (h : ∀ j, xs.getD j 0 < 256) : u8s xs = (xs.map UInt8.ofNat).map Extern.Stop.cell := by
  rw [List.map_map]
  apply List.map_congr_left
  intro x hx
  obtain ⟨i, hi, rfl⟩ := List.getElem_of_mem hx
  have := h i
  rw [List.getD, List.getElem?_eq_getElem hi] at this
  have h2 : xs[i] < 256 := this
  simp only [Function.comp, Extern.Stop.cell]
  congr 2
  rw [UInt8.toNat_ofNat']
  omega
theorem size_u8 (w : World) : (sizeOf 5).run Tryz.prog w = .ok 1 w := by kernel_rfl
theorem ofNat_same {xs ys : List Nat} (hx : ∀ j, xs.getD j 0 < 256) (hy : ∀ j, ys.getD j 0 < 256) : (xs.map UInt8.ofNat == ys.map UInt8.ofNat) = (xs == ys) := by
  rw [Bool.eq_iff_iff, beq_iff_eq, beq_iff_eq]
  constructor
  · intro h
    have hl : xs.length = ys.length := by have := congrArg List.length h; simpa using this
    apply List.ext_getElem hl
    intro j h1 h2
    have e := congrArg (fun l : List UInt8 => l[j]?) h
    simp [h1, h2] at e
    have a1 := hx j
    have a2 := hy j
    simp [List.getD, h1] at a1
    simp [List.getD, h2] at a2
    have e2 := congrArg UInt8.toNat e
    simp only [UInt8.toNat_ofNat'] at e2
    omega
  · intro h; rw [h]
theorem neq8 (xs ys : List Nat) (w : World) (hx : xs.length = 8) (hy : ys.length = 8) (h1 : ∀ j, xs.getD j 0 < 256) (h2 : ∀ j, ys.getD j 0 < 256) : (binOp .neq 44 (.agg (u8s xs).toArray) (.agg (u8s ys).toArray)).run Tryz.prog w = .ok (.bool (!(xs == ys))) w := by
  rw [u8_cells h1, u8_cells h2, run_neq_struct, run_equalIn_bytes w 9998 44 5 8 Tryz.underlying44 Tryz.underlying5 size_u8 _ _ (by simpa using hx) (by simpa using hy), ofNat_same h1 h2]
  rfl
theorem neq10 (xs ys : List Nat) (w : World) (hx : xs.length = 10) (hy : ys.length = 10) (h1 : ∀ j, xs.getD j 0 < 256) (h2 : ∀ j, ys.getD j 0 < 256) : (binOp .neq 42 (.agg (u8s xs).toArray) (.agg (u8s ys).toArray)).run Tryz.prog w = .ok (.bool (!(xs == ys))) w := by
  rw [u8_cells h1, u8_cells h2, run_neq_struct, run_equalIn_bytes w 9998 42 5 10 Tryz.underlying42 Tryz.underlying5 size_u8 _ _ (by simpa using hx) (by simpa using hy), ofNat_same h1 h2]
  rfl
theorem tail_val (c n j : Nat) : (tailL c n).getD j 0 < 256 := by
  have h : ∀ x ∈ tailL c n, x < 256 := fun x hx => by
    unfold tailL at hx
    simp only [List.mem_cons, List.not_mem_nil, or_false] at hx
    omega
  by_cases hj : j < (tailL c n).length
  · rw [List.getD, List.getElem?_eq_getElem hj]
    exact h _ (List.getElem_mem hj)
  · rw [List.getD, List.getElem?_eq_none (by omega)]
    exact (by decide : (0 : Nat) < 256)
theorem head_val (j : Nat) : headL.getD j 0 < 256 := by
  by_cases hj : j < 10
  · have : (List.range 10).all (fun j => decide (headL.getD j 0 < 256)) = true := by decide
    exact of_decide_eq_true (List.all_eq_true.1 this j (by simpa using hj))
  · rw [List.getD, List.getElem?_eq_none (by show headL.length ≤ j; exact (by omega : 10 ≤ j))]
    exact (by decide : (0 : Nat) < 256)
theorem Bytes.range {w : World} {b o : Nat} {xs : List Nat} (h : Bytes w b o xs) : w.rangeAt b o (u8s xs) := fun j v hv => by
  have hj : j < xs.length := by
    by_cases c : j < xs.length
    · exact c
    · rw [List.getElem?_eq_none (by simp; omega)] at hv; cases hv
  rw [h j hj]
  simp [u8s, hj] at hv
  subst hv
  simp [List.getD, hj]
/-- what is wrong with what stands behind -/
def chkT (xs T : List Nat) : Int := if xs.length < 8 then 7 else if 8 < xs.length then 4 else if xs = T then 0 else 10

set_option maxHeartbeats 2000000 in
theorem checkTail_any (ab ao : Option Addr) (nb cb n co : Nat) (xs bs : List Nat) (w : World) (hxl : xs.length = nb) (hmx : nb ≤ 6000) (hbx : BytesIn w ab xs) (hvx : ∀ j, xs.getD j 0 < 256) (hl : bs.length = n) (hn : n ≤ 12000) (hby : BytesIn w ao bs) (hv : ∀ j, bs.getD j 0 < 256) :
    Calls Tryz.prog 21 #[.slice ab nb cb, .slice ao n co] w fun e w' => e = .returned (.int .i64 (chkT xs (tailL (crcN 0 bs) n))) ∧ Below w.heap.size w w' := by
  by_cases h1 : nb < 8
  · have e : chkT xs (tailL (crcN 0 bs) n) = 7 := by unfold chkT; rw [if_pos (by omega)]
    have h1I : (nb : Int) < 8 := by omega
    rw [e]
    clear e hbx hby hv hvx
    go_enter Tryz.func21, Tryz.ntmps21
    go_wp2
    go_ret
    exact ⟨rfl, Below.refl _ _⟩
  by_cases h2 : 8 < nb
  · have e : chkT xs (tailL (crcN 0 bs) n) = 4 := by unfold chkT; rw [if_neg (by omega), if_pos (by omega)]
    have h1I : ¬ (nb : Int) < 8 := by omega
    have h2I : (8 : Int) < (nb : Int) := by omega
    rw [e]
    clear e hbx hby hv hvx
    go_enter Tryz.func21, Tryz.ntmps21
    go_wp2
    go_ret
    exact ⟨rfl, Below.refl _ _⟩
  obtain rfl : nb = 8 := by omega
  obtain ⟨b, o, rfl, hb, hB⟩ := bytesIn_some hbx (by omega)
  have HT := hide (fun q => tail_any ao n co bs (w.drewN q) hl hn hby hv)
  obtain ⟨T, hT⟩ : ∃ T, tailL (crcN 0 bs) n = T := ⟨_, rfl⟩
  have hTl : T.length = 8 := by rw [← hT]; rfl
  have hTv : ∀ j, T.getD j 0 < 256 := fun j => by rw [← hT]; exact tail_val _ _ j
  rw [hT] at HT ⊢
  have hne := fun W => neq8 xs T W hxl hTl hvx hTv
  have har : ∀ (a : Option Addr) (c : Nat) (W : World), (Instr.arrayAt 44 (.slice a 8 c)).run Tryz.prog W = .ok (.pointer a) W := fun a c W => run_arrayAt _ _ _ _ _ _ _ Tryz.underlying44 (by decide)
  have hu8 := Tryz.underlying44
  have hi8 : (Tryz.prog.info? 44).map (·.size) = some (u8s xs).length := by rw [info8]; simp [hxl]
  have HE : Hid (chkT xs T = if xs = T then 0 else 10) := hide (by unfold chkT; rw [if_neg (by omega), if_neg (by omega)])
  have HR := hB.range
  clear hT hbx hby hv hvx hTv hl
  go_enter Tryz.func21, Tryz.ntmps21
  go_wp2
  refine wp_region_held_drew (S := fun w' => w'.rangeAt b o (u8s xs)) (by kernel_rfl) HR (fun hHeld => ?_)
  refine wpAnyH_take (i := 0) (v := .slice (some ⟨b, o, none⟩) 8 cb) rfl (by kernel_rfl) (by kernel_rfl) (by kernel_rfl) (fun _ _ _ h => h) (Or.inl ⟨by rfl, fun W hS => by go_simp⟩) hHeld ?_
  simp only [Act.put, List.setIfInBounds_toArray, List.set_cons_zero, List.set_cons_succ]
  refine wpAnyH_take (i := 1) (v := .pointer (some ⟨b, o, none⟩)) rfl (by kernel_rfl) (by kernel_rfl) (by kernel_rfl) (fun _ _ _ h => h) (Or.inl ⟨by rfl, fun W hS => by go_simp⟩) hHeld ?_
  simp only [Act.put, List.setIfInBounds_toArray, List.set_cons_zero, List.set_cons_succ]
  refine wpAnyH_take (i := 2) (v := .agg (u8s xs).toArray) rfl (by kernel_rfl) (by kernel_rfl) (by kernel_rfl) (fun _ _ _ h => h) (yieldsIf_load_mid (by rfl) _ _ rfl _ _ rfl _ _ (fun _ h => h) hu8 rfl hi8) hHeld ?_
  simp only [Act.put, List.setIfInBounds_toArray, List.set_cons_zero, List.set_cons_succ]
  refine wpAnyH_take (i := 3) (v := .slice ao n co) rfl (by kernel_rfl) (by kernel_rfl) (by kernel_rfl) (fun _ _ _ h => h) (Or.inl ⟨by rfl, fun W hS => by go_simp⟩) hHeld ?_
  simp only [Act.put, List.setIfInBounds_toArray, List.set_cons_zero, List.set_cons_succ]
  refine wpAnyH_ready (rs := [4]) (by kernel_rfl) (by simp) (AllReadyH.cons rfl (fun K hK => ?_) AllReadyH.nil)
  go_simp
  refine (unhide HT _).mono ?_
  rintro e w4 ⟨rfl, hB4⟩
  have HB4 : Hid (Below w.heap.size w w4) := hide ((below_drewN (Below.refl _ _) _).trans hB4)
  have hr4 : w4.rangeAt b o (u8s xs) := fun j v hv => ((unhide HB4).cell (p := ⟨b, o + j, none⟩) hb).trans (HR j v hv)
  clear hB4
  dsimp only
  refine hK.out _ _ hr4 (fun hHeld4 => ?_)
  clear hK K hHeld
  have hgd : Tryz.prog.eqGuardType Tryz.prog.depth 44 = false := by kernel_rfl
  obtain ⟨q, hq⟩ : ∃ q, (xs == T) = q := ⟨_, rfl⟩
  have HQ := hide hq
  rw [hq] at hne
  clear hq
  refine wpAnyH_ready (rs := [5]) (by kernel_rfl) (by simp) (AllReadyH.cons rfl (fun K hK => ?_) AllReadyH.nil)
  go_simp
  refine hK.out _ _ hHeld4 (fun hHeld5 => ?_)
  clear hK K hHeld4
  refine wpAnyH_ready (rs := [6]) (by kernel_rfl) (by simp) (AllReadyH.cons rfl (fun K hK => ?_) AllReadyH.nil)
  go_simp
  refine hK.out _ _ hHeld5 (fun hHeld6 => ?_)
  clear hK K hHeld5
  refine wpAnyH_done (by kernel_rfl) ?_ _
  cases q with
  | true =>
    have HF : Hid (chkT xs T = 0) := hide (by rw [unhide HE, if_pos (by have := unhide HQ; simpa using this)])
    clear hne
    go_wp2
    go_ret
    exact ⟨by rw [unhide HF]; rfl, unhide HB4⟩
  | false =>
    have HF : Hid (chkT xs T = 10) := hide (by rw [unhide HE, if_neg (by have := unhide HQ; simpa using this)])
    clear hne
    go_wp2
    go_ret
    exact ⟨by rw [unhide HF]; rfl, unhide HB4⟩
end Go.Proofs.YtfoaaamcpknjnadGreat
