/-
  Worlds, of lists alone: what a right one is.
-/
import Derived.Test.YtmgmganbamjnmaaDoorQ11
import Derived.Test.YtmgmganbamjnmaaDoorQ25
import Derived.Test.YtmgmganbamjnmaaDoorQ12
import Derived.Test.YtmgmganbamjnmaaDoorQ9
namespace Go.Proofs.YtmgmganbamjnmaaDoor
open Go.RowKit
set_option linter.unusedVariables false
set_option linter.unusedSimpArgs false

/-- a node that is right -/
structure NdOk (l : List Fl) (c : Int) : Prop where
  m : errM l = 0
  lo : 0 ≤ c
  hi : c ≤ 1000000
  st : ∀ f ∈ l, f.stamp ≤ c
theorem errNd_zero {l : List Fl} {c : Int} : errNd l c = 0 ↔ NdOk l c := by
  unfold errNd
  constructor
  · intro h
    by_cases h0 : errM l = 0
    · rw [if_neg (by simp [h0])] at h
      by_cases h1 : c < 0 ∨ 1000000 < c ∨ c < rsd c l
      · rw [if_pos h1] at h; cases h
      · exact ⟨h0, by omega, by omega, rsd_iff.1 (by omega)⟩
    · rw [if_pos h0] at h; exact absurd h h0
  · intro h
    have := rsd_iff.2 h.st
    have h1 := h.lo
    have h2 := h.hi
    rw [if_neg (by simp [h.m]), if_neg (by omega)]
theorem errNs_zero : ∀ {ls : List (List Fl)} {cs : List Int}, errNs ls cs = 0 ↔ ∀ (k : Nat) (l : List Fl) (c : Int), ls[k]? = some l → cs[k]? = some c → NdOk l c
  | [], cs => by simp [errNs]
  | l :: r, [] => by simp [errNs]
  | l :: r, c :: s => by
    have ih := @errNs_zero r s
    constructor
    · intro h k l' c' h1 h2
      have hd : errNs (l :: r) (c :: s) = if errNd l c ≠ 0 then errNd l c else errNs r s := rfl
      rw [hd] at h
      by_cases h0 : errNd l c = 0
      · rw [if_neg (by simp [h0])] at h
        cases k with
        | zero => cases h1; cases h2; exact errNd_zero.1 h0
        | succ k => exact ih.1 h k l' c' (by simpa using h1) (by simpa using h2)
      · rw [if_pos h0] at h; exact absurd h h0
    · intro h
      have hd : errNs (l :: r) (c :: s) = if errNd l c ≠ 0 then errNd l c else errNs r s := rfl
      have h0 := errNd_zero.2 (h 0 l c rfl rfl)
      rw [hd, if_neg (by simp [h0])]
      exact ih.2 (fun k l' c' h1 h2 => h (k + 1) l' c' (by simpa using h1) (by simpa using h2))
structure MsOk (n : Nat) (m : Ms) : Prop where
  fl : errM m.files = 0
  lo : 0 ≤ m.dst
  hi : m.dst < n
theorem isP_true {k : Int} {n : Nat} : isP k n = true ↔ 0 ≤ k ∧ k < n := by unfold isP; rw [decide_eq_true_iff]
theorem isP_false {k : Int} {n : Nat} : isP k n = false ↔ ¬ (0 ≤ k ∧ k < n) := by unfold isP; rw [decide_eq_false_iff_not]
theorem isP_nat {k n : Nat} (h : k < n) : isP (k : Int) n = true := isP_true.2 ⟨by omega, by omega⟩
theorem errMs_zero {n : Nat} : ∀ {ms : List Ms}, errMs n ms = 0 ↔ ∀ m ∈ ms, MsOk n m
  | [] => by simp [errMs]
  | m :: r => by
    have ih := @errMs_zero n r
    have hd : errMs n (m :: r) = if errM m.files ≠ 0 then errM m.files else if isP m.dst n = false then 5 else errMs n r := rfl
    rw [hd]
    constructor
    · intro h x hx
      by_cases h0 : errM m.files = 0
      · rw [if_neg (by simp [h0])] at h
        by_cases h1 : isP m.dst n = false
        · rw [if_pos h1] at h; cases h
        · rw [if_neg h1] at h
          rcases List.mem_cons.1 hx with rfl | hx
          · have := isP_true.1 (by simpa using h1)
            exact ⟨h0, this.1, this.2⟩
          · exact ih.1 h x hx
      · rw [if_pos h0] at h; exact absurd h h0
    · intro h
      have h0 := h m List.mem_cons_self
      rw [if_neg (by simp [h0.fl]), if_neg (by rw [isP_true.2 ⟨h0.lo, h0.hi⟩]; decide)]
      exact ih.2 (fun x hx => h x (List.mem_cons_of_mem _ hx))
/-- a right world -/
structure WdOk (W : Wd) : Prop where
  lo : 1 ≤ W.nodes.length
  hi : W.nodes.length ≤ 4
  cl : W.clock.length = W.nodes.length
  nt : W.net.length ≤ 20
  nd : ∀ (k : Nat) (l : List Fl) (c : Int), W.nodes[k]? = some l → W.clock[k]? = some c → NdOk l c
  ms : ∀ m ∈ W.net, MsOk W.nodes.length m
theorem errWd_zero {W : Wd} : errWd W = 0 ↔ WdOk W := by
  unfold errWd
  constructor
  · intro h
    by_cases h1 : W.nodes.length < 1 ∨ 4 < W.nodes.length ∨ W.clock.length ≠ W.nodes.length
    · rw [if_pos h1] at h; cases h
    · rw [if_neg h1] at h
      by_cases h2 : 20 < W.net.length
      · rw [if_pos h2] at h; cases h
      · rw [if_neg h2] at h
        by_cases h3 : errNs W.nodes W.clock = 0
        · rw [if_neg (by simp [h3])] at h
          exact ⟨by omega, by omega, by omega, by omega, errNs_zero.1 h3, errMs_zero.1 h⟩
        · rw [if_pos h3] at h; exact absurd h h3
  · intro h
    have h1 := h.lo
    have h2 := h.hi
    have h3 := h.cl
    have h4 := h.nt
    rw [if_neg (by omega), if_neg (by omega), if_neg (by simp [errNs_zero.2 h.nd])]
    exact errMs_zero.2 h.ms
theorem WdOk.node {W : Wd} (h : WdOk W) {k : Nat} (hk : k < W.nodes.length) : ∃ l c, W.nodes[k]? = some l ∧ W.clock[k]? = some c ∧ NdOk l c := by
  have hk2 : k < W.clock.length := by rw [h.cl]; exact hk
  exact ⟨_, _, List.getElem?_eq_getElem hk, List.getElem?_eq_getElem hk2, h.nd k _ _ (List.getElem?_eq_getElem hk) (List.getElem?_eq_getElem hk2)⟩
end Go.Proofs.YtmgmganbamjnmaaDoor

/-
  Both of two slices of files.
-/
namespace Go.Proofs.YtmgmganbamjnmaaDoor
open Go.RowKit
set_option linter.unusedVariables false
set_option maxRecDepth 100000
theorem both_l {w : World} {v u : Value} {a b : List Fl} (h : LIn w v a) (k : LIn w u b) :
    Calls Tryd.prog 21 #[v, u] w fun e w' => ∃ x, e = .returned (.tuple #[x, .int .i64 (bothE a b : Nat)]) ∧ LIn w' x (bothL a b) ∧ Below w.heap.size w w' := by
  obtain ⟨ad, c, out, rfl, h2, h3⟩ := h
  obtain ⟨bd, d, out', rfl, k2, k3⟩ := k
  refine (both_any ad bd c d out out' w h2 k2 _ _ (fls_len h3) (fls_len k3)).mono ?_
  rintro e w' ⟨x, rfl, ha⟩
  rw [h3, k3] at ha ⊢
  exact ⟨x, rfl, ha.lin, ha.bel⟩
end Go.Proofs.YtmgmganbamjnmaaDoor

/-
  Package merge: Put.
-/
namespace Go.Proofs.YtmgmganbamjnmaaDoor
open Go.RowKit
set_option linter.unusedVariables false
set_option maxRecDepth 100000

/-- one file, as a slice of its own -/
theorem one_lin {w : World} {x : Fv} (h : FvIn w x) : LIn (w.alloc (.cells x.cells.toArray 39)) (.slice (some ⟨w.heap.size, 0, none⟩) 1 1) [x.f] := by
  have := FsIn.new w [x] 39 x.cells.toArray 1 (by rw [fcells_one]) rfl (fun y hy => by simp at hy; subst hy; exact h) (by simp)
  exact lin_of this rfl
theorem put_l {w : World} {v : Value} {a : List Fl} {x : Fv} (h : LIn w v a) (hx : FvIn w x) :
    Calls Tryd.prog 51 #[v, x.val] w fun e w' => ∃ y, e = .returned (.tuple #[y, .int .i64 (bothE a [x.f] : Nat)]) ∧ LIn w' y (bothL a [x.f]) ∧ Below w.heap.size w w' := by
  have hb1 := bel_al (Below.refl w.heap.size w) (.cells x.cells.toArray 39)
  have hx1 := hx.below hb1 (Nat.le_refl _)
  have h1 := one_lin hx1
  have hb2 := bel_al hb1 (.cells x.cells.toArray 39)
  have HC := hide (both_l (h.below hb2) h1)
  have HB2 := hide hb2
  have hc : x.cells.toArray = #[.string (B x.f.name), .slice x.a x.f.bytes.length x.c, .int .i64 x.f.stamp, .int .i64 x.f.node, .bool x.f.gone] := rfl
  rw [hc, World.size_alloc] at HC
  rw [hc] at HB2
  rw [val_is]
  clear h1 hb1 hb2 hx1 hc h hx
  generalize bothE a [x.f] = E at *
  generalize bothL a [x.f] = L at *
  generalize B x.f.name = t at *
  generalize x.f.bytes.length = n at *
  go_enter Tryd.func51, Tryd.ntmps51
  go_wp2_with fail
  refine (unhide HC).mono ?_
  rintro e w1 ⟨y, rfl, hl, hb⟩
  have HL := hide hl
  have HB := hide ((unhide HB2).trans (hb.mono (unhide HB2).size))
  clear hl hb
  go_wp2
  go_ret2
  exact ⟨_, rfl, unhide HL, unhide HB⟩
end Go.Proofs.YtmgmganbamjnmaaDoor
