/-
  The library's stable sort over places, held against each other by how often they are wanted: the row of places in memory, the comparison, the exchange of two ranges, the turning.
-/
import Derived.Test.YtmafecagcglaoabStab2
import Derived.Test.YtmafecagcglaoabIn
namespace Go.Proofs.Ytmafecagcglaoab
open Go.RowKit
set_option linter.unusedVariables false

/-- the places that stand in block bp: d k is the k-th, with how often it is wanted ahead of it -/
def PC (N bp : Nat) (l : List Int) (d : Nat → Int × Int) (W : World) : Prop :=
  ∀ k, k < N → (W.cell? ⟨bp, k, none⟩ = some (.int .i64 (d k).2) ∧ W.frozen? ⟨bp, k, none⟩ = false) ∧ ∃ p : Nat, (d k).2 = p ∧ p < l.length ∧ (d k).1 = l.getD p 0

/-- what the comparison reads -/
structure Cx (bp bx bl ol ln lc : Nat) (l : List Int) (W : World) : Prop where
  box : W.cell? ⟨bx, 0, none⟩ = some (.slice (some ⟨bl, ol, none⟩) ln lc)
  row : Row .i64 W bl ol l
  len : l.length = ln
  sm : ln ≤ 288
  xlt : bx < W.heap.size
  llt : bl < W.heap.size
  plt : bp < W.heap.size
  xne : bx ≠ bp
  lne : bl ≠ bp
theorem Cx.grown {bp bx bl ol ln lc : Nat} {l : List Int} {W W' : World} (h : Cx bp bx bl ol ln lc l W) (g : W.grownBy W' (some bp)) : Cx bp bx bl ol ln lc l W' :=
  ⟨g.cell h.box (by simpa using h.xne), fun j hj => g.cell (h.row j hj) (by simpa using h.lne), h.len, h.sm, Nat.lt_of_lt_of_le h.xlt g.size, Nat.lt_of_lt_of_le h.llt g.size, Nat.lt_of_lt_of_le h.plt g.size, h.xne, h.lne⟩
theorem Cx.drewN {bp bx bl ol ln lc : Nat} {l : List Int} {W : World} (h : Cx bp bx bl ol ln lc l W) (n : Nat) : Cx bp bx bl ol ln lc l (W.drewN n) := ⟨h.box, h.row, h.len, h.sm, h.xlt, h.llt, h.plt, h.xne, h.lne⟩

/-- below, above or the same -/
def cmp3 (x y : Int) : Int := if x < y then -1 else if y < x then 1 else 0
theorem cmp3_lt (x y : Int) : decide (cmp3 x y < 0) = decide (x < y) := by
  unfold cmp3
  by_cases h : x < y
  · rw [if_pos h]; simp [h]
  · rw [if_neg h]
    by_cases h2 : y < x
    · rw [if_pos h2]; simp [h]
    · rw [if_neg h2]; simp [h]

theorem compare_any (x y : Int) (w : World) : Calls Try.prog 71 #[.int .i64 x, .int .i64 y] w fun e w' => e = .returned (.int .i64 (cmp3 x y)) ∧ ∃ q, w' = w.drewN q := by
  have hn : ∀ (x : Int) w, Calls Try.prog 90 #[.int .i64 x] w fun e w' => e = .returned (.bool false) ∧ w' = w := by
    intro x w
    have hx : (x != x) = false := by simp
    go_enter Try.func90, Try.ntmps90
    go_wp2
    go_ret
    exact ⟨rfl, rfl⟩
  unfold cmp3
  go_enter Try.func71, Try.ntmps71
  go_wp2_with fail
  refine (hn x w).mono ?_
  rintro e w1 ⟨rfl, rfl⟩
  go_wp2_with fail
  refine (hn y w1).mono ?_
  rintro e w2 ⟨rfl, rfl⟩
  by_cases h : x < y
  · go_wp2
    go_ret
    exact ⟨rfl, 0, rfl⟩
  · by_cases h2 : y < x
    · go_wp2
      go_ret
      exact ⟨rfl, 0, rfl⟩
    · go_wp2
      go_ret
      exact ⟨rfl, 0, rfl⟩

abbrev CF (bx : Nat) : Value := .func (.func 70) #[] #[.pointer (some ⟨bx, 0, none⟩)]

set_option maxHeartbeats 1000000 in
theorem closure_any (bp bx bl ol ln lc : Nat) (l : List Int) (W : World) (p q : Nat) (hp : p < l.length) (hq : q < l.length) (hX : Cx bp bx bl ol ln lc l W) :
    Calls Try.prog 70 #[.int .i64 p, .int .i64 q, .pointer (some ⟨bx, 0, none⟩)] W fun e w' => e = .returned (.int .i64 (cmp3 (l.getD p 0) (l.getD q 0))) ∧ ∃ q, w' = W.drewN q := by
  have hb := hX.box
  have c1 := hX.row p hp
  have c2 := hX.row q hq
  have hl := hX.len
  have hs := hX.sm
  generalize l.getD p 0 = x at *
  generalize l.getD q 0 = y at *
  have hiI : (p : Int) < (ln : Int) := by omega
  have hjI : (q : Int) < (ln : Int) := by omega
  clear hX
  go_enter Try.func70, Try.ntmps70
  go_wp2
  go_quiet ((go_at_call 71; refine Calls.quiet_of (compare_any _ _ _)))
  go_wp2
  go_ret
  exact ⟨rfl, _, rfl⟩

theorem cmp_at {N bp bx bl ol ln lc : Nat} {l : List Int} {d : Nat → Int × Int} {W : World} (hP : PC N bp l d W) (hX : Cx bp bx bl ol ln lc l W) (i j : Nat) (hi : i < N) (hj : j < N) (n : Nat) :
    Calls Try.prog 70 #[.int .i64 (d i).2, .int .i64 (d j).2, .pointer (some ⟨bx, 0, none⟩)] (W.drewN n) fun e w' => e = .returned (.int .i64 (cmp3 (d i).1 (d j).1)) ∧ ∃ q, w' = (W.drewN n).drewN q := by
  obtain ⟨_, p, hp1, hp2, hp3⟩ := hP i hi
  obtain ⟨_, q, hq1, hq2, hq3⟩ := hP j hj
  rw [hp1, hq1, hp3, hq3]
  exact closure_any bp bx bl ol ln lc l (W.drewN n) p q hp2 hq2 (hX.drewN n)

/-- two of a row's places exchanged in memory -/
def swC (W : World) (bp : Nat) (x y : Int) (i j : Nat) : World := (W.setCell ⟨bp, i, none⟩ (.int .i64 y)).setCell ⟨bp, j, none⟩ (.int .i64 x)
theorem grown_swC (W : World) (bp : Nat) (x y : Int) (i j : Nat) : W.grownBy (swC W bp x y i j) (some bp) := grown_trans (grown_setCell W bp i _) (grown_setCell _ bp j _)
theorem PC.sw {N bp : Nat} {l : List Int} {d : Nat → Int × Int} {W : World} (hP : PC N bp l d W) (i j : Nat) (hi : i < N) (hj : j < N) : PC N bp l (Stab.swp d i j) (swC W bp (d i).2 (d j).2 i j) := by
  intro k hk
  obtain ⟨⟨c0, f0⟩, h0⟩ := hP k hk
  obtain ⟨⟨ci, _⟩, h1⟩ := hP i hi
  obtain ⟨⟨cj, _⟩, h2⟩ := hP j hj
  unfold swC
  have e2 : (W.setCell ⟨bp, i, none⟩ (.int .i64 (d j).2)).cell? ⟨bp, j, none⟩ ≠ none := by
    by_cases e : i = j
    · subst e; rw [World.cell?_setCell_same' _ _ _ (by rw [ci]; rfl)]; simp
    · rw [World.cell?_setCell_other _ _ _ _ (by intro h; injection h; omega), cj]; simp
  refine ⟨⟨?_, by simp [f0]⟩, ?_⟩
  · unfold Stab.swp
    by_cases e : k = j
    · subst e
      rw [World.cell?_setCell_same' _ _ _ (by rw [Option.isSome_iff_ne_none]; exact e2)]
      by_cases e1 : k = i
      · subst e1; rw [if_pos rfl]
      · rw [if_neg e1, if_pos rfl]
    · rw [World.cell?_setCell_other _ _ _ _ (by intro h; injection h; omega)]
      by_cases e1 : k = i
      · subst e1
        rw [if_pos rfl, World.cell?_setCell_same' _ _ _ (by rw [ci]; rfl)]
      · rw [if_neg e1, if_neg e, World.cell?_setCell_other _ _ _ _ (by intro h; injection h; omega)]
        exact c0
  · unfold Stab.swp
    by_cases e1 : k = i
    · rw [if_pos e1]; exact h2
    · rw [if_neg e1]
      by_cases e : k = j
      · rw [if_pos e]; exact h1
      · rw [if_neg e]; exact h0
theorem PC.c2 {N bp : Nat} {l : List Int} {d : Nat → Int × Int} {W : World} (hP : PC N bp l d W) (i j : Nat) (hi : i < N) (hj : j < N) (v : Value) : ∃ u, (W.setCell ⟨bp, i, none⟩ v).cell? ⟨bp, j, none⟩ = some u := by
  by_cases e : i = j
  · subst e; exact ⟨v, World.cell?_setCell_same _ _ _ (hP i hi).1.1⟩
  · exact ⟨_, (World.cell?_setCell_other _ _ _ _ (by intro h; injection h; omega)).trans (hP j hj).1.1⟩
theorem PC.kept {N bp : Nat} {l : List Int} {d : Nat → Int × Int} {W W' : World} (hP : PC N bp l d W) (hg : W.grownBy W' none) (hb : bp < W.heap.size) : PC N bp l d W' := by
  intro k hk
  obtain ⟨⟨c0, f0⟩, h⟩ := hP k hk
  have e := hg.block bp hb (by simp)
  exact ⟨⟨by rw [World.cell?_of_block (w := W) (a := ⟨bp, k, none⟩) e]; exact c0, by rw [World.frozen?_of_block (w := W) (a := ⟨bp, k, none⟩) e]; exact f0⟩, h⟩
theorem PC.drewN {N bp : Nat} {l : List Int} {d : Nat → Int × Int} {W : World} (hP : PC N bp l d W) (n : Nat) : PC N bp l d (W.drewN n) := hP
theorem grown_drewN {a b : World} {r : Option Nat} (h : a.grownBy b r) (n : Nat) : a.grownBy (b.drewN n) r := ⟨h.os, h.tape, h.output, h.size, h.block⟩

set_option maxHeartbeats 1000000 in
set_option maxRecDepth 100000 in
theorem swapRangeC (fv : Value) (N bp cap : Nat) (l : List Int) (d : Nat → Int × Int) (a b n : Nat) (w : World) (hN : N ≤ 288) (ha : a + n ≤ N) (hb : b + n ≤ N) (hP : PC N bp l d w) :
    Calls Try.prog 130 #[.slice (some ⟨bp, 0, none⟩) N cap, .int .i64 a, .int .i64 b, .int .i64 n, fv] w fun e w' => e = .returned (.tuple #[]) ∧ PC N bp l (Stab.swr d a b n) w' ∧ w.grownBy w' (some bp) := by
  have HP := hide hP
  clear hP
  go_enter Try.func130, Try.ntmps130
  go_wp2
  go_loopw [10] (fun vi wr => ∃ i : Nat, i ≤ n ∧ vi = .int .i64 i ∧ PC N bp l (Stab.swr d a b i) wr ∧ w.grownBy wr (some bp)) (fun vi _ => n - (intOf vi).toNat)
  case atStart => exact ⟨0, Nat.zero_le _, rfl, unhide HP, grown_refl _ _⟩
  case round =>
    obtain ⟨i, hi, rfl, hPi, hg⟩ := hrel
    have HPi := hide hPi
    have HG := hide hg
    have HS : Hid (Stab.swr d a b (i + 1) = Stab.swp (Stab.swr d a b i) (a + i) (b + i)) := rfl
    clear hPi hg
    by_cases hlt : i < n
    · generalize Stab.swr d a b i = di at *
      obtain ⟨s, hs⟩ : ∃ s, s = a + i := ⟨_, rfl⟩
      obtain ⟨t, ht⟩ : ∃ t, t = b + i := ⟨_, rfl⟩
      have hsN : s < N := by omega
      have htN : t < N := by omega
      have c1 := ((unhide HPi) s hsN).1.1
      have f1 := ((unhide HPi) s hsN).1.2
      have c2 := ((unhide HPi) t htN).1.1
      have f2 := ((unhide HPi) t htN).1.2
      have HSW := hide ((unhide HPi).sw s t hsN htN)
      have HGS := hide (grown_trans (unhide HG) (grown_swC wr bp (di s).2 (di t).2 s t))
      obtain ⟨u, c3⟩ := PC.c2 (unhide HPi) s t hsN htN (.int .i64 (di t).2)
      generalize (di s).2 = x at *
      generalize (di t).2 = y at *
      have ea : ((a : Int) + (i : Int)).toNat = s := by omega
      have pa : (0 : Int) ≤ (a : Int) + (i : Int) := by omega
      have ba : (a : Int) + (i : Int) < (N : Int) := by omega
      have ra : IntKind.i64.wrap ((a : Int) + (i : Int)) = (a : Int) + (i : Int) := by rw [IntKind.wrap_i64]; omega
      have ec : ((b : Int) + (i : Int)).toNat = t := by omega
      have pc : (0 : Int) ≤ (b : Int) + (i : Int) := by omega
      have bc : (b : Int) + (i : Int) < (N : Int) := by omega
      have rc : IntKind.i64.wrap ((b : Int) + (i : Int)) = (b : Int) + (i : Int) := by rw [IntKind.wrap_i64]; omega
      rw [← hs, ← ht] at HS
      clear hs ht hsN htN HPi
      go_wp2_with fail
      go_big_region
      clear c1 c2 c3 f1 f2
      unfold swC at HSW HGS
      have HGD := hide (grown_drew (unhide HGS))
      clear HGS
      go_wp2
      go_roundw
      case rel => exact ⟨i + 1, by omega, by go_num, by rw [unhide HS]; exact unhide HSW, unhide HGD⟩
      case measure => simp [intOf]; omega
    · obtain rfl : i = n := by omega
      go_wp2
      go_end0
      exact ⟨rfl, unhide HPi, unhide HG⟩
set_option maxHeartbeats 2000000 in
theorem rotateC (fv : Value) (N bp cap : Nat) (l : List Int) (d : Nat → Int × Int) (a m b : Nat) (w : World) (hN : N ≤ 288) (ha : a < m) (hm : m < b) (hb : b ≤ N) (hP : PC N bp l d w) :
    Calls Try.prog 123 #[.slice (some ⟨bp, 0, none⟩) N cap, .int .i64 a, .int .i64 m, .int .i64 b, fv] w fun e w' => e = .returned (.tuple #[]) ∧ PC N bp l (Stab.rot d a m b) w' ∧ w.grownBy w' (some bp) := by
  have HP := hide hP
  have HR : Hid (Stab.rot d (m - (m - a)) m (m + (b - m)) = Stab.rot d a m b) := by rw [show m - (m - a) = a by omega, show m + (b - m) = b by omega]; exact rfl
  clear hP
  go_enter Try.func123, Try.ntmps123
  go_wp2
  go_loopw [10, 11] (fun vi vj wr => ∃ (i j : Nat) (dk : Nat → Int × Int), 0 < i ∧ 0 < j ∧ i ≤ m - a ∧ j ≤ b - m ∧ vi = .int .i64 i ∧ vj = .int .i64 j ∧ Stab.rot dk (m - i) m (m + j) = Stab.rot d a m b ∧ PC N bp l dk wr ∧ w.grownBy wr (some bp)) (fun vi vj _ => (intOf vi).toNat + (intOf vj).toNat)
  case atStart => exact ⟨m - a, b - m, d, by omega, by omega, Nat.le_refl _, Nat.le_refl _, by go_num, by go_num, unhide HR, unhide HP, grown_refl _ _⟩
  case round =>
    obtain ⟨i, j, dk, hi0, hj0, hi, hj, rfl, rfl, hrot, hPk, hg⟩ := hrel
    have HPk := hide hPk
    have HG := hide hg
    have HRot := hide hrot
    clear hPk hg hrot
    rcases Nat.lt_trichotomy i j with hij | hij | hij
    · have hne : ((i : Int) != (j : Int)) = true := by rw [bne_iff_ne]; omega
      have hle : ¬ (j : Int) < (i : Int) := by omega
      have E1 : Hid ((m : Int) - (i : Int) = ((m - i : Nat) : Int)) := by unfold Hid; omega
      have E2 : Hid ((m : Int) + (j : Int) - (i : Int) = ((m + j - i : Nat) : Int)) := by unfold Hid; omega
      go_wp2_with fail
      rw [unhide E1, unhide E2]
      refine (swapRangeC fv N bp cap l dk _ _ _ _ hN (by omega) (by omega) (unhide HPk)).mono ?_
      rintro e w2 ⟨rfl, hP2, hg2⟩
      have HP2 := hide hP2
      have HG2 := hide (grown_trans (unhide HG) hg2)
      have HR2 := hide ((Stab.rot_lt dk m i j hij (by omega)).trans (unhide HRot))
      clear hP2 hg2
      go_wp2
      go_roundw
      case rel => exact ⟨i, j - i, _, hi0, by omega, hi, by omega, rfl, by go_num, unhide HR2, unhide HP2, unhide HG2⟩
      case measure => simp [intOf]; omega
    · subst hij
      have hne : ((i : Int) != (i : Int)) = false := by simp
      have E1 : Hid ((m : Int) - (i : Int) = ((m - i : Nat) : Int)) := by unfold Hid; omega
      go_wp2_with fail
      rw [unhide E1]
      refine (swapRangeC fv N bp cap l dk _ _ _ _ hN (by omega) (by omega) (unhide HPk)).mono ?_
      rintro e w2 ⟨rfl, hP2, hg2⟩
      rw [Stab.rot_eq dk m i (by omega), unhide HRot] at hP2
      have HP2 := hide hP2
      have HG2 := hide (grown_trans (unhide HG) hg2)
      clear hP2 hg2
      go_wp2
      go_end0
      exact ⟨rfl, unhide HP2, unhide HG2⟩
    · have hne : ((i : Int) != (j : Int)) = true := by rw [bne_iff_ne]; omega
      have hle : (j : Int) < (i : Int) := by omega
      have E1 : Hid ((m : Int) - (i : Int) = ((m - i : Nat) : Int)) := by unfold Hid; omega
      go_wp2_with fail
      rw [unhide E1]
      refine (swapRangeC fv N bp cap l dk _ _ _ _ hN (by omega) (by omega) (unhide HPk)).mono ?_
      rintro e w2 ⟨rfl, hP2, hg2⟩
      have HP2 := hide hP2
      have HG2 := hide (grown_trans (unhide HG) hg2)
      have HR2 := hide ((Stab.rot_gt dk m i j hij (by omega)).trans (unhide HRot))
      clear hP2 hg2
      go_wp2
      go_roundw
      case rel => exact ⟨i - j, j, _, by omega, hj0, by omega, hj, by go_num, rfl, unhide HR2, unhide HP2, unhide HG2⟩
      case measure => simp [intOf]; omega
end Go.Proofs.Ytmafecagcglaoab
