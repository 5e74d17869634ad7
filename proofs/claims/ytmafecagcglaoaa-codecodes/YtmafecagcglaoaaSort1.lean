/-
  The closure by which the document's own CodesOf sorts, and the exchange of two elements by the library.
-/
import Derived.Test.YtmafecagcglaoaaStab
import Derived.Lib.ReflectliteSwap
import Derived.Laws.IdiomCopy
namespace Go.Proofs.Ytmafecagcglaoaa
open Go.RowKit
set_option linter.unusedVariables false

/-- the pairs that stand at places 0 to N - 1 of block bp -/
def PS (N bp : Nat) (d : Nat → Int × Int) (W : World) : Prop :=
  ∀ k, k < N → (W.cell? ⟨bp, k * 2, none⟩ = some (.int .i64 (d k).1) ∧ W.frozen? ⟨bp, k * 2, none⟩ = false) ∧ (W.cell? ⟨bp, k * 2 + 1, none⟩ = some (.int .i64 (d k).2) ∧ W.frozen? ⟨bp, k * 2 + 1, none⟩ = false)

set_option maxHeartbeats 1000000 in
theorem less_any (N bp bx cap : Nat) (d : Nat → Int × Int) (W : World) (i j : Nat) (hi : i < N) (hj : j < N) (hN : N ≤ 288) (hP : PS N bp d W) (hb : W.cell? ⟨bx, 0, none⟩ = some (.slice (some ⟨bp, 0, none⟩) N cap)) :
    Calls Try.prog 46 #[.int .i64 i, .int .i64 j, .pointer (some ⟨bx, 0, none⟩)] W fun e w' => e = .returned (.bool (decide ((d i).1 < (d j).1))) ∧ ∃ q, w' = W.drewN q := by
  have c1 := (hP i hi).1.1
  have c2 := (hP j hj).1.1
  generalize (d i).1 = x at *
  generalize (d j).1 = y at *
  have hiI : (i : Int) < (N : Int) := by omega
  have hjI : (j : Int) < (N : Int) := by omega
  clear hP
  go_enter Try.func46, Try.ntmps46
  go_wp2
  go_quiet (fail)
  go_wp2
  go_ret
  exact ⟨rfl, _, rfl⟩

/-- two of a row's pairs exchanged in memory -/
def swW (W : World) (bp : Nat) (d : Nat → Int × Int) (i j : Nat) : World :=
  (W.setCells bp (0 + i * 2) [.int .i64 (d j).1, .int .i64 (d j).2]).setCells bp (0 + j * 2) [.int .i64 (d i).1, .int .i64 (d i).2]

theorem infoP : (Try.prog.info? 82).map (·.size) = some 2 := by kernel_rfl
theorem aggP (w : World) : (isAgg 82).run Try.prog w = .ok true w := by kernel_rfl

theorem swap_run (N bp cap : Nat) (d : Nat → Int × Int) (W : World) (i j : Nat) (hi : i < N) (hj : j < N) (hP : PS N bp d W) :
    (callFunc 72 #[.int .i64 i, .int .i64 j, .slice (some ⟨bp, 0, none⟩) N cap, typeHandle Try.prog 82]).run Try.prog W = .ok (.value (.tuple #[])) (swW W bp d i j) := by
  obtain ⟨ie, hie, hs⟩ := Option.map_eq_some_iff.1 infoP
  have h := Lib.run_swap_cells (P := Try.prog) false 82 ie hie aggP bp 0 N cap i j hi hj [.int .i64 (d i).1, .int .i64 (d i).2] [.int .i64 (d j).1, .int .i64 (d j).2] (by rw [hs]; rfl) (by rw [hs]; rfl)
    (by intro v hv; simp at hv; rcases hv with rfl | rfl <;> rfl) (by intro v hv; simp at hv; rcases hv with rfl | rfl <;> rfl) W
    (by intro k v hk; rw [hs]; match k, hk with
      | 0, hk => simp at hk; subst hk; simpa using (hP i hi).1.1
      | 1, hk => simp at hk; subst hk; simpa using (hP i hi).2.1)
    (by intro k v hk; rw [hs]; match k, hk with
      | 0, hk => simp at hk; subst hk; simpa using (hP j hj).1.1
      | 1, hk => simp at hk; subst hk; simpa using (hP j hj).2.1)
    (by rw [hs]; intro k hk; match k, hk with
      | 0, _ => simpa using (hP i hi).1.2
      | 1, _ => simpa using (hP i hi).2.2)
    (by rw [hs]; intro k hk; match k, hk with
      | 0, _ => simpa using (hP j hj).1.2
      | 1, _ => simpa using (hP j hj).2.2)
  rw [run_callFunc_extern Try.func72 (by kernel_rfl) (by kernel_rfl) (by kernel_rfl) (e := Extern.ReflectliteSwapper.swap false) (by kernel_rfl), h, hs]
  rfl

theorem grown_refl' (w : World) (r : Option Nat) : w.grownBy w r := ⟨rfl, rfl, rfl, Nat.le_refl _, fun _ _ _ => rfl⟩
theorem grown_trans' {a b c : World} {r : Option Nat} (h : a.grownBy b r) (k : b.grownBy c r) : a.grownBy c r :=
  ⟨k.os.trans h.os, k.tape.trans h.tape, k.output.trans h.output, Nat.le_trans h.size k.size, fun i hi hr => (k.block i (Nat.lt_of_lt_of_le hi h.size) hr).trans (h.block i hi hr)⟩
theorem grown_drewN' {a b : World} {r : Option Nat} (h : a.grownBy b r) (n : Nat) : a.grownBy (b.drewN n) r := ⟨h.os, h.tape, h.output, h.size, h.block⟩
theorem grown_alloc' {a b : World} {r : Option Nat} (h : a.grownBy b r) (o : Obj) : a.grownBy (b.alloc o) r := grown_trans' h (World.grownBy_alloc b o r)
theorem grown_set' (w : World) (b i : Nat) (v : Value) : w.grownBy (w.setCell ⟨b, i, none⟩ v) (some b) :=
  ⟨rfl, rfl, rfl, by simp, fun k _ hk => heap_setCell_other w ⟨b, i, none⟩ k v (fun e => hk (by simp [e]))⟩
theorem grown_cells' (b : Nat) : ∀ (vs : List Value) (o : Nat) (w : World), w.grownBy (w.setCells b o vs) (some b)
  | [], o, w => grown_refl' _ _
  | v :: vs, o, w => grown_trans' (grown_set' w b o v) (grown_cells' b vs (o + 1) _)
theorem grown_sw (W : World) (bp : Nat) (d : Nat → Int × Int) (i j : Nat) : W.grownBy (swW W bp d i j) (some bp) := grown_trans' (grown_cells' bp _ _ W) (grown_cells' bp _ _ _)

theorem two_in {W : World} {bp o : Nat} {x y : Value} (h0 : (W.cell? ⟨bp, o, none⟩).isSome = true) (h1 : (W.cell? ⟨bp, o + 1, none⟩).isSome = true) : (W.setCells bp o [x, y]).cell? ⟨bp, o, none⟩ = some x ∧ (W.setCells bp o [x, y]).cell? ⟨bp, o + 1, none⟩ = some y := by
  have hs : ∀ j, j < [x, y].length → (W.cell? ⟨bp, o + j, none⟩).isSome = true := by
    intro j hj
    match j, hj with
    | 0, _ => exact h0
    | 1, _ => exact h1
  exact ⟨World.cell?_setCells_in bp [x, y] o W hs 0 (by simp), World.cell?_setCells_in bp [x, y] o W hs 1 (by simp)⟩
theorem two_out {W : World} {bp o k : Nat} {x y : Value} (h : k < o ∨ o + 2 ≤ k) : (W.setCells bp o [x, y]).cell? ⟨bp, k, none⟩ = W.cell? ⟨bp, k, none⟩ :=
  World.cell?_setCells_out bp [x, y] o W ⟨bp, k, none⟩ (fun _ _ => by simpa using h)

theorem PS.sw {N bp : Nat} {d : Nat → Int × Int} {W : World} (hP : PS N bp d W) (i j : Nat) (hi : i < N) (hj : j < N) : PS N bp (Stab.swp d i j) (swW W bp d i j) := by
  intro k hk
  obtain ⟨⟨c0, f0⟩, c1, f1⟩ := hP k hk
  unfold swW
  simp only [Nat.zero_add, World.frozen?_setCells, f0, f1, and_true]
  have some1 : ∀ q, q < N → (W.cell? ⟨bp, q * 2, none⟩).isSome = true ∧ (W.cell? ⟨bp, q * 2 + 1, none⟩).isSome = true := fun q hq => ⟨by rw [(hP q hq).1.1]; rfl, by rw [(hP q hq).2.1]; rfl⟩
  have some2 : ∀ q, q < N → ((W.setCells bp (i * 2) [.int .i64 (d j).1, .int .i64 (d j).2]).cell? ⟨bp, q * 2, none⟩).isSome = true ∧ ((W.setCells bp (i * 2) [.int .i64 (d j).1, .int .i64 (d j).2]).cell? ⟨bp, q * 2 + 1, none⟩).isSome = true := by
    intro q hq
    by_cases e : q = i
    · subst e
      have := two_in (x := .int .i64 (d j).1) (y := .int .i64 (d j).2) (some1 q hq).1 (some1 q hq).2
      exact ⟨by rw [this.1]; rfl, by rw [this.2]; rfl⟩
    · rw [two_out (o := i * 2) (k := q * 2) (by omega), two_out (o := i * 2) (k := q * 2 + 1) (by omega)]; exact some1 q hq
  unfold Stab.swp
  by_cases e2 : k = j
  · subst e2
    have := two_in (x := .int .i64 (d i).1) (y := .int .i64 (d i).2) (some2 k hk).1 (some2 k hk).2
    by_cases e1 : k = i
    · subst e1; rw [if_pos rfl]; exact this
    · rw [if_neg e1, if_pos rfl]; exact this
  · rw [two_out (o := j * 2) (k := k * 2) (by omega), two_out (o := j * 2) (k := k * 2 + 1) (by omega)]
    by_cases e1 : k = i
    · subst e1
      rw [if_pos rfl]
      exact two_in (x := .int .i64 (d j).1) (y := .int .i64 (d j).2) (some1 k hk).1 (some1 k hk).2
    · rw [if_neg e1, if_neg e2, two_out (o := i * 2) (k := k * 2) (by omega), two_out (o := i * 2) (k := k * 2 + 1) (by omega)]
      exact ⟨c0, c1⟩
theorem PS.kept {N bp : Nat} {d : Nat → Int × Int} {W W' : World} (hP : PS N bp d W) (hg : W.grownBy W' none) (hb : bp < W.heap.size) : PS N bp d W' := by
  intro k hk
  obtain ⟨⟨c0, f0⟩, c1, f1⟩ := hP k hk
  have e := hg.block bp hb (by simp)
  exact ⟨⟨by rw [World.cell?_of_block (w := W) (a := ⟨bp, k * 2, none⟩) e]; exact c0, by rw [World.frozen?_of_block (w := W) (a := ⟨bp, k * 2, none⟩) e]; exact f0⟩, by rw [World.cell?_of_block (w := W) (a := ⟨bp, k * 2 + 1, none⟩) e]; exact c1, by rw [World.frozen?_of_block (w := W) (a := ⟨bp, k * 2 + 1, none⟩) e]; exact f1⟩
theorem PS.drewN {N bp : Nat} {d : Nat → Int × Int} {W : World} (hP : PS N bp d W) (n : Nat) : PS N bp d (W.drewN n) := hP
theorem PS.alloc {N bp : Nat} {d : Nat → Int × Int} {W : World} (hP : PS N bp d W) (hb : bp < W.heap.size) (o : Obj) : PS N bp d (W.alloc o) := hP.kept (World.grownBy_alloc W o none) hb

/-- the two functions that the library's sort is handed -/
abbrev LF (bx : Nat) : Value := .func (.func 46) #[] #[.pointer (some ⟨bx, 0, none⟩)]
abbrev SF (h : Value) (N bp cap : Nat) : Value := .func (.func 72) #[] #[.slice (some ⟨bp, 0, none⟩) N cap, h]

set_option maxHeartbeats 1000000 in
theorem swapRange_any (h : Value) (hh : Hid (h = typeHandle Try.prog 82)) (N bp bx cap : Nat) (d : Nat → Int × Int) (a b n : Nat) (w : World) (hN : N ≤ 288) (ha : a + n ≤ N) (hb : b + n ≤ N) (hbp : bp < w.heap.size) (hP : PS N bp d w) :
    Calls Try.prog 81 #[.agg #[LF bx, SF h N bp cap], .int .i64 a, .int .i64 b, .int .i64 n] w fun e w' => e = .returned (.tuple #[]) ∧ PS N bp (Stab.swr d a b n) w' ∧ w.grownBy w' (some bp) := by
  have HP := hide hP
  clear hP
  go_enter Try.func81, Try.ntmps81
  go_wp2
  go_loopw [8] (fun vi wr => ∃ i : Nat, i ≤ n ∧ vi = .int .i64 i ∧ PS N bp (Stab.swr d a b i) wr ∧ w.grownBy wr (some bp) ∧ wr.cell? ⟨w.heap.size, 1, none⟩ = some (SF h N bp cap) ∧ w.heap.size < wr.heap.size) (fun vi _ => n - (intOf vi).toNat)
  case atStart => exact ⟨0, Nat.zero_le _, rfl, (unhide HP).alloc hbp _, grown_alloc' (grown_refl' _ _) _, by simp, by simp⟩
  case round =>
    obtain ⟨i, hi, rfl, hPi, hg, hc, hz⟩ := hrel
    have HPi := hide hPi
    have HG := hide hg
    have HS : Hid (Stab.swr d a b (i + 1) = Stab.swp (Stab.swr d a b i) (a + i) (b + i)) := rfl
    clear hPi hg
    by_cases hlt : i < n
    · generalize Stab.swr d a b i = di at *
      have hrun := swap_run N bp cap di wr (a + i) (b + i) (by omega) (by omega) (unhide HPi)
      rw [← unhide hh] at hrun
      push_cast at hrun
      have HSW := hide ((unhide HPi).sw (a + i) (b + i) (by omega) (by omega))
      have hgs := grown_sw wr bp di (a + i) (b + i)
      have HGS := hide (grown_trans' (unhide HG) hgs)
      have hc2 := hgs.cell hc (by simp; omega)
      have hz2 := Nat.lt_of_lt_of_le hz hgs.size
      clear hgs
      generalize swW wr bp di (a + i) (b + i) = w2 at *
      go_wp2
      go_roundw
      case rel => exact ⟨i + 1, by omega, by go_num, by rw [unhide HS]; exact unhide HSW, unhide HGS, hc2, hz2⟩
      case measure => simp [intOf]; omega
    · obtain rfl : i = n := by omega
      go_wp2
      go_end0
      exact ⟨rfl, unhide HPi, unhide HG⟩

set_option maxHeartbeats 2000000 in
theorem rotate_any (h : Value) (hh : Hid (h = typeHandle Try.prog 82)) (N bp bx cap : Nat) (d : Nat → Int × Int) (a m b : Nat) (w : World) (hN : N ≤ 288) (ha : a < m) (hm : m < b) (hb : b ≤ N) (hbp : bp < w.heap.size) (hP : PS N bp d w) :
    Calls Try.prog 79 #[.agg #[LF bx, SF h N bp cap], .int .i64 a, .int .i64 m, .int .i64 b] w fun e w' => e = .returned (.tuple #[]) ∧ PS N bp (Stab.rot d a m b) w' ∧ w.grownBy w' (some bp) := by
  have HP := hide hP
  have HR : Hid (Stab.rot d (m - (m - a)) m (m + (b - m)) = Stab.rot d a m b) := by rw [show m - (m - a) = a by omega, show m + (b - m) = b by omega]; exact rfl
  clear hP
  go_enter Try.func79, Try.ntmps79
  go_wp2
  go_loopw [8, 9] (fun vi vj wr => ∃ (i j : Nat) (dk : Nat → Int × Int), 0 < i ∧ 0 < j ∧ i ≤ m - a ∧ j ≤ b - m ∧ vi = .int .i64 i ∧ vj = .int .i64 j ∧ Stab.rot dk (m - i) m (m + j) = Stab.rot d a m b ∧ PS N bp dk wr ∧ w.grownBy wr (some bp) ∧
      (wr.cell? ⟨w.heap.size, 0, none⟩ = some (LF bx) ∧ wr.cell? ⟨w.heap.size, 1, none⟩ = some (SF h N bp cap)) ∧ w.heap.size < wr.heap.size) (fun vi vj _ => (intOf vi).toNat + (intOf vj).toNat)
  case atStart => exact ⟨m - a, b - m, d, by omega, by omega, Nat.le_refl _, Nat.le_refl _, by go_num, by go_num, unhide HR, (unhide HP).alloc hbp _, grown_alloc' (grown_refl' _ _) _, ⟨by simp, by simp⟩, by simp⟩
  case round =>
    obtain ⟨i, j, dk, hi0, hj0, hi, hj, rfl, rfl, hrot, hPk, hg, ⟨hc0, hc1⟩, hz⟩ := hrel
    have HPk := hide hPk
    have HG := hide hg
    have HRot := hide hrot
    have hbw := Nat.lt_of_lt_of_le hbp hg.size
    clear hPk hg hrot
    rcases Nat.lt_trichotomy i j with hij | hij | hij
    · have hne : ((i : Int) != (j : Int)) = true := by rw [bne_iff_ne]; omega
      have hle : ¬ (j : Int) < (i : Int) := by omega
      have e1 : (m : Int) - (i : Int) = ((m - i : Nat) : Int) := by omega
      have e2 : (m : Int) + (j : Int) - (i : Int) = ((m + j - i : Nat) : Int) := by omega
      have E1 := hide e1
      have E2 := hide e2
      clear e1 e2
      go_wp2_with fail
      rw [unhide E1, unhide E2]
      refine (swapRange_any h hh N bp bx cap dk _ _ _ _ hN (by omega) (by omega) hbw (unhide HPk)).mono ?_
      rintro e w2 ⟨rfl, hP2, hg2⟩
      have HP2 := hide hP2
      have HG2 := hide (grown_trans' (unhide HG) hg2)
      have c0 := hg2.cell hc0 (by simp; omega)
      have c1 := hg2.cell hc1 (by simp; omega)
      have hz2 := Nat.lt_of_lt_of_le hz hg2.size
      have HR2 := hide ((Stab.rot_lt dk m i j hij (by omega)).trans (unhide HRot))
      clear hP2 hg2
      go_wp2
      go_roundw
      case rel => exact ⟨i, j - i, _, hi0, by omega, hi, by omega, rfl, by go_num, unhide HR2, unhide HP2, unhide HG2, ⟨c0, c1⟩, hz2⟩
      case measure => simp [intOf]; omega
    · subst hij
      have hne : ((i : Int) != (i : Int)) = false := by simp
      have E1 : Hid ((m : Int) - (i : Int) = ((m - i : Nat) : Int)) := by unfold Hid; omega
      go_wp2_with fail
      rw [unhide E1]
      refine (swapRange_any h hh N bp bx cap dk _ _ _ _ hN (by omega) (by omega) hbw (unhide HPk)).mono ?_
      rintro e w2 ⟨rfl, hP2, hg2⟩
      rw [Stab.rot_eq dk m i (by omega), unhide HRot] at hP2
      have HP2 := hide hP2
      have HG2 := hide (grown_trans' (unhide HG) hg2)
      clear hP2 hg2
      go_wp2
      go_end0
      exact ⟨rfl, unhide HP2, unhide HG2⟩
    · have hne : ((i : Int) != (j : Int)) = true := by rw [bne_iff_ne]; omega
      have hle : (j : Int) < (i : Int) := by omega
      have E1 : Hid ((m : Int) - (i : Int) = ((m - i : Nat) : Int)) := by unfold Hid; omega
      go_wp2_with fail
      rw [unhide E1]
      refine (swapRange_any h hh N bp bx cap dk _ _ _ _ hN (by omega) (by omega) hbw (unhide HPk)).mono ?_
      rintro e w2 ⟨rfl, hP2, hg2⟩
      have HP2 := hide hP2
      have HG2 := hide (grown_trans' (unhide HG) hg2)
      have c0 := hg2.cell hc0 (by simp; omega)
      have c1 := hg2.cell hc1 (by simp; omega)
      have hz2 := Nat.lt_of_lt_of_le hz hg2.size
      have HR2 := hide ((Stab.rot_gt dk m i j hij (by omega)).trans (unhide HRot))
      clear hP2 hg2
      go_wp2
      go_roundw
      case rel => exact ⟨i - j, j, _, by omega, hj0, by omega, hj, by go_num, rfl, unhide HR2, unhide HP2, unhide HG2, ⟨c0, c1⟩, hz2⟩
      case measure => simp [intOf]; omega
end Go.Proofs.Ytmafecagcglaoaa
