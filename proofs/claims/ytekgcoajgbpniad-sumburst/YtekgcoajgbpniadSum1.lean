/-
  Package sum: movedEight, allMoved.
-/
import Derived.Test.YtekgcoajgbpniadSum0
import Derived.Test.YtekgcoajgbpniadIn0
import Derived.Deep.WholeRow
import Derived.Laws.ResultCell
namespace Go.Proofs.Ytekgcoajgbpniad
open Go.RowKit
set_option linter.unusedVariables false
set_option maxRecDepth 100000

/-- 256 numbers as the model's array -/
def tab (c : Nat → Nat) : Array Value := ((List.range 256).map fun n => Value.int .u32 ((c n : Nat) : Int)).toArray
theorem tab_size (c : Nat → Nat) : (tab c).size = 256 := by simp [tab]
theorem tab_at (c : Nat → Nat) {j : Nat} (h : j < 256) : (tab c)[j]? = some (.int .u32 ((c j : Nat) : Int)) := by simp [tab, h]
theorem tab_one (c : Nat → Nat) : (tab c).all (·.oneCell') = true := by
  rw [Array.all_eq_true']
  intro x hx
  obtain ⟨n, _, rfl⟩ : ∃ n, n < 256 ∧ Value.int .u32 ((c n : Nat) : Int) = x := by simpa [tab] using hx
  rfl
def tabSet (c : Nat → Nat) (j x : Nat) : Nat → Nat := fun n => if n = j then x else c n
theorem tab_set (c : Nat → Nat) (j x : Nat) : (tab c).setIfInBounds j (.int .u32 ((x : Nat) : Int)) = tab (tabSet c j x) := by
  apply Array.ext_getElem?
  intro i
  rw [Array.getElem?_setIfInBounds]
  by_cases h : i < 256
  · rw [tab_at _ h, tab_size, tab_at _ h]
    by_cases e : j = i
    · subst e; simp [tabSet, h]
    · rw [if_neg e]; unfold tabSet; rw [if_neg (fun h => e h.symm)]
  · have h1 : ∀ f, (tab f)[i]? = none := fun f => by simp [tab_size]; omega
    rw [h1, h1, tab_size]
    by_cases e : j = i
    · rw [if_pos e, if_neg (by omega)]
    · rw [if_neg e]
theorem tab_congr {c d : Nat → Nat} (h : ∀ n, n < 256 → c n = d n) : tab c = tab d := by
  unfold tab
  congr 1
  apply List.map_congr_left
  intro n hn
  rw [h n (by simpa using hn)]

/-- block b holds the table c -/
def Tab (w : World) (b : Nat) (c : Nat → Nat) : Prop := w.heap[b]? = some (.cells (tab c) 37 (0, 0))
theorem Tab.lt {w : World} {b : Nat} {c : Nat → Nat} (h : Tab w b c) : b < w.heap.size := (Array.getElem?_eq_some_iff.1 h).1
theorem Tab.cell {w : World} {b : Nat} {c : Nat → Nat} (h : Tab w b c) {j : Nat} (hj : j < 256) : w.cell? ⟨b, j, none⟩ = some (.int .u32 ((c j : Nat) : Int)) := by
  rw [cell_of_row w b j _ _ _ h]; exact tab_at c hj
theorem Tab.frozen {w : World} {b : Nat} {c : Nat → Nat} (h : Tab w b c) (j : Nat) : w.frozen? ⟨b, j, none⟩ = false := frozen_of_row w b j _ _ h
theorem Tab.set {w : World} {b : Nat} {c : Nat → Nat} (h : Tab w b c) (j x : Nat) : Tab (w.setCell ⟨b, j, none⟩ (.int .u32 ((x : Nat) : Int))) b (tabSet c j x) := by
  unfold Tab; rw [heap_setCell_same w b j _ _ _ h, tab_set]
theorem Tab.other {w : World} {b : Nat} {c : Nat → Nat} (h : Tab w b c) {a : Addr} (hb : b ≠ a.block) (v : Value) : Tab (w.setCell a v) b c := by
  unfold Tab; rw [heap_setCell_other w a b v hb]; exact h
theorem Tab.setRow {w : World} {b : Nat} {c : Nat → Nat} (h : Tab w b c) (d : Nat → Nat) : Tab (w.setRow b (tab d)) b d := setRow_heap w b _ _ _ _ h
theorem Tab.congr {w : World} {b : Nat} {c d : Nat → Nat} (h : Tab w b c) (e : ∀ n, n < 256 → c n = d n) : Tab w b d := by
  unfold Tab; rw [← tab_congr e]; exact h
theorem Tab.keep {w w' : World} {b : Nat} {c : Nat → Nat} (h : Tab w b c) (hk : w'.heap[b]? = w.heap[b]?) : Tab w' b c := hk.trans h
theorem tab_zero : tab (fun _ => 0) = Array.replicate 256 (.int .u32 0) := by
  apply Array.ext_getElem?
  intro i
  by_cases h : i < 256
  · rw [tab_at _ h, Array.getElem?_replicate, if_pos h]; rfl
  · have h1 : ∀ f, (tab f)[i]? = none := fun f => by simp [tab_size]; omega
    rw [h1, Array.getElem?_replicate, if_neg h]
theorem info_tab : (Try.prog.info? 37).map (·.size) = some 256 := by kernel_rfl
theorem zero_tab : ∀ w : World, (zeroValue 37).run Try.prog w = .ok (.agg (tab (fun _ => 0))) w := (zero_of_info (n := 256) (by kernel_rfl)).1
theorem below_setRow' {B : Nat} {a w : World} (h : Below B a w) {g : Nat} (hg : B ≤ g) (cs : Array Value) : Below B a (w.setRow g cs) :=
  ⟨h.os, h.tape, h.output, by simp; exact h.size, fun k hk => (Go.setRow_other w g k cs (by omega)).trans (h.block k hk)⟩
theorem load_tab {ops : Array Oper} {rest : List Oper} {o : Oper} {a : Act} {w : World} {Q : Exit → Act → World → Prop} (hgd : o.guard = none) (x : Operand) (ho : o.op = .load 37 x)
    (b : Nat) (c : Nat → Nat) (hx : a.eval x = .pointer (some ⟨b, 0, none⟩)) (h : Tab w b c) (k : wpList Try.prog ops Q rest (a.put o.dst (.agg (tab c))) w) : wpList Try.prog ops Q (o :: rest) a w :=
  wpList_load_row hgd 37 x ho b hx _ _ _ _ h Try.underlying37 rfl (by rw [tab_size]; exact info_tab) k
theorem store_tab {ops : Array Oper} {rest : List Oper} {o : Oper} {a : Act} {w : World} {Q : Exit → Act → World → Prop} (hgd : o.guard = none) (x y : Operand) (ho : o.op = .store 37 x y)
    (b : Nat) (c d : Nat → Nat) (hx : a.eval x = .pointer (some ⟨b, 0, none⟩)) (hy : a.eval y = .agg (tab d)) (h : Tab w b c) (k : wpList Try.prog ops Q rest (a.put o.dst undef) (w.setRow b (tab d))) : wpList Try.prog ops Q (o :: rest) a w :=
  wpList_store_row hgd 37 x y ho b _ hx hy _ _ h (by rw [tab_size]; exact info_tab) (by rw [tab_size, tab_size]) (tab_one d) k

theorem and1 {m : Nat} (h : m < 4294967296) : bits .and .u32 (m : Int) 1 = ((m % 2 : Nat) : Int) := by
  have := u32_and_nat m 1 h (by decide)
  rw [Nat.and_one_is_mod] at this
  exact this
theorem xorP {m : Nat} (h : m < 4294967296) : bits .xor .u32 ((m : Int) / 2) 3988292384 = ((m / 2 ^^^ 3988292384 : Nat) : Int) := by
  have := u32_xor_nat (m / 2) 3988292384 (by omega) (by decide)
  rw [← this]
  rfl

theorem movedEight_any (n : Nat) (w : World) (hn : n < 4294967296) :
    Calls Try.prog 16 #[.int .u32 (n : Int)] w fun e w' => e = .returned (.int .u32 (lfts 8 n : Nat)) ∧ w' = w := by
  go_enter Try.func16, Try.ntmps16
  go_wp2
  go_loop [0, 4] (fun t i => ∃ k : Nat, k ≤ 8 ∧ i = .int .i64 k ∧ t = .int .u32 (lfts k n : Nat)) (fun _ i => 8 - (intOf i).toNat)
  case atStart => exact ⟨0, Nat.zero_le _, rfl, rfl⟩
  case round =>
    obtain ⟨k, hk, rfl, rfl⟩ := hrel
    by_cases hlt : k < 8
    · have hb := lfts_lt k hn
      have H : Hid (lfts (k + 1) n = lft (lfts k n)) := lfts_succ k n
      generalize lfts k n = m at *
      by_cases e : m % 2 = 1
      · have h1 : (bits .and .u32 (m : Int) 1 == 1) = true := by rw [and1 hb, e]; rfl
        have HX := hide (xorP hb)
        have HL : Hid (lft m = m / 2 ^^^ 3988292384) := hide (by unfold lft; rw [if_pos e])
        go_wp2
        go_round
        case rel => exact ⟨k + 1, by omega, by go_num, by rw [H.out, unhide HX, unhide HL]⟩
        case measure => simp [intOf]; omega
      · have h1 : (bits .and .u32 (m : Int) 1 == 1) = false := by rw [and1 hb, show m % 2 = 0 by omega]; rfl
        have HL : Hid (lft m = m / 2) := hide (by unfold lft; rw [if_neg e])
        go_wp2
        go_round
        case rel => exact ⟨k + 1, by omega, by go_num, by rw [H.out, unhide HL]; rfl⟩
        case measure => simp [intOf]; omega
    · have e : k = 8 := by omega
      subst e
      go_wp2
      go_ret
      trivial

/-- the table so far -/
def tabTo (k : Nat) : Nat → Nat := fun n => if n < k then lfts 8 n else 0
theorem tabTo_next (k : Nat) : tabSet (tabTo k) k (lfts 8 k) = tabTo (k + 1) := by
  funext n
  unfold tabSet tabTo
  by_cases e : n = k
  · subst e; simp
  · rw [if_neg e]
    by_cases h : n < k
    · rw [if_pos h, if_pos (by omega)]
    · rw [if_neg h, if_neg (by omega)]
theorem tabTo_zero : tabTo 0 = fun _ => 0 := by funext n; simp [tabTo]

theorem allMoved_any (w : World) :
    Calls Try.prog 14 #[] w fun e w' => e = .returned (.agg (tab (lfts 8))) ∧ Below w.heap.size w w' := by
  have hz := zero_tab
  go_enter Try.func14, Try.ntmps14
  go_wp2
  have HR : Hid (Tab ((w.alloc (.cells (tab (fun _ => 0)) 37)).alloc (.cells (tab (fun _ => 0)) 37)) w.heap.size (fun _ => 0)) := hide ((Below.heap_alloc _ _ _ (by simp)).trans (heap_alloc_new _ _))
  have HM : Hid (Tab ((w.alloc (.cells (tab (fun _ => 0)) 37)).alloc (.cells (tab (fun _ => 0)) 37)) (w.heap.size + 1) (tabTo 0)) := hide (by
    have := heap_alloc_new (w.alloc (.cells (tab (fun _ => 0)) 37)) (.cells (tab (fun _ => 0)) 37)
    rw [World.size_alloc] at this
    rw [tabTo_zero]
    exact this)
  have HB := hide (((Below.refl w.heap.size w).alloc (Nat.le_refl _) (.cells (tab (fun _ => 0)) 37)).alloc (by simp) (.cells (tab (fun _ => 0)) 37))
  go_loopw [3] (fun i wr => ∃ k : Nat, k ≤ 256 ∧ i = .int .u32 (k : Int) ∧ Tab wr w.heap.size (fun _ => 0) ∧ Tab wr (w.heap.size + 1) (tabTo k) ∧ Below w.heap.size w wr) (fun i _ => 256 - (intOf i).toNat)
  case atStart => exact ⟨0, by omega, rfl, unhide HR, unhide HM, unhide HB⟩
  case round =>
    obtain ⟨k, hk, rfl, hR, hM, hB⟩ := hrel
    have HR1 := hide hR
    have HM1 := hide hM
    have HB1 := hide hB
    by_cases hlt : k < 256
    · have c1 := hM.cell (j := k) hlt
      have f1 := hM.frozen k
      clear hR hM hB HR HM HB
      go_wp2_with (go_at_call 16; refine (movedEight_any _ _ (by omega)).mono ?_; rintro e w' ⟨rfl, rfl⟩)
      go_roundw
      case rel => exact ⟨k + 1, by omega, by go_num, (unhide HR1).other (by simp) _, by rw [← tabTo_next]; exact (unhide HM1).set _ _, (unhide HB1).setCell (by simp) _⟩
      case measure => simp [intOf]; omega
    · obtain rfl : k = 256 := by omega
      have HX := hide ((unhide HM1).congr (d := lfts 8) (fun n hn => by unfold tabTo; rw [if_pos hn]))
      go_wp2_with (first | (refine load_tab rfl (.tmp 1) rfl _ (lfts 8) rfl (unhide HX) ?_) | (refine store_tab rfl (.tmp 0) (.tmp 11) rfl _ _ (lfts 8) rfl rfl (unhide HR1) ?_))
      have HY := hide ((unhide HR1).setRow (lfts 8))
      refine bodyPost_ret (v := .agg (tab (lfts 8))) ?_ rfl ⟨rfl, below_setRow' (unhide HB1) (by omega) _⟩
      exact results_cell_row rfl _ _ _ _ _ _ _ rfl (unhide HY) Try.underlying37 rfl (by rw [tab_size]; exact info_tab)
end Go.Proofs.Ytekgcoajgbpniad
