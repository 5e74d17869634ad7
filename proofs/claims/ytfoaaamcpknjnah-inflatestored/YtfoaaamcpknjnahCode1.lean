/-
  Arrays of sixteen numbers in memory; what code.taken and code.firstCodes answer.
-/
import Derived.Test.YtfoaaamcpknjnahIn0
import Derived.Test.YtfoaaamcpknjnahCodeP
import Derived.Deep.WholeRow
import Derived.Laws.ResultCell
namespace Go.Proofs.Ytfoaaamcpknjnah
open Go.RowKit
set_option linter.unusedVariables false

/-- block b holds the sixteen numbers c -/
def Arr (w : World) (b : Nat) (c : Nat → Nat) : Prop := w.heap[b]? = some (.cells (arr c) 59 (0, 0))

theorem arr_congr {c d : Nat → Nat} (h : ∀ n, n < 16 → c n = d n) : arr c = arr d := by
  unfold arr
  congr 1
  apply List.map_congr_left
  intro n hn
  rw [h n (by simpa using hn)]
theorem Arr.congr {w : World} {b : Nat} {c d : Nat → Nat} (h : Arr w b c) (e : ∀ n, n < 16 → c n = d n) : Arr w b d := by
  unfold Arr; rw [← arr_congr e]; exact h
theorem Arr.lt {w : World} {b : Nat} {c : Nat → Nat} (h : Arr w b c) : b < w.heap.size := by
  by_cases e : b < w.heap.size
  · exact e
  · have : w.heap[b]? = none := by simp; omega
    rw [Arr, this] at h; cases h
theorem Arr.cell {w : World} {b : Nat} {c : Nat → Nat} (h : Arr w b c) {j : Nat} (hj : j < 16) : w.cell? ⟨b, j, none⟩ = some (.int .i64 ((c j : Nat) : Int)) := by
  rw [cell_of_row w b j _ _ _ h]; exact arr_at c hj
theorem Arr.frozen {w : World} {b : Nat} {c : Nat → Nat} (h : Arr w b c) (j : Nat) : w.frozen? ⟨b, j, none⟩ = false := frozen_of_row w b j _ _ h
theorem Arr.new (w : World) (c : Nat → Nat) {b : Nat} (hb : b = w.heap.size) : Arr (w.alloc (.cells (arr c) 59)) b c := by rw [hb]; exact heap_alloc_new w _
theorem Arr.alloc {w : World} {b : Nat} {c : Nat → Nat} (h : Arr w b c) (o : Obj) : Arr (w.alloc o) b c :=
  (Below.heap_alloc w o b h.lt).trans h
theorem Arr.drew {w : World} {b : Nat} {c : Nat → Nat} (h : Arr w b c) : Arr w.drew b c := h
theorem Arr.drewN {w : World} {b : Nat} {c : Nat → Nat} (h : Arr w b c) (n : Nat) : Arr (w.drewN n) b c := h
theorem Arr.below {w w' : World} {B b : Nat} {c : Nat → Nat} (h : Arr w b c) (hB : Below B w w') (hb : b < B) : Arr w' b c := by
  unfold Arr; rw [hB.block b hb]; exact h
theorem Arr.set {w : World} {b : Nat} {c : Nat → Nat} (h : Arr w b c) (j x : Nat) : Arr (w.setCell ⟨b, j, none⟩ (.int .i64 ((x : Nat) : Int))) b (upd c j x) := by
  unfold Arr; rw [heap_setCell_same w b j _ _ _ h, arr_set]
theorem Arr.other {w : World} {b : Nat} {c : Nat → Nat} (h : Arr w b c) {a : Addr} (hb : b ≠ a.block) (v : Value) : Arr (w.setCell a v) b c := by
  unfold Arr; rw [heap_setCell_other w a b v hb]; exact h
theorem Arr.setRow {w : World} {b : Nat} {c : Nat → Nat} (h : Arr w b c) (d : Nat → Nat) : Arr (w.setRow b (arr d)) b d := setRow_heap w b _ _ _ _ h
theorem Arr.setRow_other {w : World} {b g : Nat} {c : Nat → Nat} (h : Arr w b c) (hb : b ≠ g) (cs : Array Value) : Arr (w.setRow g cs) b c := by
  unfold Arr; rw [Go.setRow_other w g b cs hb]; exact h
theorem below_setRow {B : Nat} {a w : World} (h : Below B a w) {g : Nat} (hg : B ≤ g) (cs : Array Value) : Below B a (w.setRow g cs) :=
  ⟨h.os, h.tape, h.output, by simp; exact h.size, fun k hk => (Go.setRow_other w g k cs (by omega)).trans (h.block k hk)⟩

theorem zero16 : (#[.int .i64 0, .int .i64 0, .int .i64 0, .int .i64 0, .int .i64 0, .int .i64 0, .int .i64 0, .int .i64 0, .int .i64 0, .int .i64 0, .int .i64 0, .int .i64 0, .int .i64 0, .int .i64 0, .int .i64 0, .int .i64 0] : Array Value) = arr (fun _ => 0) := rfl

theorem info_arr : (Try.prog.info? 59).map (·.size) = some 16 := by kernel_rfl

theorem load_arr {ops : Array Oper} {rest : List Oper} {o : Oper} {a : Act} {w : World} {Q : Exit → Act → World → Prop} (hgd : o.guard = none) (x : Operand) (ho : o.op = .load 59 x)
    (b : Nat) (c : Nat → Nat) (hx : a.eval x = .pointer (some ⟨b, 0, none⟩)) (h : Arr w b c) (k : wpList Try.prog ops Q rest (a.put o.dst (.agg (arr c))) w) : wpList Try.prog ops Q (o :: rest) a w :=
  wpList_load_row hgd 59 x ho b hx _ _ _ _ h Try.underlying59 rfl (by rw [arr_size]; exact info_arr) k
theorem load_arr_want {ops : Array Oper} {rest : List Oper} {o : Oper} {a : Act} {w : World} {Q : Exit → Act → World → Prop} (x : Operand) (ho : o.op = .load 59 x) (hgd : Region.wanted o (yielded ops a.tmps) = true)
    (b : Nat) (c : Nat → Nat) (hx : a.eval x = .pointer (some ⟨b, 0, none⟩)) (h : Arr w b c) (k : wpList Try.prog ops Q rest (a.put o.dst (.agg (arr c))) w) : wpList Try.prog ops Q (o :: rest) a w := by
  unfold wpList
  rw [if_pos hgd]
  exact .inl (wp_load_row 59 x ho b hx _ _ _ _ h Try.underlying59 rfl (by rw [arr_size]; exact info_arr) k)
theorem store_arr {ops : Array Oper} {rest : List Oper} {o : Oper} {a : Act} {w : World} {Q : Exit → Act → World → Prop} (hgd : o.guard = none) (x y : Operand) (ho : o.op = .store 59 x y)
    (b : Nat) (c d : Nat → Nat) (hx : a.eval x = .pointer (some ⟨b, 0, none⟩)) (hy : a.eval y = .agg (arr d)) (h : Arr w b c) (k : wpList Try.prog ops Q rest (a.put o.dst undef) (w.setRow b (arr d))) : wpList Try.prog ops Q (o :: rest) a w :=
  wpList_store_row hgd 59 x y ho b _ hx hy _ _ h (by rw [arr_size]; exact info_arr) (by rw [arr_size, arr_size]) (arr_one d) k
theorem store_new {ops : Array Oper} {rest : List Oper} {o : Oper} {a : Act} {W : World} {Q : Exit → Act → World → Prop} (hgd : o.guard = none) (x y : Operand) (ho : o.op = .store 59 x y)
    (w : World) (c d : Nat → Nat) (hW : W = w.alloc (.cells (arr c) 59)) (hx : a.eval x = .pointer (some ⟨w.heap.size, 0, none⟩)) (hy : a.eval y = .agg (arr d)) (k : wpList Try.prog ops Q rest (a.put o.dst undef) (w.alloc (.cells (arr d) 59))) : wpList Try.prog ops Q (o :: rest) a W := by
  subst hW
  exact store_arr hgd x y ho _ c d hx hy (Arr.new w c rfl) (by rw [World.setRow_alloc_new]; exact k)
theorem loadVar_arr {w : World} {b : Nat} {c : Nat → Nat} (h : Arr w b c) : (loadVar 59 ⟨b, 0, none⟩).run Try.prog w = .ok (.agg (arr c)) w :=
  run_loadVar_row w b _ _ _ _ _ h Try.underlying59 rfl (by rw [arr_size]; exact info_arr)

theorem ret_arr_tmp {fn : Func} {p u : Tmp} (h : fn.results = #[.cell p 59, .tmp u]) (tmps : Array Value) (w : World) (b : Nat) (c : Nat → Nat) (hp : tmps.getD p undef = .pointer (some ⟨b, 0, none⟩)) (hA : Arr w b c) :
    (results fn tmps).run Try.prog w = .ok (.tuple #[.agg (arr c), tmps.getD u undef]) w := by
  rw [results_cell_tmp h, hp]
  simp [asAddr, Result.andThen, loadVar_arr hA]

theorem taken_any (c : Nat → Nat) (w : World) (hc : ∀ n, c n ≤ 288) :
    Calls Try.prog 29 #[.agg (arr c)] w fun e w' => e = .returned (.int .i64 (takenN c 15 : Nat)) ∧ Below w.heap.size w w' := by
  go_enter Try.func29, Try.ntmps29
  go_wp2
  have hA := hide (Arr.new w c rfl)
  have hB := hide ((Below.refl w.heap.size w).alloc (Nat.le_refl _) (.cells (arr c) 59))
  go_loop [3, 4] (fun s i => ∃ k : Nat, k ≤ 15 ∧ i = .int .i64 ((k : Int) + 1) ∧ s = .int .i64 (takenN c k : Nat)) (fun _ i => 16 - (intOf i).toNat)
  case atStart => exact ⟨0, by omega, rfl, rfl⟩
  case round =>
    obtain ⟨k, hk, rfl, rfl⟩ := hrel
    by_cases hlt : k < 15
    · have c1 := (unhide hA).cell (j := k + 1) (by omega)
      have ht := takenN_le c hc (k + 1)
      have H : Hid (takenN c (k + 1) = takenN c k + c (k + 1) * 2 ^ (14 - k)) := rfl
      have hw : wrap64 ((takenN c k : Int) + wrap64 ((c (k + 1) : Int) * 2 ^ (14 - k))) = ((takenN c (k + 1) : Nat) : Int) := by
        rw [takenN] at ht ⊢
        have e : ((c (k + 1) : Int) * 2 ^ (14 - k)) = ((c (k + 1) * 2 ^ (14 - k) : Nat) : Int) := by push_cast; rfl
        rw [e]
        generalize c (k + 1) * 2 ^ (14 - k) = x at *
        have h3 : (k + 1) * (288 * 32768) ≤ 15 * (288 * 32768) := Nat.mul_le_mul_right _ (by omega)
        unfold wrap64
        omega
      have HW := hide hw
      clear ht hw
      go_wp2
      go_round
      case rel => exact ⟨k + 1, by omega, by go_num, by rw [unhide HW]⟩
      case measure => simp [intOf]; omega
    · obtain rfl : k = 15 := by omega
      go_wp2
      go_ret
      exact ⟨rfl, unhide hB⟩

def fpart (c : Nat → Nat) (k : Nat) : Nat → Nat := fun n => if 1 ≤ n ∧ n ≤ k then firstN c n else 0
theorem fpart_zero (c : Nat → Nat) : fpart c 0 = fun _ => 0 := by funext n; simp [fpart]; omega
theorem fpart_next (c : Nat → Nat) (k : Nat) : upd (fpart c k) (k + 1) (firstN c (k + 1)) = fpart c (k + 1) := by
  funext n
  simp only [upd, fpart]
  by_cases e : n = k + 1
  · subst e; simp
  · by_cases h : 1 ≤ n ∧ n ≤ k
    · have : 1 ≤ n ∧ n ≤ k + 1 := by omega
      simp [e, h, this]
    · have : ¬ (1 ≤ n ∧ n ≤ k + 1) := by omega
      simp [e, h, this]
theorem fpart_all (c : Nat → Nat) (n : Nat) (h : n < 16) : fpart c 15 n = firstN c n := by
  simp only [fpart]
  by_cases e : n = 0
  · subst e; simp [firstN]
  · have : 1 ≤ n ∧ n ≤ 15 := by omega
    simp [this]

theorem first_le (c : Nat → Nat) (hc : ∀ n, c n ≤ 288) : ∀ n, firstN c (n + 1) + 576 ≤ 288 * 2 ^ (n + 1)
  | 0 => by simp [firstN]
  | n + 1 => by
    have h1 := first_le c hc n
    have h2 := hc (n + 1)
    rw [firstN, Nat.pow_succ]
    generalize 2 ^ (n + 1) = p at *
    omega
def nextN (c : Nat → Nat) : Nat → Nat
  | 0 => 0
  | k + 1 => firstN c (k + 1) + c (k + 1)
theorem first_next (c : Nat → Nat) (k : Nat) : firstN c (k + 1) = 2 * nextN c k := by cases k <;> rfl
theorem first_small (c : Nat → Nat) (hc : ∀ n, c n ≤ 288) {k : Nat} (hk : k ≤ 14) : firstN c (k + 1) ≤ 9437184 := by
  have h1 := first_le c hc k
  have h2 := Nat.pow_le_pow_right (n := 2) (by decide) (show k + 1 ≤ 15 by omega)
  have h3 : 288 * 2 ^ (k + 1) ≤ 288 * 2 ^ 15 := Nat.mul_le_mul_left _ h2
  omega

set_option maxRecDepth 100000 in
theorem firstCodes_any (c : Nat → Nat) (w : World) (hc : ∀ n, c n ≤ 288) :
    Calls Try.prog 50 #[.agg (arr c)] w fun e w' => e = .returned (.agg (arr (firstN c))) ∧ Below w.heap.size w w' := by
  go_enter Try.func50, Try.ntmps50
  go_wp2
  simp only [zero16]
  have HA := hide (((Arr.new w c rfl).alloc (.cells (arr (fun _ => 0)) 59)).alloc (.cells (arr (fun _ => 0)) 59))
  have HR := hide ((Arr.new (w.alloc (.cells (arr c) 59)) (fun _ => 0) (b := w.heap.size + 1) (by simp)).alloc (.cells (arr (fun _ => 0)) 59))
  have HF := hide (Arr.new ((w.alloc (.cells (arr c) 59)).alloc (.cells (arr (fun _ => 0)) 59)) (fun _ => 0) (b := w.heap.size + 1 + 1) (by simp))
  have HB := hide ((((Below.refl w.heap.size w).alloc (Nat.le_refl _) (.cells (arr c) 59)).alloc (by simp) (.cells (arr (fun _ => 0)) 59)).alloc (by simp; omega) (.cells (arr (fun _ => 0)) 59))
  go_loopw [4, 5] (fun s i wr => ∃ k : Nat, k ≤ 15 ∧ i = .int .i64 ((k : Int) + 1) ∧ s = .int .i64 (nextN c k : Nat) ∧ Arr wr w.heap.size c ∧ Arr wr (w.heap.size + 1) (fun _ => 0) ∧ Arr wr (w.heap.size + 1 + 1) (fpart c k) ∧ Below w.heap.size w wr) (fun _ i _ => 16 - (intOf i).toNat)
  case atStart => exact ⟨0, by omega, rfl, rfl, unhide HA, unhide HR, by rw [fpart_zero]; exact unhide HF, unhide HB⟩
  case round =>
    obtain ⟨k, hk, rfl, rfl, hA, hR, hF, hB⟩ := hrel
    have HA1 := hide hA
    have HR1 := hide hR
    have HF1 := hide hF
    have HB1 := hide hB
    by_cases hlt : k < 15
    · have c1 := hA.cell (j := k + 1) (by omega)
      have c2 := hF.cell (j := k + 1) (by omega)
      have f2 := hF.frozen (k + 1)
      have c3 : (wr.setCell ⟨w.heap.size + 1 + 1, k + 1, none⟩ (.int .i64 (firstN c (k + 1) : Nat))).cell? ⟨w.heap.size, k + 1, none⟩ = some (.int .i64 ((c (k + 1) : Nat) : Int)) := (hA.other (by simp; omega) _).cell (by omega)
      have hs := first_small c hc (k := k) (by omega)
      have hcc := hc (k + 1)
      have hfn := first_next c k
      have HN : Hid (nextN c (k + 1) = firstN c (k + 1) + c (k + 1)) := rfl
      have HP := hide (fpart_next c k)
      have hw : wrap64 ((nextN c k : Int) * 2) = ((firstN c (k + 1) : Nat) : Int) := by unfold wrap64; omega
      clear hA hR hF hB hc HA HR HF HB hfn
      generalize nextN c k = m at *
      go_wp2
      go_roundw
      case rel => exact ⟨k + 1, by omega, by go_num, by rw [unhide HN]; go_num, (unhide HA1).other (by simp; omega) _, (unhide HR1).other (by simp) _, by rw [← unhide HP]; exact (unhide HF1).set _ _, (unhide HB1).setCell (by simp; omega) _⟩
      case measure => simp [intOf]; omega
    · obtain rfl : k = 15 := by omega
      have HX := hide ((unhide HF1).congr (fpart_all c))
      go_wp2_with (first | (refine load_arr rfl (.tmp 3) rfl _ (firstN c) rfl (unhide HX) ?_) | (refine store_arr rfl (.tmp 2) (.tmp 20) rfl _ _ (firstN c) rfl rfl (unhide HR1) ?_))
      have HY := hide ((unhide HR1).setRow (firstN c))
      refine bodyPost_ret (v := .agg (arr (firstN c))) ?_ rfl ⟨rfl, below_setRow (unhide HB1) (by omega) _⟩
      exact results_cell_row rfl _ _ _ _ _ _ _ rfl (unhide HY) Try.underlying59 rfl (by rw [arr_size]; exact info_arr)
end Go.Proofs.Ytfoaaamcpknjnah
