/-
  Package sum: movedEight, allMoved.
-/
import Derived.Test.YtfoaaamcpknjnadGreatQ0
import Derived.Deep.WholeRow
import Derived.Laws.ResultCell
namespace Go.Proofs.YtfoaaamcpknjnadGreat
open Go.RowKit
set_option linter.unusedVariables false
set_option maxRecDepth 100000

/-- 256 numbers as the model's array -/
def tab (c : Nat → Nat) : Array Value := ((List.range 256).map fun n => Value.int .u32 ((c n : Nat) : Int)).toArray
theorem tab_size (c : Nat → Nat) : (tab c).size = 256 := by simp [tab]
theorem tab_at (c : Nat → Nat) {j : Nat} (h : j < 256) : (tab c)[j]? = some (.int .u32 ((c j : Nat) : Int)) := by simp [tab, h]
theorem tab_one (c : Nat → Nat) : (tab c).all (·.oneCell') = true := by
  rw [Array.all_eq_true']
  intro x hx
  obtain ⟨n, _, rfl⟩ : ∃ n, n < 256 ∧ Value.int .u32 ((c n : Nat) : Int) = x := by simpa [tab] using hx
  rfl
def tabSet (c : Nat → Nat) (j x : Nat) : Nat → Nat := fun n => if n = j then x else c n
theorem tab_set (c : Nat → Nat) (j x : Nat) : (tab c).setIfInBounds j (.int .u32 ((x : Nat) : Int)) = tab (tabSet c j x) := by
  apply Array.ext_getElem?
  intro i
  rw [Array.getElem?_setIfInBounds]
  by_cases h : i < 256
  · rw [tab_at _ h, tab_size, tab_at _ h]
    by_cases e : j = i
    · subst e; simp [tabSet, h]
    · rw [if_neg e]; unfold tabSet; rw [if_neg (fun h => e h.symm)]
  · have h1 : ∀ f, (tab f)[i]? = none := fun f => by simp [tab_size]; omega
    rw [h1, h1, tab_size]
    by_cases e : j = i
    · rw [if_pos e, if_neg (by omega)]
    · rw [if_neg e]
theorem tab_congr {c d : Nat → Nat} (h : ∀ n, n < 256 → c n = d n) : tab c = tab d := by
  unfold tab
  congr 1
  apply List.map_congr_left
  intro n hn
  rw [h n (by simpa using hn)]

/-- block b holds the table c -/
def Tab (w : World) (b : Nat) (c : Nat → Nat) : Prop := w.heap[b]? = some (.cells (tab c) 89 (0, 0))
theorem Tab.lt {w : World} {b : Nat} {c : Nat → Nat} (h : Tab w b c) : b < w.heap.size := (Array.getElem?_eq_some_iff.1 h).1
theorem Tab.cell {w : World} {b : Nat} {c : Nat → Nat} (h : Tab w b c) {j : Nat} (hj : j < 256) : w.cell? ⟨b, j, none⟩ = some (.int .u32 ((c j : Nat) : Int)) := by
  rw [cell_of_row w b j _ _ _ h]; exact tab_at c hj
theorem Tab.frozen {w : World} {b : Nat} {c : Nat → Nat} (h : Tab w b c) (j : Nat) : w.frozen? ⟨b, j, none⟩ = false := frozen_of_row w b j _ _ h
theorem Tab.set {w : World} {b : Nat} {c : Nat → Nat} (h : Tab w b c) (j x : Nat) : Tab (w.setCell ⟨b, j, none⟩ (.int .u32 ((x : Nat) : Int))) b (tabSet c j x) := by
  unfold Tab; rw [heap_setCell_same w b j _ _ _ h, tab_set]
theorem Tab.other {w : World} {b : Nat} {c : Nat → Nat} (h : Tab w b c) {a : Addr} (hb : b ≠ a.block) (v : Value) : Tab (w.setCell a v) b c := by
  unfold Tab; rw [heap_setCell_other w a b v hb]; exact h
theorem Tab.setRow {w : World} {b : Nat} {c : Nat → Nat} (h : Tab w b c) (d : Nat → Nat) : Tab (w.setRow b (tab d)) b d := setRow_heap w b _ _ _ _ h
theorem Tab.congr {w : World} {b : Nat} {c d : Nat → Nat} (h : Tab w b c) (e : ∀ n, n < 256 → c n = d n) : Tab w b d := by
  unfold Tab; rw [← tab_congr e]; exact h
theorem Tab.keep {w w' : World} {b : Nat} {c : Nat → Nat} (h : Tab w b c) (hk : w'.heap[b]? = w.heap[b]?) : Tab w' b c := hk.trans h
theorem tab_zero : tab (fun _ => 0) = Array.replicate 256 (.int .u32 0) := by
  apply Array.ext_getElem?
  intro i
  by_cases h : i < 256
  · rw [tab_at _ h, Array.getElem?_replicate, if_pos h]; rfl
  · have h1 : ∀ f, (tab f)[i]? = none := fun f => by simp [tab_size]; omega
    rw [h1, Array.getElem?_replicate, if_neg h]
theorem info_tab : (Tryz.prog.info? 89).map (·.size) = some 256 := by kernel_rfl
theorem zero_tab : ∀ w : World, (zeroValue 89).run Tryz.prog w = .ok (.agg (tab (fun _ => 0))) w := (zero_of_info (n := 256) (by kernel_rfl)).1
theorem below_setRow' {B : Nat} {a w : World} (h : Below B a w) {g : Nat} (hg : B ≤ g) (cs : Array Value) : Below B a (w.setRow g cs) :=
  ⟨h.os, h.tape, h.output, by simp; exact h.size, fun k hk => (Go.setRow_other w g k cs (by omega)).trans (h.block k hk)⟩
theorem load_tab {ops : Array Oper} {rest : List Oper} {o : Oper} {a : Act} {w : World} {Q : Exit → Act → World → Prop} (hgd : o.guard = none) (x : Operand) (ho : o.op = .load 89 x)
    (b : Nat) (c : Nat → Nat) (hx : a.eval x = .pointer (some ⟨b, 0, none⟩)) (h : Tab w b c) (k : wpList Tryz.prog ops Q rest (a.put o.dst (.agg (tab c))) w) : wpList Tryz.prog ops Q (o :: rest) a w :=
  wpList_load_row hgd 89 x ho b hx _ _ _ _ h Tryz.underlying89 rfl (by rw [tab_size]; exact info_tab) k
theorem store_tab {ops : Array Oper} {rest : List Oper} {o : Oper} {a : Act} {w : World} {Q : Exit → Act → World → Prop} (hgd : o.guard = none) (x y : Operand) (ho : o.op = .store 89 x y)
    (b : Nat) (c d : Nat → Nat) (hx : a.eval x = .pointer (some ⟨b, 0, none⟩)) (hy : a.eval y = .agg (tab d)) (h : Tab w b c) (k : wpList Tryz.prog ops Q rest (a.put o.dst undef) (w.setRow b (tab d))) : wpList Tryz.prog ops Q (o :: rest) a w :=
  wpList_store_row hgd 89 x y ho b _ hx hy _ _ h (by rw [tab_size]; exact info_tab) (by rw [tab_size, tab_size]) (tab_one d) k

theorem and1 {m : Nat} (h : m < 4294967296) : bits .and .u32 (m : Int) 1 = ((m % 2 : Nat) : Int) := by
  have := u32_and_nat m 1 h (by decide)
  rw [Nat.and_one_is_mod] at this
  exact this
theorem xorP {m : Nat} (h : m < 4294967296) : bits .xor .u32 ((m : Int) / 2) 3988292384 = ((m / 2 ^^^ 3988292384 : Nat) : Int) := by
  have := u32_xor_nat (m / 2) 3988292384 (by omega) (by decide)
  rw [← this]
  rfl

theorem movedEight_any (n : Nat) (w : World) (hn : n < 4294967296) :
    Calls Tryz.prog 56 #[.int .u32 (n : Int)] w fun e w' => e = .returned (.int .u32 (lfts 8 n : Nat)) ∧ w' = w := by
  go_enter Tryz.func56, Tryz.ntmps56
  go_wp2
  go_loop [0, 4] (fun t i => ∃ k : Nat, k ≤ 8 ∧ i = .int .i64 k ∧ t = .int .u32 (lfts k n : Nat)) (fun _ i => 8 - (intOf i).toNat)
  case atStart => exact ⟨0, Nat.zero_le _, rfl, rfl⟩
  case round =>
    obtain ⟨k, hk, rfl, rfl⟩ := hrel
    by_cases hlt : k < 8
    · have hb := lfts_lt k hn
      have H : Hid (lfts (k + 1) n = lft (lfts k n)) := lfts_succ k n
      generalize lfts k n = m at *
      by_cases e : m % 2 = 1
      · have h1 : (bits .and .u32 (m : Int) 1 == 1) = true := by rw [and1 hb, e]; rfl
        have HX := hide (xorP hb)
        have HL : Hid (lft m = m / 2 ^^^ 3988292384) := hide (by unfold lft; rw [if_pos e])
        go_wp2
        go_round
        case rel => exact ⟨k + 1, by omega, by go_num, by rw [H.out, unhide HX, unhide HL]⟩
        case measure => simp [intOf]; omega
      · have h1 : (bits .and .u32 (m : Int) 1 == 1) = false := by rw [and1 hb, show m % 2 = 0 by omega]; rfl
        have HL : Hid (lft m = m / 2) := hide (by unfold lft; rw [if_neg e])
        go_wp2
        go_round
        case rel => exact ⟨k + 1, by omega, by go_num, by rw [H.out, unhide HL]; rfl⟩
        case measure => simp [intOf]; omega
    · have e : k = 8 := by omega
      subst e
      go_wp2
      go_ret
      trivial

/-- the table so far -/
def tabTo (k : Nat) : Nat → Nat := fun n => if n < k then lfts 8 n else 0
theorem tabTo_next (k : Nat) : tabSet (tabTo k) k (lfts 8 k) = tabTo (k + 1) := by
  funext n
  unfold tabSet tabTo
  by_cases e : n = k
  · subst e; simp
  · rw [if_neg e]
    by_cases h : n < k
    · rw [if_pos h, if_pos (by omega)]
    · rw [if_neg h, if_neg (by omega)]
theorem tabTo_zero : tabTo 0 = fun _ => 0 := by funext n; simp [tabTo]

theorem allMoved_any (w : World) :
    Calls Tryz.prog 40 #[] w fun e w' => e = .returned (.agg (tab (lfts 8))) ∧ Below w.heap.size w w' := by
  have hz := zero_tab
  go_enter Tryz.func40, Tryz.ntmps40
  go_wp2
  have HR : Hid (Tab ((w.alloc (.cells (tab (fun _ => 0)) 89)).alloc (.cells (tab (fun _ => 0)) 89)) w.heap.size (fun _ => 0)) := hide ((Below.heap_alloc _ _ _ (by simp)).trans (heap_alloc_new _ _))
  have HM : Hid (Tab ((w.alloc (.cells (tab (fun _ => 0)) 89)).alloc (.cells (tab (fun _ => 0)) 89)) (w.heap.size + 1) (tabTo 0)) := hide (by
    have := heap_alloc_new (w.alloc (.cells (tab (fun _ => 0)) 89)) (.cells (tab (fun _ => 0)) 89)
    rw [World.size_alloc] at this
    rw [tabTo_zero]
    exact this)
  have HB := hide (((Below.refl w.heap.size w).alloc (Nat.le_refl _) (.cells (tab (fun _ => 0)) 89)).alloc (by simp) (.cells (tab (fun _ => 0)) 89))
  go_loopw [3] (fun i wr => ∃ k : Nat, k ≤ 256 ∧ i = .int .u32 (k : Int) ∧ Tab wr w.heap.size (fun _ => 0) ∧ Tab wr (w.heap.size + 1) (tabTo k) ∧ Below w.heap.size w wr) (fun i _ => 256 - (intOf i).toNat)
  case atStart => exact ⟨0, by omega, rfl, unhide HR, unhide HM, unhide HB⟩
  case round =>
    obtain ⟨k, hk, rfl, hR, hM, hB⟩ := hrel
    have HR1 := hide hR
    have HM1 := hide hM
    have HB1 := hide hB
    by_cases hlt : k < 256
    · have c1 := hM.cell (j := k) hlt
      have f1 := hM.frozen k
      clear hR hM hB HR HM HB
      go_wp2_with (go_at_call 56; refine (movedEight_any _ _ (by omega)).mono ?_; rintro e w' ⟨rfl, rfl⟩)
      go_roundw
      case rel => exact ⟨k + 1, by omega, by go_num, (unhide HR1).other (by simp) _, by rw [← tabTo_next]; exact (unhide HM1).set _ _, (unhide HB1).setCell (by simp) _⟩
      case measure => simp [intOf]; omega
    · obtain rfl : k = 256 := by omega
      have HX := hide ((unhide HM1).congr (d := lfts 8) (fun n hn => by unfold tabTo; rw [if_pos hn]))
      go_wp2_with (first | (refine load_tab rfl (.tmp 1) rfl _ (lfts 8) rfl (unhide HX) ?_) | (refine store_tab rfl (.tmp 0) (.tmp 11) rfl _ _ (lfts 8) rfl rfl (unhide HR1) ?_))
      have HY := hide ((unhide HR1).setRow (lfts 8))
      refine bodyPost_ret (v := .agg (tab (lfts 8))) ?_ rfl ⟨rfl, below_setRow' (unhide HB1) (by omega) _⟩
      exact results_cell_row rfl _ _ _ _ _ _ _ rfl (unhide HY) Tryz.underlying89 rfl (by rw [tab_size]; exact info_tab)
end Go.Proofs.YtfoaaamcpknjnadGreat

/-
  Package sum: CRC, Both.
-/
namespace Go.Proofs.YtfoaaamcpknjnadGreat
open Go.RowKit
set_option linter.unusedVariables false
set_option maxRecDepth 100000

theorem bytes_at {w : World} {a : Option Addr} {bs : List Nat} (h : BytesIn w a bs) {j : Nat} (hj : j < bs.length) : ∃ b o, a = some ⟨b, o, none⟩ ∧ b < w.heap.size ∧ w.cell? ⟨b, o + j, none⟩ = some (.int .u8 ((bs.getD j 0 : Nat) : Int)) := by
  rcases h with h | ⟨b, o, h1, h2, h3⟩
  · subst h; simp at hj
  · exact ⟨b, o, h1, h2, h3 j hj⟩
theorem notU {n : Nat} (h : n < 4294967296) : bits .xor .u32 IntKind.u32.max (n : Int) = ((n ^^^ 4294967295 : Nat) : Int) := by
  have := u32_xor_nat 4294967295 n (by decide) h
  rw [Nat.xor_comm] at this
  exact this
/-- where the table is looked up -/
theorem low_xor {n x : Nat} (hn : n < 4294967296) (hx : x < 256) : bits .xor .u8 ((n : Int) % 256) (x : Int) = (((n ^^^ x) % 256 : Nat) : Int) := by
  have h := u8_xor_nat (n % 256) x (Nat.mod_lt _ (by decide)) hx
  have e : ((n % 256 : Nat) : Int) = (n : Int) % 256 := rfl
  rw [e] at h
  rw [h]
  have h2 : (n ^^^ x) % 2 ^ 8 = n % 2 ^ 8 ^^^ x % 2 ^ 8 := Nat.xor_mod_two_pow
  rw [show (256 : Nat) = 2 ^ 8 from rfl, h2, Nat.mod_eq_of_lt (a := x) (by simpa using hx)]
theorem high_xor {n m : Nat} (hn : n < 4294967296) (hm : m < 4294967296) : bits .xor .u32 (m : Int) ((n : Int) / 256) = ((m ^^^ n / 256 : Nat) : Int) := u32_xor_nat m (n / 256) hm (by omega)
theorem crcS_is {n x : Nat} (hx : x < 256) : lfts 8 ((n ^^^ x) % 256) ^^^ n / 256 = crcS n x := by
  unfold crcS
  rw [lfts_table (n ^^^ x)]
  congr 1
  have h2 : (n ^^^ x) / 2 ^ 8 = n / 2 ^ 8 ^^^ x / 2 ^ 8 := by simpa [Nat.shiftRight_eq_div_pow] using Nat.shiftRight_xor_distrib (a := n) (b := x) (i := 8)
  rw [show (256 : Nat) = 2 ^ 8 from rfl, h2, Nat.div_eq_of_lt (a := x) (by simpa using hx), Nat.xor_zero]
theorem take_next {bs : List Nat} {k : Nat} (h : k < bs.length) : bs.take (k + 1) = bs.take k ++ [bs.getD k 0] := by
  rw [List.take_add_one]
  simp [List.getD, h]

theorem crc_many (p : Nat) (a : Option Addr) (n cap : Nat) (w : World) (hn : 12000 < n) :
    Calls Tryz.prog 25 #[.int .u32 (p : Int), .slice a n cap] w fun e w' => e = .returned (.tuple #[.int .u32 0, .int .i64 2]) ∧ w' = w := by
  have h : (12000 : Int) < (n : Int) := by omega
  go_enter Tryz.func25, Tryz.ntmps25
  go_wp2
  go_ret2
  trivial

theorem crc_ok (p : Nat) (a : Option Addr) (n cap : Nat) (bs : List Nat) (w : World) (hl : bs.length = n) (hn : n ≤ 12000) (hp : p < 4294967296) (hby : BytesIn w a bs) (hv : ∀ j, bs.getD j 0 < 256) :
    Calls Tryz.prog 25 #[.int .u32 (p : Int), .slice a n cap] w fun e w' => e = .returned (.tuple #[.int .u32 (crcN p bs : Nat), .int .i64 0]) ∧ Below w.heap.size w w' := by
  have hz := zero_tab
  have h : ¬ (12000 : Int) < (n : Int) := by omega
  have HBY := hide hby
  have HV := hide hv
  have HL := hide hl
  clear hby hv hl
  go_enter Tryz.func25, Tryz.ntmps25
  go_wp2_with fail
  refine (allMoved_any w).mono ?_
  rintro e w1 ⟨rfl, hB1⟩
  have HB1 := hide hB1
  clear hB1
  have HN : Hid (Tab (w1.alloc (.cells (tab (fun _ => 0)) 89)) w1.heap.size (fun _ => 0)) := hide (heap_alloc_new _ _)
  go_wp2_with (refine store_tab rfl (.tmp 6) (.tmp 13) rfl _ _ (lfts 8) rfl rfl (unhide HN) ?_)
  have HT := hide ((unhide HN).setRow (lfts 8))
  have HB : Hid (Below w.heap.size w ((w1.alloc (.cells (tab (fun _ => 0)) 89)).setRow w1.heap.size (tab (lfts 8)))) := hide (below_setRow' ((unhide HB1).alloc (unhide HB1).size _) (unhide HB1).size _)
  have HP := hide (notU hp)
  rw [unhide HP]
  go_loopw [7, 18] (fun r i wr => ∃ k : Nat, k ≤ n ∧ i = .int .i64 (k : Int) ∧ r = .int .u32 (crcR (p ^^^ 4294967295) (bs.take k) : Nat) ∧ Hid (Tab wr w1.heap.size (lfts 8) ∧ Below w.heap.size w wr)) (fun _ i _ => n - (intOf i).toNat)
  case atStart => exact ⟨0, by omega, rfl, rfl, hide ⟨unhide HT, unhide HB⟩⟩
  case round =>
    obtain ⟨k, hk, rfl, rfl, hW⟩ := hrel
    by_cases hlt : k < n
    · have hkl : k < bs.length := by rw [unhide HL]; exact hlt
      obtain ⟨b, o, rfl, hb, hc⟩ := bytes_at (unhide HBY) hkl
      have c0 := ((unhide hW).2.cell (p := ⟨b, o + k, none⟩) hb).trans hc
      have hx := unhide HV k
      have hr : crcR (p ^^^ 4294967295) (bs.take k) < 4294967296 := crcR_lt _ _ (fun y hy => by
        obtain ⟨i, hi, rfl⟩ := List.getElem_of_mem hy
        have := unhide HV i
        rw [List.length_take] at hi
        rw [List.getElem_take]
        rw [List.getD, List.getElem?_eq_getElem (by omega)] at this
        exact this) (not_lt hp)
      have HC : Hid (crcR (p ^^^ 4294967295) (bs.take (k + 1)) = crcS (crcR (p ^^^ 4294967295) (bs.take k)) (bs.getD k 0)) := hide (by rw [take_next hkl, crcR_snoc])
      generalize crcR (p ^^^ 4294967295) (bs.take k) = r at *
      generalize bs.getD k 0 = x at *
      have hi := low_xor hr hx
      have hlo : (r ^^^ x) % 256 < 256 := Nat.mod_lt _ (by decide)
      have c1 := (unhide hW).1.cell hlo
      have HS := hide (crcS_is (n := r) hx)
      have ht := lfts_lt 8 (show (r ^^^ x) % 256 < 4294967296 by omega)
      have HH := hide (high_xor hr ht)
      generalize (r ^^^ x) % 256 = q at *
      clear hc hb hkl HT HB HN HB1
      go_wp2
      go_roundw
      case rel => exact ⟨k + 1, by omega, by go_num, by rw [unhide HH, unhide HS, unhide HC], hW⟩
      case measure => simp [intOf]; omega
    · have e : k = n := by omega
      subst e
      have HE : Hid (crcR (p ^^^ 4294967295) (bs.take k) ^^^ 4294967295 = crcN p bs) := hide (by rw [List.take_of_length_le (by rw [unhide HL]; exact Nat.le_refl _)]; rfl)
      have hr : crcR (p ^^^ 4294967295) (bs.take k) < 4294967296 := crcR_lt _ _ (fun y hy => by
        obtain ⟨i, hi, rfl⟩ := List.getElem_of_mem hy
        have := unhide HV i
        rw [List.length_take] at hi
        rw [List.getElem_take]
        rw [List.getD, List.getElem?_eq_getElem (by omega)] at this
        exact this) (not_lt hp)
      have HNN := hide (notU hr)
      clear hr
      go_wp2
      go_ret2
      exact ⟨by rw [unhide HNN, unhide HE]; rfl, (unhide hW).2⟩

end Go.Proofs.YtfoaaamcpknjnadGreat

/-
  What stays while others are worked upon; rows of a call's own as rows that are read.
-/
namespace Go.Proofs.YtfoaaamcpknjnadGreat
open Go.RowKit
set_option linter.unusedVariables false

theorem heap_row {w : World} {b i : Nat} {cs : Array Value} {t : TypeId} (h : w.heap[b]? = some (.cells cs t (0, 0))) : w.cell? ⟨b, i, none⟩ = cs[i]? := cell_of_row w b i _ _ _ h
/-- what must stay stays -/
def Kp (No : Nat → Prop) (w w' : World) : Prop := ∀ g, g < w.heap.size → No g → w'.heap[g]? = w.heap[g]?
theorem Kp.refl (No : Nat → Prop) (w : World) : Kp No w w := fun _ _ _ => rfl
theorem Kp.trans {No : Nat → Prop} {a b c : World} (h : Kp No a b) (k : Kp No b c) (hs : a.heap.size ≤ b.heap.size) : Kp No a c := fun g hg hn => (k g (by omega) hn).trans (h g hg hn)
theorem Kp.grown {No : Nat → Prop} {a w w' : World} {r : Option Nat} (h : Kp No a w) (hg : w.grownBy w' r) (hs : a.heap.size ≤ w.heap.size) (hr : ∀ j, r = some j → ¬ No j) : Kp No a w' := by
  intro g h1 h2
  rw [hg.block g (by omega) (fun e => hr g e.symm h2)]
  exact h g h1 h2
theorem Bytes.grown {w w' : World} {b o : Nat} {xs : List Nat} {r : Option Nat} (h : Bytes w b o xs) (hg : w.grownBy w' r) (hr : some b ≠ r) : Bytes w' b o xs := fun j hj => hg.cell (h j hj) hr
theorem Kp.weaken {No No' : Nat → Prop} {w w' : World} (h : Kp No' w w') (hn : ∀ g, No g → No' g) : Kp No w w' := fun g h1 h2 => h g h1 (hn g h2)
theorem own_kp {w w' : World} {B e size n : Nat} {v : Value} {xs : List Value} (h : w.ownsRow B e size v n xs) (hk : ∀ g, v.ownBlock = some g → w'.heap[g]? = w.heap[g]?) : w'.ownsRow B e size v n xs := by
  refine ⟨h.1, ?_⟩
  rcases h.2 with h1 | ⟨g, cap, cur, h1, h2, h3, h4⟩
  · exact .inl h1
  · exact .inr ⟨g, cap, cur, h1, h2, (hk g (by rw [h1]; rfl)).trans h3, h4⟩
theorem own_mono {w : World} {B B' e size n : Nat} {v : Value} {xs : List Value} (h : w.ownsRow B e size v n xs) (hB : B' ≤ B) : w.ownsRow B' e size v n xs := by
  refine ⟨h.1, ?_⟩
  rcases h.2 with h1 | ⟨g, cap, cur, h1, h2, h3⟩
  · exact .inl h1
  · exact .inr ⟨g, cap, cur, h1, Nat.le_trans hB h2, h3⟩
theorem own_shape {w : World} {B e size n : Nat} {v : Value} {xs : List Value} (h : w.ownsRow B e size v n xs) (hn : 0 < n) : ∃ g cap, v = .slice (some ⟨g, 0, none⟩) n cap ∧ B ≤ g ∧ g < w.heap.size := by
  rcases h.2 with ⟨h1, h2⟩ | ⟨g, cap, cur, h1, h2, h3⟩
  · omega
  · exact ⟨g, cap, h1, h2, (h.lt g (by rw [h1]; rfl)).2⟩
theorem u8_snoc (xs : List Nat) (y : Nat) : u8s (xs ++ [y]) = u8s xs ++ [.int .u8 (y : Int)] := by simp [u8s]

theorem bytesIn_some {w : World} {a : Option Addr} {bs : List Nat} (h : BytesIn w a bs) (hp : 0 < bs.length) : ∃ b o, a = some ⟨b, o, none⟩ ∧ b < w.heap.size ∧ Bytes w b o bs := by
  rcases h with rfl | h
  · simp at hp
  · exact h

theorem BytesIn.ofOwn {w : World} {B n : Nat} {v : Value} {xs : List Nat} (h : w.ownsRow B 5 1 v n (u8s xs)) : xs.length = n ∧ ∃ a c, v = .slice a n c ∧ BytesIn w a xs := by
  have hn : xs.length = n := by have := h.1; simpa using this
  refine ⟨hn, ?_⟩
  rcases h.2 with ⟨h1, h2⟩ | ⟨g, cap, cur, h1, _⟩
  · subst h2
    exact ⟨none, 0, h1, .inl (List.eq_nil_of_length_eq_zero hn)⟩
  · subst h1
    exact ⟨_, _, rfl, BytesIn.own h⟩

theorem own_slice' {w : World} {B e size n : Nat} {v : Value} {xs : List Value} (h : w.ownsRow B e size v n xs) : ∃ a c, v = .slice a n c := by
  rcases h.2 with ⟨h1, h2⟩ | ⟨g, cap, cur, h1, _⟩
  · subst h2; exact ⟨none, 0, h1⟩
  · exact ⟨_, _, h1⟩
end Go.Proofs.YtfoaaamcpknjnadGreat

/-
  Numbers and their bits: what Go's operators do to them, and what rows of bits say. No program is named here.
-/
namespace Go.Proofs.YtfoaaamcpknjnadGreat
open Go.RowKit
set_option linter.unusedVariables false
set_option linter.unusedSimpArgs false

theorem ofInt_i64 (a : Nat) (ha : a < 4611686018427387904) : (BitVec.ofInt 64 (a : Int)).toNat = a := by
  rw [BitVec.ofInt_natCast, BitVec.toNat_ofNat]; exact Nat.mod_eq_of_lt (by omega)
theorem wrap_i64_nat (a : Nat) (ha : a < 4611686018427387904) : IntKind.i64.wrap (a : Int) = (a : Int) := by
  rw [IntKind.wrap_i64]; omega
theorem i64_and_nat (a b : Nat) (ha : a < 4611686018427387904) (hb : b < 4611686018427387904) : bits .and .i64 (a : Int) (b : Int) = ((a &&& b : Nat) : Int) := by
  have hx : a &&& b < 2 ^ 62 := Nat.and_lt_two_pow _ (by omega)
  show IntKind.i64.wrap ((BitVec.ofInt 64 (a : Int) &&& BitVec.ofInt 64 (b : Int)).toNat : Int) = _
  rw [BitVec.toNat_and, ofInt_i64 a ha, ofInt_i64 b hb]
  exact wrap_i64_nat _ (by omega)
theorem i64_or_nat (a b : Nat) (ha : a < 4611686018427387904) (hb : b < 4611686018427387904) : bits .or .i64 (a : Int) (b : Int) = ((a ||| b : Nat) : Int) := by
  have hx : a ||| b < 2 ^ 62 := Nat.or_lt_two_pow (by omega) (by omega)
  show IntKind.i64.wrap ((BitVec.ofInt 64 (a : Int) ||| BitVec.ofInt 64 (b : Int)).toNat : Int) = _
  rw [BitVec.toNat_or, ofInt_i64 a ha, ofInt_i64 b hb]
  exact wrap_i64_nat _ (by omega)

theorem div_pow_cast (n k : Nat) : (n : Int) / 2 ^ k = ((n / 2 ^ k : Nat) : Int) := by
  push_cast; rfl
theorem i64_bit (n k : Nat) (hn : n < 4611686018427387904) : bits .and .i64 ((n : Int) / 2 ^ k) 1 = ((n / 2 ^ k % 2 : Nat) : Int) := by
  rw [div_pow_cast]
  have h : n / 2 ^ k ≤ n := Nat.div_le_self _ _
  have := i64_and_nat (n / 2 ^ k) 1 (by omega) (by omega)
  rw [Nat.and_one_is_mod] at this
  exact this
theorem u8_bit (n k : Nat) (hn : n < 256) : bits .and .u8 ((n : Int) / 2 ^ k) 1 = ((n / 2 ^ k % 2 : Nat) : Int) := by
  rw [div_pow_cast]
  have h : n / 2 ^ k ≤ n := Nat.div_le_self _ _
  have := u8_and_nat (n / 2 ^ k) 1 (by omega) (by omega)
  rw [Nat.and_one_is_mod] at this
  exact this

theorem pow_le_16 {k : Nat} (h : k ≤ 16) : 2 ^ k ≤ 65536 := Nat.pow_le_pow_right (j := 16) (by decide) h
theorem pow_le_7 {k : Nat} (h : k ≤ 7) : 2 ^ k ≤ 128 := Nat.pow_le_pow_right (j := 7) (by decide) h
theorem bit_mul_le {x p q : Nat} (h : p ≤ q) : x % 2 * p ≤ q := by
  rcases Nat.mod_two_eq_zero_or_one x with e | e <;> rw [e] <;> omega

theorem turn_step (m n k : Nat) (hm : m < 65536) (hn : n < 65536) :
    bits .or .i64 ((m : Int) * 2) (bits .and .i64 ((n : Int) / 2 ^ k) 1) = ((m * 2 ||| n / 2 ^ k % 2 : Nat) : Int) := by
  rw [i64_bit n k (by omega)]
  have := i64_or_nat (m * 2) (n / 2 ^ k % 2) (by omega) (by omega)
  rw [← this]
  push_cast; rfl
theorem take_step (m x r k : Nat) (hm : m < 65536) (hx : x < 256) (hk : k < 16) :
    bits .or .i64 (m : Int) (wrap64 (wrap64 (bits .and .u8 ((x : Int) / 2 ^ r) 1) * 2 ^ k)) = ((m ||| x / 2 ^ r % 2 * 2 ^ k : Nat) : Int) := by
  rw [u8_bit x r hx]
  have h1 : wrap64 ((x / 2 ^ r % 2 : Nat) : Int) = ((x / 2 ^ r % 2 : Nat) : Int) := by unfold wrap64; omega
  have h2 := bit_mul_le (x := x / 2 ^ r) (pow_le_16 (k := k) (by omega))
  have h3 : wrap64 (((x / 2 ^ r % 2 : Nat) : Int) * 2 ^ k) = ((x / 2 ^ r % 2 * 2 ^ k : Nat) : Int) := by
    have e : (((x / 2 ^ r % 2 : Nat) : Int) * 2 ^ k) = ((x / 2 ^ r % 2 * 2 ^ k : Nat) : Int) := by push_cast; rfl
    rw [e]
    unfold wrap64; omega
  rw [h1, h3]
  exact i64_or_nat _ _ (by omega) (by omega)
theorem put_step (x n k r : Nat) (hx : x < 256) (hn : n < 65536) (hr : r < 8) :
    bits .or .u8 (x : Int) (bits .and .i64 ((n : Int) / 2 ^ k) 1 % 256 * 2 ^ r % 256) = ((x ||| n / 2 ^ k % 2 * 2 ^ r : Nat) : Int) := by
  rw [i64_bit n k (by omega)]
  have h2 := bit_mul_le (x := n / 2 ^ k) (pow_le_7 (k := r) (by omega))
  have e : (((n / 2 ^ k % 2 : Nat) : Int) % 256 * 2 ^ r % 256) = ((n / 2 ^ k % 2 * 2 ^ r : Nat) : Int) := by
    have e1 : ((n / 2 ^ k % 2 : Nat) : Int) % 256 = ((n / 2 ^ k % 2 : Nat) : Int) := by omega
    have e2 : (((n / 2 ^ k % 2 : Nat) : Int) * 2 ^ r) = ((n / 2 ^ k % 2 * 2 ^ r : Nat) : Int) := by push_cast; rfl
    rw [e1, e2]
    omega
  rw [e]
  exact u8_or_nat _ _ hx (by omega)

theorem testBit_bit (n k r i : Nat) : (n / 2 ^ k % 2 * 2 ^ r).testBit i = (decide (i = r) && n.testBit k) := by
  rw [Nat.testBit_mul_two_pow]
  have h : ∀ j, (n / 2 ^ k % 2).testBit j = (decide (j = 0) && n.testBit k) := by
    intro j
    have := Nat.testBit_mod_two_pow (n / 2 ^ k) 1 j
    rw [Nat.pow_one] at this
    rw [this, Nat.testBit_div_two_pow]
    by_cases hj : j = 0
    · subst hj; simp
    · simp [hj]
  rw [h]
  by_cases hi : i = r
  · subst hi; simp
  · by_cases hl : r ≤ i
    · have : i - r ≠ 0 := by omega
      simp [hi, this]
    · simp [hi, hl]

/-- the number that has been turned round behind k bits -/
def turnL (n : Nat) : Nat → Nat
  | 0 => 0
  | k + 1 => turnL n k * 2 ||| n / 2 ^ k % 2
theorem turnL_bit (n : Nat) : ∀ k i, (turnL n k).testBit i = (decide (i < k) && n.testBit (k - 1 - i))
  | 0, i => by simp [turnL]
  | k + 1, i => by
    have h1 := testBit_bit n k 0 i
    rw [Nat.pow_zero, Nat.mul_one] at h1
    have h2 := Nat.testBit_mul_two_pow (turnL n k) i 1
    rw [Nat.pow_one] at h2
    rw [turnL, Nat.testBit_or, h1, h2, turnL_bit n k (i - 1)]
    by_cases hi : i = 0
    · subst hi; simp
    · have e : k + 1 - 1 - i = k - 1 - (i - 1) := by omega
      have e2 : (i - 1 < k) = (i < k + 1) := by apply propext; omega
      have e3 : 1 ≤ i := by omega
      rw [e]
      simp only [e2, hi, e3, decide_true, Bool.true_and, decide_false, Bool.false_and, Bool.or_false]
theorem turnL_lt (n k : Nat) : turnL n k < 2 ^ k := by
  apply Nat.lt_pow_two_of_testBit
  intro i hi
  rw [turnL_bit]
  have : ¬ i < k := by omega
  simp [this]
theorem turn_turn (n s : Nat) (h : n < 2 ^ s) : turnL (turnL n s) s = n := by
  apply Nat.eq_of_testBit_eq
  intro i
  rw [turnL_bit, turnL_bit]
  by_cases hi : i < s
  · have h1 : s - 1 - i < s := by omega
    have h2 : s - 1 - (s - 1 - i) = i := by omega
    simp [hi, h1, h2]
  · have : n.testBit i = false := Nat.testBit_lt_two_pow (Nat.lt_of_lt_of_le h (Nat.pow_le_pow_right (by decide) (by omega)))
    simp [hi, this]

/-- bit k of a row of bytes -/
def bitAt (xs : List Nat) (k : Nat) : Bool := (xs.getD (k / 8) 0).testBit (k % 8)

/-- the number of k bits that stands in a row from bit 'p' on -/
def takeL (xs : List Nat) (p : Nat) : Nat → Nat
  | 0 => 0
  | k + 1 => takeL xs p k ||| xs.getD ((p + k) / 8) 0 / 2 ^ ((p + k) % 8) % 2 * 2 ^ k
theorem takeL_bit (xs : List Nat) (p : Nat) : ∀ k i, (takeL xs p k).testBit i = (decide (i < k) && bitAt xs (p + i))
  | 0, i => by simp [takeL]
  | k + 1, i => by
    rw [takeL, Nat.testBit_or, takeL_bit xs p k i, testBit_bit]
    by_cases hi : i = k
    · subst hi; simp [bitAt]
    · have e : (i < k + 1) = (i < k) := by apply propext; omega
      simp [hi, e]
theorem takeL_lt (xs : List Nat) (p k : Nat) : takeL xs p k < 2 ^ k := by
  apply Nat.lt_pow_two_of_testBit
  intro i hi
  rw [takeL_bit]
  have : ¬ i < k := by omega
  simp [this]

/-- a row behind the first k bits of n were laid from bit 'p' on -/
def putL (xs : List Nat) (p n : Nat) : Nat → List Nat
  | 0 => xs
  | k + 1 => (putL xs p n k).set ((p + k) / 8) ((putL xs p n k).getD ((p + k) / 8) 0 ||| n / 2 ^ k % 2 * 2 ^ ((p + k) % 8))
theorem putL_length (xs : List Nat) (p n : Nat) : ∀ k, (putL xs p n k).length = xs.length
  | 0 => rfl
  | k + 1 => by rw [putL, List.length_set, putL_length xs p n k]
theorem getD_set (xs : List Nat) (i j v : Nat) : (xs.set i v).getD j 0 = if i = j ∧ i < xs.length then v else xs.getD j 0 := by
  rw [List.getD_eq_getElem?_getD, List.getElem?_set, List.getD_eq_getElem?_getD]
  by_cases e : i = j
  · subst e
    by_cases h : i < xs.length
    · simp [h]
    · simp [h]
  · simp [e]
theorem putL_lt (xs : List Nat) (p n : Nat) (h : ∀ j, xs.getD j 0 < 256) : ∀ k j, (putL xs p n k).getD j 0 < 256
  | 0, j => h j
  | k + 1, j => by
    rw [putL, getD_set]
    by_cases c : (p + k) / 8 = j ∧ (p + k) / 8 < (putL xs p n k).length
    · rw [if_pos c]
      have h1 := putL_lt xs p n h k ((p + k) / 8)
      have h2 := bit_mul_le (x := n / 2 ^ k) (pow_le_7 (k := (p + k) % 8) (by omega))
      exact Nat.or_lt_two_pow (n := 8) h1 (by omega)
    · rw [if_neg c]
      exact putL_lt xs p n h k j
theorem putL_bit (xs : List Nat) (p n : Nat) : ∀ k i, p + k ≤ 8 * xs.length → bitAt (putL xs p n k) i = (bitAt xs i || (decide (p ≤ i ∧ i < p + k) && n.testBit (i - p)))
  | 0, i, _ => by
    have : decide (p ≤ i ∧ i < p + 0) = false := decide_eq_false (by omega)
    rw [putL, this]; simp
  | k + 1, i, hk => by
    have ih := putL_bit xs p n k i (by omega)
    unfold bitAt at *
    rw [putL, getD_set, putL_length]
    have hlt : (p + k) / 8 < xs.length := by omega
    by_cases c : (p + k) / 8 = i / 8
    · rw [if_pos ⟨c, hlt⟩, Nat.testBit_or, testBit_bit, c, ih]
      by_cases e : i = p + k
      · have e1 : decide (p ≤ i ∧ i < p + k) = false := decide_eq_false (by omega)
        have e2 : decide (p ≤ i ∧ i < p + (k + 1)) = true := decide_eq_true (by omega)
        have e3 : i % 8 = (p + k) % 8 := by rw [e]
        have e4 : i - p = k := by omega
        rw [e1, e2, e3, e4]; simp
      · have e1 : (p ≤ i ∧ i < p + (k + 1)) = (p ≤ i ∧ i < p + k) := by apply propext; omega
        have e2 : ¬ i % 8 = (p + k) % 8 := by omega
        simp [e1, e2]
    · rw [if_neg (fun h => c h.1), ih]
      have e1 : (p ≤ i ∧ i < p + (k + 1)) = (p ≤ i ∧ i < p + k) := by apply propext; omega
      simp [e1]

/-- rows of bytes are one if their bits are -/
theorem bytes_ext {xs ys : List Nat} (hl : xs.length = ys.length) (hx : ∀ j, xs.getD j 0 < 256) (hy : ∀ j, ys.getD j 0 < 256) (h : ∀ k, k < 8 * xs.length → bitAt xs k = bitAt ys k) : xs = ys := by
  apply List.ext_getElem hl
  intro j h1 h2
  have e1 : xs.getD j 0 = xs[j] := by simp [List.getD, h1]
  have e2 : ys.getD j 0 = ys[j] := by simp [List.getD, h2]
  rw [← e1, ← e2]
  apply Nat.eq_of_testBit_eq
  intro i
  by_cases hi : i < 8
  · have := h (8 * j + i) (by omega)
    unfold bitAt at this
    have d1 : (8 * j + i) / 8 = j := by omega
    have d2 : (8 * j + i) % 8 = i := by omega
    rwa [d1, d2] at this
  · have p8 : 2 ^ 8 ≤ 2 ^ i := Nat.pow_le_pow_right (by decide) (by omega)
    rw [Nat.testBit_lt_two_pow (Nat.lt_of_lt_of_le (hx j) p8), Nat.testBit_lt_two_pow (Nat.lt_of_lt_of_le (hy j) p8)]
end Go.Proofs.YtfoaaamcpknjnadGreat
