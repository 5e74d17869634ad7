/-
  A reader in memory; what code.newReader makes.
-/
import Derived.Test.YtmafecagcglaoaaCode7
import Derived.Deep.RegionHeld3
namespace Go.Proofs.Ytmafecagcglaoaa
open Go.RowKit
set_option linter.unusedVariables false

/-- a reader's cells: how many, first codes, where they begin, the places' order, the row, where it is -/
def rdr (c f g : Nat → Nat) (ov rv : Value) (p : Nat) : Array Value := ((List.range 51).map fun i => if i < 16 then Value.int .i64 ((c i : Nat) : Int) else if i < 32 then .int .i64 ((f (i - 16) : Nat) : Int) else if i < 48 then .int .i64 ((g (i - 32) : Nat) : Int) else if i = 48 then ov else if i = 49 then rv else .int .i64 ((p : Nat) : Int)).toArray
def Rdr (w : World) (b : Nat) (c f g : Nat → Nat) (ov rv : Value) (p : Nat) : Prop := w.heap[b]? = some (.cells (rdr c f g ov rv p) 107 (0, 0))

theorem rdr_at (c f g : Nat → Nat) (ov rv : Value) (p : Nat) {i : Nat} (h : i < 51) : (rdr c f g ov rv p)[i]? = some (if i < 16 then Value.int .i64 ((c i : Nat) : Int) else if i < 32 then .int .i64 ((f (i - 16) : Nat) : Int) else if i < 48 then .int .i64 ((g (i - 32) : Nat) : Int) else if i = 48 then ov else if i = 49 then rv else .int .i64 ((p : Nat) : Int)) := by
  simp [rdr, h]
theorem rdr_size (c f g : Nat → Nat) (ov rv : Value) (p : Nat) : (rdr c f g ov rv p).size = 51 := by simp [rdr]

theorem Rdr.lt {w : World} {b p : Nat} {c f g : Nat → Nat} {ov rv : Value} (h : Rdr w b c f g ov rv p) : b < w.heap.size := by
  by_cases e : b < w.heap.size
  · exact e
  · have : w.heap[b]? = none := by simp; omega
    rw [Rdr, this] at h; cases h
theorem Rdr.cell {w : World} {b p : Nat} {c f g : Nat → Nat} {ov rv : Value} (h : Rdr w b c f g ov rv p) {i : Nat} (hi : i < 51) : w.cell? ⟨b, i, none⟩ = some (if i < 16 then Value.int .i64 ((c i : Nat) : Int) else if i < 32 then .int .i64 ((f (i - 16) : Nat) : Int) else if i < 48 then .int .i64 ((g (i - 32) : Nat) : Int) else if i = 48 then ov else if i = 49 then rv else .int .i64 ((p : Nat) : Int)) := by
  rw [cell_of_row w b i _ _ _ h]; exact rdr_at c f g ov rv p hi
theorem Rdr.count {w : World} {b p : Nat} {c f g : Nat → Nat} {ov rv : Value} (h : Rdr w b c f g ov rv p) {i : Nat} (hi : i < 16) : w.cell? ⟨b, i, none⟩ = some (.int .i64 ((c i : Nat) : Int)) := by
  rw [h.cell (by omega), if_pos hi]
theorem Rdr.first {w : World} {b p : Nat} {c f g : Nat → Nat} {ov rv : Value} (h : Rdr w b c f g ov rv p) {i : Nat} (hi : i < 16) : w.cell? ⟨b, 16 + i, none⟩ = some (.int .i64 ((f i : Nat) : Int)) := by
  rw [h.cell (by omega), if_neg (by omega), if_pos (by omega), show 16 + i - 16 = i by omega]
theorem Rdr.begin {w : World} {b p : Nat} {c f g : Nat → Nat} {ov rv : Value} (h : Rdr w b c f g ov rv p) {i : Nat} (hi : i < 16) : w.cell? ⟨b, 32 + i, none⟩ = some (.int .i64 ((g i : Nat) : Int)) := by
  rw [h.cell (by omega), if_neg (by omega), if_neg (by omega), if_pos (by omega), show 32 + i - 32 = i by omega]
theorem Rdr.order {w : World} {b p : Nat} {c f g : Nat → Nat} {ov rv : Value} (h : Rdr w b c f g ov rv p) : w.cell? ⟨b, 48, none⟩ = some ov := h.cell (by omega)
theorem Rdr.row {w : World} {b p : Nat} {c f g : Nat → Nat} {ov rv : Value} (h : Rdr w b c f g ov rv p) : w.cell? ⟨b, 49, none⟩ = some rv := h.cell (by omega)
theorem Rdr.at {w : World} {b p : Nat} {c f g : Nat → Nat} {ov rv : Value} (h : Rdr w b c f g ov rv p) : w.cell? ⟨b, 50, none⟩ = some (.int .i64 ((p : Nat) : Int)) := h.cell (by omega)
theorem Rdr.frozen {w : World} {b p : Nat} {c f g : Nat → Nat} {ov rv : Value} (h : Rdr w b c f g ov rv p) (j : Nat) : w.frozen? ⟨b, j, none⟩ = false := frozen_of_row w b j _ _ h
theorem Rdr.drewN {w : World} {b p : Nat} {c f g : Nat → Nat} {ov rv : Value} (h : Rdr w b c f g ov rv p) (n : Nat) : Rdr (w.drewN n) b c f g ov rv p := h
theorem Rdr.below {w w' : World} {B b p : Nat} {c f g : Nat → Nat} {ov rv : Value} (h : Rdr w b c f g ov rv p) (hB : Below B w w') (hb : b < B) : Rdr w' b c f g ov rv p := (hB.block b hb).trans h
theorem Rdr.new (w : World) (c f g : Nat → Nat) (ov rv : Value) (p : Nat) {b : Nat} (hb : b = w.heap.size) : Rdr (w.alloc (.cells (rdr c f g ov rv p) 107)) b c f g ov rv p := by rw [hb]; exact heap_alloc_new w _

theorem rdr_set (c f g : Nat → Nat) (ov rv : Value) (p : Nat) (c' f' g' : Nat → Nat) (ov' rv' : Value) (p' j : Nat) (v : Value) (h : ∀ i, i < 51 → (rdr c' f' g' ov' rv' p')[i]? = if j = i then some v else (rdr c f g ov rv p)[i]?) :
    (rdr c f g ov rv p).setIfInBounds j v = rdr c' f' g' ov' rv' p' := by
  apply Array.ext_getElem?
  intro i
  rw [Array.getElem?_setIfInBounds]
  by_cases hi : i < 51
  · rw [h i hi, rdr_size]
    by_cases e : j = i
    · subst e; simp [hi]
    · simp [e]
  · have h1 : (rdr c f g ov rv p)[i]? = none := by simp [rdr_size]; omega
    have h2 : (rdr c' f' g' ov' rv' p')[i]? = none := by simp [rdr_size]; omega
    rw [h1, h2, rdr_size]
    by_cases e : j = i
    · subst e; simp [hi]
    · simp [e]
theorem Rdr.setAt {w : World} {b p : Nat} {c f g : Nat → Nat} {ov rv : Value} (h : Rdr w b c f g ov rv p) (q : Nat) : Rdr (w.setCell ⟨b, 50, none⟩ (.int .i64 ((q : Nat) : Int))) b c f g ov rv q := by
  unfold Rdr; rw [heap_setCell_same w b 50 _ _ _ h, rdr_set c f g ov rv p c f g ov rv q]
  intro i hi
  rw [rdr_at _ _ _ _ _ _ hi, rdr_at _ _ _ _ _ _ hi]
  by_cases e : 50 = i
  · subst e; simp
  · simp only [if_neg e]
    by_cases h1 : i < 16
    · simp [h1]
    · by_cases h2 : i < 32
      · simp [h1, h2]
      · by_cases h3 : i < 48
        · simp [h1, h2, h3]
        · by_cases h4 : i = 48
          · simp [h4]
          · have h5 : i = 49 := by omega
            simp [h5]
theorem Rdr.setOrder {w : World} {b p : Nat} {c f g : Nat → Nat} {ov rv : Value} (h : Rdr w b c f g ov rv p) (v : Value) : Rdr (w.setCell ⟨b, 48, none⟩ v) b c f g v rv p := by
  unfold Rdr; rw [heap_setCell_same w b 48 _ _ _ h, rdr_set c f g ov rv p c f g v rv p]
  intro i hi
  rw [rdr_at _ _ _ _ _ _ hi, rdr_at _ _ _ _ _ _ hi]
  by_cases e : 48 = i
  · subst e; simp
  · simp only [if_neg e]
    have e' : ¬ i = 48 := fun h => e h.symm
    simp [e']
theorem Rdr.setBegin {w : World} {b p : Nat} {c f g : Nat → Nat} {ov rv : Value} (h : Rdr w b c f g ov rv p) {j : Nat} (hj : j < 16) (x : Nat) : Rdr (w.setCell ⟨b, 32 + j, none⟩ (.int .i64 ((x : Nat) : Int))) b c f (upd g j x) ov rv p := by
  unfold Rdr; rw [heap_setCell_same w b (32 + j) _ _ _ h, rdr_set c f g ov rv p c f (upd g j x) ov rv p]
  intro i hi
  rw [rdr_at _ _ _ _ _ _ hi, rdr_at _ _ _ _ _ _ hi]
  by_cases e : 32 + j = i
  · subst e
    have h1 : ¬ 32 + j < 16 := by omega
    have h2 : ¬ 32 + j < 32 := by omega
    have h3 : 32 + j < 48 := by omega
    simp [h1, h2, h3, upd]
  · simp only [if_neg e]
    by_cases h2 : i < 32
    · simp [h2]
    · by_cases h3 : i < 48
      · have h4 : ¬ i - 32 = j := by omega
        simp [h2, h3, upd, h4]
      · simp [h2, h3]

/-- the places of the lengths up to k, one length behind the other -/
def ordN (l : List Int) : Nat → List Nat
  | 0 => []
  | k + 1 => ordN l k ++ plcK l (k + 1) l.length
/-- where each length begins -/
def begP (l : List Int) (k : Nat) : Nat → Nat := fun n => if 1 ≤ n ∧ n ≤ k then (ordN l (n - 1)).length else 0
theorem begP_zero (l : List Int) : begP l 0 = fun _ => 0 := by funext n; simp [begP]; omega
theorem begP_next (l : List Int) (k : Nat) : upd (begP l k) (k + 1) (ordN l k).length = begP l (k + 1) := by
  funext n
  simp only [upd, begP]
  by_cases e : n = k + 1
  · subst e; simp
  · by_cases h : 1 ≤ n ∧ n ≤ k
    · have : 1 ≤ n ∧ n ≤ k + 1 := by omega
      simp [e, h, this]
    · have : ¬ (1 ≤ n ∧ n ≤ k + 1) := by omega
      simp [e, h, this]
theorem ordN_le (l : List Int) (hl : l.length ≤ 288) : ∀ {k : Nat}, k ≤ 15 → (ordN l k).length ≤ 288 * k
  | 0, _ => by simp [ordN]
  | k + 1, h => by
    have h1 := ordN_le l hl (k := k) (by omega)
    have h2 := plcK_length l (k + 1) l.length (Nat.le_refl _)
    have h3 := cnt_le (l.take l.length) (k + 1)
    rw [List.take_length] at h2 h3
    rw [ordN, List.length_append]
    omega
theorem own_slice {w : World} {B e size n : Nat} {v : Value} {xs : List Value} (h : w.ownsRow B e size v n xs) : ∃ a c, v = .slice a n c := by
  rcases h.2 with ⟨h1, h2⟩ | ⟨g, cap, cur, h1, _⟩
  · subst h2; exact ⟨none, 0, h1⟩
  · exact ⟨_, _, h1⟩

theorem own_far {w : World} {B e size n : Nat} {v : Value} {xs : List Value} (h : w.ownsRow B e size v n xs) {b : Nat} (hb : b < B) : v.ownBlock ≠ some b := by
  intro e
  have := (h.lt b e).1
  omega

theorem built_rdr (c f : Nat → Nat) (a : Option Addr) (n k : Nat) : Try.prog.built 107 [(0, .agg (arr c)), (1, .agg (arr f)), (4, .slice a n k)] = some (rdr c f (fun _ => 0) (.slice none 0 0) (.slice a n k) 0) := by
  kernel_rfl

theorem step_build_rdr {ops : Array Oper} {o : Oper} {a : Act} {W : World} {K : Act → World → Prop} {Q : Exit → Act → World → Prop} {E : Prop} (hgd : o.guard = none) (x y z : Operand) (ho : o.op = .build 107 #[(0, x), (1, y), (4, z)])
    (c f : Nat → Nat) (ad : Option Addr) (n k : Nat) (C : Array Value) (hC : C = arr c) (hx : a.eval x = .agg C) (hy : a.eval y = .agg (arr f)) (hz : a.eval z = .slice ad n k) (h : K (a.put o.dst (.agg (rdr c f (fun _ => 0) (.slice none 0 0) (.slice ad n k) 0))) W) : if Region.wanted o (yielded ops a.tmps) = true then Oper.wp Try.prog o a W K Q else E := by
  subst hC
  have e : Region.wanted o (yielded ops a.tmps) = true := by unfold Region.wanted; rw [hgd]
  rw [if_pos e]
  have hb : Try.prog.built 107 ((#[(0, x), (1, y), (4, z)] : Array (Nat × Operand)).map fun (i, x) => (i, a.eval x)).toList = some (rdr c f (fun _ => 0) (.slice none 0 0) (.slice ad n k) 0) := by
    simp only [List.map_toArray, List.map_cons, List.map_nil, hx, hy, hz]
    exact built_rdr c f ad n k
  refine wp_build 107 _ ho (by rw [hb]; rfl) ?_
  rw [hb]
  exact h

set_option maxHeartbeats 2000000 in
set_option maxRecDepth 100000 in
theorem newReader_any (a : Option Addr) (len cap : Nat) (l : List Int) (ad : Option Addr) (n2 c2 : Nat) (w : World) (hl : l.length = len) (hR : RowIn .i64 w a l) (hG : Good l) :
    Calls Try.prog 51 #[.slice a len cap, .agg (arr (cnt l)), .slice ad n2 c2] w fun e w' => ∃ br ov, e = .returned (.pointer (some ⟨br, 0, none⟩)) ∧ w.heap.size ≤ br ∧ Rdr w' br (cnt l) (firstN (cnt l)) (begP l 15) ov (.slice ad n2 c2) 0 ∧ w'.ownsRow (br + 1) 3 1 ov (ordN l 15).length (i64s (ordN l 15)) ∧ Below w.heap.size w w' := by
  have hlen := hG.len
  have HCL : Hid (∀ n, cnt l n ≤ 288) := fun n => Nat.le_trans (cnt_le l n) hG.len
  obtain ⟨cl, hcl⟩ : ∃ cl : List Value, cl.toArray = arr (cnt l) := ⟨_, rfl⟩
  have F : Hid (∀ W, Calls Try.prog 41 #[.agg cl.toArray] W fun e w' => e = .returned (.agg (arr (firstN (cnt l)))) ∧ Below W.heap.size W w') := fun W => by rw [hcl]; exact firstCodes_any (cnt l) W (unhide HCL)
  have hlen16 : cl.length = 16 := by have := congrArg Array.size hcl; rw [arr_size] at this; simpa using this
  have hu := Try.underlying73
  have hi : (Try.prog.info? 73).map (·.size) = some cl.length := by rw [hlen16]; exact info_arr
  have hA : (w.alloc (.cells cl.toArray 73)).rangeAt w.heap.size 0 cl := fun j v hv => by
    rw [World.cell?_alloc_at _ _ _ _ rfl]; simpa using hv
  have HCl := hide hcl
  go_enter Try.func51, Try.ntmps51
  rw [← hcl]
  clear hcl
  go_wp2
  refine wp_region_held_drew (S := fun w' => w'.rangeAt w.heap.size 0 cl) (by kernel_rfl) (by rw [World.rangeAt_drew]; exact hA) (fun hHeld => ?_)
  refine wpAnyH_take (i := 0) (oi := { dst := some 9, op := .load 73 (.tmp 4), type := 73, pos := "code.go:142", after := #[], guard := none }) (v := _) rfl (by kernel_rfl) (by kernel_rfl) (by kernel_rfl) (fun _ _ _ h => h) (yieldsIf_load_mid (by rfl) _ _ rfl _ _ rfl _ _ (fun _ h => h) hu rfl hi) hHeld ?_
  simp only [Act.put, List.setIfInBounds_toArray, List.set_cons_zero, List.set_cons_succ]
  refine wpAnyH_take (i := 1) (oi := { dst := some 10, op := .load 73 (.tmp 4), type := 73, pos := "code.go:142", after := #[], guard := none }) (v := _) rfl (by kernel_rfl) (by kernel_rfl) (by kernel_rfl) (fun _ _ _ h => h) (yieldsIf_load_mid (by rfl) _ _ rfl _ _ rfl _ _ (fun _ h => h) hu rfl hi) hHeld ?_
  simp only [Act.put, List.setIfInBounds_toArray, List.set_cons_zero, List.set_cons_succ]
  refine wpAnyH_take (i := 3) (oi := { dst := some 12, op := .move (.tmp 2), type := 28, pos := "code.go:142", after := #[], guard := none }) (v := .slice ad n2 c2) rfl (by kernel_rfl) (by kernel_rfl) (by kernel_rfl) (fun _ _ _ h => h) (Or.inl ⟨by rfl, fun w _ => by go_simp⟩) hHeld ?_
  simp only [Act.put, List.setIfInBounds_toArray, List.set_cons_zero, List.set_cons_succ]
  refine wpAnyH_ready (rs := [2]) (by kernel_rfl) (by simp) (AllReadyH.cons rfl (fun K hK => ?_) AllReadyH.nil)
  go_simp
  refine (unhide F _).mono ?_
  rintro e w1 ⟨rfl, hB1⟩
  have hA1 : w1.rangeAt w.heap.size 0 cl := fun j v hv => (hB1.cell (p := ⟨w.heap.size, 0 + j, none⟩) (by simp)).trans (hHeld j v hv)
  have hz1 := hB1.size
  have HB1 := hide hB1
  clear hB1
  dsimp only
  refine hK.out _ _ hA1 (fun hHeld1 => ?_)
  clear hK K hHeld
  refine wpAnyH_ready (rs := [4]) (by kernel_rfl) (by simp) (AllReadyH.cons (o := { dst := some 13, op := .build 107 #[(0, .tmp 9), (1, .tmp 11), (4, .tmp 12)], type := 107, pos := "code.go:142", after := #[{ on := 0, ground := .data }, { on := 2, ground := .data }, { on := 3, ground := .data }], guard := none }) rfl (fun K hK => ?_) AllReadyH.nil)
  refine step_build_rdr rfl (.tmp 9) (.tmp 11) (.tmp 12) rfl (cnt l) (firstN (cnt l)) ad n2 c2 _ (unhide HCl) rfl rfl rfl ?_
  simp only [Act.put, List.setIfInBounds_toArray, List.set_cons_zero, List.set_cons_succ]
  refine hK.out _ _ hA1 (fun hHeld2 => ?_)
  clear hK K hHeld1
  refine wpAnyH_ready (rs := [5]) (by kernel_rfl) (by simp) (AllReadyH.cons rfl (fun K hK => ?_) AllReadyH.nil)
  go_simp
  refine hK.out _ _ (World.rangeAt_alloc hA1 _) (fun hHeld3 => ?_)
  clear hK K hHeld2
  refine wpAnyH_ready (rs := [6]) (by kernel_rfl) (by simp) (AllReadyH.cons rfl (fun K hK => ?_) AllReadyH.nil)
  go_simp
  refine hK.out _ _ hHeld3 (fun hHeld4 => ?_)
  clear hK K hHeld3
  refine wpAnyH_done (by kernel_rfl) ?_ _
  clear hHeld4
  go_wp2
  have hz : w.heap.size ≤ w1.heap.size := by simp only [World.size_drew, World.size_alloc] at hz1; omega
  have HBw : Hid (Below w.heap.size w (w1.alloc (.cells (rdr (cnt l) (firstN (cnt l)) (fun _ => 0) (.slice none 0 0) (.slice ad n2 c2) 0) 107))) := by
    refine Below.alloc ?_ hz _
    exact (((Below.refl w.heap.size w).alloc (Nat.le_refl _) (.cells cl.toArray 73)).drew).trans ((unhide HB1).mono (by simp))
  have HRd := hide (Rdr.new w1 (cnt l) (firstN (cnt l)) (fun _ => 0) (.slice none 0 0) (.slice ad n2 c2) 0 rfl)
  have hB0 : w1.heap.size + 1 ≤ (w1.alloc (.cells (rdr (cnt l) (firstN (cnt l)) (fun _ => 0) (.slice none 0 0) (.slice ad n2 c2) 0) 107)).heap.size := by simp
  have HO0 := hide (World.ownsRow_nil (w1.alloc (.cells (rdr (cnt l) (firstN (cnt l)) (fun _ => 0) (.slice none 0 0) (.slice ad n2 c2) 0) 107)) (w1.heap.size + 1) 3 1)
  clear hA hA1 HB1 F hu hi hlen16 hz1
  generalize w1.heap.size = br at *
  go_loopw [8] (fun i wr => ∃ (k : Nat) (ov : Value), k ≤ 15 ∧ i = .int .i64 ((k : Int) + 1) ∧ Rdr wr br (cnt l) (firstN (cnt l)) (begP l k) ov (.slice ad n2 c2) 0 ∧ wr.ownsRow (br + 1) 3 1 ov (ordN l k).length (i64s (ordN l k)) ∧ Below w.heap.size w wr ∧ br + 1 ≤ wr.heap.size) (fun i _ => 16 - (intOf i).toNat)
  case atStart => exact ⟨0, _, by omega, rfl, by rw [begP_zero]; exact unhide HRd, unhide HO0, unhide HBw, hB0⟩
  case round =>
    obtain ⟨k, ov, hk, rfl, hD, hO, hB, hsz⟩ := hrel
    have HD := hide hD
    have HO := hide hO
    have HB := hide hB
    obtain ⟨oa, oc, rfl⟩ := own_slice hO
    by_cases hlt : k < 15
    · have c1 := hD.order
      have cb := hD.begin (i := k + 1) (by omega)
      have f2 := hD.frozen (32 + (k + 1))
      have f3 := hD.frozen 48
      have hol := ordN_le l hlen (k := k) (by omega)
      clear hD hO hB HRd HO0 HBw
      go_wp2
      go_region
      have hD2 : Rdr (wr.setCell ⟨br, 32 + (k + 1), none⟩ (.int .i64 (((ordN l k).length : Nat) : Int))).drew br (cnt l) (firstN (cnt l)) (begP l (k + 1)) (.slice oa (ordN l k).length oc) (.slice ad n2 c2) 0 := by
        rw [← begP_next]; exact (unhide HD).setBegin (by omega) _
      have HO2 := hide (own_drew ((unhide HO).kept (grown_setCell wr br (32 + (k + 1)) (.int .i64 (((ordN l k).length : Nat) : Int))) (.inr (own_far (unhide HO) (by omega)))))
      have HB2 := hide (((unhide HB).setCell (p := ⟨br, 32 + (k + 1), none⟩) hz (.int .i64 (((ordN l k).length : Nat) : Int))).drew)
      have hsz2 : br + 1 ≤ (wr.setCell ⟨br, 32 + (k + 1), none⟩ (.int .i64 (((ordN l k).length : Nat) : Int))).drew.heap.size := by simp; omega
      have c3 := hD2.order
      have HD2 := hide hD2
      clear hD2 c1 cb f2 f3 HD HO HB
      generalize (wr.setCell ⟨br, 32 + (k + 1), none⟩ (.int .i64 (((ordN l k).length : Nat) : Int))).drew = w2 at *
      go_wp2_with fail
      refine (places_any (br + 1) _ _ (ordN l k) a len cap l (k + 1) w2 hl (by omega) (by omega) hsz2 (unhide HO2) ((RowBelow.of hR).below (unhide HB2) (by omega))).mono ?_
      rintro e w3 ⟨v', rfl, hO3, hB3⟩
      have hD3 := (unhide HD2).below hB3 (by omega)
      have c4 := hD3.order
      have f4 := hD3.frozen 48
      have HD3 := hide (hD3.setOrder v')
      have HO3 := hide (hO3.kept (grown_setCell w3 br 48 v') (.inr (own_far hO3 (by omega))))
      have HB3 := hide (((unhide HB2).trans (hB3.mono (by omega))).setCell (p := ⟨br, 48, none⟩) hz v')
      have hsz3 : br + 1 ≤ (w3.setCell ⟨br, 48, none⟩ v').heap.size := by have := hB3.size; simp; omega
      obtain ⟨oa3, oc3, rfl⟩ := own_slice hO3
      have HN : Hid (ordN l (k + 1) = ordN l k ++ plcK l (k + 1) len) := by rw [← hl]; rfl
      clear hD3 hO3 hB3 HD2 HO2 HB2 c3
      go_wp2
      go_roundw
      case rel => exact ⟨k + 1, _, by omega, by go_num, unhide HD3, by rw [unhide HN, List.length_append]; exact unhide HO3, unhide HB3, hsz3⟩
      case measure => simp [intOf]; omega
    · obtain rfl : k = 15 := by omega
      clear hD hO hB HRd HO0 HBw
      go_wp2
      go_ret
      exact ⟨br, .slice oa _ oc, rfl, (by omega), unhide HD, unhide HO, unhide HB⟩
end Go.Proofs.Ytmafecagcglaoaa
