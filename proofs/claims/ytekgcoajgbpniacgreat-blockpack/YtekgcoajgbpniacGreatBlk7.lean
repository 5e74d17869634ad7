/-
  count; lengthsOf.
-/
import Derived.Test.YtekgcoajgbpniacGreatQ22
import Derived.Laws.CopyRow
namespace Go.Proofs.YtekgcoajgbpniacGreat
open Go.RowKit
set_option linter.unusedVariables false
set_option maxRecDepth 100000

theorem info286 : (Tryz.prog.info? 110).map (·.size) = some 286 := by kernel_rfl
theorem info30 : (Tryz.prog.info? 111).map (·.size) = some 30 := by kernel_rfl
theorem results_cells {fn : Func} {p u : Tmp} {ty tz : TypeId} (h : fn.results = #[.cell p ty, .cell u tz]) (tmps : Array Value) (w : World) (g1 g2 : Nat) (v1 v2 : Value)
    (hp : tmps.getD p undef = .pointer (some ⟨g1, 0, none⟩)) (hu : tmps.getD u undef = .pointer (some ⟨g2, 0, none⟩)) (h1 : (loadVar ty ⟨g1, 0, none⟩).run Tryz.prog w = .ok v1 w) (h2 : (loadVar tz ⟨g2, 0, none⟩).run Tryz.prog w = .ok v2 w) :
    (results fn tmps).run Tryz.prog w = .ok (.tuple #[v1, v2]) w := by
  have hp' : tmps[p]?.getD undef = .pointer (some ⟨g1, 0, none⟩) := by simpa using hp
  have hu' : tmps[u]?.getD undef = .pointer (some ⟨g2, 0, none⟩) := by simpa using hu
  simp [results, h, hp', hu', asAddr, h1, h2]
theorem ARow.range {T : TypeId} {w : World} {g : Nat} {xs : List Int} (h : ARow T w g xs) : w.rangeAt g 0 (iv xs) := fun j v hv => by
  rw [Nat.zero_add]
  exact (heap_row h).trans (by simpa using hv)
theorem iv_all_one (xs : List Int) : (iv xs).toArray.all (·.oneCell') = true := by
  simp [iv]
  intro x hx
  rfl

theorem step_store_same {ops : Array Oper} {o : Oper} {a : Act} {W : World} {K : Act → World → Prop} {Q : Exit → Act → World → Prop} {E : Prop} (hgd : o.guard = none) (T : TypeId) (x y : Operand) (ho : o.op = .store T x y)
    (g : Nat) (xs : List Int) (hx : a.eval x = .pointer (some ⟨g, 0, none⟩)) (hy : a.eval y = .agg (iv xs).toArray) (hA : ARow T W g xs) (hi : (Tryz.prog.info? T).map (·.size) = some (iv xs).toArray.size) (h : K (a.put o.dst undef) W) : if Region.wanted o (yielded ops a.tmps) = true then Oper.wp Tryz.prog o a W K Q else E := by
  have e : Region.wanted o (yielded ops a.tmps) = true := by unfold Region.wanted; rw [hgd]
  rw [if_pos e]
  refine wp_store_row T x y ho g _ hx hy T _ hA hi rfl (iv_all_one xs) ?_
  rw [setRow_self W g _ T (0, 0) hA]
  exact h
theorem ARow.load {T : TypeId} {w : World} {g : Nat} {xs : List Int} (h : ARow T w g xs) {d : TypeDesc} (hu : Tryz.prog.underlying T = some d) (hd : (match d with | .struct _ | .array _ _ => true | _ => false) = true) (hi : (Tryz.prog.info? T).map (·.size) = some (iv xs).toArray.size) : (loadVar T ⟨g, 0, none⟩).run Tryz.prog w = .ok (.agg (iv xs).toArray) w :=
  run_loadVar_row w g T T _ (0, 0) d h hu (by cases d <;> first | rfl | exact hd) hi

set_option maxHeartbeats 2000000 in
theorem count_tok (a : Option Addr) (len cap : Nat) (ts : List Tk) (w : World) (hl : ts.length = len) (hlen : len ≤ 3000) (hV : ∀ t ∈ ts, VT t) (hT : TokIn w a ts) :
    Calls Tryz.prog 51 #[.slice a len cap] w fun e w' => e = .returned (.tuple #[.agg (iv (symC (itsOf ts))).toArray, .agg (iv (farC (itsOf ts))).toArray]) ∧ Below w.heap.size w w' := by
  have hTn : ∀ b o, a = some ⟨b, o, none⟩ → ts ≠ [] → b < w.heap.size := by
    intro b o e hne
    rcases hT with h | ⟨b', o', h1, h2, _⟩
    · exact absurd h hne
    · rw [h1] at e; have := Option.some.inj e; cases this; exact h2
  have HT := hide hT
  have HV := hide hV
  have HL := hide hl
  clear hT hV hl
  go_enter Tryz.func51, Tryz.ntmps51
  go_wp2_with fail
  have hi := itsOf_len ts
  refine (pass_any (KJ w.heap.size w.heap.size (w.heap.size + 1)) (fun g => g < w.heap.size) w.heap.size 68 69 70 #[.pointer (some ⟨w.heap.size, 0, none⟩)] #[.pointer (some ⟨w.heap.size + 1, 0, none⟩)] #[] a len cap ts _ (count_snk w.heap.size w.heap.size (w.heap.size + 1) (itsOf ts) (itsOf_vi (unhide HV)) (by rw [unhide HL] at hi; omega)) (unhide HL) hlen (unhide HV) ((unhide HT).alloc _ |>.alloc _) hTn (by simp; omega) ?_ (fun g hg => by simp at hg; omega)).mono ?_
  · refine ⟨⟨by omega, by omega⟩, by omega, ⟨by omega, by omega⟩, ?_, ?_⟩
    · exact (Below.heap_alloc _ _ _ (by simp)).trans ((heap_alloc_new _ _).trans (by kernel_rfl))
    · have e : w.heap.size + 1 = (w.alloc (.cells (iv (List.replicate 286 0)).toArray 110)).heap.size := by simp
      rw [e]
      exact (heap_alloc_new _ _).trans (by kernel_rfl)
  rintro e w1 ⟨rfl, hJ, hB, hK⟩
  have hs := hJ.s
  have hf := hJ.f
  have hBw : Below w.heap.size w w1 := ((((Below.refl w.heap.size w).alloc (Nat.le_refl _) _).alloc (by simp) _)).trans hB
  have HB := hide hBw
  have hls := symC_len (itsOf ts)
  have hlf := farC_len (itsOf ts)
  clear hJ hB hK hTn hBw hi
  obtain ⟨xs, hxs⟩ : ∃ xs, symC (itsOf ts) = xs := ⟨_, rfl⟩
  obtain ⟨ys, hys⟩ : ∃ ys, farC (itsOf ts) = ys := ⟨_, rfl⟩
  rw [hxs] at hs hls
  rw [hys] at hf hlf
  have HXS := hide hxs
  have HYS := hide hys
  clear hxs hys
  have hi1 : (Tryz.prog.info? 110).map (·.size) = some (iv xs).length := by rw [info286]; simp [hls]
  have hi2 : (Tryz.prog.info? 111).map (·.size) = some (iv ys).length := by rw [info30]; simp [hlf]
  have hi1' : (Tryz.prog.info? 110).map (·.size) = some (iv xs).toArray.size := by rw [info286]; simp [hls]
  have hi2' : (Tryz.prog.info? 111).map (·.size) = some (iv ys).toArray.size := by rw [info30]; simp [hlf]
  have hu1 := Tryz.underlying110
  have hu2 := Tryz.underlying111
  go_wp2
  refine wp_region_held_drew (S := fun w' => ARow 110 w' w.heap.size xs ∧ ARow 111 w' (w.heap.size + 1) ys) (by kernel_rfl) ⟨hs, hf⟩ (fun hHeld => ?_)
  refine wpAnyH_take (i := 0) (oi := { dst := some 9, op := .load 110 (.tmp 2), type := 110, pos := "dynamic.go:71", after := #[], guard := none }) (v := _) rfl (by kernel_rfl) (by kernel_rfl) (by kernel_rfl) (fun _ _ _ h => h) (yieldsIf_load_mid (by rfl) _ _ rfl _ _ rfl _ _ (fun _ h => h.1.range) hu1 rfl hi1) hHeld ?_
  simp only [Act.put, List.setIfInBounds_toArray, List.set_cons_zero, List.set_cons_succ]
  refine wpAnyH_take (i := 1) (oi := { dst := some 10, op := .load 111 (.tmp 3), type := 111, pos := "dynamic.go:71", after := #[], guard := none }) (v := _) rfl (by kernel_rfl) (by kernel_rfl) (by kernel_rfl) (fun _ _ _ h => h) (yieldsIf_load_mid (by rfl) _ _ rfl _ _ rfl _ _ (fun _ h => h.2.range) hu2 rfl hi2) hHeld ?_
  simp only [Act.put, List.setIfInBounds_toArray, List.set_cons_zero, List.set_cons_succ]
  refine wpAnyH_ready (rs := [2]) (by kernel_rfl) (by simp) (AllReadyH.cons rfl (fun K hK => ?_) AllReadyH.nil)
  refine step_store_same rfl 110 (.tmp 2) (.tmp 9) rfl w.heap.size xs rfl rfl hHeld.1 hi1' ?_
  simp only [Act.put]
  refine hK.out _ _ hHeld (fun hHeld1 => ?_)
  clear hK K hHeld
  refine wpAnyH_ready (rs := [3]) (by kernel_rfl) (by simp) (AllReadyH.cons rfl (fun K hK => ?_) AllReadyH.nil)
  refine step_store_same rfl 111 (.tmp 3) (.tmp 10) rfl (w.heap.size + 1) ys rfl rfl hHeld1.2 hi2' ?_
  simp only [Act.put]
  refine hK.out _ _ hHeld1 (fun hHeld2 => ?_)
  clear hK K hHeld1
  refine wpAnyH_done (by kernel_rfl) ?_ _
  go_wp2
  refine bodyPost_ret (v := .tuple #[.agg (iv xs).toArray, .agg (iv ys).toArray]) ?_ rfl ⟨by rw [unhide HXS, unhide HYS], (unhide HB).drew⟩
  exact results_cells rfl _ _ w.heap.size (w.heap.size + 1) _ _ rfl rfl (hHeld2.1.load hu1 rfl hi1') (hHeld2.2.load hu2 rfl hi2')

set_option maxHeartbeats 1000000 in
theorem lengthsOf_any (a : Option Addr) (len cap : Nat) (l : List Int) (m least : Nat) (w : World) (hl : l.length = len) (hR : RowIn .i64 w a l) (hG : GoodW l m) (hle : least ≤ len) (n : Nat) (hn : Hid (trimF (lensD l m) least len = n)) :
    Calls Tryz.prog 52 #[.slice a len cap, .int .i64 (m : Int), .int .i64 (least : Int)] w fun e w' => ∃ g, e = .returned (.slice (some ⟨g, 0, none⟩) n len) ∧ IsLens l m (lensD l m) ∧ w.heap.size ≤ g ∧ g < w'.heap.size ∧ Row .i64 w' g 0 (trimL (lensD l m) least) ∧ Below w.heap.size w w' := by
  have hlen := hG.len
  go_enter Tryz.func52, Tryz.ntmps52
  go_wp2_with fail
  refine (lengths_ok a len cap l m w hl hR hG).mono ?_
  rintro e w1 ⟨g, s, rfl, hI, hs, hW, hB, hg⟩
  have hD := lensD_eq hI
  rw [hD] at hn
  have HI : Hid (IsLens l m (lensD l m)) := hide (by rw [hD]; exact hI)
  have HD := hide hD
  have HW := hide hW
  have HB := hide hB
  have HS := hide hs
  have hrow : ∀ j, j < len → w1.cell? ⟨g, j, none⟩ = some (.int .i64 (s.getD j 0)) := fun j hj => (hW.at_ j (by omega)).1
  have HRW := hide hrow
  have hgl := hW.lt
  have HTR : Hid (Row .i64 w1 g 0 (trimL (lensD l m) least)) := fun j hj => by
    rw [Nat.zero_add, hD, trimL_at]
    refine hrow j ?_
    rw [hD, trimL_length] at hj
    have := trimF_le s least s.length
    omega
  clear hI hD hW hB hs hR hG hrow
  go_wp2
  go_loop [9] (fun v => ∃ k : Nat, k ≤ len ∧ least ≤ k ∧ v = .int .i64 (k : Int) ∧ Hid (trimF s least k = n)) (fun v => (intOf v).toNat)
  case atStart => exact ⟨len, Nat.le_refl _, hle, rfl, hn⟩
  case round =>
    obtain ⟨k, hk, hk2, rfl, ht⟩ := hrel
    by_cases h1 : least < k
    · obtain ⟨q, rfl⟩ : ∃ q, k = q + 1 := ⟨k - 1, by omega⟩
      have c := unhide HRW q (by omega)
      have h1I : (least : Int) < ((q + 1 : Nat) : Int) := by omega
      have i1 : (((q + 1 : Nat) : Int) - 1).toNat = q := by omega
      have i2 : (0 : Int) ≤ ((q + 1 : Nat) : Int) - 1 := by omega
      have i3 : ((q + 1 : Nat) : Int) - 1 < (len : Int) := by omega
      by_cases h0 : s.getD q 0 = 0
      · rw [h0] at c
        have HT : Hid (trimF s least q = n) := hide (by have := unhide ht; rw [trimF, if_pos ⟨h1, h0⟩] at this; exact this)
        clear h0 ht
        go_wp2
        go_round
        case rel => exact ⟨q, by omega, by omega, by go_num, HT⟩
        case measure => simp [intOf]
      · have HT : Hid (q + 1 = n) := hide (by have := unhide ht; rw [trimF, if_neg (fun h => h0 h.2)] at this; exact this)
        have hb : (s.getD q 0 == 0) = false := by rw [beq_eq_false_iff_ne]; exact h0
        generalize s.getD q 0 = x at c hb
        clear h0 ht
        go_wp2
        go_ret
        exact ⟨g, by rw [← unhide HT]; rfl, unhide HI, hg, hgl, unhide HTR, unhide HB⟩
    · have HT : Hid (k = n) := hide (by
        have := unhide ht
        cases k with
        | zero => rw [trimF] at this; exact this
        | succ k => rw [trimF, if_neg (fun h => h1 h.1)] at this; exact this)
      have h1I : ¬ (least : Int) < (k : Int) := by omega
      clear ht
      go_wp2
      go_ret
      exact ⟨g, by rw [← unhide HT]; rfl, unhide HI, hg, hgl, unhide HTR, unhide HB⟩
end Go.Proofs.YtekgcoajgbpniacGreat
