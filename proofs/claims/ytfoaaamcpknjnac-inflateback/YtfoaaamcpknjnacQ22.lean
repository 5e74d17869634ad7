/-
  Arrays of numbers.
-/
import Derived.Test.YtfoaaamcpknjnacQ4
import Derived.Test.YtfoaaamcpknjnacQ20
import Derived.Laws.Tables
import Derived.Laws.Rows
import Derived.Laws.ResultCell
import Derived.Laws.CopyRow
import Derived.Deep.RegionHeld3
import Derived.Deep.WholeRow
import Derived.Deep.DeepCutAuto
import Derived.Test.YtfoaaamcpknjnacQ2
import Derived.Test.YtfoaaamcpknjnacQ19
import Derived.Test.YtfoaaamcpknjnacQ5
namespace Go.Proofs.Ytfoaaamcpknjnac
open Go.RowKit
set_option linter.unusedVariables false
set_option maxRecDepth 100000

/-- block g holds the numbers xs -/
def ARow (T : TypeId) (w : World) (g : Nat) (xs : List Int) : Prop := w.heap[g]? = some (.cells (iv xs).toArray T (0, 0))
theorem ARow.lt {T : TypeId} {w : World} {g : Nat} {xs : List Int} (h : ARow T w g xs) : g < w.heap.size := (Array.getElem?_eq_some_iff.1 h).1
theorem iv_at (xs : List Int) (j : Nat) (hj : j < xs.length) : (iv xs).toArray[j]? = some (.int .i64 (xs.getD j 0)) := by simp [iv, List.getD, hj]
theorem ARow.cell {T : TypeId} {w : World} {g : Nat} {xs : List Int} (h : ARow T w g xs) (j : Nat) (hj : j < xs.length) : w.cell? ⟨g, j, none⟩ = some (.int .i64 (xs.getD j 0)) := (heap_row h).trans (iv_at xs j hj)
theorem ARow.frozen {T : TypeId} {w : World} {g : Nat} {xs : List Int} (h : ARow T w g xs) (j : Nat) : w.frozen? ⟨g, j, none⟩ = false := frozen_of_row w g j _ _ h
theorem ARow.row {T : TypeId} {w : World} {g : Nat} {xs : List Int} (h : ARow T w g xs) : Row .i64 w g 0 xs := fun j hj => by rw [Nat.zero_add]; exact h.cell j hj
theorem ARow.keep {T : TypeId} {w w' : World} {g : Nat} {xs : List Int} (h : ARow T w g xs) (hk : w'.heap[g]? = w.heap[g]?) : ARow T w' g xs := hk.trans h
theorem ARow.set {T : TypeId} {w : World} {g : Nat} {xs : List Int} (h : ARow T w g xs) (i : Nat) (v : Int) : ARow T (w.setCell ⟨g, i, none⟩ (.int .i64 v)) g (xs.set i v) := by
  unfold ARow
  rw [heap_setCell_same w g i _ _ _ h]
  simp [iv, List.map_set]
theorem ARow.new (T : TypeId) (w : World) (xs : List Int) (A : Array Value) (hA : A = (iv xs).toArray) : ARow T (w.alloc (.cells A T)) w.heap.size xs := by
  subst hA; exact heap_alloc_new w _
theorem results_cells {fn : Func} {p u : Tmp} {ty tz : TypeId} (h : fn.results = #[.cell p ty, .cell u tz]) (tmps : Array Value) (w : World) (g1 g2 : Nat) (v1 v2 : Value)
    (hp : tmps.getD p undef = .pointer (some ⟨g1, 0, none⟩)) (hu : tmps.getD u undef = .pointer (some ⟨g2, 0, none⟩)) (h1 : (loadVar ty ⟨g1, 0, none⟩).run Try.prog w = .ok v1 w) (h2 : (loadVar tz ⟨g2, 0, none⟩).run Try.prog w = .ok v2 w) :
    (results fn tmps).run Try.prog w = .ok (.tuple #[v1, v2]) w := by
  have hp' : tmps[p]?.getD undef = .pointer (some ⟨g1, 0, none⟩) := by simpa using hp
  have hu' : tmps[u]?.getD undef = .pointer (some ⟨g2, 0, none⟩) := by simpa using hu
  simp [results, h, hp', hu', asAddr, h1, h2]
theorem ARow.range {T : TypeId} {w : World} {g : Nat} {xs : List Int} (h : ARow T w g xs) : w.rangeAt g 0 (iv xs) := fun j v hv => by
  rw [Nat.zero_add]
  exact (heap_row h).trans (by simpa using hv)
theorem iv_all_one (xs : List Int) : (iv xs).toArray.all (·.oneCell') = true := by
  simp [iv]
  intro x hx
  rfl

theorem step_store_same {ops : Array Oper} {o : Oper} {a : Act} {W : World} {K : Act → World → Prop} {Q : Exit → Act → World → Prop} {E : Prop} (hgd : o.guard = none) (T : TypeId) (x y : Operand) (ho : o.op = .store T x y)
    (g : Nat) (xs : List Int) (hx : a.eval x = .pointer (some ⟨g, 0, none⟩)) (hy : a.eval y = .agg (iv xs).toArray) (hA : ARow T W g xs) (hi : (Try.prog.info? T).map (·.size) = some (iv xs).toArray.size) (h : K (a.put o.dst undef) W) : if Region.wanted o (yielded ops a.tmps) = true then Oper.wp Try.prog o a W K Q else E := by
  have e : Region.wanted o (yielded ops a.tmps) = true := by unfold Region.wanted; rw [hgd]
  rw [if_pos e]
  refine wp_store_row T x y ho g _ hx hy T _ hA hi rfl (iv_all_one xs) ?_
  rw [setRow_self W g _ T (0, 0) hA]
  exact h
theorem ARow.load {T : TypeId} {w : World} {g : Nat} {xs : List Int} (h : ARow T w g xs) {d : TypeDesc} (hu : Try.prog.underlying T = some d) (hd : (match d with | .struct _ | .array _ _ => true | _ => false) = true) (hi : (Try.prog.info? T).map (·.size) = some (iv xs).toArray.size) : (loadVar T ⟨g, 0, none⟩).run Try.prog w = .ok (.agg (iv xs).toArray) w :=
  run_loadVar_row w g T T _ (0, 0) d h hu (by cases d <;> first | rfl | exact hd) hi
end Go.Proofs.Ytfoaaamcpknjnac

/-
  Package layout: Order, FixedLengths.
-/
namespace Go.Proofs.Ytfoaaamcpknjnac
open Go.RowKit
set_option linter.unusedVariables false
set_option maxRecDepth 100000

theorem part_set (l : List Int) (k : Nat) (hk : k < l.length) : (l.take k ++ List.replicate (l.length - k) 0).set k (l.getD k 0) = l.take (k + 1) ++ List.replicate (l.length - (k + 1)) 0 := by
  have h1 : (l.take k).length = k := by simp; omega
  rw [List.set_append_right _ _ (by omega), h1, Nat.sub_self]
  obtain ⟨q, hq⟩ : ∃ q, l.length - k = q + 1 := ⟨l.length - k - 1, by omega⟩
  have e : l.take (k + 1) = l.take k ++ [l.getD k 0] := by rw [List.take_add_one]; simp [List.getD, hk]
  rw [hq, List.replicate_succ, List.set_cons_zero, e, show l.length - (k + 1) = q by omega]
  simp
theorem fixA_at : (List.range 288).all (fun k => fixA.getD k 0 == (if k < 144 then 8 else if k < 256 then 9 else if k < 280 then 7 else 8)) = true := by decide +kernel
theorem fixA_is {k : Nat} (h : k < 288) : fixA.getD k 0 = if k < 144 then 8 else if k < 256 then 9 else if k < 280 then 7 else 8 := by
  have := List.all_eq_true.1 fixA_at k (by simpa using h)
  simpa using this
theorem fixB_at : (List.range 32).all (fun k => fixB.getD k 0 == 5) = true := by decide +kernel
theorem fixB_is {k : Nat} (h : k < 32) : fixB.getD k 0 = 5 := by
  have := List.all_eq_true.1 fixB_at k (by simpa using h)
  simpa using this
theorem fixA_good : Good fixA := errL_good (by decide +kernel)
theorem fixB_good : Good fixB := errL_good (by decide +kernel)
theorem fixA_len : fixA.length = 288 := by decide +kernel
theorem fixB_len : fixB.length = 32 := by decide
theorem info288 : (Try.prog.info? 104).map (·.size) = some 288 := by kernel_rfl
theorem info32 : (Try.prog.info? 105).map (·.size) = some 32 := by kernel_rfl

set_option maxHeartbeats 2000000 in
theorem fixed_own (w : World) : Calls Try.prog 54 #[] w fun e w' => e = .returned (.tuple #[.agg (iv fixA).toArray, .agg (iv fixB).toArray]) ∧ Below w.heap.size w w' := by
  have hB0 : Below w.heap.size w ((w.alloc (.cells (iv (List.replicate 288 0)).toArray 104)).alloc (.cells (iv (List.replicate 32 0)).toArray 105)) := ((Below.refl w.heap.size w).alloc (Nat.le_refl _) _).alloc (by simp) _
  have HB0 := hide hB0
  obtain ⟨FA, hFA⟩ : ∃ FA, fixA = FA := ⟨_, rfl⟩
  have hlA := fixA_len
  have hA := @fixA_is
  rw [hFA] at hlA
  simp only [hFA] at hA
  have HFA := hide hFA
  clear hB0 hFA
  go_enter Try.func54, Try.ntmps54
  go_wp2
  go_loopw [4] (fun i wr => ∃ k : Nat, k ≤ 288 ∧ i = .int .i64 (k : Int) ∧ Hid (ARow 104 wr w.heap.size (FA.take k ++ List.replicate (FA.length - k) 0) ∧ ARow 105 wr (w.heap.size + 1) (List.replicate 32 0) ∧ Below w.heap.size w wr)) (fun i _ => 288 - (intOf i).toNat)
  case atStart =>
    refine ⟨0, by decide, rfl, hide ⟨?_, ?_, unhide HB0⟩⟩
    · rw [hlA]; exact (Below.heap_alloc _ _ _ (by simp)).trans ((heap_alloc_new _ _).trans (by kernel_rfl))
    · have e : w.heap.size + 1 = (w.alloc (.cells (iv (List.replicate 288 0)).toArray 104)).heap.size := by simp
      rw [e]
      exact (heap_alloc_new _ _).trans (by kernel_rfl)
  case round =>
    obtain ⟨k, hk, rfl, hst⟩ := hrel
    by_cases hlt : k < 288
    · obtain ⟨s1, s2, s3⟩ := unhide hst
      have hl1 : (FA.take k ++ List.replicate (FA.length - k) 0).length = 288 := by simp; omega
      have c := s1.cell k (by omega)
      have f := s1.frozen k
      have HV := hA hlt
      have HST : Hid (∀ v : Int, v = FA.getD k 0 → ARow 104 (wr.setCell ⟨w.heap.size, k, none⟩ (.int .i64 v)) w.heap.size (FA.take (k + 1) ++ List.replicate (FA.length - (k + 1)) 0) ∧ ARow 105 (wr.setCell ⟨w.heap.size, k, none⟩ (.int .i64 v)) (w.heap.size + 1) (List.replicate 32 0) ∧ Below w.heap.size w (wr.setCell ⟨w.heap.size, k, none⟩ (.int .i64 v))) := by
        intro v hv
        have hgr := grown_setCell wr w.heap.size k (.int .i64 v)
        refine ⟨?_, s2.keep (hgr.block _ s2.lt (fun e => by have := Option.some.inj e; omega)), s3.grown hgr s3.size (fun j e => by rw [← Option.some.inj e]; exact Nat.le_refl _)⟩
        have := s1.set k v
        rw [hv, part_set FA k (by omega)] at this
        rw [hv]; exact this
      have hkI : (k : Int) < 288 := by omega
      clear hst s1 s2 s3 hl1 hA
      generalize (FA.take k ++ List.replicate (FA.length - k) 0).getD k 0 = old at c
      by_cases h1 : k < 144
      · rw [if_pos h1] at HV
        have h1I : (k : Int) < 144 := by omega
        have HF := hide (unhide HST 8 HV.symm)
        clear HST HV
        go_wp2
        go_roundw
        case rel => exact ⟨k + 1, by omega, by go_num, HF⟩
        case measure => simp [intOf]; omega
      · rw [if_neg h1] at HV
        have h1I : ¬ (k : Int) < 144 := by omega
        by_cases h2 : k < 256
        · rw [if_pos h2] at HV
          have h2I : (k : Int) < 256 := by omega
          have HF := hide (unhide HST 9 HV.symm)
          clear HST HV
          go_wp2
          go_roundw
          case rel => exact ⟨k + 1, by omega, by go_num, HF⟩
          case measure => simp [intOf]; omega
        · rw [if_neg h2] at HV
          have h2I : ¬ (k : Int) < 256 := by omega
          by_cases h3 : k < 280
          · rw [if_pos h3] at HV
            have h3I : (k : Int) < 280 := by omega
            have HF := hide (unhide HST 7 HV.symm)
            clear HST HV
            go_wp2
            go_roundw
            case rel => exact ⟨k + 1, by omega, by go_num, HF⟩
            case measure => simp [intOf]; omega
          · rw [if_neg h3] at HV
            have h3I : ¬ (k : Int) < 280 := by omega
            have HF := hide (unhide HST 8 HV.symm)
            clear HST HV
            go_wp2
            go_roundw
            case rel => exact ⟨k + 1, by omega, by go_num, HF⟩
            case measure => simp [intOf]; omega
    · obtain rfl : k = 288 := by omega
      have HS : Hid (ARow 104 wr w.heap.size FA ∧ ARow 105 wr (w.heap.size + 1) (List.replicate 32 0) ∧ Below w.heap.size w wr) := by
        have := unhide hst
        rw [List.take_of_length_le (by omega), hlA, Nat.sub_self, List.replicate_zero, List.append_nil] at this
        exact hide this
      clear hst hA
      generalize wr = wl at *
      go_wp2
      go_loopw [25] (fun i wr => ∃ k : Nat, k ≤ 32 ∧ i = .int .i64 (k : Int) ∧ Hid (ARow 104 wr w.heap.size FA ∧ ARow 105 wr (w.heap.size + 1) (fixB.take k ++ List.replicate (fixB.length - k) 0) ∧ Below w.heap.size w wr)) (fun i _ => 32 - (intOf i).toNat)
      case atStart => exact ⟨0, by decide, rfl, HS⟩
      case round =>
        obtain ⟨k, hk, rfl, hst⟩ := hrel
        by_cases hlt : k < 32
        · obtain ⟨s1, s2, s3⟩ := unhide hst
          have hl1 : (fixB.take k ++ List.replicate (fixB.length - k) 0).length = 32 := by simp [fixB_len]; omega
          have c := s2.cell k (by omega)
          have f := s2.frozen k
          have HF : Hid (ARow 104 (wr.setCell ⟨w.heap.size + 1, k, none⟩ (.int .i64 5)) w.heap.size FA ∧ ARow 105 (wr.setCell ⟨w.heap.size + 1, k, none⟩ (.int .i64 5)) (w.heap.size + 1) (fixB.take (k + 1) ++ List.replicate (fixB.length - (k + 1)) 0) ∧ Below w.heap.size w (wr.setCell ⟨w.heap.size + 1, k, none⟩ (.int .i64 5))) := by
            have hgr := grown_setCell wr (w.heap.size + 1) k (.int .i64 5)
            refine ⟨s1.keep (hgr.block _ s1.lt (fun e => by have := Option.some.inj e; omega)), ?_, s3.grown hgr s3.size (fun j e => by rw [← Option.some.inj e]; omega)⟩
            have := s2.set k 5
            rw [← fixB_is hlt, part_set fixB k (by rw [fixB_len]; exact hlt)] at this
            rw [← fixB_is hlt]; exact this
          have hkI : (k : Int) < 32 := by omega
          clear hst s1 s2 s3 hl1
          generalize (fixB.take k ++ List.replicate (fixB.length - k) 0).getD k 0 = old at c
          go_wp2
          go_roundw
          case rel => exact ⟨k + 1, by omega, by go_num, HF⟩
          case measure => simp [intOf]; omega
        · obtain rfl : k = 32 := by omega
          have hs0 := unhide hst
          rw [List.take_of_length_le (by rw [fixB_len]; omega), fixB_len, Nat.sub_self] at hs0
          simp only [List.replicate_zero, List.append_nil] at hs0
          obtain ⟨hs, hf, hBw⟩ := hs0
          have HB := hide hBw
          clear hst HS hBw
          have hlB := fixB_len
          obtain ⟨ys, hys⟩ : ∃ ys, fixB = ys := ⟨_, rfl⟩
          rw [hys] at hf hlB
          have HYS := hide hys
          clear hys
          have hi1 : (Try.prog.info? 104).map (·.size) = some (iv FA).length := by rw [info288]; simp [hlA]
          have hi2 : (Try.prog.info? 105).map (·.size) = some (iv ys).length := by rw [info32]; simp [hlB]
          have hi1' : (Try.prog.info? 104).map (·.size) = some (iv FA).toArray.size := by rw [info288]; simp [hlA]
          have hi2' : (Try.prog.info? 105).map (·.size) = some (iv ys).toArray.size := by rw [info32]; simp [hlB]
          have hu1 := Try.underlying104
          have hu2 := Try.underlying105
          go_wp2
          refine wp_region_held_drew (S := fun w' => ARow 104 w' w.heap.size FA ∧ ARow 105 w' (w.heap.size + 1) ys) (by kernel_rfl) ⟨hs, hf⟩ (fun hHeld => ?_)
          refine wpAnyH_take (i := 0) (oi := { dst := some 31, op := .load 104 (.tmp 0), type := 104, pos := "layout.go:54", after := #[], guard := none }) (v := _) rfl (by kernel_rfl) (by kernel_rfl) (by kernel_rfl) (fun _ _ _ h => h) (yieldsIf_load_mid (by rfl) _ _ rfl _ _ rfl _ _ (fun _ h => h.1.range) hu1 rfl hi1) hHeld ?_
          simp only [Act.put, List.setIfInBounds_toArray, List.set_cons_zero, List.set_cons_succ]
          refine wpAnyH_take (i := 1) (oi := { dst := some 32, op := .load 105 (.tmp 1), type := 105, pos := "layout.go:54", after := #[{ on := 2, ground := .gcOnly .lateStores }], guard := none }) (v := _) rfl (by kernel_rfl) (by kernel_rfl) (by kernel_rfl) (fun _ _ _ h => h) (yieldsIf_load_mid (by rfl) _ _ rfl _ _ rfl _ _ (fun _ h => h.2.range) hu2 rfl hi2) hHeld ?_
          simp only [Act.put, List.setIfInBounds_toArray, List.set_cons_zero, List.set_cons_succ]
          refine wpAnyH_ready (rs := [2]) (by kernel_rfl) (by simp) (AllReadyH.cons rfl (fun K hK => ?_) AllReadyH.nil)
          refine step_store_same rfl 104 (.tmp 0) (.tmp 31) rfl w.heap.size FA rfl rfl hHeld.1 hi1' ?_
          simp only [Act.put]
          refine hK.out _ _ hHeld (fun hHeld1 => ?_)
          clear hK K hHeld
          refine wpAnyH_ready (rs := [3]) (by kernel_rfl) (by simp) (AllReadyH.cons rfl (fun K hK => ?_) AllReadyH.nil)
          refine step_store_same rfl 105 (.tmp 1) (.tmp 32) rfl (w.heap.size + 1) ys rfl rfl hHeld1.2 hi2' ?_
          simp only [Act.put]
          refine hK.out _ _ hHeld1 (fun hHeld2 => ?_)
          clear hK K hHeld1
          refine wpAnyH_done (by kernel_rfl) ?_ _
          go_wp2
          refine bodyPost_ret (v := .tuple #[.agg (iv FA).toArray, .agg (iv ys).toArray]) ?_ rfl ⟨by rw [unhide HFA, unhide HYS], (unhide HB).drew⟩
          exact results_cells rfl _ _ w.heap.size (w.heap.size + 1) _ _ rfl rfl (hHeld2.1.load hu1 rfl hi1') (hHeld2.2.load hu2 rfl hi2')

theorem two_arrays (w w1 : World) (x y : Array Value) (T1 T2 : TypeId) (FA FB : List Int) (hB : Below w.heap.size w w1) (hw : (w1.alloc (.cells x T1)).heap.size = w1.heap.size + 1) :
    ARow T1 ((((w1.alloc (.cells x T1)).alloc (.cells y T2)).setRow w1.heap.size (iv FA).toArray).setRow (w1.heap.size + 1) (iv FB).toArray) w1.heap.size FA ∧ ARow T2 ((((w1.alloc (.cells x T1)).alloc (.cells y T2)).setRow w1.heap.size (iv FA).toArray).setRow (w1.heap.size + 1) (iv FB).toArray) (w1.heap.size + 1) FB ∧ Below w.heap.size w ((((w1.alloc (.cells x T1)).alloc (.cells y T2)).setRow w1.heap.size (iv FA).toArray).setRow (w1.heap.size + 1) (iv FB).toArray) := by
  have h1 : ((w1.alloc (.cells x T1)).alloc (.cells y T2)).heap[w1.heap.size]? = some (.cells x T1 (0, 0)) := (Below.heap_alloc _ _ _ (by simp)).trans (heap_alloc_new _ _)
  have h2 : ((w1.alloc (.cells x T1)).alloc (.cells y T2)).heap[w1.heap.size + 1]? = some (.cells y T2 (0, 0)) := by rw [← hw]; exact heap_alloc_new _ _
  refine ⟨?_, ?_, ?_⟩
  · unfold ARow
    rw [Go.setRow_other _ _ _ _ (by omega)]
    exact setRow_heap _ _ _ _ _ _ h1
  · unfold ARow
    exact setRow_heap _ _ y _ _ _ ((Go.setRow_other _ _ _ _ (by omega)).trans h2)
  · have hz := hB.size
    exact below_setRow (below_setRow ((hB.alloc hz _).alloc (by simp; omega) _) (by omega) _) (by omega) _
def ordZ : List Int := [16, 17, 18, 0, 8, 7, 9, 6, 10, 5, 11, 4, 12, 3, 13, 2, 14, 1, 15]
theorem info19 : (Try.prog.info? 163).map (·.size) = some 19 := by kernel_rfl
theorem order_any (w : World) : Calls Try.prog 104 #[] w fun e w' => e = .returned (.agg (iv ordZ).toArray) ∧ Below w.heap.size w w' := by
  have hsz : (iv ordZ).toArray.size = 19 := by simp [ordZ]
  have hi1 : (Try.prog.info? 163).map (·.size) = some (iv ordZ).toArray.size := by rw [info19, hsz]
  obtain ⟨OZ, hOZ⟩ : ∃ OZ, ordZ = OZ := ⟨_, rfl⟩
  rw [hOZ] at hi1 hsz ⊢
  have HZ := hide hOZ
  clear hOZ
  go_enter Try.func104, Try.ntmps104
  go_upto_region 1 with (fail)
  refine wp_region_lit ?_
  refine wpList_build rfl 163 _ rfl (by kernel_rfl) ?_
  generalize hV : (Program.built _ _ _).getD #[] = V
  have hV2 : V = (iv OZ).toArray := by rw [← hV, ← unhide HZ]; kernel_rfl
  clear hV
  subst hV2
  simp only [Act.put]
  generalize hW : w.alloc _ = W
  have hA : W.heap[w.heap.size]? = some (.cells (iv (List.replicate 19 0)).toArray 163 (0, 0)) := by rw [← hW]; exact (heap_alloc_new _ _).trans (by kernel_rfl)
  have hB : Below w.heap.size w W := by rw [← hW]; exact (Below.refl w.heap.size w).alloc (Nat.le_refl _) _
  clear hW
  refine wpList_store_row rfl 163 (.tmp 0) (.tmp 1) rfl w.heap.size (iv OZ).toArray rfl rfl 163 _ hA hi1 (by rw [hsz]; simp) (iv_all_one OZ) ?_
  refine wpList_nil ?_
  have HF : Hid (Below w.heap.size w (W.setRow w.heap.size (iv OZ).toArray) ∧ ARow 163 (W.setRow w.heap.size (iv OZ).toArray) w.heap.size OZ) := hide ⟨below_setRow hB (Nat.le_refl _) _, setRow_heap _ _ _ _ _ _ hA⟩
  clear hA hB
  go_wp2
  refine bodyPost_ret (v := .agg (iv OZ).toArray) ?_ rfl ⟨rfl, (unhide HF).1⟩
  exact results_cell_row rfl _ _ _ _ _ _ _ rfl (unhide HF).2 Try.underlying163 rfl hi1
end Go.Proofs.Ytfoaaamcpknjnac

/-
  Arrays of numbers; count.
-/
namespace Go.Proofs.Ytfoaaamcpknjnac
open Go.RowKit
set_option linter.unusedVariables false
set_option maxRecDepth 100000

/-- the sink that counts -/
structure KJ (B gs gf : Nat) (No : Nat → Prop) (is : List It) (W : World) : Prop where
  base : B ≤ gs ∧ B ≤ gf
  ne : gs ≠ gf
  no : ¬ No gs ∧ ¬ No gf
  s : ARow 131 W gs (symC is)
  f : ARow 132 W gf (farC is)
theorem symC_snoc (is : List It) (k : Nat) : symC (is ++ [.sym k]) = bump (symC is) k ∧ farC (is ++ [.sym k]) = farC is := by
  unfold symC farC symK farK bumps
  simp [List.filterMap_append, List.foldl_append]
theorem farC_snoc (is : List It) (k : Nat) : farC (is ++ [.far k]) = bump (farC is) k ∧ symC (is ++ [.far k]) = symC is := by
  unfold symC farC symK farK bumps
  simp [List.filterMap_append, List.foldl_append]
theorem restC_snoc (is : List It) (n s : Nat) : farC (is ++ [.rest n s]) = farC is ∧ symC (is ++ [.rest n s]) = symC is := by
  unfold symC farC symK farK bumps
  simp [List.filterMap_append]
theorem symC_le (is : List It) (k : Nat) : (symC is).getD k 0 ≤ is.length ∧ 0 ≤ (symC is).getD k 0 := by
  by_cases hk : k < 286
  · unfold symC
    rw [bumps_at _ _ k (by simpa using hk), zero_at]
    have h1 := List.count_le_length (a := k) (l := symK is)
    have h2 : (symK is).length ≤ is.length := List.length_filterMap_le _ _
    omega
  · have : (symC is).getD k 0 = 0 := by
      simp only [List.getD]
      rw [List.getElem?_eq_none (by rw [symC_len]; omega)]
      rfl
    omega
theorem farC_le (is : List It) (k : Nat) : (farC is).getD k 0 ≤ is.length ∧ 0 ≤ (farC is).getD k 0 := by
  by_cases hk : k < 30
  · unfold farC
    rw [bumps_at _ _ k (by simpa using hk), zero_at]
    have h1 := List.count_le_length (a := k) (l := farK is)
    have h2 : (farK is).length ≤ is.length := List.length_filterMap_le _ _
    omega
  · have : (farC is).getD k 0 = 0 := by
      simp only [List.getD]
      rw [List.getElem?_eq_none (by rw [farC_len]; omega)]
      rfl
    omega
theorem count1_any (T : TypeId) (g k : Nat) (xs : List Int) (W : World) (hT : T = 131) (h : ARow T W g xs) (hl : xs.length = 286) (hk : k < 286) (hx : 0 ≤ xs.getD k 0 ∧ xs.getD k 0 ≤ 1000000) :
    Calls Try.prog 100 #[.int .i64 (k : Int), .pointer (some ⟨g, 0, none⟩)] W fun e w' => e = .returned (.tuple #[]) ∧ w' = W.setCell ⟨g, k, none⟩ (.int .i64 (xs.getD k 0 + 1)) := by
  have c := h.cell k (by omega)
  have f := h.frozen k
  have hkI : (k : Int) < 286 := by omega
  clear h hT
  generalize xs.getD k 0 = x at *
  go_enter Try.func100, Try.ntmps100
  go_wp2
  go_end0
  exact ⟨rfl, rfl⟩
theorem count2_any (T : TypeId) (g k : Nat) (xs : List Int) (W : World) (hT : T = 132) (h : ARow T W g xs) (hl : xs.length = 30) (hk : k < 30) (hx : 0 ≤ xs.getD k 0 ∧ xs.getD k 0 ≤ 1000000) :
    Calls Try.prog 101 #[.int .i64 (k : Int), .pointer (some ⟨g, 0, none⟩)] W fun e w' => e = .returned (.tuple #[]) ∧ w' = W.setCell ⟨g, k, none⟩ (.int .i64 (xs.getD k 0 + 1)) := by
  have c := h.cell k (by omega)
  have f := h.frozen k
  have hkI : (k : Int) < 30 := by omega
  clear h hT
  generalize xs.getD k 0 = x at *
  go_enter Try.func101, Try.ntmps101
  go_wp2
  go_end0
  exact ⟨rfl, rfl⟩
theorem count3_any (n s : Int) (W : World) : Calls Try.prog 102 #[.int .i64 n, .int .i64 s] W fun e w' => e = .returned (.tuple #[]) ∧ w' = W := by
  go_enter Try.func102, Try.ntmps102
  go_wp2
  go_end0
  exact ⟨rfl, rfl⟩
theorem enters_any' {f : Nat} {fn : Func} {c : Code} (hf : Try.prog.funcs[f]? = some fn) (hname : (fn.name == "runtime.NumGoroutine") = false) (hb : fn.body = some c) : ∀ (args : Array Value) (w : World), (callFunc f args).run Try.prog w = .ok (.enter f args) w := enters_of hf hname hb
theorem KJ.step {B gs gf g k : Nat} {No : Nat → Prop} {is is' : List It} {W : World} {v : Value} (h : KJ B gs gf No is W) (hg : g = gs ∨ g = gf) (hs : ARow 131 (W.setCell ⟨g, k, none⟩ v) gs (symC is')) (hf : ARow 132 (W.setCell ⟨g, k, none⟩ v) gf (farC is')) :
    KJ B gs gf No is' (W.setCell ⟨g, k, none⟩ v) ∧ Below B W (W.setCell ⟨g, k, none⟩ v) ∧ Kp No W (W.setCell ⟨g, k, none⟩ v) := by
  have hgr := grown_setCell W g k v
  have hb := h.base
  have hn := h.no
  have hlt := h.s.lt
  refine ⟨⟨h.base, h.ne, h.no, hs, hf⟩, (Below.refl B W).grown hgr (by omega) (fun j e => by rw [← Option.some.inj e]; rcases hg with e | e <;> rw [e] <;> omega), (Kp.refl No W).grown hgr (Nat.le_refl _) (fun j e => by rw [← Option.some.inj e]; rcases hg with e | e <;> rw [e]; exact hn.1; exact hn.2)⟩
theorem count_snk (B gs gf : Nat) (all : List It) (hvi : ∀ i ∈ all, VI i) (hlen : all.length ≤ 100000) :
    Snk (KJ B gs gf) B 100 101 102 #[.pointer (some ⟨gs, 0, none⟩)] #[.pointer (some ⟨gf, 0, none⟩)] #[] all := by
  have hl : ∀ {is R : List It} {i : It}, is ++ i :: R = all → is.length ≤ 100000 ∧ VI i := by
    intro is R i he
    have h4 := congrArg List.length he
    rw [List.length_append, List.length_cons] at h4
    exact ⟨by omega, hvi i (by rw [← he]; simp)⟩
  refine ⟨enters_any' Try.func100 (by kernel_rfl) rfl, enters_any' Try.func101 (by kernel_rfl) rfl, enters_any' Try.func102 (by kernel_rfl) rfl, ?_, ?_, ?_, ?_⟩
  · intro No No' is W W1 hJ hB hn
    have l1 := hJ.s.lt
    have l2 := hJ.f.lt
    refine ⟨hJ.base, hJ.ne, ⟨fun e => ?_, fun e => ?_⟩, hJ.s.keep (hB.block _ l1), hJ.f.keep (hB.block _ l2)⟩
    · rcases hn gs e with h | h
      · exact hJ.no.1 h
      · omega
    · rcases hn gf e with h | h
      · exact hJ.no.2 h
      · omega
  · intro No is R k W he hJ hNo
    have hk : k < 286 := (hl he).2
    have hle := symC_le is k
    have := (hl he).1
    refine (count1_any _ gs k (symC is) W rfl hJ.s (symC_len is) hk ⟨hle.2, by omega⟩).mono ?_
    rintro e W' ⟨rfl, rfl⟩
    refine ⟨rfl, hJ.step (.inl rfl) ?_ ?_⟩
    · rw [(symC_snoc is k).1]; exact hJ.s.set k _
    · rw [(symC_snoc is k).2]; exact hJ.f.keep ((grown_setCell W gs k _).block gf hJ.f.lt (fun e => hJ.ne (Option.some.inj e).symm))
  · intro No is R k W he hJ hNo
    have hk : k < 30 := (hl he).2
    have hle := farC_le is k
    have := (hl he).1
    refine (count2_any _ gf k (farC is) W rfl hJ.f (farC_len is) hk ⟨hle.2, by omega⟩).mono ?_
    rintro e W' ⟨rfl, rfl⟩
    refine ⟨rfl, hJ.step (.inr rfl) ?_ ?_⟩
    · rw [(farC_snoc is k).2]; exact hJ.s.keep ((grown_setCell W gf k _).block gs hJ.s.lt (fun e => hJ.ne (Option.some.inj e)))
    · rw [(farC_snoc is k).1]; exact hJ.f.set k _
  · intro No is R n s W he hJ hNo
    refine (count3_any n s W).mono ?_
    rintro e W' ⟨rfl, rfl⟩
    refine ⟨rfl, ⟨hJ.base, hJ.ne, hJ.no, ?_, ?_⟩, Below.refl _ _, Kp.refl _ _⟩
    · rw [(restC_snoc is n s).2]; exact hJ.s
    · rw [(restC_snoc is n s).1]; exact hJ.f
end Go.Proofs.Ytfoaaamcpknjnac
