/-
  Package layout: Order, FixedLengths.
-/
import Derived.Test.YtfoaaamcpknjnahARow
import Derived.Deep.DeepCutAuto
import Derived.Test.YtfoaaamcpknjnahUnp0
namespace Go.Proofs.Ytfoaaamcpknjnah
open Go.RowKit
set_option linter.unusedVariables false
set_option maxRecDepth 100000

theorem part_set (l : List Int) (k : Nat) (hk : k < l.length) : (l.take k ++ List.replicate (l.length - k) 0).set k (l.getD k 0) = l.take (k + 1) ++ List.replicate (l.length - (k + 1)) 0 := by
  have h1 : (l.take k).length = k := by simp; omega
  rw [List.set_append_right _ _ (by omega), h1, Nat.sub_self]
  obtain ⟨q, hq⟩ : ∃ q, l.length - k = q + 1 := ⟨l.length - k - 1, by omega⟩
  have e : l.take (k + 1) = l.take k ++ [l.getD k 0] := by rw [List.take_add_one]; simp [List.getD, hk]
  rw [hq, List.replicate_succ, List.set_cons_zero, e, show l.length - (k + 1) = q by omega]
  simp
theorem fixA_at : (List.range 288).all (fun k => fixA.getD k 0 == (if k < 144 then 8 else if k < 256 then 9 else if k < 280 then 7 else 8)) = true := by decide +kernel
theorem fixA_is {k : Nat} (h : k < 288) : fixA.getD k 0 = if k < 144 then 8 else if k < 256 then 9 else if k < 280 then 7 else 8 := by
  have := List.all_eq_true.1 fixA_at k (by simpa using h)
  simpa using this
theorem fixB_at : (List.range 32).all (fun k => fixB.getD k 0 == 5) = true := by decide +kernel
theorem fixB_is {k : Nat} (h : k < 32) : fixB.getD k 0 = 5 := by
  have := List.all_eq_true.1 fixB_at k (by simpa using h)
  simpa using this
theorem fixA_good : Good fixA := errL_good (by decide +kernel)
theorem fixB_good : Good fixB := errL_good (by decide +kernel)
theorem fixA_len : fixA.length = 288 := by decide +kernel
theorem fixB_len : fixB.length = 32 := by decide
theorem info288 : (Try.prog.info? 131).map (·.size) = some 288 := by kernel_rfl
theorem info32 : (Try.prog.info? 132).map (·.size) = some 32 := by kernel_rfl

set_option maxHeartbeats 2000000 in
theorem fixed_own (w : World) : Calls Try.prog 86 #[] w fun e w' => e = .returned (.tuple #[.agg (iv fixA).toArray, .agg (iv fixB).toArray]) ∧ Below w.heap.size w w' := by
  have hB0 : Below w.heap.size w ((w.alloc (.cells (iv (List.replicate 288 0)).toArray 131)).alloc (.cells (iv (List.replicate 32 0)).toArray 132)) := ((Below.refl w.heap.size w).alloc (Nat.le_refl _) _).alloc (by simp) _
  have HB0 := hide hB0
  obtain ⟨FA, hFA⟩ : ∃ FA, fixA = FA := ⟨_, rfl⟩
  have hlA := fixA_len
  have hA := @fixA_is
  rw [hFA] at hlA
  simp only [hFA] at hA
  have HFA := hide hFA
  clear hB0 hFA
  go_enter Try.func86, Try.ntmps86
  go_wp2
  go_loopw [4] (fun i wr => ∃ k : Nat, k ≤ 288 ∧ i = .int .i64 (k : Int) ∧ Hid (ARow 131 wr w.heap.size (FA.take k ++ List.replicate (FA.length - k) 0) ∧ ARow 132 wr (w.heap.size + 1) (List.replicate 32 0) ∧ Below w.heap.size w wr)) (fun i _ => 288 - (intOf i).toNat)
  case atStart =>
    refine ⟨0, by decide, rfl, hide ⟨?_, ?_, unhide HB0⟩⟩
    · rw [hlA]; exact (Below.heap_alloc _ _ _ (by simp)).trans ((heap_alloc_new _ _).trans (by kernel_rfl))
    · have e : w.heap.size + 1 = (w.alloc (.cells (iv (List.replicate 288 0)).toArray 131)).heap.size := by simp
      rw [e]
      exact (heap_alloc_new _ _).trans (by kernel_rfl)
  case round =>
    obtain ⟨k, hk, rfl, hst⟩ := hrel
    by_cases hlt : k < 288
    · obtain ⟨s1, s2, s3⟩ := unhide hst
      have hl1 : (FA.take k ++ List.replicate (FA.length - k) 0).length = 288 := by simp; omega
      have c := s1.cell k (by omega)
      have f := s1.frozen k
      have HV := hA hlt
      have HST : Hid (∀ v : Int, v = FA.getD k 0 → ARow 131 (wr.setCell ⟨w.heap.size, k, none⟩ (.int .i64 v)) w.heap.size (FA.take (k + 1) ++ List.replicate (FA.length - (k + 1)) 0) ∧ ARow 132 (wr.setCell ⟨w.heap.size, k, none⟩ (.int .i64 v)) (w.heap.size + 1) (List.replicate 32 0) ∧ Below w.heap.size w (wr.setCell ⟨w.heap.size, k, none⟩ (.int .i64 v))) := by
        intro v hv
        have hgr := grown_setCell wr w.heap.size k (.int .i64 v)
        refine ⟨?_, s2.keep (hgr.block _ s2.lt (fun e => by have := Option.some.inj e; omega)), s3.grown hgr s3.size (fun j e => by rw [← Option.some.inj e]; exact Nat.le_refl _)⟩
        have := s1.set k v
        rw [hv, part_set FA k (by omega)] at this
        rw [hv]; exact this
      have hkI : (k : Int) < 288 := by omega
      clear hst s1 s2 s3 hl1 hA
      generalize (FA.take k ++ List.replicate (FA.length - k) 0).getD k 0 = old at c
      by_cases h1 : k < 144
      · rw [if_pos h1] at HV
        have h1I : (k : Int) < 144 := by omega
        have HF := hide (unhide HST 8 HV.symm)
        clear HST HV
        go_wp2
        go_roundw
        case rel => exact ⟨k + 1, by omega, by go_num, HF⟩
        case measure => simp [intOf]; omega
      · rw [if_neg h1] at HV
        have h1I : ¬ (k : Int) < 144 := by omega
        by_cases h2 : k < 256
        · rw [if_pos h2] at HV
          have h2I : (k : Int) < 256 := by omega
          have HF := hide (unhide HST 9 HV.symm)
          clear HST HV
          go_wp2
          go_roundw
          case rel => exact ⟨k + 1, by omega, by go_num, HF⟩
          case measure => simp [intOf]; omega
        · rw [if_neg h2] at HV
          have h2I : ¬ (k : Int) < 256 := by omega
          by_cases h3 : k < 280
          · rw [if_pos h3] at HV
            have h3I : (k : Int) < 280 := by omega
            have HF := hide (unhide HST 7 HV.symm)
            clear HST HV
            go_wp2
            go_roundw
            case rel => exact ⟨k + 1, by omega, by go_num, HF⟩
            case measure => simp [intOf]; omega
          · rw [if_neg h3] at HV
            have h3I : ¬ (k : Int) < 280 := by omega
            have HF := hide (unhide HST 8 HV.symm)
            clear HST HV
            go_wp2
            go_roundw
            case rel => exact ⟨k + 1, by omega, by go_num, HF⟩
            case measure => simp [intOf]; omega
    · obtain rfl : k = 288 := by omega
      have HS : Hid (ARow 131 wr w.heap.size FA ∧ ARow 132 wr (w.heap.size + 1) (List.replicate 32 0) ∧ Below w.heap.size w wr) := by
        have := unhide hst
        rw [List.take_of_length_le (by omega), hlA, Nat.sub_self, List.replicate_zero, List.append_nil] at this
        exact hide this
      clear hst hA
      generalize wr = wl at *
      go_wp2
      go_loopw [25] (fun i wr => ∃ k : Nat, k ≤ 32 ∧ i = .int .i64 (k : Int) ∧ Hid (ARow 131 wr w.heap.size FA ∧ ARow 132 wr (w.heap.size + 1) (fixB.take k ++ List.replicate (fixB.length - k) 0) ∧ Below w.heap.size w wr)) (fun i _ => 32 - (intOf i).toNat)
      case atStart => exact ⟨0, by decide, rfl, HS⟩
      case round =>
        obtain ⟨k, hk, rfl, hst⟩ := hrel
        by_cases hlt : k < 32
        · obtain ⟨s1, s2, s3⟩ := unhide hst
          have hl1 : (fixB.take k ++ List.replicate (fixB.length - k) 0).length = 32 := by simp [fixB_len]; omega
          have c := s2.cell k (by omega)
          have f := s2.frozen k
          have HF : Hid (ARow 131 (wr.setCell ⟨w.heap.size + 1, k, none⟩ (.int .i64 5)) w.heap.size FA ∧ ARow 132 (wr.setCell ⟨w.heap.size + 1, k, none⟩ (.int .i64 5)) (w.heap.size + 1) (fixB.take (k + 1) ++ List.replicate (fixB.length - (k + 1)) 0) ∧ Below w.heap.size w (wr.setCell ⟨w.heap.size + 1, k, none⟩ (.int .i64 5))) := by
            have hgr := grown_setCell wr (w.heap.size + 1) k (.int .i64 5)
            refine ⟨s1.keep (hgr.block _ s1.lt (fun e => by have := Option.some.inj e; omega)), ?_, s3.grown hgr s3.size (fun j e => by rw [← Option.some.inj e]; omega)⟩
            have := s2.set k 5
            rw [← fixB_is hlt, part_set fixB k (by rw [fixB_len]; exact hlt)] at this
            rw [← fixB_is hlt]; exact this
          have hkI : (k : Int) < 32 := by omega
          clear hst s1 s2 s3 hl1
          generalize (fixB.take k ++ List.replicate (fixB.length - k) 0).getD k 0 = old at c
          go_wp2
          go_roundw
          case rel => exact ⟨k + 1, by omega, by go_num, HF⟩
          case measure => simp [intOf]; omega
        · obtain rfl : k = 32 := by omega
          have hs0 := unhide hst
          rw [List.take_of_length_le (by rw [fixB_len]; omega), fixB_len, Nat.sub_self] at hs0
          simp only [List.replicate_zero, List.append_nil] at hs0
          obtain ⟨hs, hf, hBw⟩ := hs0
          have HB := hide hBw
          clear hst HS hBw
          have hlB := fixB_len
          obtain ⟨ys, hys⟩ : ∃ ys, fixB = ys := ⟨_, rfl⟩
          rw [hys] at hf hlB
          have HYS := hide hys
          clear hys
          have hi1 : (Try.prog.info? 131).map (·.size) = some (iv FA).length := by rw [info288]; simp [hlA]
          have hi2 : (Try.prog.info? 132).map (·.size) = some (iv ys).length := by rw [info32]; simp [hlB]
          have hi1' : (Try.prog.info? 131).map (·.size) = some (iv FA).toArray.size := by rw [info288]; simp [hlA]
          have hi2' : (Try.prog.info? 132).map (·.size) = some (iv ys).toArray.size := by rw [info32]; simp [hlB]
          have hu1 := Try.underlying131
          have hu2 := Try.underlying132
          go_wp2
          refine wp_region_held_drew (S := fun w' => ARow 131 w' w.heap.size FA ∧ ARow 132 w' (w.heap.size + 1) ys) (by kernel_rfl) ⟨hs, hf⟩ (fun hHeld => ?_)
          refine wpAnyH_take (i := 0) (oi := { dst := some 31, op := .load 131 (.tmp 0), type := 131, pos := "layout.go:54", after := #[], guard := none }) (v := _) rfl (by kernel_rfl) (by kernel_rfl) (by kernel_rfl) (fun _ _ _ h => h) (yieldsIf_load_mid (by rfl) _ _ rfl _ _ rfl _ _ (fun _ h => h.1.range) hu1 rfl hi1) hHeld ?_
          simp only [Act.put, List.setIfInBounds_toArray, List.set_cons_zero, List.set_cons_succ]
          refine wpAnyH_take (i := 1) (oi := { dst := some 32, op := .load 132 (.tmp 1), type := 132, pos := "layout.go:54", after := #[{ on := 2, ground := .gcOnly .lateStores }], guard := none }) (v := _) rfl (by kernel_rfl) (by kernel_rfl) (by kernel_rfl) (fun _ _ _ h => h) (yieldsIf_load_mid (by rfl) _ _ rfl _ _ rfl _ _ (fun _ h => h.2.range) hu2 rfl hi2) hHeld ?_
          simp only [Act.put, List.setIfInBounds_toArray, List.set_cons_zero, List.set_cons_succ]
          refine wpAnyH_ready (rs := [2]) (by kernel_rfl) (by simp) (AllReadyH.cons rfl (fun K hK => ?_) AllReadyH.nil)
          refine step_store_same rfl 131 (.tmp 0) (.tmp 31) rfl w.heap.size FA rfl rfl hHeld.1 hi1' ?_
          simp only [Act.put]
          refine hK.out _ _ hHeld (fun hHeld1 => ?_)
          clear hK K hHeld
          refine wpAnyH_ready (rs := [3]) (by kernel_rfl) (by simp) (AllReadyH.cons rfl (fun K hK => ?_) AllReadyH.nil)
          refine step_store_same rfl 132 (.tmp 1) (.tmp 32) rfl (w.heap.size + 1) ys rfl rfl hHeld1.2 hi2' ?_
          simp only [Act.put]
          refine hK.out _ _ hHeld1 (fun hHeld2 => ?_)
          clear hK K hHeld1
          refine wpAnyH_done (by kernel_rfl) ?_ _
          go_wp2
          refine bodyPost_ret (v := .tuple #[.agg (iv FA).toArray, .agg (iv ys).toArray]) ?_ rfl ⟨by rw [unhide HFA, unhide HYS], (unhide HB).drew⟩
          exact results_cells rfl _ _ w.heap.size (w.heap.size + 1) _ _ rfl rfl (hHeld2.1.load hu1 rfl hi1') (hHeld2.2.load hu2 rfl hi2')

theorem two_arrays (w w1 : World) (x y : Array Value) (T1 T2 : TypeId) (FA FB : List Int) (hB : Below w.heap.size w w1) (hw : (w1.alloc (.cells x T1)).heap.size = w1.heap.size + 1) :
    ARow T1 ((((w1.alloc (.cells x T1)).alloc (.cells y T2)).setRow w1.heap.size (iv FA).toArray).setRow (w1.heap.size + 1) (iv FB).toArray) w1.heap.size FA ∧ ARow T2 ((((w1.alloc (.cells x T1)).alloc (.cells y T2)).setRow w1.heap.size (iv FA).toArray).setRow (w1.heap.size + 1) (iv FB).toArray) (w1.heap.size + 1) FB ∧ Below w.heap.size w ((((w1.alloc (.cells x T1)).alloc (.cells y T2)).setRow w1.heap.size (iv FA).toArray).setRow (w1.heap.size + 1) (iv FB).toArray) := by
  have h1 : ((w1.alloc (.cells x T1)).alloc (.cells y T2)).heap[w1.heap.size]? = some (.cells x T1 (0, 0)) := (Below.heap_alloc _ _ _ (by simp)).trans (heap_alloc_new _ _)
  have h2 : ((w1.alloc (.cells x T1)).alloc (.cells y T2)).heap[w1.heap.size + 1]? = some (.cells y T2 (0, 0)) := by rw [← hw]; exact heap_alloc_new _ _
  refine ⟨?_, ?_, ?_⟩
  · unfold ARow
    rw [Go.setRow_other _ _ _ _ (by omega)]
    exact setRow_heap _ _ _ _ _ _ h1
  · unfold ARow
    exact setRow_heap _ _ y _ _ _ ((Go.setRow_other _ _ _ _ (by omega)).trans h2)
  · have hz := hB.size
    exact below_setRow (below_setRow ((hB.alloc hz _).alloc (by simp; omega) _) (by omega) _) (by omega) _
def ordZ : List Int := [16, 17, 18, 0, 8, 7, 9, 6, 10, 5, 11, 4, 12, 3, 13, 2, 14, 1, 15]
theorem info19 : (Try.prog.info? 143).map (·.size) = some 19 := by kernel_rfl
theorem order_any (w : World) : Calls Try.prog 95 #[] w fun e w' => e = .returned (.agg (iv ordZ).toArray) ∧ Below w.heap.size w w' := by
  have hsz : (iv ordZ).toArray.size = 19 := by simp [ordZ]
  have hi1 : (Try.prog.info? 143).map (·.size) = some (iv ordZ).toArray.size := by rw [info19, hsz]
  obtain ⟨OZ, hOZ⟩ : ∃ OZ, ordZ = OZ := ⟨_, rfl⟩
  rw [hOZ] at hi1 hsz ⊢
  have HZ := hide hOZ
  clear hOZ
  go_enter Try.func95, Try.ntmps95
  go_upto_region 1 with (fail)
  refine wp_region_lit ?_
  refine wpList_build rfl 143 _ rfl (by kernel_rfl) ?_
  generalize hV : (Program.built _ _ _).getD #[] = V
  have hV2 : V = (iv OZ).toArray := by rw [← hV, ← unhide HZ]; kernel_rfl
  clear hV
  subst hV2
  simp only [Act.put]
  generalize hW : w.alloc _ = W
  have hA : W.heap[w.heap.size]? = some (.cells (iv (List.replicate 19 0)).toArray 143 (0, 0)) := by rw [← hW]; exact (heap_alloc_new _ _).trans (by kernel_rfl)
  have hB : Below w.heap.size w W := by rw [← hW]; exact (Below.refl w.heap.size w).alloc (Nat.le_refl _) _
  clear hW
  refine wpList_store_row rfl 143 (.tmp 0) (.tmp 1) rfl w.heap.size (iv OZ).toArray rfl rfl 143 _ hA hi1 (by rw [hsz]; simp) (iv_all_one OZ) ?_
  refine wpList_nil ?_
  have HF : Hid (Below w.heap.size w (W.setRow w.heap.size (iv OZ).toArray) ∧ ARow 143 (W.setRow w.heap.size (iv OZ).toArray) w.heap.size OZ) := hide ⟨below_setRow hB (Nat.le_refl _) _, setRow_heap _ _ _ _ _ _ hA⟩
  clear hA hB
  go_wp2
  refine bodyPost_ret (v := .agg (iv OZ).toArray) ?_ rfl ⟨rfl, (unhide HF).1⟩
  exact results_cell_row rfl _ _ _ _ _ _ _ rfl (unhide HF).2 Try.underlying143 rfl hi1
end Go.Proofs.Ytfoaaamcpknjnah
