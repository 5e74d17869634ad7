/-
  Tokens put behind a row by codes; fixedLengths, putFixed.
-/
import Derived.Test.YtekgcoajgbpniacGreatQ21
import Derived.Test.YtekgcoajgbpniacGreatBlk7
import Derived.Test.YtekgcoajgbpniacGreatQ4
import Derived.OwnWalk
namespace Go.Proofs.YtekgcoajgbpniacGreat
open Go.RowKit
set_option linter.unusedVariables false
set_option maxRecDepth 100000

theorem pass_put (No : Nat → Prop) (B rb : Nat) (a : Option Addr) (len cap : Nat) (ts : List Tk) (S : List Bool) (b1 o1 n1 c1 b2 o2 n2 c2 : Nat) (l1 l2 : List Int) (gc gl gr hc hl hr : Nat) (w0 W w3 : World) (h : RIs No B w0 rb S) (hz : w0.heap.size ≤ W.heap.size) (hB3 : Below w0.heap.size w0 w3)
    (hC1 : CIs (fun g => W.heap.size ≤ g ∨ g = b1 ∨ g = b2) w3 gc gl gr rb (some ⟨b1, o1, none⟩) n1 c1 l1) (hC2 : CIs (fun g => W.heap.size ≤ g ∨ g = b1 ∨ g = b2) w3 hc hl hr rb (some ⟨b2, o2, none⟩) n2 c2 l2)
    (hb1 : No b1 ∨ w0.heap.size ≤ b1) (hb2 : No b2 ∨ w0.heap.size ≤ b2) (hl1 : l1.length = n1) (hl2 : l2.length = n2) (hG1 : Good l1) (hG2 : Good l2) (hH : Has l1 l2 (itsOf ts))
    (htl : ts.length = len) (hlen : len ≤ 3000) (hV : ∀ t ∈ ts, VT t) (hT : TokIn w0 a ts) (hTn : ∀ b o, a = some ⟨b, o, none⟩ → ts ≠ [] → No b) (hNo : ∀ g, w0.heap.size ≤ g → ¬ No g) (hS : S.length + 60 * len ≤ 280000) :
    Calls Tryz.prog 34 #[.slice a len cap, .agg #[CV gc gl gr, CV hc hl hr, .func (.func 14) #[.pointer (some ⟨rb, 0, none⟩)] #[]]] w3 fun e w' => e = .returned (.tuple #[]) ∧ Rp No B w0 rb (S ++ putIs l1 l2 (itsOf ts)) w' := by
  have hz3 := hB3.size
  have hi := itsOf_len ts
  have hlt := h.lt
  have hba := h.base
  have hK := put_snk (fun g => (W.heap.size ≤ g ∨ g = b1 ∨ g = b2) ∧ g < w3.heap.size) B rb S l1 l2 gc gl gr hc hl hr b1 o1 n1 c1 b2 o2 n2 c2 (itsOf ts) hl1 hl2 hG1 hG2 hH (itsOf_vi hV) (by omega)
  have hJ : PJ (fun g => (W.heap.size ≤ g ∨ g = b1 ∨ g = b2) ∧ g < w3.heap.size) B rb S l1 l2 gc gl gr hc hl hr b1 o1 n1 c1 b2 o2 n2 c2 No [] w3 := by
    refine ⟨?_, hC1.bound, hC2.bound, fun g hg => hg.2⟩
    have e : S ++ putIs l1 l2 [] = S := by simp [putIs]
    rw [e]
    refine h.grow hB3 (fun g e => ?_)
    rcases e with e | ⟨e | e | e, _⟩
    · exact .inl e
    · exact .inr (by omega)
    · rw [e]; exact hb1
    · rw [e]; exact hb2
  refine (pass_any _ No B _ _ _ _ _ _ a len cap ts w3 hK htl hlen hV (hT.below hB3 (Nat.le_refl _)) hTn (by omega) hJ (fun g hg => hNo g (by omega))).mono ?_
  rintro e w' ⟨rfl, hJ', hB', hK'⟩
  refine ⟨rfl, hJ'.row.grow (Below.refl _ _) (fun g e => .inl (.inl e)), (hB3.mono (by omega)).trans hB', fun g hg hn => (hK' g (by omega) hn).trans (hB3.block g hg)⟩

theorem part_set (l : List Int) (k : Nat) (hk : k < l.length) : (l.take k ++ List.replicate (l.length - k) 0).set k (l.getD k 0) = l.take (k + 1) ++ List.replicate (l.length - (k + 1)) 0 := by
  have h1 : (l.take k).length = k := by simp; omega
  rw [List.set_append_right _ _ (by omega), h1, Nat.sub_self]
  obtain ⟨q, hq⟩ : ∃ q, l.length - k = q + 1 := ⟨l.length - k - 1, by omega⟩
  have e : l.take (k + 1) = l.take k ++ [l.getD k 0] := by rw [List.take_add_one]; simp [List.getD, hk]
  rw [hq, List.replicate_succ, List.set_cons_zero, e, show l.length - (k + 1) = q by omega]
  simp
theorem fixA_at : (List.range 288).all (fun k => fixA.getD k 0 == (if k < 144 then 8 else if k < 256 then 9 else if k < 280 then 7 else 8)) = true := by decide +kernel
theorem fixA_is {k : Nat} (h : k < 288) : fixA.getD k 0 = if k < 144 then 8 else if k < 256 then 9 else if k < 280 then 7 else 8 := by
  have := List.all_eq_true.1 fixA_at k (by simpa using h)
  simpa using this
theorem fixB_at : (List.range 32).all (fun k => fixB.getD k 0 == 5) = true := by decide +kernel
theorem fixB_is {k : Nat} (h : k < 32) : fixB.getD k 0 = 5 := by
  have := List.all_eq_true.1 fixB_at k (by simpa using h)
  simpa using this
theorem fixA_good : Good fixA := errL_good (by decide +kernel)
theorem fixB_good : Good fixB := errL_good (by decide +kernel)
theorem fixA_len : fixA.length = 288 := by decide +kernel
theorem fixB_len : fixB.length = 32 := by decide
theorem fix_has {ts : List Tk} (hV : ∀ t ∈ ts, VT t) : Has fixA fixB (itsOf ts) := by
  have hi := itsOf_vi hV
  refine ⟨fun k hk => ?_, fun k hk => ?_⟩
  · have h : k < 286 := hi _ hk
    refine ⟨by rw [fixA_len]; omega, ?_⟩
    rw [fixA_is (by omega)]
    split
    · decide
    · split
      · decide
      · split <;> decide
  · have h : k < 30 := hi _ hk
    exact ⟨by rw [fixB_len]; omega, by rw [fixB_is (by omega)]; decide⟩
theorem info288 : (Tryz.prog.info? 78).map (·.size) = some 288 := by kernel_rfl
theorem info32 : (Tryz.prog.info? 79).map (·.size) = some 32 := by kernel_rfl

set_option maxHeartbeats 2000000 in
theorem fixed_own (w : World) : Calls Tryz.prog 33 #[] w fun e w' => e = .returned (.tuple #[.agg (iv fixA).toArray, .agg (iv fixB).toArray]) ∧ Below w.heap.size w w' := by
  have hB0 : Below w.heap.size w ((w.alloc (.cells (iv (List.replicate 288 0)).toArray 78)).alloc (.cells (iv (List.replicate 32 0)).toArray 79)) := ((Below.refl w.heap.size w).alloc (Nat.le_refl _) _).alloc (by simp) _
  have HB0 := hide hB0
  obtain ⟨FA, hFA⟩ : ∃ FA, fixA = FA := ⟨_, rfl⟩
  have hlA := fixA_len
  have hA := @fixA_is
  rw [hFA] at hlA
  simp only [hFA] at hA
  have HFA := hide hFA
  clear hB0 hFA
  go_enter Tryz.func33, Tryz.ntmps33
  go_wp2
  go_loopw [4] (fun i wr => ∃ k : Nat, k ≤ 288 ∧ i = .int .i64 (k : Int) ∧ Hid (ARow 78 wr w.heap.size (FA.take k ++ List.replicate (FA.length - k) 0) ∧ ARow 79 wr (w.heap.size + 1) (List.replicate 32 0) ∧ Below w.heap.size w wr)) (fun i _ => 288 - (intOf i).toNat)
  case atStart =>
    refine ⟨0, by decide, rfl, hide ⟨?_, ?_, unhide HB0⟩⟩
    · rw [hlA]; exact (Below.heap_alloc _ _ _ (by simp)).trans ((heap_alloc_new _ _).trans (by kernel_rfl))
    · have e : w.heap.size + 1 = (w.alloc (.cells (iv (List.replicate 288 0)).toArray 78)).heap.size := by simp
      rw [e]
      exact (heap_alloc_new _ _).trans (by kernel_rfl)
  case round =>
    obtain ⟨k, hk, rfl, hst⟩ := hrel
    by_cases hlt : k < 288
    · obtain ⟨s1, s2, s3⟩ := unhide hst
      have hl1 : (FA.take k ++ List.replicate (FA.length - k) 0).length = 288 := by simp; omega
      have c := s1.cell k (by omega)
      have f := s1.frozen k
      have HV := hA hlt
      have HST : Hid (∀ v : Int, v = FA.getD k 0 → ARow 78 (wr.setCell ⟨w.heap.size, k, none⟩ (.int .i64 v)) w.heap.size (FA.take (k + 1) ++ List.replicate (FA.length - (k + 1)) 0) ∧ ARow 79 (wr.setCell ⟨w.heap.size, k, none⟩ (.int .i64 v)) (w.heap.size + 1) (List.replicate 32 0) ∧ Below w.heap.size w (wr.setCell ⟨w.heap.size, k, none⟩ (.int .i64 v))) := by
        intro v hv
        have hgr := grown_setCell wr w.heap.size k (.int .i64 v)
        refine ⟨?_, s2.keep (hgr.block _ s2.lt (fun e => by have := Option.some.inj e; omega)), s3.grown hgr s3.size (fun j e => by rw [← Option.some.inj e]; exact Nat.le_refl _)⟩
        have := s1.set k v
        rw [hv, part_set FA k (by omega)] at this
        rw [hv]; exact this
      have hkI : (k : Int) < 288 := by omega
      clear hst s1 s2 s3 hl1 hA
      generalize (FA.take k ++ List.replicate (FA.length - k) 0).getD k 0 = old at c
      by_cases h1 : k < 144
      · rw [if_pos h1] at HV
        have h1I : (k : Int) < 144 := by omega
        have HF := hide (unhide HST 8 HV.symm)
        clear HST HV
        go_wp2
        go_roundw
        case rel => exact ⟨k + 1, by omega, by go_num, HF⟩
        case measure => simp [intOf]; omega
      · rw [if_neg h1] at HV
        have h1I : ¬ (k : Int) < 144 := by omega
        by_cases h2 : k < 256
        · rw [if_pos h2] at HV
          have h2I : (k : Int) < 256 := by omega
          have HF := hide (unhide HST 9 HV.symm)
          clear HST HV
          go_wp2
          go_roundw
          case rel => exact ⟨k + 1, by omega, by go_num, HF⟩
          case measure => simp [intOf]; omega
        · rw [if_neg h2] at HV
          have h2I : ¬ (k : Int) < 256 := by omega
          by_cases h3 : k < 280
          · rw [if_pos h3] at HV
            have h3I : (k : Int) < 280 := by omega
            have HF := hide (unhide HST 7 HV.symm)
            clear HST HV
            go_wp2
            go_roundw
            case rel => exact ⟨k + 1, by omega, by go_num, HF⟩
            case measure => simp [intOf]; omega
          · rw [if_neg h3] at HV
            have h3I : ¬ (k : Int) < 280 := by omega
            have HF := hide (unhide HST 8 HV.symm)
            clear HST HV
            go_wp2
            go_roundw
            case rel => exact ⟨k + 1, by omega, by go_num, HF⟩
            case measure => simp [intOf]; omega
    · obtain rfl : k = 288 := by omega
      have HS : Hid (ARow 78 wr w.heap.size FA ∧ ARow 79 wr (w.heap.size + 1) (List.replicate 32 0) ∧ Below w.heap.size w wr) := by
        have := unhide hst
        rw [List.take_of_length_le (by omega), hlA, Nat.sub_self, List.replicate_zero, List.append_nil] at this
        exact hide this
      clear hst hA
      generalize wr = wl at *
      go_wp2
      go_loopw [25] (fun i wr => ∃ k : Nat, k ≤ 32 ∧ i = .int .i64 (k : Int) ∧ Hid (ARow 78 wr w.heap.size FA ∧ ARow 79 wr (w.heap.size + 1) (fixB.take k ++ List.replicate (fixB.length - k) 0) ∧ Below w.heap.size w wr)) (fun i _ => 32 - (intOf i).toNat)
      case atStart => exact ⟨0, by decide, rfl, HS⟩
      case round =>
        obtain ⟨k, hk, rfl, hst⟩ := hrel
        by_cases hlt : k < 32
        · obtain ⟨s1, s2, s3⟩ := unhide hst
          have hl1 : (fixB.take k ++ List.replicate (fixB.length - k) 0).length = 32 := by simp [fixB_len]; omega
          have c := s2.cell k (by omega)
          have f := s2.frozen k
          have HF : Hid (ARow 78 (wr.setCell ⟨w.heap.size + 1, k, none⟩ (.int .i64 5)) w.heap.size FA ∧ ARow 79 (wr.setCell ⟨w.heap.size + 1, k, none⟩ (.int .i64 5)) (w.heap.size + 1) (fixB.take (k + 1) ++ List.replicate (fixB.length - (k + 1)) 0) ∧ Below w.heap.size w (wr.setCell ⟨w.heap.size + 1, k, none⟩ (.int .i64 5))) := by
            have hgr := grown_setCell wr (w.heap.size + 1) k (.int .i64 5)
            refine ⟨s1.keep (hgr.block _ s1.lt (fun e => by have := Option.some.inj e; omega)), ?_, s3.grown hgr s3.size (fun j e => by rw [← Option.some.inj e]; omega)⟩
            have := s2.set k 5
            rw [← fixB_is hlt, part_set fixB k (by rw [fixB_len]; exact hlt)] at this
            rw [← fixB_is hlt]; exact this
          have hkI : (k : Int) < 32 := by omega
          clear hst s1 s2 s3 hl1
          generalize (fixB.take k ++ List.replicate (fixB.length - k) 0).getD k 0 = old at c
          go_wp2
          go_roundw
          case rel => exact ⟨k + 1, by omega, by go_num, HF⟩
          case measure => simp [intOf]; omega
        · obtain rfl : k = 32 := by omega
          have hs0 := unhide hst
          rw [List.take_of_length_le (by rw [fixB_len]; omega), fixB_len, Nat.sub_self] at hs0
          simp only [List.replicate_zero, List.append_nil] at hs0
          obtain ⟨hs, hf, hBw⟩ := hs0
          have HB := hide hBw
          clear hst HS hBw
          have hlB := fixB_len
          obtain ⟨ys, hys⟩ : ∃ ys, fixB = ys := ⟨_, rfl⟩
          rw [hys] at hf hlB
          have HYS := hide hys
          clear hys
          have hi1 : (Tryz.prog.info? 78).map (·.size) = some (iv FA).length := by rw [info288]; simp [hlA]
          have hi2 : (Tryz.prog.info? 79).map (·.size) = some (iv ys).length := by rw [info32]; simp [hlB]
          have hi1' : (Tryz.prog.info? 78).map (·.size) = some (iv FA).toArray.size := by rw [info288]; simp [hlA]
          have hi2' : (Tryz.prog.info? 79).map (·.size) = some (iv ys).toArray.size := by rw [info32]; simp [hlB]
          have hu1 := Tryz.underlying78
          have hu2 := Tryz.underlying79
          go_wp2
          refine wp_region_held_drew (S := fun w' => ARow 78 w' w.heap.size FA ∧ ARow 79 w' (w.heap.size + 1) ys) (by kernel_rfl) ⟨hs, hf⟩ (fun hHeld => ?_)
          refine wpAnyH_take (i := 0) (oi := { dst := some 31, op := .load 78 (.tmp 0), type := 78, pos := "layout.go:54", after := #[], guard := none }) (v := _) rfl (by kernel_rfl) (by kernel_rfl) (by kernel_rfl) (fun _ _ _ h => h) (yieldsIf_load_mid (by rfl) _ _ rfl _ _ rfl _ _ (fun _ h => h.1.range) hu1 rfl hi1) hHeld ?_
          simp only [Act.put, List.setIfInBounds_toArray, List.set_cons_zero, List.set_cons_succ]
          refine wpAnyH_take (i := 1) (oi := { dst := some 32, op := .load 79 (.tmp 1), type := 79, pos := "layout.go:54", after := #[{ on := 2, ground := .gcOnly .lateStores }], guard := none }) (v := _) rfl (by kernel_rfl) (by kernel_rfl) (by kernel_rfl) (fun _ _ _ h => h) (yieldsIf_load_mid (by rfl) _ _ rfl _ _ rfl _ _ (fun _ h => h.2.range) hu2 rfl hi2) hHeld ?_
          simp only [Act.put, List.setIfInBounds_toArray, List.set_cons_zero, List.set_cons_succ]
          refine wpAnyH_ready (rs := [2]) (by kernel_rfl) (by simp) (AllReadyH.cons rfl (fun K hK => ?_) AllReadyH.nil)
          refine step_store_same rfl 78 (.tmp 0) (.tmp 31) rfl w.heap.size FA rfl rfl hHeld.1 hi1' ?_
          simp only [Act.put]
          refine hK.out _ _ hHeld (fun hHeld1 => ?_)
          clear hK K hHeld
          refine wpAnyH_ready (rs := [3]) (by kernel_rfl) (by simp) (AllReadyH.cons rfl (fun K hK => ?_) AllReadyH.nil)
          refine step_store_same rfl 79 (.tmp 1) (.tmp 32) rfl (w.heap.size + 1) ys rfl rfl hHeld1.2 hi2' ?_
          simp only [Act.put]
          refine hK.out _ _ hHeld1 (fun hHeld2 => ?_)
          clear hK K hHeld1
          refine wpAnyH_done (by kernel_rfl) ?_ _
          go_wp2
          refine bodyPost_ret (v := .tuple #[.agg (iv FA).toArray, .agg (iv ys).toArray]) ?_ rfl ⟨by rw [unhide HFA, unhide HYS], (unhide HB).drew⟩
          exact results_cells rfl _ _ w.heap.size (w.heap.size + 1) _ _ rfl rfl (hHeld2.1.load hu1 rfl hi1') (hHeld2.2.load hu2 rfl hi2')

theorem two_arrays (w w1 : World) (x y : Array Value) (T1 T2 : TypeId) (FA FB : List Int) (hB : Below w.heap.size w w1) (hw : (w1.alloc (.cells x T1)).heap.size = w1.heap.size + 1) :
    ARow T1 ((((w1.alloc (.cells x T1)).alloc (.cells y T2)).setRow w1.heap.size (iv FA).toArray).setRow (w1.heap.size + 1) (iv FB).toArray) w1.heap.size FA ∧ ARow T2 ((((w1.alloc (.cells x T1)).alloc (.cells y T2)).setRow w1.heap.size (iv FA).toArray).setRow (w1.heap.size + 1) (iv FB).toArray) (w1.heap.size + 1) FB ∧ Below w.heap.size w ((((w1.alloc (.cells x T1)).alloc (.cells y T2)).setRow w1.heap.size (iv FA).toArray).setRow (w1.heap.size + 1) (iv FB).toArray) := by
  have h1 : ((w1.alloc (.cells x T1)).alloc (.cells y T2)).heap[w1.heap.size]? = some (.cells x T1 (0, 0)) := (Below.heap_alloc _ _ _ (by simp)).trans (heap_alloc_new _ _)
  have h2 : ((w1.alloc (.cells x T1)).alloc (.cells y T2)).heap[w1.heap.size + 1]? = some (.cells y T2 (0, 0)) := by rw [← hw]; exact heap_alloc_new _ _
  refine ⟨?_, ?_, ?_⟩
  · unfold ARow
    rw [Go.setRow_other _ _ _ _ (by omega)]
    exact setRow_heap _ _ _ _ _ _ h1
  · unfold ARow
    exact setRow_heap _ _ y _ _ _ ((Go.setRow_other _ _ _ _ (by omega)).trans h2)
  · have hz := hB.size
    exact below_setRow (below_setRow ((hB.alloc hz _).alloc (by simp; omega) _) (by omega) _) (by omega) _

set_option maxHeartbeats 4000000 in
theorem putFixed_any (No : Nat → Prop) (B rb : Nat) (a : Option Addr) (len cap : Nat) (ts : List Tk) (S : List Bool) (w : World) (h : RIs No B w rb S) (htl : ts.length = len) (hlen : len ≤ 3000) (hV : ∀ t ∈ ts, VT t) (hT : TokIn w a ts) (hTn : ∀ b o, a = some ⟨b, o, none⟩ → ts ≠ [] → No b) (hNo : ∀ g, w.heap.size ≤ g → ¬ No g) (hS : S.length + 60 * len ≤ 280000) :
    Calls Tryz.prog 17 #[.pointer (some ⟨rb, 0, none⟩), .slice a len cap] w fun e w' => e = .returned (.tuple #[]) ∧ Rp No B w rb (S ++ fixBits ts) w' := by
  have HP := hide (fun (W w3 : World) (gc gl gr hc hl hr b1 b2 : Nat) hz hB3 hC1 hC2 hb1 hb2 => pass_put No B rb a len cap ts S b1 0 288 288 b2 0 32 32 fixA fixB gc gl gr hc hl hr w W w3 h hz hB3 hC1 hC2 hb1 hb2 fixA_len fixB_len fixA_good fixB_good (fix_has hV) htl hlen hV hT hTn hNo hS)
  obtain ⟨FA, hFA⟩ : ∃ FA, fixA = FA := ⟨_, rfl⟩
  obtain ⟨FB, hFB⟩ : ∃ FB, fixB = FB := ⟨_, rfl⟩
  have hlA := fixA_len
  have hlB := fixB_len
  have hgA := fixA_good
  have hgB := fixB_good
  have HF := hide (fixed_own w)
  have hE : fixBits ts = putIs FA FB (itsOf ts) := by unfold fixBits; rw [hFA, hFB]
  rw [hE]
  simp only [hFA, hFB] at HP HF hlA hlB hgA hgB
  have HGA := hide hgA
  have HGB := hide hgB
  clear h hV hT hTn hNo hFA hFB hE hgA hgB
  have hi1 : (Tryz.prog.info? 78).map (·.size) = some (iv FA).toArray.size := by rw [info288]; simp [hlA]
  have hi2 : (Tryz.prog.info? 79).map (·.size) = some (iv FB).toArray.size := by rw [info32]; simp [hlB]
  go_enter Tryz.func17, Tryz.ntmps17
  go_wp2_with fail
  refine (unhide HF).mono ?_
  rintro e w1 ⟨rfl, hB1⟩
  have hz1 := hB1.size
  have HB1 := hide hB1
  clear hB1
  have A1 : ((w1.alloc (.cells (iv (List.replicate 288 0)).toArray 78)).alloc (.cells (iv (List.replicate 32 0)).toArray 79)).heap[w1.heap.size]? = some (.cells (iv (List.replicate 288 0)).toArray 78 (0, 0)) := (Below.heap_alloc _ _ _ (by simp)).trans (heap_alloc_new _ _)
  have A2 : (((w1.alloc (.cells (iv (List.replicate 288 0)).toArray 78)).alloc (.cells (iv (List.replicate 32 0)).toArray 79)).setRow w1.heap.size (iv FA).toArray).heap[w1.heap.size + 1]? = some (.cells (iv (List.replicate 32 0)).toArray 79 (0, 0)) := by
    rw [Go.setRow_other _ _ _ _ (by omega)]
    have e : w1.heap.size + 1 = (w1.alloc (.cells (iv (List.replicate 288 0)).toArray 78)).heap.size := by simp
    rw [e]
    exact heap_alloc_new _ _
  have HA1 := hide A1
  have HA2 := hide A2
  have HT := hide (fun x y => two_arrays w w1 x y 78 79 FA FB (unhide HB1) (by simp))
  clear A1 A2
  go_upto_region 1 with (first | refine wpList_store_row rfl 78 (.tmp 4) (.tmp 8) rfl w1.heap.size _ rfl rfl 78 (iv (List.replicate 288 0)).toArray (unhide HA1) hi1 (by simp [hlA]) (iv_all_one FA) ?_ | refine wpList_store_row rfl 79 (.tmp 5) (.tmp 9) rfl (w1.heap.size + 1) _ rfl rfl 79 (iv (List.replicate 32 0)).toArray (unhide HA2) hi2 (by simp [hlB]) (iv_all_one FB) ?_)
  simp only [Act.put]
  generalize hW2 : World.setRow (World.setRow (World.alloc (World.alloc _ _) _) _ _) _ _ = W2
  have t1 : ARow 78 W2 w1.heap.size FA := by rw [← hW2]; exact (unhide HT _ _).1
  have t2 : ARow 79 W2 (w1.heap.size + 1) FB := by rw [← hW2]; exact (unhide HT _ _).2.1
  have t3 : Below w.heap.size w W2 := by rw [← hW2]; exact (unhide HT _ _).2.2
  have hzW := t3.size
  have HPT := hide (fun k => putter_any w1.heap.size 0 288 288 (w1.heap.size + 1) 0 32 32 rb FA FB (W2.drewN k) hlA hlB (by decide) (by decide) t1.lt t2.lt t1.row t2.row (unhide HGA) (unhide HGB))
  have HT3 := hide t3
  clear hW2 HT HA1 HA2 t1 t2 t3
  go_region_with (first | (go_at_call 35; refine (unhide HPT _).mono ?_; rintro e w3 ⟨gc, gl, gr, hc, hl, hr, rfl, hC1, hC2, hB3⟩; have HC1 := hide hC1; have HC2 := hide hC2; have HB3 := hide hB3; clear hC1 hC2 hB3) | (go_at_call 34; refine (unhide HP W2 w3 gc gl gr hc hl hr w1.heap.size (w1.heap.size + 1) hzW ((below_drewN (unhide HT3) _).trans ((unhide HB3).mono hzW)) (unhide HC1) (unhide HC2) (.inr hz1) (.inr (by omega))).mono ?_; rintro e w4 ⟨rfl, hR⟩; have HR := hide hR; clear hR))
  all_goals try go_wp2
  all_goals go_end0
  all_goals exact ⟨rfl, unhide HR⟩
end Go.Proofs.YtekgcoajgbpniacGreat

/-
  The library's slices.Grow of nothing.
-/
namespace Go.Proofs.YtekgcoajgbpniacGreat
open Go.RowKit
set_option linter.unusedVariables false
set_option maxRecDepth 100000

theorem zeros_int (n : Nat) : (Builtin.zeroCells (Value.int .i64 0).cells n).toList = iv (List.replicate n 0) := by
  show (Builtin.zeroCells #[Value.int .i64 0] n).toList = _
  unfold Builtin.zeroCells
  apply List.ext_getElem?
  intro i
  by_cases h : i < n
  · simp [h, Nat.mod_one]
  · simp [h]

/-- 'append(nil, make([]int, n)...)' -/
theorem run_append_make (w : World) (ty : TypeId) (n : Nat) (h0 : 0 < n) (hn : n ≤ 100000) :
    ∃ c w', (Builtin.append_ #[23, 3] ty #[.slice none 0 0, .int .i64 (n : Int)]).run Tryz.prog w = .ok (.slice (some ⟨w.heap.size, 0, none⟩) n c) w' ∧ n ≤ c ∧ c ≤ maxLen ∧ w'.heap[w.heap.size]? = some (.cells (iv (List.replicate c 0)).toArray 3 (0, 0)) ∧ w.grownBy w' none := by
  obtain ⟨i0, hi, hz0, hz1, hz2⟩ := info_parts info_int
  have hge := grownCap_ge w n 0 3
  have hle := grownCap_le_maxLen w n 0 3 (by unfold maxLen; omega)
  have hnz : n ≠ 0 := by omega
  have h63' : ¬ (9223372036854775807 < (n : Int)) := by omega
  have hneg : ¬ ((n : Int) < 0) := by omega
  have h48 : ¬ (281474976710656 < (n : Int) * 8) := by omega
  have h48' : ¬ (281474976710656 < Builtin.nextslicecap n 0 * 8) := by rw [nextslicecap_zero h0]; omega
  have hw : IntKind.i64.wrap (n : Int) = (n : Int) := by simp [IntKind.wrap, IntKind.signed, IntKind.bits]; omega
  refine ⟨grownCap w n 0 3, w.drew.alloc (.cells (Builtin.zeroCells (Value.int .i64 0).cells n ++ Builtin.zeroCells (Value.int .i64 0).cells (grownCap w n 0 3 - n)) 3), ?_, hge, hle, ?_, ?_⟩
  · simp [Builtin.append_, run_underlying Tryz.underlying23, run_underlying Tryz.underlying3, sizeOf, typeInfo, zeroValue, hi, hz0, hz1, hz2, asInt, asIntOf, hw, hneg, h48, hnz, h63', h48', Question.forced, run_firstCells_none, newRow, grownCap]
  · have := heap_alloc_new w.drew (.cells (Builtin.zeroCells (Value.int .i64 0).cells n ++ Builtin.zeroCells (Value.int .i64 0).cells (grownCap w n 0 3 - n)) 3)
    rw [show w.drew.heap.size = w.heap.size from rfl] at this
    rw [this]
    congr 2
    apply Array.ext'
    rw [Array.toList_append, zeros_int, zeros_int]
    show _ = iv (List.replicate (grownCap w n 0 3) 0)
    unfold iv
    rw [← List.map_append, List.replicate_append_replicate]
    congr 2
    omega
  · exact ⟨rfl, rfl, rfl, by simp, fun k hk _ => Below.heap_alloc w.drew _ k hk⟩
theorem wpList_append_make (w : World) {ops : Array Oper} {rest : List Oper} {o : Oper} {a : Act} {Q : Exit → Act → World → Prop} (hgd : o.guard = none) (s x : Operand)
    (ho : o.op = .call { callee := .builtin .append, args := #[s, x], argTypes := #[23, 3] }) (n : Nat) (hs : a.eval s = .slice none 0 0) (hx : a.eval x = .int .i64 (n : Int)) (h0 : 0 < n) (hn : n ≤ 100000)
    (h : ∀ c w', n ≤ c → c ≤ maxLen → w'.heap[w.heap.size]? = some (.cells (iv (List.replicate c 0)).toArray 3 (0, 0)) → w.grownBy w' none → wpList Tryz.prog ops Q rest (a.put o.dst (.slice (some ⟨w.heap.size, 0, none⟩) n c)) w') :
    wpList Tryz.prog ops Q (o :: rest) a w := by
  refine wpList_plain hgd fun K hK => ?_
  obtain ⟨c, w', hr, h2, h3, h4, h5⟩ := run_append_make w o.type n h0 hn
  unfold Oper.wp execOp
  simp only [ho, resolve, invoke, builtin, Sem.run_bind, Sem.run_pure, Result.andThen_ok, List.map_toArray, List.map_cons, List.map_nil, hs, hx, hr]
  exact hK _ _ (h c w' h2 h3 h4 h5)

theorem grow_nil (n : Nat) (w : World) (h0 : 0 < n) (hn : n ≤ 100000) : Calls Tryz.prog 55 #[.slice none 0 0, .int .i64 (n : Int)] w fun e w' => ∃ c, e = .returned (.slice (some ⟨w.heap.size, 0, none⟩) 0 c) ∧ w'.ownsRow w.heap.size 3 1 (.slice (some ⟨w.heap.size, 0, none⟩) 0 c) 0 (iv []) ∧ Below w.heap.size w w' := by
  go_enter Tryz.func55, Tryz.ntmps55
  go_wp2_with (refine wpList_append_make w rfl (.tmp 20) (.tmp 21) rfl n rfl rfl h0 hn ?_)
  intro c w2 hc1 hc2 hg hgr
  have HB := hide (below_none (Below.refl w.heap.size w) hgr (Nat.le_refl _))
  have HO : Hid (w2.ownsRow w.heap.size 3 1 (.slice (some ⟨w.heap.size, 0, none⟩) 0 c) 0 (iv [])) := ⟨rfl, .inr ⟨w.heap.size, c, _, rfl, Nat.le_refl _, hg, Nat.zero_le _, hc2, by simp, rfl⟩⟩
  clear hg hgr
  go_wp2
  go_ret
  exact ⟨c, rfl, unhide HO, unhide HB⟩
end Go.Proofs.YtekgcoajgbpniacGreat
