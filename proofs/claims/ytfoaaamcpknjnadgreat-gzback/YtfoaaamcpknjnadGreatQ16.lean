/-
  Package inflate: a decoder of any lengths; what is newer than a point; the reader's rows stay where they are.
-/
import Derived.Test.YtfoaaamcpknjnadGreatQ15
import Derived.Test.YtfoaaamcpknjnadGreatQ2
import Derived.Deep.DeepCutAuto
import Derived.Test.YtfoaaamcpknjnadGreatQ5
namespace Go.Proofs.YtfoaaamcpknjnadGreat
open Go.RowKit
set_option linter.unusedVariables false
set_option maxRecDepth 100000

theorem decoder_err (b : Nat) (a : Option Addr) (len cap : Nat) (l : List Int) (w : World) (hl : l.length = len) (hM : len ≤ 1000000) (hR : RowIn .i64 w a l) (he : errL l ≠ 0) :
    Calls Tryz.prog 94 #[.pointer (some ⟨b, 0, none⟩), .slice a len cap] w fun e w' => e = Flt (errL l) ∧ Below w.heap.size w w' := by
  have HC := hide (codes_err a len cap l (w.alloc (.cells #[.pointer (some ⟨b, 0, none⟩)] 63)) hl (by omega) (hR.alloc _) he)
  have HA : Hid (Below w.heap.size w (w.alloc (.cells #[.pointer (some ⟨b, 0, none⟩)] 63))) := hide ((Below.refl _ _).alloc (Nat.le_refl _) _)
  have hb : (errL l != 0) = true := by rw [bne_iff_ne]; exact he
  obtain ⟨E, hE⟩ : ∃ E, errL l = E := ⟨_, rfl⟩
  rw [hE] at HC hb ⊢
  clear hE he hR hl
  go_enter Tryz.func94, Tryz.ntmps94
  go_wp2_with fail
  refine (unhide HC).mono ?_
  rintro e w1 ⟨rfl, hB1⟩
  have HB1 : Hid (Below w.heap.size w w1) := hide ((unhide HA).trans (hB1.mono (by simp)))
  clear hB1
  go_wp2_with fail
  refine (giveUp_any E w1).mono ?_
  rintro e w2 ⟨rfl, rfl⟩
  go_wp2
  exact ⟨rfl, rfl, unhide HB1⟩

/-- a decoder is made, or the lengths are refused -/
def Deco (b : Nat) (l : List Int) (w : World) (e : Ending) (w' : World) : Prop :=
  Below w.heap.size w w' ∧ ((errL l = 0 ∧ ∃ gr gm mb nn, e = .returned (DV gr gm) ∧ w.heap.size ≤ gr ∧ w.heap.size ≤ gm ∧ w.heap.size ≤ mb ∧ mb < w'.heap.size ∧ DIs w' gr gm mb nn b l) ∨ (errL l ≠ 0 ∧ e = Flt (errL l)))
theorem decoder_any (b : Nat) (a : Option Addr) (len cap : Nat) (l : List Int) (w : World) (hl : l.length = len) (hM : len ≤ 1000000) (hR : RowIn .i64 w a l) :
    Calls Tryz.prog 94 #[.pointer (some ⟨b, 0, none⟩), .slice a len cap] w fun e w' => Deco b l w e w' := by
  by_cases he : errL l = 0
  · refine (decoder_ok b a len cap l w hl hR (errL_good he)).mono ?_
    rintro e w' ⟨gr, gm, mb, nn, h1, h2, h3, h4, h5, h6, h7⟩
    exact ⟨h7, .inl ⟨he, gr, gm, mb, nn, h1, h2, h3, h4, h5, h6⟩⟩
  · refine (decoder_err b a len cap l w hl hM hR he).mono ?_
    rintro e w' ⟨h1, h2⟩
    exact ⟨h2, .inr ⟨he, h1⟩⟩

/-- what must stay, and all that is newer than N -/
def NJ (No : Nat → Prop) (N : Nat) : Nat → Prop := fun g => No g ∨ N ≤ g
/-- what must stay, and all from N up to M -/
def NK (No : Nat → Prop) (N M : Nat) : Nat → Prop := fun g => No g ∨ (N ≤ g ∧ g < M)
theorem IIs.back {No1 No2 : Nat → Prop} {B b : Nat} {w w' : World} {R f1 f2 g1 g2 : Value} {u u' : US} (h1 : IIs No1 B w b R f1 f2 u) (h2 : IIs No2 B w' b R g1 g2 u') (hK : KeptB b w w') : IIs No1 B w' b R g1 g2 u' := by
  obtain ⟨ov, kv, a2, a3, a4, a5, a6, a7, a8, a9⟩ := h1.rows
  obtain ⟨ov', kv', b2, b3, b4, b5, b6, b7, b8, b9⟩ := h2.rows
  have e2 : ov' = ov := by
    have := (b2.symm.trans (hK 2 (by decide))).trans a2
    exact Option.some.inj this
  have e3 : kv' = kv := by
    have := (b3.symm.trans (hK 3 (by decide))).trans a3
    exact Option.some.inj this
  subst e2
  subst e3
  exact ⟨h1.base, h1.no, ov', kv', b4, b5, b6, b7, a8, a9⟩
theorem IIs.newer {No : Nat → Prop} {B b : Nat} {w : World} {R f1 f2 : Value} {u : US} (h : IIs No B w b R f1 f2 u) : IIs (NJ No w.heap.size) B w b R f1 f2 u :=
  h.more (fun e => by
    rcases e with e | e
    · exact h.no e
    · have := h.lt; omega) (fun g hg => hg)
theorem IIs.weak {No No' : Nat → Prop} {B b : Nat} {w : World} {R f1 f2 : Value} {u : US} (h : IIs No B w b R f1 f2 u) (hn : ∀ g, No' g → No g) : IIs No' B w b R f1 f2 u :=
  h.more (fun e => h.no (hn b e)) (fun g hg => .inl (hn g hg))
theorem Rd.wide {w : World} {No No' : Nat → Prop} {a : Option Addr} {n : Nat} {bs : List Nat} (h : Rd w No a n bs) (hn : ∀ g, No g → No' g) : Rd w No' a n bs := ⟨h.len, h.few, h.byt, h.val, fun b' o' e1 e2 => hn _ (h.no b' o' e1 e2)⟩
theorem bl_of {No : Nat → Prop} {B : Nat} {w w' : World} (h : Below w.heap.size w w') (hB : B ≤ w.heap.size) : Bl No B w w' := ⟨h.mono hB, fun g hg _ => h.block g hg⟩
theorem IIs.past {No : Nat → Prop} {B b : Nat} {w w' : World} {R f1 f2 : Value} {u : US} (h : IIs No B w b R f1 f2 u) (hB : Below w.heap.size w w') : IIs No B w' b R f1 f2 u := by
  obtain ⟨ov, kv, h1, h2, h3, h4⟩ := h.ex
  exact ⟨h.base, h.no, ov, kv, (hB.block b h.lt).trans h1, own_kp h2 (fun g hg => hB.block g (h2.lt g hg).2), own_kp h3 (fun g hg => hB.block g (h3.lt g hg).2), h4⟩

/-- the reader behind a reading that was begun in w and left its rows where they were; No stays -/
structure Rk (No : Nat → Prop) (B : Nat) (w : World) (b : Nat) (R f1 f2 : Value) (u : US) (w' : World) : Prop where
  is : IIs (NJ No w.heap.size) B w' b R f1 f2 u
  bl : Bl No B w w'
theorem Rk.refl {No : Nat → Prop} {B b : Nat} {w : World} {R f1 f2 : Value} {u : US} (h : IIs No B w b R f1 f2 u) : Rk No B w b R f1 f2 u w := ⟨h.newer, Bl.refl _ _ _⟩
/-- a step that leaves all that is newer -/
theorem Rk.num {No : Nat → Prop} {B b : Nat} {w w1 w2 : World} {R f1 f2 : Value} {u v : US} (h : Rk No B w b R f1 f2 u w1) (k : IUp (NJ No w.heap.size) B w1 b R f1 f2 v w2) : Rk No B w b R f1 f2 v w2 := ⟨k.is, h.bl.trans ⟨k.below, k.kp.weaken (fun _ h => .inl h)⟩⟩
/-- a step that makes new things alone -/
theorem Rk.past {No : Nat → Prop} {B b : Nat} {w w1 w2 : World} {R f1 f2 : Value} {u : US} (h : Rk No B w b R f1 f2 u w1) (k : Below w1.heap.size w1 w2) : Rk No B w b R f1 f2 u w2 := ⟨h.is.past k, h.bl.trans (bl_of k (Nat.le_trans h.is.base (Nat.le_of_lt h.is.lt)))⟩
theorem Rk.drewN {No : Nat → Prop} {B b : Nat} {w w1 : World} {R f1 f2 : Value} {u : US} (h : Rk No B w b R f1 f2 u w1) (q : Nat) : Rk No B w b R f1 f2 u (w1.drewN q) := h.past (below_drewN (Below.refl _ _) q)
/-- what such a reading gives -/
def GotR (No : Nat → Prop) (B : Nat) (w : World) (b : Nat) (R f1 f2 : Value) (u : US) (e : Ending) (w' : World) (Q : Prop) : Prop :=
  (u.e = 0 ∧ Q ∧ Rk No B w b R f1 f2 u w') ∨ (u.e ≠ 0 ∧ e = Flt u.e ∧ Bl No B w w')
end Go.Proofs.YtfoaaamcpknjnadGreat

/-
  Package layout: Order, FixedLengths.
-/
namespace Go.Proofs.YtfoaaamcpknjnadGreat
open Go.RowKit
set_option linter.unusedVariables false
set_option maxRecDepth 100000

theorem part_set (l : List Int) (k : Nat) (hk : k < l.length) : (l.take k ++ List.replicate (l.length - k) 0).set k (l.getD k 0) = l.take (k + 1) ++ List.replicate (l.length - (k + 1)) 0 := by
  have h1 : (l.take k).length = k := by simp; omega
  rw [List.set_append_right _ _ (by omega), h1, Nat.sub_self]
  obtain ⟨q, hq⟩ : ∃ q, l.length - k = q + 1 := ⟨l.length - k - 1, by omega⟩
  have e : l.take (k + 1) = l.take k ++ [l.getD k 0] := by rw [List.take_add_one]; simp [List.getD, hk]
  rw [hq, List.replicate_succ, List.set_cons_zero, e, show l.length - (k + 1) = q by omega]
  simp
theorem fixA_at : (List.range 288).all (fun k => fixA.getD k 0 == (if k < 144 then 8 else if k < 256 then 9 else if k < 280 then 7 else 8)) = true := by decide +kernel
theorem fixA_is {k : Nat} (h : k < 288) : fixA.getD k 0 = if k < 144 then 8 else if k < 256 then 9 else if k < 280 then 7 else 8 := by
  have := List.all_eq_true.1 fixA_at k (by simpa using h)
  simpa using this
theorem fixB_at : (List.range 32).all (fun k => fixB.getD k 0 == 5) = true := by decide +kernel
theorem fixB_is {k : Nat} (h : k < 32) : fixB.getD k 0 = 5 := by
  have := List.all_eq_true.1 fixB_at k (by simpa using h)
  simpa using this
theorem fixA_good : Good fixA := errL_good (by decide +kernel)
theorem fixB_good : Good fixB := errL_good (by decide +kernel)
theorem fixA_len : fixA.length = 288 := by decide +kernel
theorem fixB_len : fixB.length = 32 := by decide
theorem info288 : (Tryz.prog.info? 118).map (·.size) = some 288 := by kernel_rfl
theorem info32 : (Tryz.prog.info? 119).map (·.size) = some 32 := by kernel_rfl

set_option maxHeartbeats 2000000 in
theorem fixed_own (w : World) : Calls Tryz.prog 61 #[] w fun e w' => e = .returned (.tuple #[.agg (iv fixA).toArray, .agg (iv fixB).toArray]) ∧ Below w.heap.size w w' := by
  have hB0 : Below w.heap.size w ((w.alloc (.cells (iv (List.replicate 288 0)).toArray 118)).alloc (.cells (iv (List.replicate 32 0)).toArray 119)) := ((Below.refl w.heap.size w).alloc (Nat.le_refl _) _).alloc (by simp) _
  have HB0 := hide hB0
  obtain ⟨FA, hFA⟩ : ∃ FA, fixA = FA := ⟨_, rfl⟩
  have hlA := fixA_len
  have hA := @fixA_is
  rw [hFA] at hlA
  simp only [hFA] at hA
  have HFA := hide hFA
  clear hB0 hFA
  go_enter Tryz.func61, Tryz.ntmps61
  go_wp2
  go_loopw [4] (fun i wr => ∃ k : Nat, k ≤ 288 ∧ i = .int .i64 (k : Int) ∧ Hid (ARow 118 wr w.heap.size (FA.take k ++ List.replicate (FA.length - k) 0) ∧ ARow 119 wr (w.heap.size + 1) (List.replicate 32 0) ∧ Below w.heap.size w wr)) (fun i _ => 288 - (intOf i).toNat)
  case atStart =>
    refine ⟨0, by decide, rfl, hide ⟨?_, ?_, unhide HB0⟩⟩
    · rw [hlA]; exact (Below.heap_alloc _ _ _ (by simp)).trans ((heap_alloc_new _ _).trans (by kernel_rfl))
    · have e : w.heap.size + 1 = (w.alloc (.cells (iv (List.replicate 288 0)).toArray 118)).heap.size := by simp
      rw [e]
      exact (heap_alloc_new _ _).trans (by kernel_rfl)
  case round =>
    obtain ⟨k, hk, rfl, hst⟩ := hrel
    by_cases hlt : k < 288
    · obtain ⟨s1, s2, s3⟩ := unhide hst
      have hl1 : (FA.take k ++ List.replicate (FA.length - k) 0).length = 288 := by simp; omega
      have c := s1.cell k (by omega)
      have f := s1.frozen k
      have HV := hA hlt
      have HST : Hid (∀ v : Int, v = FA.getD k 0 → ARow 118 (wr.setCell ⟨w.heap.size, k, none⟩ (.int .i64 v)) w.heap.size (FA.take (k + 1) ++ List.replicate (FA.length - (k + 1)) 0) ∧ ARow 119 (wr.setCell ⟨w.heap.size, k, none⟩ (.int .i64 v)) (w.heap.size + 1) (List.replicate 32 0) ∧ Below w.heap.size w (wr.setCell ⟨w.heap.size, k, none⟩ (.int .i64 v))) := by
        intro v hv
        have hgr := grown_setCell wr w.heap.size k (.int .i64 v)
        refine ⟨?_, s2.keep (hgr.block _ s2.lt (fun e => by have := Option.some.inj e; omega)), s3.grown hgr s3.size (fun j e => by rw [← Option.some.inj e]; exact Nat.le_refl _)⟩
        have := s1.set k v
        rw [hv, part_set FA k (by omega)] at this
        rw [hv]; exact this
      have hkI : (k : Int) < 288 := by omega
      clear hst s1 s2 s3 hl1 hA
      generalize (FA.take k ++ List.replicate (FA.length - k) 0).getD k 0 = old at c
      by_cases h1 : k < 144
      · rw [if_pos h1] at HV
        have h1I : (k : Int) < 144 := by omega
        have HF := hide (unhide HST 8 HV.symm)
        clear HST HV
        go_wp2
        go_roundw
        case rel => exact ⟨k + 1, by omega, by go_num, HF⟩
        case measure => simp [intOf]; omega
      · rw [if_neg h1] at HV
        have h1I : ¬ (k : Int) < 144 := by omega
        by_cases h2 : k < 256
        · rw [if_pos h2] at HV
          have h2I : (k : Int) < 256 := by omega
          have HF := hide (unhide HST 9 HV.symm)
          clear HST HV
          go_wp2
          go_roundw
          case rel => exact ⟨k + 1, by omega, by go_num, HF⟩
          case measure => simp [intOf]; omega
        · rw [if_neg h2] at HV
          have h2I : ¬ (k : Int) < 256 := by omega
          by_cases h3 : k < 280
          · rw [if_pos h3] at HV
            have h3I : (k : Int) < 280 := by omega
            have HF := hide (unhide HST 7 HV.symm)
            clear HST HV
            go_wp2
            go_roundw
            case rel => exact ⟨k + 1, by omega, by go_num, HF⟩
            case measure => simp [intOf]; omega
          · rw [if_neg h3] at HV
            have h3I : ¬ (k : Int) < 280 := by omega
            have HF := hide (unhide HST 8 HV.symm)
            clear HST HV
            go_wp2
            go_roundw
            case rel => exact ⟨k + 1, by omega, by go_num, HF⟩
            case measure => simp [intOf]; omega
    · obtain rfl : k = 288 := by omega
      have HS : Hid (ARow 118 wr w.heap.size FA ∧ ARow 119 wr (w.heap.size + 1) (List.replicate 32 0) ∧ Below w.heap.size w wr) := by
        have := unhide hst
        rw [List.take_of_length_le (by omega), hlA, Nat.sub_self, List.replicate_zero, List.append_nil] at this
        exact hide this
      clear hst hA
      generalize wr = wl at *
      go_wp2
      go_loopw [25] (fun i wr => ∃ k : Nat, k ≤ 32 ∧ i = .int .i64 (k : Int) ∧ Hid (ARow 118 wr w.heap.size FA ∧ ARow 119 wr (w.heap.size + 1) (fixB.take k ++ List.replicate (fixB.length - k) 0) ∧ Below w.heap.size w wr)) (fun i _ => 32 - (intOf i).toNat)
      case atStart => exact ⟨0, by decide, rfl, HS⟩
      case round =>
        obtain ⟨k, hk, rfl, hst⟩ := hrel
        by_cases hlt : k < 32
        · obtain ⟨s1, s2, s3⟩ := unhide hst
          have hl1 : (fixB.take k ++ List.replicate (fixB.length - k) 0).length = 32 := by simp [fixB_len]; omega
          have c := s2.cell k (by omega)
          have f := s2.frozen k
          have HF : Hid (ARow 118 (wr.setCell ⟨w.heap.size + 1, k, none⟩ (.int .i64 5)) w.heap.size FA ∧ ARow 119 (wr.setCell ⟨w.heap.size + 1, k, none⟩ (.int .i64 5)) (w.heap.size + 1) (fixB.take (k + 1) ++ List.replicate (fixB.length - (k + 1)) 0) ∧ Below w.heap.size w (wr.setCell ⟨w.heap.size + 1, k, none⟩ (.int .i64 5))) := by
            have hgr := grown_setCell wr (w.heap.size + 1) k (.int .i64 5)
            refine ⟨s1.keep (hgr.block _ s1.lt (fun e => by have := Option.some.inj e; omega)), ?_, s3.grown hgr s3.size (fun j e => by rw [← Option.some.inj e]; omega)⟩
            have := s2.set k 5
            rw [← fixB_is hlt, part_set fixB k (by rw [fixB_len]; exact hlt)] at this
            rw [← fixB_is hlt]; exact this
          have hkI : (k : Int) < 32 := by omega
          clear hst s1 s2 s3 hl1
          generalize (fixB.take k ++ List.replicate (fixB.length - k) 0).getD k 0 = old at c
          go_wp2
          go_roundw
          case rel => exact ⟨k + 1, by omega, by go_num, HF⟩
          case measure => simp [intOf]; omega
        · obtain rfl : k = 32 := by omega
          have hs0 := unhide hst
          rw [List.take_of_length_le (by rw [fixB_len]; omega), fixB_len, Nat.sub_self] at hs0
          simp only [List.replicate_zero, List.append_nil] at hs0
          obtain ⟨hs, hf, hBw⟩ := hs0
          have HB := hide hBw
          clear hst HS hBw
          have hlB := fixB_len
          obtain ⟨ys, hys⟩ : ∃ ys, fixB = ys := ⟨_, rfl⟩
          rw [hys] at hf hlB
          have HYS := hide hys
          clear hys
          have hi1 : (Tryz.prog.info? 118).map (·.size) = some (iv FA).length := by rw [info288]; simp [hlA]
          have hi2 : (Tryz.prog.info? 119).map (·.size) = some (iv ys).length := by rw [info32]; simp [hlB]
          have hi1' : (Tryz.prog.info? 118).map (·.size) = some (iv FA).toArray.size := by rw [info288]; simp [hlA]
          have hi2' : (Tryz.prog.info? 119).map (·.size) = some (iv ys).toArray.size := by rw [info32]; simp [hlB]
          have hu1 := Tryz.underlying118
          have hu2 := Tryz.underlying119
          go_wp2
          refine wp_region_held_drew (S := fun w' => ARow 118 w' w.heap.size FA ∧ ARow 119 w' (w.heap.size + 1) ys) (by kernel_rfl) ⟨hs, hf⟩ (fun hHeld => ?_)
          refine wpAnyH_take (i := 0) (oi := { dst := some 31, op := .load 118 (.tmp 0), type := 118, pos := "layout.go:54", after := #[], guard := none }) (v := _) rfl (by kernel_rfl) (by kernel_rfl) (by kernel_rfl) (fun _ _ _ h => h) (yieldsIf_load_mid (by rfl) _ _ rfl _ _ rfl _ _ (fun _ h => h.1.range) hu1 rfl hi1) hHeld ?_
          simp only [Act.put, List.setIfInBounds_toArray, List.set_cons_zero, List.set_cons_succ]
          refine wpAnyH_take (i := 1) (oi := { dst := some 32, op := .load 119 (.tmp 1), type := 119, pos := "layout.go:54", after := #[{ on := 2, ground := .gcOnly .lateStores }], guard := none }) (v := _) rfl (by kernel_rfl) (by kernel_rfl) (by kernel_rfl) (fun _ _ _ h => h) (yieldsIf_load_mid (by rfl) _ _ rfl _ _ rfl _ _ (fun _ h => h.2.range) hu2 rfl hi2) hHeld ?_
          simp only [Act.put, List.setIfInBounds_toArray, List.set_cons_zero, List.set_cons_succ]
          refine wpAnyH_ready (rs := [2]) (by kernel_rfl) (by simp) (AllReadyH.cons rfl (fun K hK => ?_) AllReadyH.nil)
          refine step_store_same rfl 118 (.tmp 0) (.tmp 31) rfl w.heap.size FA rfl rfl hHeld.1 hi1' ?_
          simp only [Act.put]
          refine hK.out _ _ hHeld (fun hHeld1 => ?_)
          clear hK K hHeld
          refine wpAnyH_ready (rs := [3]) (by kernel_rfl) (by simp) (AllReadyH.cons rfl (fun K hK => ?_) AllReadyH.nil)
          refine step_store_same rfl 119 (.tmp 1) (.tmp 32) rfl (w.heap.size + 1) ys rfl rfl hHeld1.2 hi2' ?_
          simp only [Act.put]
          refine hK.out _ _ hHeld1 (fun hHeld2 => ?_)
          clear hK K hHeld1
          refine wpAnyH_done (by kernel_rfl) ?_ _
          go_wp2
          refine bodyPost_ret (v := .tuple #[.agg (iv FA).toArray, .agg (iv ys).toArray]) ?_ rfl ⟨by rw [unhide HFA, unhide HYS], (unhide HB).drew⟩
          exact results_cells rfl _ _ w.heap.size (w.heap.size + 1) _ _ rfl rfl (hHeld2.1.load hu1 rfl hi1') (hHeld2.2.load hu2 rfl hi2')

theorem two_arrays (w w1 : World) (x y : Array Value) (T1 T2 : TypeId) (FA FB : List Int) (hB : Below w.heap.size w w1) (hw : (w1.alloc (.cells x T1)).heap.size = w1.heap.size + 1) :
    ARow T1 ((((w1.alloc (.cells x T1)).alloc (.cells y T2)).setRow w1.heap.size (iv FA).toArray).setRow (w1.heap.size + 1) (iv FB).toArray) w1.heap.size FA ∧ ARow T2 ((((w1.alloc (.cells x T1)).alloc (.cells y T2)).setRow w1.heap.size (iv FA).toArray).setRow (w1.heap.size + 1) (iv FB).toArray) (w1.heap.size + 1) FB ∧ Below w.heap.size w ((((w1.alloc (.cells x T1)).alloc (.cells y T2)).setRow w1.heap.size (iv FA).toArray).setRow (w1.heap.size + 1) (iv FB).toArray) := by
  have h1 : ((w1.alloc (.cells x T1)).alloc (.cells y T2)).heap[w1.heap.size]? = some (.cells x T1 (0, 0)) := (Below.heap_alloc _ _ _ (by simp)).trans (heap_alloc_new _ _)
  have h2 : ((w1.alloc (.cells x T1)).alloc (.cells y T2)).heap[w1.heap.size + 1]? = some (.cells y T2 (0, 0)) := by rw [← hw]; exact heap_alloc_new _ _
  refine ⟨?_, ?_, ?_⟩
  · unfold ARow
    rw [Go.setRow_other _ _ _ _ (by omega)]
    exact setRow_heap _ _ _ _ _ _ h1
  · unfold ARow
    exact setRow_heap _ _ y _ _ _ ((Go.setRow_other _ _ _ _ (by omega)).trans h2)
  · have hz := hB.size
    exact below_setRow (below_setRow ((hB.alloc hz _).alloc (by simp; omega) _) (by omega) _) (by omega) _
def ordZ : List Int := [16, 17, 18, 0, 8, 7, 9, 6, 10, 5, 11, 4, 12, 3, 13, 2, 14, 1, 15]
theorem info19 : (Tryz.prog.info? 190).map (·.size) = some 19 := by kernel_rfl
theorem order_any (w : World) : Calls Tryz.prog 118 #[] w fun e w' => e = .returned (.agg (iv ordZ).toArray) ∧ Below w.heap.size w w' := by
  have hsz : (iv ordZ).toArray.size = 19 := by simp [ordZ]
  have hi1 : (Tryz.prog.info? 190).map (·.size) = some (iv ordZ).toArray.size := by rw [info19, hsz]
  obtain ⟨OZ, hOZ⟩ : ∃ OZ, ordZ = OZ := ⟨_, rfl⟩
  rw [hOZ] at hi1 hsz ⊢
  have HZ := hide hOZ
  clear hOZ
  go_enter Tryz.func118, Tryz.ntmps118
  go_upto_region 1 with (fail)
  refine wp_region_lit ?_
  refine wpList_build rfl 190 _ rfl (by kernel_rfl) ?_
  generalize hV : (Program.built _ _ _).getD #[] = V
  have hV2 : V = (iv OZ).toArray := by rw [← hV, ← unhide HZ]; kernel_rfl
  clear hV
  subst hV2
  simp only [Act.put]
  generalize hW : w.alloc _ = W
  have hA : W.heap[w.heap.size]? = some (.cells (iv (List.replicate 19 0)).toArray 190 (0, 0)) := by rw [← hW]; exact (heap_alloc_new _ _).trans (by kernel_rfl)
  have hB : Below w.heap.size w W := by rw [← hW]; exact (Below.refl w.heap.size w).alloc (Nat.le_refl _) _
  clear hW
  refine wpList_store_row rfl 190 (.tmp 0) (.tmp 1) rfl w.heap.size (iv OZ).toArray rfl rfl 190 _ hA hi1 (by rw [hsz]; simp) (iv_all_one OZ) ?_
  refine wpList_nil ?_
  have HF : Hid (Below w.heap.size w (W.setRow w.heap.size (iv OZ).toArray) ∧ ARow 190 (W.setRow w.heap.size (iv OZ).toArray) w.heap.size OZ) := hide ⟨below_setRow hB (Nat.le_refl _) _, setRow_heap _ _ _ _ _ _ hA⟩
  clear hA hB
  go_wp2
  refine bodyPost_ret (v := .agg (iv OZ).toArray) ?_ rfl ⟨rfl, (unhide HF).1⟩
  exact results_cell_row rfl _ _ _ _ _ _ _ rfl (unhide HF).2 Tryz.underlying190 rfl hi1
end Go.Proofs.YtfoaaamcpknjnadGreat
