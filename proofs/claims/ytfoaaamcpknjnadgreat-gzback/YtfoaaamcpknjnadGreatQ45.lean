/-
  The plan by an even code.
-/
import Derived.Test.YtfoaaamcpknjnadGreatQ43
import Derived.Test.YtfoaaamcpknjnadGreatQ44
import Derived.Deep.OwnRows
namespace Go.Proofs.YtfoaaamcpknjnadGreat
open Go.RowKit
set_option linter.unusedVariables false
set_option maxRecDepth 100000

theorem heap4 (w : World) (R X1 X2 X3 : Obj) : ((((w.alloc R).alloc X1).alloc X2).alloc X3).drew.heap[w.heap.size]? = some R ∧ ((((w.alloc R).alloc X1).alloc X2).alloc X3).drew.heap[w.heap.size + 1]? = some X1 ∧ ((((w.alloc R).alloc X1).alloc X2).alloc X3).drew.heap[w.heap.size + 1 + 1]? = some X2 ∧ ((((w.alloc R).alloc X1).alloc X2).alloc X3).drew.heap[w.heap.size + 1 + 1 + 1]? = some X3 ∧ Below w.heap.size w ((((w.alloc R).alloc X1).alloc X2).alloc X3).drew := by
  refine ⟨?_, ?_, ?_, ?_, below_drewN (((((Below.refl w.heap.size w).alloc (Nat.le_refl _) _).alloc (by simp) _).alloc (by simp; omega) _).alloc (by simp; omega) _) 1⟩
  all_goals (simp only [World.alloc, World.drew, Array.getElem?_push, Array.size_push]; simp [Nat.add_assoc])
/-- what even has made first: the plan p in block g3, its two rows -/
structure EvSt (w : World) (N : Nat) (W : World) (g3 ga gb : Nat) : Prop where
  lo : w.heap.size < g3 ∧ w.heap.size < ga ∧ w.heap.size < gb
  ne : g3 ≠ ga ∧ g3 ≠ gb ∧ ga ≠ gb
  blk : W.heap[g3]? = some (.cells #[.slice none 0 0, .slice (some ⟨ga, 0, none⟩) 257 257, .slice (some ⟨gb, 0, none⟩) 1 1] 127 (0, 0))
  ra : W.heap[ga]? = some (.cells (madeCells #[Value.int .i64 0] N) 3 (0, 0))
  rb : W.heap[gb]? = some (.cells (madeCells #[Value.int .i64 0] 1) 3 (0, 0))
  res : W.heap[w.heap.size]? = some (.cells #[.slice none 0 0, .slice none 0 0, .slice none 0 0] 127 (0, 0))
  bel : Below w.heap.size w W

set_option maxHeartbeats 1000000 in
theorem even_any (a : Option Addr) (len cap : Nat) (bs : List Nat) (w : World) (hl : bs.length = len) (hlen : len ≤ 3000) (hB : BytesIn w a bs) (hx : ∀ j, bs.getD j 0 < 256) :
    Calls Tryz.prog 65 #[.slice a len cap] w fun e w' => ∃ a1 c1 b1 b2, e = .returned (.agg #[.slice a1 len c1, .slice (some ⟨b1, 0, none⟩) 257 257, .slice (some ⟨b2, 0, none⟩) 1 1]) ∧ PlanIs w' a1 len b1 257 b2 1 (evenT bs) evenA evenB ∧ w.heap.size ≤ b1 ∧ w.heap.size ≤ b2 ∧ (∀ b o, a1 = some ⟨b, o, none⟩ → evenT bs ≠ [] → w.heap.size ≤ b) ∧ Below w.heap.size w w' := by
  obtain ⟨i0, hi, hz0, hz1, hz2⟩ := info_parts info_tok
  obtain ⟨N, hN⟩ : ∃ N : Nat, N = 257 := ⟨_, rfl⟩
  have mk1 : ∀ W : World, (Instr.makeSlice 37 (.int .i64 257) (.int .i64 257)).run Tryz.prog W = .ok (.slice (some ⟨W.heap.size, 0, none⟩) 257 257) (W.alloc (.cells (madeCells #[.int .i64 0] N) 3)) := fun W => by rw [hN]; exact run_make_row' (P := Tryz.prog) 37 3 (.int .i64 0) 8 Tryz.underlying37 info_int rfl .i64 .i64 257 (by decide) (by decide) W
  have mk2 : ∀ W : World, (Instr.makeSlice 37 (.int .i64 1) (.int .i64 1)).run Tryz.prog W = .ok (.slice (some ⟨W.heap.size, 0, none⟩) 1 1) (W.alloc (.cells (madeCells #[.int .i64 0] 1) 3)) := fun W => run_make_row' (P := Tryz.prog) 37 3 (.int .i64 0) 8 Tryz.underlying37 info_int rfl .i64 .i64 1 (by decide) (by decide) W
  have HN := hide hN
  have HL := hide hl
  have HB := hide hB
  have HX := hide hx
  clear hl hB hx hN
  go_enter Tryz.func65, Tryz.ntmps65
  go_upto_region 1 with (fail)
  go_cut [3] (fun v wc => ∃ g3 ga gb, v = .pointer (some ⟨g3, 0, none⟩) ∧ Hid (EvSt w N wc g3 ga gb))
  case first =>
    go_big_region
    all_goals go_wp2_with fail
    all_goals go_meet
    all_goals first
      | exact ⟨w.heap.size + 1, w.heap.size + 1 + 1, w.heap.size + 1 + 1 + 1, rfl, hide ⟨⟨by omega, by omega, by omega⟩, ⟨by omega, by omega, by omega⟩, (heap4 w _ _ _ _).2.1, (heap4 w _ _ _ _).2.2.1, (heap4 w _ _ _ _).2.2.2.1, (heap4 w _ _ _ _).1, (heap4 w _ _ _ _).2.2.2.2⟩⟩
      | exact ⟨w.heap.size + 1, w.heap.size + 1 + 1 + 1, w.heap.size + 1 + 1, rfl, hide ⟨⟨by omega, by omega, by omega⟩, ⟨by omega, by omega, by omega⟩, (heap4 w _ _ _ _).2.1, (heap4 w _ _ _ _).2.2.2.1, (heap4 w _ _ _ _).2.2.1, (heap4 w _ _ _ _).1, (heap4 w _ _ _ _).2.2.2.2⟩⟩
      | exact ⟨w.heap.size + 1 + 1, w.heap.size + 1, w.heap.size + 1 + 1 + 1, rfl, hide ⟨⟨by omega, by omega, by omega⟩, ⟨by omega, by omega, by omega⟩, (heap4 w _ _ _ _).2.2.1, (heap4 w _ _ _ _).2.1, (heap4 w _ _ _ _).2.2.2.1, (heap4 w _ _ _ _).1, (heap4 w _ _ _ _).2.2.2.2⟩⟩
      | exact ⟨w.heap.size + 1 + 1, w.heap.size + 1 + 1 + 1, w.heap.size + 1, rfl, hide ⟨⟨by omega, by omega, by omega⟩, ⟨by omega, by omega, by omega⟩, (heap4 w _ _ _ _).2.2.1, (heap4 w _ _ _ _).2.2.2.1, (heap4 w _ _ _ _).2.1, (heap4 w _ _ _ _).1, (heap4 w _ _ _ _).2.2.2.2⟩⟩
      | exact ⟨w.heap.size + 1 + 1 + 1, w.heap.size + 1, w.heap.size + 1 + 1, rfl, hide ⟨⟨by omega, by omega, by omega⟩, ⟨by omega, by omega, by omega⟩, (heap4 w _ _ _ _).2.2.2.1, (heap4 w _ _ _ _).2.1, (heap4 w _ _ _ _).2.2.1, (heap4 w _ _ _ _).1, (heap4 w _ _ _ _).2.2.2.2⟩⟩
      | exact ⟨w.heap.size + 1 + 1 + 1, w.heap.size + 1 + 1, w.heap.size + 1, rfl, hide ⟨⟨by omega, by omega, by omega⟩, ⟨by omega, by omega, by omega⟩, (heap4 w _ _ _ _).2.2.2.1, (heap4 w _ _ _ _).2.2.1, (heap4 w _ _ _ _).2.1, (heap4 w _ _ _ _).1, (heap4 w _ _ _ _).2.2.2.2⟩⟩
  case rest =>
    obtain ⟨g3, ga, gb, rfl, hst⟩ := hcut
    have hE := unhide hst
    have hlo := hE.lo
    have hne := hE.ne
    have hz := hE.bel.size
    have lr := (Array.getElem?_eq_some_iff.1 hE.res).1
    have l3 := (Array.getElem?_eq_some_iff.1 hE.blk).1
    have la := (Array.getElem?_eq_some_iff.1 hE.ra).1
    have lb := (Array.getElem?_eq_some_iff.1 hE.rb).1
    clear mk1 mk2 hE
    generalize wc = w0 at *
    go_wp2
    go_loopw [12] (fun v wr => ∃ k : Nat, k ≤ len ∧ v = .int .i64 (k : Int) ∧ Hid (∃ ov, wr.heap[g3]? = some (.cells #[ov, .slice (some ⟨ga, 0, none⟩) 257 257, .slice (some ⟨gb, 0, none⟩) 1 1] 127 (0, 0)) ∧ wr.ownsRow w0.heap.size 115 3 ov k (tvs (evenT (bs.take k))) ∧ (∀ j, j < w0.heap.size → j ≠ g3 → wr.heap[j]? = w0.heap[j]?) ∧ Below w.heap.size w wr ∧ w0.heap.size ≤ wr.heap.size)) (fun v _ => len - (intOf v).toNat)
    case atStart => exact ⟨0, Nat.zero_le _, rfl, hide ⟨.slice none 0 0, (unhide hst).blk, World.ownsRow_nil _ _ _ _, fun j _ _ => rfl, (unhide hst).bel, Nat.le_refl _⟩⟩
    case round =>
      obtain ⟨k, hk, rfl, hr⟩ := hrel
      obtain ⟨ov, h1, h2, h3, h4, h5⟩ := unhide hr
      by_cases hlt : k < len
      · obtain ⟨b, o, rfl, hb, hBy⟩ := bytesIn_some (unhide HB) (by rw [unhide HL]; omega)
        have cb := (h4.cell (p := ⟨b, o + k, none⟩) hb).trans (hBy k (by rw [unhide HL]; exact hlt))
        have hx := unhide HX k
        have hstep : evenT (bs.take (k + 1)) = evenT (bs.take k) ++ [(bs.getD k 0, 0, 0)] := by
          have hk2 : k < bs.length := by rw [unhide HL]; exact hlt
          have e : bs.take (k + 1) = bs.take k ++ [bs.getD k 0] := by
            rw [List.take_add_one]
            simp [List.getD, hk2]
          rw [e]
          simp [evenT]
        obtain ⟨x, hxx⟩ : ∃ x, bs.getD k 0 = x := ⟨_, rfl⟩
        rw [hxx] at cb hx hstep
        have HST := hide hstep
        have c0 : wr.cell? ⟨g3, 0, none⟩ = some ov := heap_row h1
        have f0 := frozen_of_row wr g3 0 _ _ h1
        have hkI : (k : Int) < (len : Int) := by omega
        have HO := hide (h2.alloc (.cells #[.int .u8 (x : Int), .int .i64 0, .int .i64 0] 115))
        have HCw := hide (tok_cells wr (.int .u8 (x : Int)) (.int .i64 0) (.int .i64 0) 115)
        have hov : ∀ g, ov.ownBlock = some g → w0.heap.size ≤ g ∧ g < wr.heap.size := fun g e => h2.lt g e
        have HOV := hide hov
        have H1 := hide h1
        have H3 := hide h3
        have H4 := hide h4
        clear hr h1 h2 h3 h4 hstep hBy hxx hov
        go_wp2_with (at_builtin; refine wpList_append_own_at _ rfl _ _ 93 rfl w0.heap.size 115 i0 _ 3 24 Tryz.underlying93 hi hz0 hz1 hz2 rfl (by decide) ov k (tvs (evenT (bs.take k))) rfl (unhide HO) ⟨wr.heap.size, 0, none⟩ 1 1 [.int .u8 (x : Int), .int .i64 0, .int .i64 0] rfl rfl (unhide HCw) (by intro u hu; simp at hu; rcases hu with rfl | rfl | rfl <;> rfl) (by unfold maxLen; omega) (by omega) (by simp; omega) ?_)
        intro v' w3 hO3 hgrow _ hspot
        have hzg := hgrow.size
        simp only [World.size_alloc] at hzg
        have hg3 : w3.heap[g3]? = some (.cells #[ov, .slice (some ⟨ga, 0, none⟩) 257 257, .slice (some ⟨gb, 0, none⟩) 1 1] 127 (0, 0)) := (hgrow.block g3 (by simp; omega) (fun e => by have := unhide HOV g3 e.symm; omega)).trans ((Below.heap_alloc wr _ g3 (by omega)).trans (unhide H1))
        have q0 : w3.cell? ⟨g3, 0, none⟩ = some ov := heap_row hg3
        have qf0 := frozen_of_row w3 g3 0 _ _ hg3
        have HFIN : Hid (∃ ov, (w3.setCell ⟨g3, 0, none⟩ v').heap[g3]? = some (.cells #[ov, .slice (some ⟨ga, 0, none⟩) 257 257, .slice (some ⟨gb, 0, none⟩) 1 1] 127 (0, 0)) ∧ (w3.setCell ⟨g3, 0, none⟩ v').ownsRow w0.heap.size 115 3 ov (k + 1) (tvs (evenT (bs.take (k + 1)))) ∧ (∀ j, j < w0.heap.size → j ≠ g3 → (w3.setCell ⟨g3, 0, none⟩ v').heap[j]? = w0.heap[j]?) ∧ Below w.heap.size w (w3.setCell ⟨g3, 0, none⟩ v') ∧ w0.heap.size ≤ (w3.setCell ⟨g3, 0, none⟩ v').heap.size) := by
          have hs := grown_setCell w3 g3 0 v'
          have hsz := hs.size
          refine ⟨v', ?_, ?_, ?_, ?_, by omega⟩
          · rw [heap_setCell_same _ g3 0 _ _ _ hg3]; rfl
          · rw [unhide HST, tvs_append]
            refine hO3.kept hs ?_
            cases hx : v'.ownBlock with
            | none => exact .inl rfl
            | some g =>
              refine .inr (fun e => ?_)
              have := (hO3.lt g hx).1
              cases e
              omega
          · intro j hj hne
            rw [hs.block j (by omega) (fun e => hne (Option.some.inj e)), hgrow.block j (by simp; omega) (fun e => by have := unhide HOV j e.symm; omega), Below.heap_alloc wr _ j (by omega)]
            exact unhide H3 j hj hne
          · have b1 := (unhide H4).alloc (by omega) (.cells #[.int .u8 (x : Int), .int .i64 0, .int .i64 0] 115)
            have b2 := b1.grown hgrow (by simp; omega) (fun g e => by have := unhide HOV g e; omega)
            exact b2.grown hs (by omega) (fun g e => by have := Option.some.inj e; omega)
        obtain ⟨g9, c9, hv9, _, _⟩ := own_shape hO3 (by omega)
        subst hv9
        clear hO3 hgrow hspot hg3 c0 f0 cb HO HCw HOV H1 H3 H4 HST hzg
        go_wp2
        go_roundw
        case rel => exact ⟨k + 1, by omega, by go_num, HFIN⟩
        case measure => simp [intOf]; omega
      · obtain rfl : k = len := by omega
        have e : bs.take k = bs := List.take_of_length_le (by rw [unhide HL]; exact Nat.le_refl _)
        rw [e] at h2
        obtain ⟨a1, c1, rfl⟩ := own_slice' h2
        have hra : wr.heap[ga]? = some (.cells (madeCells #[Value.int .i64 0] N) 3 (0, 0)) := (h3 ga la (fun e => hne.1 e.symm)).trans (unhide hst).ra
        have hrb : wr.heap[gb]? = some (.cells (madeCells #[Value.int .i64 0] 1) 3 (0, 0)) := (h3 gb lb (fun e => hne.2.1 e.symm)).trans (unhide hst).rb
        have hres : wr.heap[w.heap.size]? = some (.cells #[.slice none 0 0, .slice none 0 0, .slice none 0 0] 127 (0, 0)) := (h3 _ lr (by omega)).trans (unhide hst).res
        obtain ⟨EA, hEA⟩ : ∃ EA : List Int, EA = List.replicate 257 8 := ⟨_, rfl⟩
        have hEl : EA.length = 257 := by rw [hEA]; simp
        have hEg : ∀ j, j < 257 → EA.getD j 0 = 8 := fun j hj => by rw [hEA]; simp only [List.getD]; rw [List.getElem?_replicate, if_pos hj]; rfl
        have HEA := hide hEA
        have HEG := hide hEg
        have d1 : wr.cell? ⟨g3, 1, none⟩ = some (.slice (some ⟨ga, 0, none⟩) 257 257) := heap_row h1
        have HA0 : Hid (ARow 3 wr ga (EA.take 0 ++ List.replicate (EA.length - 0) 0)) := hide (by
          rw [List.take_zero, List.nil_append, hEl]
          unfold ARow
          rw [hra, unhide HN]
          congr 2
          exact Array.toList_inj.1 (made_iv 257))
        have HTK : Hid (TokIn wr a1 (evenT bs) ∧ ∀ b o, a1 = some ⟨b, o, none⟩ → evenT bs ≠ [] → w0.heap.size ≤ b ∧ b < wr.heap.size) := by
          obtain ⟨h6, a2, c2, e2, h7⟩ := TokIn.ofOwn h2
          cases e2
          refine ⟨h7, fun b o e _ => ?_⟩
          subst e
          exact h2.lt b rfl
        have H1 := hide h1
        have HRB := hide hrb
        have HRES := hide hres
        have H4 := hide h4
        clear hr h1 h2 h3 h4 e hra hrb hres hEA hEg
        generalize wr = w5 at *
        go_wp2
        go_loopw [27] (fun v wr => ∃ q : Nat, q ≤ 257 ∧ v = .int .i64 (q : Int) ∧ Hid (ARow 3 wr ga (EA.take q ++ List.replicate (EA.length - q) 0) ∧ (∀ j, j < w5.heap.size → j ≠ ga → wr.heap[j]? = w5.heap[j]?) ∧ Below w.heap.size w wr ∧ w5.heap.size ≤ wr.heap.size)) (fun v _ => 257 - (intOf v).toNat)
        case atStart => exact ⟨0, by decide, rfl, hide ⟨unhide HA0, fun j _ _ => rfl, unhide H4, Nat.le_refl _⟩⟩
        case round =>
          obtain ⟨q, hq, rfl, hr⟩ := hrel
          obtain ⟨s1, s2, s3, s4⟩ := unhide hr
          have hg3 : wr.heap[g3]? = some (.cells #[.slice a1 k c1, .slice (some ⟨ga, 0, none⟩) 257 257, .slice (some ⟨gb, 0, none⟩) 1 1] 127 (0, 0)) := (s2 g3 (by omega) hne.1).trans (unhide H1)
          have x1 : wr.cell? ⟨g3, 1, none⟩ = some (.slice (some ⟨ga, 0, none⟩) 257 257) := heap_row hg3
          by_cases hlt2 : q < 257
          · have hl1 : (EA.take q ++ List.replicate (EA.length - q) 0).length = 257 := by simp; omega
            have c := s1.cell q (by omega)
            have f := s1.frozen q
            have HF : Hid (ARow 3 (wr.setCell ⟨ga, q, none⟩ (.int .i64 8)) ga (EA.take (q + 1) ++ List.replicate (EA.length - (q + 1)) 0) ∧ (∀ j, j < w5.heap.size → j ≠ ga → (wr.setCell ⟨ga, q, none⟩ (.int .i64 8)).heap[j]? = w5.heap[j]?) ∧ Below w.heap.size w (wr.setCell ⟨ga, q, none⟩ (.int .i64 8)) ∧ w5.heap.size ≤ (wr.setCell ⟨ga, q, none⟩ (.int .i64 8)).heap.size) := by
              have hgr := grown_setCell wr ga q (.int .i64 8)
              have hsz := hgr.size
              refine ⟨?_, fun j hj hn => (hgr.block j (by omega) (fun e => hn (Option.some.inj e))).trans (s2 j hj hn), s3.grown hgr (by omega) (fun j e => by have := Option.some.inj e; omega), by omega⟩
              have := s1.set q 8
              have e8 : (8 : Int) = EA.getD q 0 := (unhide HEG q hlt2).symm
              rw [e8, part_set EA q (by omega)] at this
              rw [e8]
              exact this
            have hqI : (q : Int) < 257 := by omega
            clear hr s1 s2 s3 hl1 hg3
            generalize (EA.take q ++ List.replicate (EA.length - q) 0).getD q 0 = old at c
            go_wp2
            go_roundw
            case rel => exact ⟨q + 1, by omega, by go_num, HF⟩
            case measure => simp [intOf]; omega
          · obtain rfl : q = 257 := by omega
            rw [List.take_of_length_le (by omega), hEl, Nat.sub_self] at s1
            simp only [List.replicate_zero, List.append_nil] at s1
            have c5 := s1.cell 255 (by omega)
            have c6 := s1.cell 256 (by omega)
            have f5 := s1.frozen 255
            have f6 := s1.frozen 256
            rw [unhide HEG 255 (by decide)] at c5
            rw [unhide HEG 256 (by decide)] at c6
            have HS1 := hide s1
            have HS2 := hide s2
            have HS3 := hide s3
            have HG3 := hide hg3
            have ne5 : (⟨ga, 256, none⟩ : Addr) ≠ ⟨ga, 255, none⟩ := by intro h; injection h; omega
            have HFA : Hid (ARow 3 ((wr.setCell ⟨ga, 255, none⟩ (.int .i64 9)).setCell ⟨ga, 256, none⟩ (.int .i64 9)).drew ga evenA ∧ (∀ j, j < w5.heap.size → j ≠ ga → ((wr.setCell ⟨ga, 255, none⟩ (.int .i64 9)).setCell ⟨ga, 256, none⟩ (.int .i64 9)).drew.heap[j]? = w5.heap[j]?) ∧ Below w.heap.size w ((wr.setCell ⟨ga, 255, none⟩ (.int .i64 9)).setCell ⟨ga, 256, none⟩ (.int .i64 9)).drew ∧ w5.heap.size ≤ ((wr.setCell ⟨ga, 255, none⟩ (.int .i64 9)).setCell ⟨ga, 256, none⟩ (.int .i64 9)).drew.heap.size) := by
              have g1 := grown_setCell wr ga 255 (.int .i64 9)
              have g2 := grown_setCell (wr.setCell ⟨ga, 255, none⟩ (.int .i64 9)) ga 256 (.int .i64 9)
              have gg := grown_trans g1 g2
              have hsz := gg.size
              refine ⟨?_, fun j hj hn => (gg.block j (by omega) (fun e => hn (Option.some.inj e))).trans (s2 j hj hn), below_drewN (s3.grown gg (by omega) (fun j e => by have := Option.some.inj e; omega)) 1, by show w5.heap.size ≤ (World.setCell _ _ _).heap.size; omega⟩
              have := (s1.set 255 9).set 256 9
              have e9 : (EA.set 255 9).set 256 9 = evenA := by rw [unhide HEA]; decide +kernel
              rw [e9] at this
              exact this
            clear hr s1 s2 s3 hg3
            generalize wr = w6 at *
            go_upto_region 12 with (fail)
            go_cut [] (fun wc => ARow 3 wc ga evenA ∧ (∀ j, j < w5.heap.size → j ≠ ga → wc.heap[j]? = w5.heap[j]?) ∧ Below w.heap.size w wc ∧ w5.heap.size ≤ wc.heap.size)
            case first =>
              go_big_region
              all_goals go_wp2_with fail
              all_goals go_meet
              all_goals exact unhide HFA
            case rest =>
              obtain ⟨z1, z2, z3, z4⟩ := hcut
              have zg : wc.heap[g3]? = some (.cells #[.slice a1 k c1, .slice (some ⟨ga, 0, none⟩) 257 257, .slice (some ⟨gb, 0, none⟩) 1 1] 127 (0, 0)) := (z2 g3 (by omega) hne.1).trans (unhide H1)
              have zr : wc.heap[w.heap.size]? = some (.cells #[.slice none 0 0, .slice none 0 0, .slice none 0 0] 127 (0, 0)) := (z2 _ (by omega) (by omega)).trans (unhide HRES)
              have y0 : wc.cell? ⟨g3, 0, none⟩ = some (.slice a1 k c1) := heap_row zg
              have y1 : wc.cell? ⟨g3, 1, none⟩ = some (.slice (some ⟨ga, 0, none⟩) 257 257) := heap_row zg
              have y2 : wc.cell? ⟨g3, 2, none⟩ = some (.slice (some ⟨gb, 0, none⟩) 1 1) := heap_row zg
              have r0 : wc.cell? ⟨w.heap.size, 0, none⟩ = some (.slice none 0 0) := heap_row zr
              have r1 : wc.cell? ⟨w.heap.size, 1, none⟩ = some (.slice none 0 0) := heap_row zr
              have r2 : wc.cell? ⟨w.heap.size, 2, none⟩ = some (.slice none 0 0) := heap_row zr
              have f0 := frozen_of_row wc w.heap.size 0 _ _ zr
              have f1 := frozen_of_row wc w.heap.size 1 _ _ zr
              have f2 := frozen_of_row wc w.heap.size 2 _ _ zr
              obtain ⟨t1, t2, t3, t4⟩ := three_set zr (.slice a1 k c1) (.slice (some ⟨ga, 0, none⟩) 257 257) (.slice (some ⟨gb, 0, none⟩) 1 1)
              have HFIN : Hid (PlanIs (((wc.setCell ⟨w.heap.size, 0, none⟩ (.slice a1 k c1)).setCell ⟨w.heap.size, 1, none⟩ (.slice (some ⟨ga, 0, none⟩) 257 257)).setCell ⟨w.heap.size, 2, none⟩ (.slice (some ⟨gb, 0, none⟩) 1 1)) a1 k ga 257 gb 1 (evenT bs) evenA evenB ∧ Below w.heap.size w (((wc.setCell ⟨w.heap.size, 0, none⟩ (.slice a1 k c1)).setCell ⟨w.heap.size, 1, none⟩ (.slice (some ⟨ga, 0, none⟩) 257 257)).setCell ⟨w.heap.size, 2, none⟩ (.slice (some ⟨gb, 0, none⟩) 1 1))) := by
                refine ⟨⟨by rw [evenT_length, unhide HL], hlen, evenT_vt (unhide HX), ?_, even_dyn (unhide HX), evenA_len, evenB_len, by omega, by omega, ?_, ?_⟩, t4 z3 (Nat.le_refl _)⟩
                · refine tok_kp (unhide HTK).1 (by omega) (fun b o ea hne2 hb => ?_)
                  have := (unhide HTK).2 b o ea hne2
                  rw [t2 b (by omega) (by omega)]
                  exact z2 b (by omega) (by omega)
                · exact row_kp z1.row (t2 ga (by omega) (by omega))
                · have hb1 : ARow 3 wc gb evenB := by
                    unfold ARow
                    rw [z2 gb (by omega) (fun e => hne.2.2 e.symm), unhide HRB]
                    congr 2
                    exact Array.toList_inj.1 (made_iv 1)
                  exact row_kp hb1.row (t2 gb (by omega) (by omega))
              have HT1 := hide t1
              clear z1 z2 z3 zg zr t1 t2 t4
              go_wp2
              refine bodyPost_ret (v := .agg #[.slice a1 k c1, .slice (some ⟨ga, 0, none⟩) 257 257, .slice (some ⟨gb, 0, none⟩) 1 1]) ?_ rfl ⟨a1, c1, ga, gb, rfl, (unhide HFIN).1, by omega, by omega, fun b o e hn => by have := (unhide HTK).2 b o e hn; omega, (unhide HFIN).2⟩
              exact results_cell_row rfl _ _ _ _ _ _ _ rfl (unhide HT1) Tryz.underlying127 rfl (by kernel_rfl)
end Go.Proofs.YtfoaaamcpknjnadGreat
