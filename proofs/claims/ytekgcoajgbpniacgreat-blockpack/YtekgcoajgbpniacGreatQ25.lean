/-
  The library's slices.Concat of rows of numbers; the document's own FixedLengths.
-/
import Derived.Test.YtekgcoajgbpniacGreatQ24
import Derived.Test.YtekgcoajgbpniacGreatQ2
import Derived.Test.YtekgcoajgbpniacGreatQ16
namespace Go.Proofs.YtekgcoajgbpniacGreat
open Go.RowKit
set_option linter.unusedVariables false
set_option maxRecDepth 100000

/-- the numbers of the first k rows -/
def catK (ps : List (Nat × List Int)) : Nat → List Int
  | 0 => []
  | k + 1 => catK ps k ++ (ps.getD k (0, [])).2
theorem row_cells {w : World} {g : Nat} {xs : List Int} (h : RowIn .i64 w (some ⟨g, 0, none⟩) xs) : ∀ j u, (iv xs)[j]? = some u → w.cell? ((⟨g, 0, none⟩ : Addr).add j) = some u := by
  intro j u hj
  have e : (⟨g, 0, none⟩ : Addr).add j = ⟨g, j, none⟩ := by unfold Addr.add; split <;> simp_all
  rcases h with rfl | ⟨b, o, e1, _, h⟩
  · simp at hj
  · cases e1
    have hj2 : j < xs.length := by
      by_cases c : j < xs.length
      · exact c
      · rw [List.getElem?_eq_none (by simp; omega)] at hj; cases hj
    have := h j hj2
    rw [e]
    simp [hj2] at hj
    subst hj
    simpa [List.getD, hj2] using this
theorem iv_one' (xs : List Int) : ∀ u ∈ iv xs, u.oneCell' = true := by intro u hu; obtain ⟨x, _, rfl⟩ := List.mem_map.1 hu; rfl

set_option maxHeartbeats 2000000 in
theorem concat_cap (b o len cap : Nat) (cp : Nat → Nat) (ps : List (Nat × List Int)) (w : World) (hb : b < w.heap.size) (hc : ∀ j, j < len → w.cell? ⟨b, o + j, none⟩ = some (.slice (some ⟨(ps.getD j (0, [])).1, 0, none⟩) (ps.getD j (0, [])).2.length (cp j))) (hr : ∀ j, j < len → RowIn .i64 w (some ⟨(ps.getD j (0, [])).1, 0, none⟩) (ps.getD j (0, [])).2)
    (hsum : ∀ k, k ≤ len → (catK ps k).length ≤ 1000) (hpos : 0 < (catK ps len).length) (hlen : len ≤ 100) :
    Calls Tryz.prog 42 #[.slice (some ⟨b, o, none⟩) len cap] w fun e w' => ∃ v, e = .returned v ∧ w'.ownsRow w.heap.size 3 1 v (catK ps len).length (iv (catK ps len)) ∧ Below w.heap.size w w' := by
  obtain ⟨i0, hi, hz0, hz1, hz2⟩ := info_parts info_int
  have HC := hide hc
  have HR := hide hr
  have HS := hide hsum
  obtain ⟨T, hT⟩ : ∃ T, (catK ps len).length = T := ⟨_, rfl⟩
  have hT1 : 0 < T ∧ T ≤ 1000 := by have := hsum len (Nat.le_refl _); omega
  obtain ⟨hT0, hT1⟩ := hT1
  have HTT := hide hT
  clear hc hr hsum hpos hT
  go_enter Tryz.func42, Tryz.ntmps42
  go_wp2
  go_loop [3, 11] (fun v3 v11 => ∃ k : Nat, k ≤ len ∧ v11 = .int .i64 (k : Int) ∧ v3 = .int .i64 ((catK ps k).length : Int)) (fun _ v11 => len - (intOf v11).toNat)
  case atStart => exact ⟨0, Nat.zero_le _, rfl, rfl⟩
  case round =>
    obtain ⟨k, hk, rfl, rfl⟩ := hrel
    by_cases hlt : k < len
    · have c1 := unhide HC k hlt
      have hs := unhide HS (k + 1) (by omega)
      have HN : Hid ((catK ps (k + 1)).length = (catK ps k).length + (ps.getD k (0, [])).2.length) := hide (by rw [catK, List.length_append])
      rw [unhide HN] at hs
      generalize (ps.getD k (0, [])).2.length = m at *
      generalize cp k = mc at *
      generalize (ps.getD k (0, [])).1 = g at *
      generalize (catK ps k).length = L at *
      go_wp2
      go_round
      case rel => exact ⟨k + 1, by omega, by go_num, by rw [unhide HN]; go_num⟩
      case measure => simp [intOf]; omega
    · obtain rfl : len = k := by omega
      rw [unhide HTT]
      go_wp2_with fail
      refine (grow_nil T w hT0 (by omega)).mono ?_
      rintro e w2 ⟨c, rfl, hO2, hB2⟩
      have HO2 := hide hO2
      have HB2 := hide hB2
      clear hO2 hB2
      go_wp2
      go_loopw [6, 27] (fun v6 v27 wr => ∃ k : Nat, k ≤ len ∧ v27 = .int .i64 (k : Int) ∧ wr.ownsRow w.heap.size 3 1 v6 (catK ps k).length (iv (catK ps k)) ∧ Below w.heap.size w wr) (fun _ v27 _ => len - (intOf v27).toNat)
      case atStart => exact ⟨0, Nat.zero_le _, rfl, unhide HO2, unhide HB2⟩
      case round =>
        obtain ⟨k, hk2, rfl, hO, hBr⟩ := hrel
        have HO := hide hO
        have HBr := hide hBr
        have hzr := hBr.size
        by_cases hlt2 : k < len
        · have c1 := (hBr.cell (p := ⟨b, o + k, none⟩) hb).trans (unhide HC k hlt2)
          have hrow := (unhide HR k hlt2).below hBr (Nat.le_refl _)
          have HRC := hide (row_cells hrow)
          have hs := unhide HS (k + 1) (by omega)
          have HN : Hid (catK ps (k + 1) = catK ps k ++ (ps.getD k (0, [])).2) := hide rfl
          rw [unhide HN, List.length_append] at hs
          generalize (ps.getD k (0, [])).2 = xs at *
          generalize (ps.getD k (0, [])).1 = g at *
          generalize cp k = mc at *
          obtain ⟨m, hm⟩ : ∃ m, xs.length = m := ⟨_, rfl⟩
          obtain ⟨L, hL⟩ : ∃ L, (catK ps k).length = L := ⟨_, rfl⟩
          rw [hm] at c1 hs
          rw [hL] at hs HO
          have HM := hide hm
          have HLL := hide hL
          clear hO hBr hrow hm hL
          go_wp2_with (at_builtin; refine wpList_append_own_at _ rfl _ _ 23 rfl w.heap.size 3 i0 (.int .i64 0) 1 8 Tryz.underlying23 hi hz0 hz1 hz2 rfl (by decide) u6 L (iv (catK ps k)) rfl (unhide HO) ⟨g, 0, none⟩ m mc (iv xs) rfl (by rw [List.length_map, unhide HM, Nat.mul_one]) (unhide HRC) (iv_one' xs) (by unfold maxLen; omega) (by omega) (by omega) ?_)
          intro v' w4 hO4 hgrow _ hspot
          have HO4 : Hid (w4.ownsRow w.heap.size 3 1 v' (catK ps (k + 1)).length (iv (catK ps (k + 1)))) := by
            rw [unhide HN, List.length_append, unhide HLL, unhide HM]
            show w4.ownsRow w.heap.size 3 1 v' (L + m) (List.map (Value.int .i64) (catK ps k ++ xs))
            rw [List.map_append]
            exact hO4
          have HB4 := hide ((unhide HBr).grown hgrow (by omega) (fun g e => ((unhide HO).lt g e).1))
          clear hO4 hgrow hspot c1 HRC
          go_wp2
          go_roundw
          case rel => exact ⟨k + 1, by omega, by go_num, unhide HO4, unhide HB4⟩
          case measure => simp [intOf]; omega
        · obtain rfl : len = k := by omega
          clear hO hBr
          go_wp2
          go_ret
          exact ⟨u6, rfl, unhide HO, unhide HBr⟩
theorem concat_any (b o len cap : Nat) (ps : List (Nat × List Int)) (w : World) (hb : b < w.heap.size) (hc : ∀ j, j < len → w.cell? ⟨b, o + j, none⟩ = some (.slice (some ⟨(ps.getD j (0, [])).1, 0, none⟩) (ps.getD j (0, [])).2.length (ps.getD j (0, [])).2.length)) (hr : ∀ j, j < len → RowIn .i64 w (some ⟨(ps.getD j (0, [])).1, 0, none⟩) (ps.getD j (0, [])).2)
    (hsum : ∀ k, k ≤ len → (catK ps k).length ≤ 1000) (hpos : 0 < (catK ps len).length) (hlen : len ≤ 100) :
    Calls Tryz.prog 42 #[.slice (some ⟨b, o, none⟩) len cap] w fun e w' => ∃ v, e = .returned v ∧ w'.ownsRow w.heap.size 3 1 v (catK ps len).length (iv (catK ps len)) ∧ Below w.heap.size w w' := concat_cap b o len cap (fun j => (ps.getD j (0, [])).2.length) ps w hb hc hr hsum hpos hlen
end Go.Proofs.YtekgcoajgbpniacGreat

/-
  Order; the two functions that putLengths hands on: one counts, one puts.
-/
namespace Go.Proofs.YtekgcoajgbpniacGreat
open Go.RowKit
set_option linter.unusedVariables false
set_option maxRecDepth 100000

def ordZ : List Int := [16, 17, 18, 0, 8, 7, 9, 6, 10, 5, 11, 4, 12, 3, 13, 2, 14, 1, 15]
theorem info19 : (Tryz.prog.info? 140).map (·.size) = some 19 := by kernel_rfl
theorem order_any (w : World) : Calls Tryz.prog 72 #[] w fun e w' => e = .returned (.agg (iv ordZ).toArray) ∧ Below w.heap.size w w' := by
  have hsz : (iv ordZ).toArray.size = 19 := by simp [ordZ]
  have hi1 : (Tryz.prog.info? 140).map (·.size) = some (iv ordZ).toArray.size := by rw [info19, hsz]
  obtain ⟨OZ, hOZ⟩ : ∃ OZ, ordZ = OZ := ⟨_, rfl⟩
  rw [hOZ] at hi1 hsz ⊢
  have HZ := hide hOZ
  clear hOZ
  go_enter Tryz.func72, Tryz.ntmps72
  go_upto_region 1 with (fail)
  refine wp_region_lit ?_
  refine wpList_build rfl 140 _ rfl (by kernel_rfl) ?_
  generalize hV : (Program.built _ _ _).getD #[] = V
  have hV2 : V = (iv OZ).toArray := by rw [← hV, ← unhide HZ]; kernel_rfl
  clear hV
  subst hV2
  simp only [Act.put]
  generalize hW : w.alloc _ = W
  have hA : W.heap[w.heap.size]? = some (.cells (iv (List.replicate 19 0)).toArray 140 (0, 0)) := by rw [← hW]; exact (heap_alloc_new _ _).trans (by kernel_rfl)
  have hB : Below w.heap.size w W := by rw [← hW]; exact (Below.refl w.heap.size w).alloc (Nat.le_refl _) _
  clear hW
  refine wpList_store_row rfl 140 (.tmp 0) (.tmp 1) rfl w.heap.size (iv OZ).toArray rfl rfl 140 _ hA hi1 (by rw [hsz]; simp) (iv_all_one OZ) ?_
  refine wpList_nil ?_
  have HF : Hid (Below w.heap.size w (W.setRow w.heap.size (iv OZ).toArray) ∧ ARow 140 (W.setRow w.heap.size (iv OZ).toArray) w.heap.size OZ) := hide ⟨below_setRow hB (Nat.le_refl _) _, setRow_heap _ _ _ _ _ _ hA⟩
  clear hA hB
  go_wp2
  refine bodyPost_ret (v := .agg (iv OZ).toArray) ?_ rfl ⟨rfl, (unhide HF).1⟩
  exact results_cell_row rfl _ _ _ _ _ _ _ rfl (unhide HF).2 Tryz.underlying140 rfl hi1

theorem runC_snoc (is : List (Nat × Nat × Nat)) (i : Nat × Nat × Nat) : runC (is ++ [i]) = bump (runC is) i.1 := by
  unfold runC bumps
  simp [List.foldl_append]
theorem runC_le (is : List (Nat × Nat × Nat)) (k : Nat) : (runC is).getD k 0 ≤ is.length ∧ 0 ≤ (runC is).getD k 0 := by
  by_cases hk : k < 19
  · unfold runC
    rw [bumps_at _ _ k (by simpa using hk), zero_at]
    have h1 := List.count_le_length (a := k) (l := is.map Prod.fst)
    rw [List.length_map] at h1
    omega
  · have : (runC is).getD k 0 = 0 := by
      simp only [List.getD]
      rw [List.getElem?_eq_none (by rw [runC_len]; omega)]
      rfl
    omega
theorem putLen1_any (T : TypeId) (g k : Nat) (n s : Int) (xs : List Int) (W : World) (hT : T = 140) (h : ARow T W g xs) (hl : xs.length = 19) (hk : k < 19) (hx : 0 ≤ xs.getD k 0 ∧ xs.getD k 0 ≤ 1000000) :
    Calls Tryz.prog 74 #[.int .i64 (k : Int), .int .i64 n, .int .i64 s, .pointer (some ⟨g, 0, none⟩)] W fun e w' => e = .returned (.tuple #[]) ∧ w' = W.setCell ⟨g, k, none⟩ (.int .i64 (xs.getD k 0 + 1)) := by
  have c := h.cell k (by omega)
  have f := h.frozen k
  have hkI : (k : Int) < 19 := by omega
  clear h hT
  generalize xs.getD k 0 = x at *
  go_enter Tryz.func74, Tryz.ntmps74
  go_wp2
  go_end0
  exact ⟨rfl, rfl⟩
theorem cnt_snk3 (g : Nat) (all : List (Nat × Nat × Nat)) (h19 : ∀ i ∈ all, i.1 < 19) (hlen : all.length ≤ 100000) :
    Snk3 (fun is W => ARow 140 W g (runC is)) (fun W W' => Below g W W') 74 #[.pointer (some ⟨g, 0, none⟩)] all := by
  refine ⟨enters_any' Tryz.func74 (by kernel_rfl) rfl, ?_, fun W => Below.refl _ _, fun q h => h, fun W q => below_drewN (Below.refl _ _) q, fun h k => h.trans k⟩
  intro is R i W he hJ
  have h4 := congrArg List.length he
  rw [List.length_append, List.length_cons] at h4
  have hk := h19 i (by rw [← he]; simp)
  have hle := runC_le is i.1
  have hlt := hJ.lt
  refine (putLen1_any _ g i.1 i.2.1 i.2.2 (runC is) W rfl hJ (runC_len is) hk ⟨hle.2, by omega⟩).mono ?_
  rintro e W' ⟨rfl, rfl⟩
  refine ⟨rfl, ?_, ?_⟩
  · rw [runC_snoc]; exact hJ.set i.1 _
  · exact (Below.refl g W).grown (grown_setCell W g i.1 _) (by omega) (fun j e => by rw [← Option.some.inj e]; exact Nat.le_refl _)

set_option maxHeartbeats 1000000 in
theorem putLen2_any (No : Nat → Prop) (B gp gb gc gl gr rb : Nat) (a : Option Addr) (cap : Nat) (own : List Int) (k n s : Nat) (S : List Bool) (W : World) (hC : CIs No W gc gl gr rb a 19 cap own) (hl : own.length = 19) (hG : Good own) (hq : k < 19) (hpos : 0 < own.getD k 0) (hn : n < 65536) (hs : s ≤ 16) (h : RIs No B W rb S) (hS : S.length ≤ 290000) (hNo : ∀ g, W.heap.size ≤ g → ¬ No g)
    (hp : W.cell? ⟨gp, 0, none⟩ = some (CV gc gl gr)) (hbx : W.cell? ⟨gb, 0, none⟩ = some (.pointer (some ⟨rb, 0, none⟩))) (hgb : gb < W.heap.size ∧ No gb) :
    Calls Tryz.prog 75 #[.int .i64 (k : Int), .int .i64 (n : Int), .int .i64 (s : Int), .pointer (some ⟨gp, 0, none⟩), .pointer (some ⟨gb, 0, none⟩)] W fun e w' => e = .returned (.tuple #[]) ∧ Rp No B W rb (S ++ putR own (k, n, s)) w' := by
  have hcl := code_len own hG k
  have h15 := (hG.ok k (by omega)).2
  have H1 := hide (code_any No No B gc gl gr rb a 19 cap own k S W hC hl hG hq hpos h (by omega) hNo)
  have H2 := hide (fun w1 (hR : Rp No B W rb (S ++ codeT own k) w1) => rput_any No B rb n s (S ++ codeT own k) w1 hR.is hn hs (by rw [List.length_append, hcl]; omega) (fun g hg => hNo g (by have := hR.below.size; omega)))
  have H3 := hide (fun w1 (hR : Rp No B W rb (S ++ codeT own k) w1) => hR.kp.cell hgb.1 hgb.2 hbx)
  clear hC h hNo hcl h15 hG hgb
  go_enter Tryz.func75, Tryz.ntmps75
  go_wp2_with fail
  refine (unhide H1).mono ?_
  rintro e w1 ⟨rfl, hR⟩
  have c1 := unhide H3 w1 hR
  have HR := hide hR
  clear hR
  go_wp2_with fail
  refine (unhide H2 w1 (unhide HR)).mono ?_
  rintro e w2 ⟨rfl, hR2⟩
  have HR2 := hide hR2
  clear hR2
  go_wp2
  go_end0
  refine ⟨rfl, ?_⟩
  unfold putR
  rw [← List.append_assoc]
  exact (unhide HR).trans (unhide HR2)

theorem runZ_rest (x : Nat) : ∀ f m, ∀ i ∈ runZ x f m, i.2.1 < 128 ∧ i.2.2 ≤ 7
  | 0, m, i, h => by cases h
  | f + 1, m, i, h => by
    rw [runZ] at h
    have ih := runZ_rest x f
    split at h
    · cases h
    · split at h
      · rcases List.mem_cons.1 h with rfl | h
        · exact ⟨Nat.zero_lt_succ _, Nat.zero_le _⟩
        · exact ih _ i h
      · split at h
        · rcases List.mem_cons.1 h with rfl | h
          · constructor <;> simp only <;> omega
          · exact ih _ i h
        · split at h
          · rcases List.mem_cons.1 h with rfl | h
            · constructor <;> simp only <;> omega
            · exact ih _ i h
          · rcases List.mem_cons.1 h with rfl | h
            · constructor <;> simp only <;> omega
            · exact ih _ i h
theorem lenI_rest : ∀ (f : Nat) (l : List Int), ∀ i ∈ lenI f l, i.2.1 < 128 ∧ i.2.2 ≤ 7
  | 0, l, i, hi => by cases hi
  | f + 1, [], i, hi => by cases hi
  | f + 1, x :: r, i, hi => by
    have e : lenI (f + 1) (x :: r) = runI x.toNat (headN x r + 1) ++ lenI f (r.drop (headN x r)) := rfl
    rw [e] at hi
    rcases List.mem_append.1 hi with hi | hi
    · unfold runI at hi
      split at hi
      · rcases List.mem_cons.1 hi with rfl | h
        · exact ⟨Nat.zero_lt_succ _, Nat.zero_le _⟩
        · exact runZ_rest _ _ _ i h
      · exact runZ_rest _ _ _ i hi
    · exact lenI_rest f _ i hi

/-- the function that puts the symbols of lengths: what was put so far -/
structure LJ (No : Nat → Prop) (B gp gb gc gl gr rb : Nat) (a : Option Addr) (cap : Nat) (own : List Int) (S : List Bool) (is : List (Nat × Nat × Nat)) (W : World) : Prop where
  row : RIs No B W rb (S ++ putRs own is)
  c : CIs No W gc gl gr rb a 19 cap own
  p : W.cell? ⟨gp, 0, none⟩ = some (CV gc gl gr)
  b : W.cell? ⟨gb, 0, none⟩ = some (.pointer (some ⟨rb, 0, none⟩))
  lp : gp < W.heap.size ∧ No gp
  lb : gb < W.heap.size ∧ No gb
  no : ∀ g, W.heap.size ≤ g → ¬ No g
theorem put_snk3 (No : Nat → Prop) (B gp gb gc gl gr rb : Nat) (a : Option Addr) (cap : Nat) (own : List Int) (S : List Bool) (all : List Int) (hO : Own all own) (hlen : all.length ≤ 1000) (hS : S.length ≤ 280000) :
    Snk3 (LJ No B gp gb gc gl gr rb a cap own S) (fun W W' => Below B W W' ∧ Kp No W W') 75 #[.pointer (some ⟨gp, 0, none⟩), .pointer (some ⟨gb, 0, none⟩)] (lenIs all) := by
  refine ⟨enters_any' Tryz.func75 (by kernel_rfl) rfl, ?_, fun W => ⟨Below.refl _ _, Kp.refl _ _⟩, fun q h => ⟨h.row.drewN q, h.c.keep (Nat.le_refl _) (fun _ _ _ => rfl), h.p, h.b, h.lp, h.lb, h.no⟩, fun W q => ⟨below_drewN (Below.refl _ _) q, fun _ _ _ => rfl⟩, fun h k => ⟨h.1.trans k.1, h.2.trans k.2 h.1.size⟩⟩
  intro is R i W he hJ
  have hk := hO.has i (by rw [← he]; simp)
  have hr := lenI_rest all.length all i (by show i ∈ lenIs all; rw [← he]; simp)
  have hbits := (lenI_bits own hO.go (fun k => (hO.vo k).2) all.length all).1
  have hb2 : (putRs own is).length ≤ 7 * all.length := by
    have e : putRs own (lenIs all) = putRs own is ++ putRs own (i :: R) := by rw [← he, putRs_app]
    have h2 : (putRs own (lenIs all)).length ≤ 7 * all.length := hbits
    rw [e, List.length_append] at h2
    omega
  obtain ⟨k, n, s⟩ := i
  have hlo := hO.lo
  refine (putLen2_any No B gp gb gc gl gr rb a cap own k n s (S ++ putRs own is) W hJ.c hO.lo hO.go (by rw [← hlo]; exact hk.1) hk.2 (by have := hr.1; simp only at this; omega) (by have := hr.2; simp only at this; omega) hJ.row (by rw [List.length_append]; omega) hJ.no hJ.p hJ.b hJ.lb).mono ?_
  rintro e W' ⟨rfl, hR⟩
  have hz := hR.below.size
  have e : putRs own (is ++ [(k, n, s)]) = putRs own is ++ putR own (k, n, s) := by rw [putRs_app]; simp [putRs]
  refine ⟨rfl, ⟨?_, hJ.c.keep hz (fun g hg hn => hR.kp g hg hn), hR.kp.cell hJ.lp.1 hJ.lp.2 hJ.p, hR.kp.cell hJ.lb.1 hJ.lb.2 hJ.b, ⟨Nat.lt_of_lt_of_le hJ.lp.1 hz, hJ.lp.2⟩, ⟨Nat.lt_of_lt_of_le hJ.lb.1 hz, hJ.lb.2⟩, fun g hg => hJ.no g (by omega)⟩, hR.below, hR.kp⟩
  rw [e, ← List.append_assoc]
  exact hR.is
end Go.Proofs.YtekgcoajgbpniacGreat
