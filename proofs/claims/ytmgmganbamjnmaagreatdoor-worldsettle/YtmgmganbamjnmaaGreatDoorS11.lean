/-
  Package world: Check.
-/
import Derived.Test.YtmgmganbamjnmaaGreatDoorS10
namespace Go.Proofs.YtmgmganbamjnmaaGreatDoor
open Go.RowKit
set_option linter.unusedVariables false
set_option linter.unusedSimpArgs false
set_option maxRecDepth 100000

theorem errNs_step {ls : List (List Fl)} {cs : List Int} {k : Nat} {l : List Fl} {c : Int} (h1 : ls[k]? = some l) (h2 : cs[k]? = some c) : errNs (ls.drop k) (cs.drop k) = if errNd l c ≠ 0 then errNd l c else errNs (ls.drop (k + 1)) (cs.drop (k + 1)) := by
  obtain ⟨k1, e1⟩ := List.getElem?_eq_some_iff.1 h1
  obtain ⟨k2, e2⟩ := List.getElem?_eq_some_iff.1 h2
  rw [List.drop_eq_getElem_cons k1, e1, List.drop_eq_getElem_cons k2, e2]
  rfl
theorem errMs_step {n : Nat} {ms : List Ms} {k : Nat} {m : Ms} (h1 : ms[k]? = some m) : errMs n (ms.drop k) = if errM m.files ≠ 0 then errM m.files else if isP m.dst n = false then 5 else errMs n (ms.drop (k + 1)) := by
  obtain ⟨k1, e1⟩ := List.getElem?_eq_some_iff.1 h1
  rw [List.drop_eq_getElem_cons k1, e1]
  rfl
theorem get_some {α : Type} {l : List α} {k : Nat} (h : k < l.length) : ∃ x, l[k]? = some x := ⟨_, List.getElem?_eq_getElem h⟩
theorem nat_ne {E : Nat} (h : ¬ E = 0) : ((E : Int) == 0) = false ∧ ((E : Int) != 0) = true := by
  have : ((E : Int) == 0) = false := by rw [beq_eq_false_iff_ne]; omega
  exact ⟨this, by rw [bne, this]; rfl⟩
/-- a world in a box -/
abbrev wbox (v1 v2 v3 : Value) : Obj := .cells #[v1, v2, v3] 26
theorem wbox_cells {w W : World} {v1 v2 v3 : Value} (hB : Below (w.alloc (wbox v1 v2 v3)).heap.size (w.alloc (wbox v1 v2 v3)) W) : W.cell? ⟨w.heap.size, 0, none⟩ = some v1 ∧ W.cell? ⟨w.heap.size, 1, none⟩ = some v2 ∧ W.cell? ⟨w.heap.size, 2, none⟩ = some v3 := by
  have h := heap_alloc_new w (wbox v1 v2 v3)
  have e : ∀ i, W.cell? ⟨w.heap.size, i, none⟩ = (w.alloc (wbox v1 v2 v3)).cell? ⟨w.heap.size, i, none⟩ := fun i => hB.cell (p := ⟨w.heap.size, i, none⟩) (by simp)
  exact ⟨(e 0).trans (heap_row h), (e 1).trans (heap_row h), (e 2).trans (heap_row h)⟩
theorem al_bel {w W : World} {o : Obj} (hB : Below (w.alloc o).heap.size (w.alloc o) W) : Below w.heap.size w W := (bel_al (Below.refl _ w) o).trans (hB.mono (by simp))
theorem check_few (a1 a2 a3 : Option Addr) (n1 c1 n2 c2 n3 c3 : Nat) (w : World) (h : n1 < 1 ∨ 4 < n1 ∨ ¬ n2 = n1) : Calls Tryz.prog 10 #[.agg #[.slice a1 n1 c1, .slice a2 n2 c2, .slice a3 n3 c3]] w fun e w' => e = .returned (.int .i64 3) ∧ Below w.heap.size w w' := by
  have HB := hide (bel_al (Below.refl _ w) (wbox (.slice a1 n1 c1) (.slice a2 n2 c2) (.slice a3 n3 c3)))
  by_cases h1 : n1 < 1
  · have h1I : (n1 : Int) < 1 := by omega
    clear h h1
    go_enter Tryz.func10, Tryz.ntmps10
    go_wp2
    go_ret
    exact ⟨rfl, unhide HB⟩
  · by_cases h2 : 4 < n1
    · have h1I : ¬ (n1 : Int) < 1 := by omega
      have h2I : (4 : Int) < (n1 : Int) := by omega
      clear h h1 h2
      go_enter Tryz.func10, Tryz.ntmps10
      go_wp2
      go_ret
      exact ⟨rfl, unhide HB⟩
    · have h1I : ¬ (n1 : Int) < 1 := by omega
      have h2I : ¬ (4 : Int) < (n1 : Int) := by omega
      have h3I : ((n2 : Int) != (n1 : Int)) = true := by rw [bne_iff_ne]; omega
      clear h h1 h2
      go_enter Tryz.func10, Tryz.ntmps10
      go_wp2
      go_ret
      exact ⟨rfl, unhide HB⟩
set_option maxHeartbeats 2000000 in
theorem check_wat (a1 a2 a3 : Option Addr) (c1 c2 c3 : Nat) (W : Wd) (w : World) (h : WAt w W a1 c1 a2 c2 a3 c3) (n m : Nat) (hn : W.nodes.length = n) (hc : W.clock.length = n) (hm : W.net.length = m) (h1 : 1 ≤ n) (h4 : n ≤ 4) :
    Calls Tryz.prog 10 #[.agg #[.slice a1 n c1, .slice a2 n c2, .slice a3 m c3]] w fun e w' => e = .returned (.int .i64 (errWd W : Nat)) ∧ Below w.heap.size w w' := by
  obtain ⟨E, hE⟩ : ∃ E, errWd W = E := ⟨_, rfl⟩
  rw [hE]
  unfold errWd at hE
  rw [if_neg (by omega), hm] at hE
  have h1I : ¬ (n : Int) < 1 := by omega
  have h2I : ¬ (4 : Int) < (n : Int) := by omega
  have h3I : ((n : Int) != (n : Int)) = false := by rw [bne_eq_false_iff_eq]
  by_cases h20 : 20 < m
  · rw [if_pos h20] at hE
    subst hE
    have h20I : (20 : Int) < (m : Int) := by omega
    have HB := hide (bel_al (Below.refl _ w) (wbox (.slice a1 n c1) (.slice a2 n c2) (.slice a3 m c3)))
    clear h hn hc hm h20 h1 h4
    go_enter Tryz.func10, Tryz.ntmps10
    go_wp2
    go_ret
    exact ⟨rfl, unhide HB⟩
  · rw [if_neg h20] at hE
    have h20I : ¬ (20 : Int) < (m : Int) := by omega
    have HW := hide h
    have HN := hide hn
    have HCL := hide hc
    have HM := hide hm
    have HE := hide hE
    rw [hn] at HE
    have HB0 : Hid (Below (w.alloc (wbox (.slice a1 n c1) (.slice a2 n c2) (.slice a3 m c3))).heap.size (w.alloc (wbox (.slice a1 n c1) (.slice a2 n c2) (.slice a3 m c3))) (w.alloc (wbox (.slice a1 n c1) (.slice a2 n c2) (.slice a3 m c3)))) := Below.refl _ _
    clear h hn hc hm hE h20
    go_enter Tryz.func10, Tryz.ntmps10
    go_wp2
    go_loopw [2, 35] (fun v2 j wr => ∃ k : Nat, k ≤ n ∧ v2 = .int .i64 0 ∧ j = .int .i64 (k : Int) ∧ Hid (errNs W.nodes W.clock = errNs (W.nodes.drop k) (W.clock.drop k)) ∧ Hid (Below (w.alloc (wbox (.slice a1 n c1) (.slice a2 n c2) (.slice a3 m c3))).heap.size (w.alloc (wbox (.slice a1 n c1) (.slice a2 n c2) (.slice a3 m c3))) wr)) (fun _ j _ => n - (intOf j).toNat)
    case atStart => exact ⟨0, Nat.zero_le _, rfl, rfl, hide rfl, HB0⟩
    case round =>
      obtain ⟨k, hk, rfl, rfl, HS, HB⟩ := hrel
      obtain ⟨q0, q1, q2⟩ := wbox_cells (unhide HB)
      by_cases hlt : k < n
      · obtain ⟨l, hl⟩ := get_some (l := W.nodes) (k := k) (by rw [unhide HN]; exact hlt)
        obtain ⟨c, hcl⟩ := get_some (l := W.clock) (k := k) (by rw [unhide HCL]; exact hlt)
        have hW := (unhide HW).below (al_bel (unhide HB))
        obtain ⟨b, o, x, ha1, hb, hx, hL⟩ := hW.ns.get hl
        obtain ⟨b', o', ha2, hb', hx'⟩ := hW.cs.get hcl
        have HC := hide (checkNode_l c hL)
        obtain ⟨ax, cx, hxs⟩ := hL.shape
        obtain ⟨ln, hln⟩ : ∃ ln, l.length = ln := ⟨_, rfl⟩
        rw [hln] at hxs
        subst hxs
        obtain ⟨F, hF⟩ : ∃ F, errNd l c = F := ⟨_, rfl⟩
        have hst := errNs_step hl hcl
        rw [hF] at hst HC
        have HS2 := hide ((unhide HS).trans hst)
        clear hW hL hln hF hst hl hcl
        subst ha1 ha2
        go_wp2_with fail
        refine (unhide HC).mono ?_
        rintro e w1 ⟨rfl, hb1⟩
        have HB1 := hide ((unhide HB).trans (hb1.mono (unhide HB).size))
        clear hb1
        by_cases hF0 : F = 0
        · subst hF0
          have HS3 := unhide HS2
          simp only [ne_eq, not_true_eq_false, if_false] at HS3
          have HS4 := hide HS3
          clear HS3
          go_wp2
          go_roundw
          case rel => exact ⟨k + 1, by omega, rfl, by go_num, unhide HS4, unhide HB1⟩
          case measure => simp [intOf]; omega
        · obtain ⟨hFb, hFc⟩ := nat_ne hF0
          have hEE := unhide HE
          rw [unhide HS2, if_pos hF0, if_pos hF0] at hEE
          subst hEE
          clear hF0
          go_wp2
          go_ret
          exact ⟨rfl, al_bel (unhide HB1)⟩
      · obtain rfl : n = k := by omega
        have hS0 := unhide HS
        rw [List.drop_of_length_le (by rw [unhide HN]; exact Nat.le_refl _)] at hS0
        have hEE := unhide HE
        rw [hS0] at hEE
        simp only [errNs, ne_eq, not_true_eq_false, if_false] at hEE
        have HE2 := hide hEE
        clear hS0 hEE HE
        go_wp2
        go_loopw [2, 54] (fun v2 j wr => ∃ k : Nat, k ≤ m ∧ v2 = .int .i64 0 ∧ j = .int .i64 (k : Int) ∧ Hid (errMs n (W.net.drop k) = E) ∧ Hid (Below (w.alloc (wbox (.slice a1 n c1) (.slice a2 n c2) (.slice a3 m c3))).heap.size (w.alloc (wbox (.slice a1 n c1) (.slice a2 n c2) (.slice a3 m c3))) wr)) (fun _ j _ => m - (intOf j).toNat)
        case atStart => exact ⟨0, Nat.zero_le _, rfl, rfl, HE2, HB⟩
        case round =>
          clear q0 q1 q2
          obtain ⟨k, hk, rfl, rfl, HS5, HB5⟩ := hrel
          obtain ⟨q0, q1, q2⟩ := wbox_cells (unhide HB5)
          by_cases hlt : k < m
          · obtain ⟨mm, hmm⟩ := get_some (l := W.net) (k := k) (by rw [unhide HM]; exact hlt)
            have hW := (unhide HW).below (al_bel (unhide HB5))
            obtain ⟨b, o, x, ha3, hb, hx0, hx1, hL⟩ := hW.ms.get hmm
            have HC := hide (fun ob => check_l (hL.below (bel_al (Below.refl _ _) ob)))
            obtain ⟨ax, cx, hxs⟩ := hL.shape
            obtain ⟨ln, hln⟩ : ∃ ln, mm.files.length = ln := ⟨_, rfl⟩
            rw [hln] at hxs
            subst hxs
            obtain ⟨F, hF⟩ : ∃ F, errM mm.files = F := ⟨_, rfl⟩
            have hst := errMs_step (n := n) hmm
            rw [hF] at hst
            rw [hF] at HC
            have HS2 := hide (hst.symm.trans (unhide HS5))
            obtain ⟨d, hd⟩ : ∃ d, mm.dst = d := ⟨_, rfl⟩
            rw [hd] at HS2 hx0
            clear hW hL hln hF hst hmm hd
            subst ha3
            go_wp2_with fail
            refine (unhide HC _).mono ?_
            rintro e w1 ⟨rfl, hb1⟩
            have hbb := bel_al (Below.refl wr.heap.size wr) (.cells #[.int .i64 d, .slice ax ln cx] 54)
            have m0 : w1.cell? ⟨wr.heap.size, 0, none⟩ = some (.int .i64 d) := (hb1.cell (p := ⟨wr.heap.size, 0, none⟩) (by simp)).trans (heap_row (heap_alloc_new wr _))
            have HB1 := hide ((unhide HB5).trans ((hbb.trans (hb1.mono (by simp))).mono (unhide HB5).size))
            clear hb1 hbb
            by_cases hF0 : F = 0
            · subst hF0
              have HS3 := unhide HS2
              simp only [ne_eq, not_true_eq_false, if_false] at HS3
              have HP := hide (fun W => isPlace_any d n W)
              cases hp : isP d n with
              | true =>
                rw [hp] at HS3
                simp only [Bool.true_eq_false, if_false] at HS3
                have HS4 := hide HS3
                rw [hp] at HP
                clear HS3 hp
                go_wp2_with fail
                refine (unhide HP _).mono ?_
                rintro e w2 ⟨rfl, rfl⟩
                go_wp2
                go_roundw
                case rel => exact ⟨k + 1, by omega, rfl, by go_num, unhide HS4, unhide HB1⟩
                case measure => simp [intOf]; omega
              | false =>
                rw [hp] at HS3
                simp only [if_true] at HS3
                subst HS3
                rw [hp] at HP
                clear hp
                go_wp2_with fail
                refine (unhide HP _).mono ?_
                rintro e w2 ⟨rfl, rfl⟩
                go_wp2
                go_ret
                exact ⟨rfl, al_bel (unhide HB1)⟩
            · obtain ⟨hFb, hFc⟩ := nat_ne hF0
              have hEE := unhide HS2
              rw [if_pos hF0] at hEE
              subst hEE
              clear hF0
              go_wp2
              go_ret
              exact ⟨rfl, al_bel (unhide HB1)⟩
          · obtain rfl : m = k := by omega
            have hS0 := unhide HS5
            rw [List.drop_of_length_le (by rw [unhide HM]; exact Nat.le_refl _)] at hS0
            simp only [errMs] at hS0
            subst hS0
            go_wp2
            go_ret
            exact ⟨rfl, al_bel (unhide HB5)⟩
theorem check_w {w : World} {v : Value} {W : Wd} (h : WIn w v W) : Calls Tryz.prog 10 #[v] w fun e w' => e = .returned (.int .i64 (errWd W : Nat)) ∧ Below w.heap.size w w' := by
  obtain ⟨a1, c1, a2, c2, a3, c3, rfl, h1⟩ := h
  by_cases hb : W.nodes.length < 1 ∨ 4 < W.nodes.length ∨ ¬ W.clock.length = W.nodes.length
  · have := check_few a1 a2 a3 W.nodes.length c1 W.clock.length c2 W.net.length c3 w hb
    have e : errWd W = 3 := by unfold errWd; rw [if_pos hb]
    rw [e]
    exact this
  · have hc : W.clock.length = W.nodes.length := by omega
    have := check_wat a1 a2 a3 c1 c2 c3 W w h1 _ _ rfl hc rfl (by omega) (by omega)
    rw [hc]
    exact this
end Go.Proofs.YtmgmganbamjnmaaGreatDoor

/-
  Package world: copies.
-/
namespace Go.Proofs.YtmgmganbamjnmaaGreatDoor
open Go.RowKit
set_option linter.unusedVariables false
set_option linter.unusedSimpArgs false
set_option maxRecDepth 100000

set_option maxHeartbeats 4000000 in
theorem copyFiles_any (ad : Option Addr) (c : Nat) (xs : List Fv) (w : World) (h : FsIn w ad c xs) (n : Nat) (hn : xs.length = n) :
    Calls Tryz.prog 36 #[.slice ad n c] w fun e w' => ∃ v out, e = .returned v ∧ FRow w' w.heap.size v out ∧ fls out = fls xs ∧ Below w.heap.size w w' := by
  have HI := hide h
  have HL := hide hn
  have hfl : (fls xs).length = n := by simp [fls, hn]
  have HFLN := hide hfl
  have hlim := h.lim
  rw [hn] at hlim
  clear h hn hfl
  go_enter Tryz.func36, Tryz.ntmps36
  go_wp2
  go_loopw [3, 5, 8] (fun v3 _ j wr => ∃ (k : Nat) (o2 : List Fv), k ≤ n ∧ j = .int .i64 (k : Int) ∧ Hid (FRow wr w.heap.size v3 o2 ∧ Below w.heap.size w wr ∧ fls o2 = (fls xs).take k ∧ o2.length = k)) (fun _ _ j _ => n - (intOf j).toNat)
  case atStart => exact ⟨0, [], Nat.zero_le _, rfl, FRow.nil _ _, Below.refl _ _, by simp, rfl⟩
  case round =>
    obtain ⟨k, o2, hk, rfl, HS2⟩ := hrel
    by_cases hlt : k < n
    · obtain ⟨z, hz, hzm⟩ := get_of (xs := xs) (k := k) (by rw [unhide HL]; exact hlt)
      obtain ⟨h1, h2, h3, h4⟩ := unhide HS2
      obtain ⟨b, o, hA, hb, c0, c1, c2, c3, c4⟩ := (unhide HI).get h2 hz
      have hzw := h2.size
      have HZIN := hide (((unhide HI).all z hzm).below h2 (Nat.le_refl _))
      have HROW := hide h1
      have HBW := hide h2
      have htk : (fls xs).take (k + 1) = (fls xs).take k ++ [z.f] := by
        have hk2 : (fls xs)[k]? = some z.f := by simp [fls, hz]
        rw [List.take_add_one, hk2]
        simp
      have HTK := hide (by rw [htk, ← h3] : (fls xs).take (k + 1) = fls o2 ++ [z.f])
      have hzs : z.sl = .slice z.a z.f.bytes.length z.c := rfl
      rw [hzs] at c1
      have HV : Hid (∀ a c, Fv.cells ⟨z.f, a, c⟩ = [.string (B z.f.name), .slice a z.f.bytes.length c, .int .i64 z.f.stamp, .int .i64 z.f.node, .bool z.f.gone]) := fun a c => rfl
      have hbig := (unhide HZIN).big
      obtain ⟨zn, hzn⟩ : ∃ zn, z.f.bytes.length = zn := ⟨_, rfl⟩
      rw [hzn] at c1 HV hbig
      have HZN := hide hzn
      clear hzs hzm hz h1 h2 h3 HS2 htk hzn
      subst hA
      generalize B z.f.name = zt at *
      generalize z.f.stamp = zs at *
      generalize z.f.node = zd at *
      generalize z.f.gone = zg at *
      have HB1 := hide (bel_al (Below.refl wr.heap.size wr) (.cells #[.string zt, .slice z.a zn z.c, .int .i64 zs, .int .i64 zd, .bool zg] 49))
      have HBS := hide ((unhide HZIN).bs.below (unhide HB1) (Nat.le_refl _))
      have HOE : Hid ((wr.alloc (.cells #[.string zt, .slice z.a zn z.c, .int .i64 zs, .int .i64 zd, .bool zg] 49)).ownsRow (wr.heap.size + 1) 5 1 (.slice none 0 0) 0 (u8v [])) := World.ownsRow_nil _ _ _ _
      go_wp2_with (at_builtin; refine wpList_append_bs _ rfl _ _ rfl (wr.heap.size + 1) _ 0 [] rfl (unhide HOE) z.a zn z.c z.f.bytes rfl (unhide HZN) (unhide HBS) (by omega) (by simp) ?_)
      intro v' w5 hO hg
      obtain ⟨a', c', hv, hB', hloc⟩ := BsIn.own (unhide hO)
      rw [show z.f.bytes.length = zn from unhide HZN] at hv
      subst hv
      have hg0 : (wr.alloc (.cells #[.string zt, .slice z.a zn z.c, .int .i64 zs, .int .i64 zd, .bool zg] 49)).grownBy w5 none := unhide hg
      have hz5 := hg0.size
      simp only [World.size_alloc] at hz5
      have h8 : w5.heap[wr.heap.size]? = some (.cells #[.string zt, .slice z.a zn z.c, .int .i64 zs, .int .i64 zd, .bool zg] 49 (0, 0)) := by
        rw [hg0.block _ (by simp) (by simp), heap_alloc_new]
      have q0 : w5.cell? ⟨wr.heap.size, 0, none⟩ = some (.string zt) := heap_row h8
      have q1 : w5.cell? ⟨wr.heap.size, 1, none⟩ = some (.slice z.a zn z.c) := heap_row h8
      have q2 : w5.cell? ⟨wr.heap.size, 2, none⟩ = some (.int .i64 zs) := heap_row h8
      have q3 : w5.cell? ⟨wr.heap.size, 3, none⟩ = some (.int .i64 zd) := heap_row h8
      have q4 : w5.cell? ⟨wr.heap.size, 4, none⟩ = some (.bool zg) := heap_row h8
      have f1 := frozen_of_row w5 wr.heap.size 1 _ _ h8
      have k1 := grown_setCell w5 wr.heap.size 1 (.slice a' zn c')
      have hz6 := k1.size
      have hBel : Below wr.heap.size wr (w5.setCell ⟨wr.heap.size, 1, none⟩ (.slice a' zn c')) := ((unhide HB1).grown hg0 (by simp) (fun q e => by cases e)).grown k1 (by omega) (fun q e => by cases e; exact Nat.le_refl _)
      have hbs6 : BsIn (w5.setCell ⟨wr.heap.size, 1, none⟩ (.slice a' zn c')) a' c' z.f.bytes := hB'.grown k1 (fun b o e => by have := hloc b o e; simp; omega)
      have HV6 : Hid (FvIn (w5.setCell ⟨wr.heap.size, 1, none⟩ (.slice a' zn c')) ⟨z.f, a', c'⟩) := ⟨hbs6, (unhide HZIN).big, (unhide HZIN).txt⟩
      have HR6 := hide ((unhide HROW).below (bel_al hBel (.cells #[.string zt, .slice a' zn c', .int .i64 zs, .int .i64 zd, .bool zg] 49)))
      have HV7 := hide ((unhide HV6).alloc (.cells #[.string zt, .slice a' zn c', .int .i64 zs, .int .i64 zd, .bool zg] 49))
      have HB6 := hide (bel_al ((unhide HBW).trans (hBel.mono hzw)) (.cells #[.string zt, .slice a' zn c', .int .i64 zs, .int .i64 zd, .bool zg] 49))
      obtain ⟨w6, hw6⟩ : ∃ w6, w5.setCell ⟨wr.heap.size, 1, none⟩ (.slice a' zn c') = w6 := ⟨_, rfl⟩
      have HL6 : Hid (∀ b o, a' = some ⟨b, o, none⟩ → some b ≠ u3.ownBlock ∧ b < ((w5.setCell ⟨wr.heap.size, 1, none⟩ (.slice a' zn c')).alloc (.cells #[.string zt, .slice a' zn c', .int .i64 zs, .int .i64 zd, .bool zg] 49)).heap.size) := by
        intro b o e
        have h1 := hloc b o e
        refine ⟨fun e2 => ?_, by rw [World.size_alloc]; omega⟩
        have := ((unhide HROW).lt e2.symm).2
        omega
      have HC6 : Hid (∀ j u, (Fv.cells ⟨z.f, a', c'⟩)[j]? = some u → ((w5.setCell ⟨wr.heap.size, 1, none⟩ (.slice a' zn c')).alloc (.cells #[.string zt, .slice a' zn c', .int .i64 zs, .int .i64 zd, .bool zg] 49)).cell? ⟨(w5.setCell ⟨wr.heap.size, 1, none⟩ (.slice a' zn c')).heap.size, j, none⟩ = some u) := by
        intro j u hj
        rw [unhide HV a' c'] at hj
        rw [World.cell?_alloc_at _ _ _ _ rfl]
        simpa using hj
      have HS6 : Hid ((w5.setCell ⟨wr.heap.size, 1, none⟩ (.slice a' zn c')).heap.size = w5.heap.size) := by simp; exact trivial
      rw [unhide HS6] at HC6
      clear h8 hB' hloc hg hg0 hO k1 hBel hbs6 hz6 HV6 HBS HOE hw6
      go_wp2_with (at_builtin; refine wpList_append_file _ rfl _ _ rfl w.heap.size _ o2 rfl (unhide HR6) w5.heap.size ⟨z.f, a', c'⟩ rfl (unhide HC6) (unhide HV7) (unhide HL6) (by omega) (by simp; omega) ?_)
      intro v7 w7 hR7 hB7
      have HB7 := hide ((unhide HB6).trans (unhide hB7))
      clear HR6 HV7 HB6 HL6 HC6 hB7 HROW q0 q1 q2 q3 q4 f1
      go_wp2
      go_roundw
      case rel => exact ⟨k + 1, _, by omega, by go_num, unhide hR7, unhide HB7, by rw [fls_snoc, unhide HTK], by rw [List.length_append]; simp; omega⟩
      case measure => simp [intOf]; omega
    · obtain rfl : n = k := by omega
      obtain ⟨h1, h2, h3, h4⟩ := unhide HS2
      rw [List.take_of_length_le (by rw [unhide HFLN]; exact Nat.le_refl _)] at h3
      have H1 := hide h1
      have H2 := hide h2
      have H3 := hide h3
      clear h1 h2 h3 h4
      go_wp2
      go_ret
      exact ⟨_, o2, rfl, unhide H1, unhide H3, unhide H2⟩

theorem copy_l {w : World} {v : Value} {a : List Fl} (h : LIn w v a) :
    Calls Tryz.prog 36 #[v] w fun e w' => ∃ x, e = .returned x ∧ LIn w' x a ∧ Below w.heap.size w w' := by
  obtain ⟨ad, c, xs, rfl, h2, h3⟩ := h
  have hlim := h2.lim
  refine (copyFiles_any ad c xs w h2 _ (fls_len h3)).mono ?_
  rintro e w' ⟨v, out, rfl, hr, ho, hb⟩
  have hol : out.length = xs.length := by have := congrArg List.length ho; simpa [fls] using this
  obtain ⟨ad2, c2, rfl, hf⟩ := hr.files (by omega)
  refine ⟨_, rfl, ?_, hb⟩
  have := lin_of hf rfl
  rw [ho, h3] at this
  exact this
end Go.Proofs.YtmgmganbamjnmaaGreatDoor
