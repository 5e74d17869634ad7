/-
  Package world: a copy of a world.
-/
import Derived.Test.YtmgmganbamjnmaaGreatDoorS12
namespace Go.Proofs.YtmgmganbamjnmaaGreatDoor
open Go.RowKit
set_option linter.unusedVariables false
set_option linter.unusedSimpArgs false
set_option maxRecDepth 100000

theorem two_boxes (w : World) (v1 v2 v3 : Value) : ∃ w1, (w.alloc (wbox v1 v2 v3)).alloc (wbox (.slice none 0 0) (.slice none 0 0) (.slice none 0 0)) = w1 ∧ w1.heap.size = w.heap.size + 2 ∧ Below w.heap.size w w1 ∧ w1.heap[w.heap.size]? = some (.cells #[v1, v2, v3] 26 (0, 0)) ∧ w1.heap[w.heap.size + 1]? = some (.cells #[(.slice none 0 0), (.slice none 0 0), (.slice none 0 0)] 26 (0, 0)) := by
  refine ⟨_, rfl, by simp, bel_al (bel_al (Below.refl _ _) _) _, ?_, ?_⟩
  · rw [Below.heap_alloc _ _ _ (by simp), heap_alloc_new]
  · have := heap_alloc_new (w.alloc (wbox v1 v2 v3)) (wbox (.slice none 0 0) (.slice none 0 0) (.slice none 0 0))
    rw [World.size_alloc] at this
    exact this
theorem take_get {α : Type} {l : List α} {k : Nat} {x : α} (h : l[k]? = some x) : l.take (k + 1) = l.take k ++ [x] := by
  rw [List.take_add_one, h]
  rfl
theorem OW.mono {w : World} {B B' : Nat} {vn vc vm : Value} {ns : List Lv} {cs : List Int} {ms : List Mv} (h : OW w B vn vc vm ns cs ms) (hB : B' ≤ B) : OW w B' vn vc vm ns cs ms :=
  ⟨⟨own_mono h.n.own hB, h.n.nf⟩, ⟨own_mono h.c.own hB, h.c.nf⟩, ⟨own_mono h.m.own hB, h.m.nf⟩, h.la, h.ma⟩
theorem OW.off {w w' : World} {B g : Nat} {vn vc vm : Value} {ns : List Lv} {cs : List Int} {ms : List Mv} (h : OW w B vn vc vm ns cs ms) (hg : w.grownBy w' (some g)) (hb : g < B) (hn : NFb w g) : OW w' B vn vc vm ns cs ms := by
  have ho : ∀ {T k n : Nat} {v : Value} {xs : List Value}, TRow w B T k v n xs → v.ownBlock = none ∨ v.ownBlock ≠ some g := by
    intro T k n v xs hT
    cases hv : v.ownBlock with
    | none => exact .inl rfl
    | some q => refine .inr (fun e => ?_); cases e; have := (hT.lt hv).1; omega
  have hnf : ∀ q, some g = some q → NFb w q := fun q e => by cases e; exact hn
  exact ⟨h.n.kept hg (ho h.n), h.c.kept hg (ho h.c), h.m.kept hg (ho h.m), fun x hx => (h.la x hx).offN hg hnf, fun x hx => (h.ma x hx).offN hg hnf⟩
theorem wpList_append_run {ops : Array Oper} {rest : List Oper} {o : Oper} {a : Act} {w w' : World} {Q : Exit → Act → World → Prop} (hgd : o.guard = none) (s x : Operand) (t : TypeId) {v y v' : Value} (ho : o.op = .call { callee := .builtin .append, args := #[s, x], argTypes := #[t, t] })
    (hs : a.eval s = v) (hx : a.eval x = y) (hr : (Builtin.append_ #[t, t] o.type #[v, y]).run Tryz.prog w = .ok v' w') (h : wpList Tryz.prog ops Q rest (a.put o.dst v') w') : wpList Tryz.prog ops Q (o :: rest) a w :=
  wpList_plain hgd fun K hK => wp_append_run s x t ho hs hx hr (hK _ _ h)
set_option maxHeartbeats 4000000 in
theorem copyW_wat (a1 a2 a3 : Option Addr) (c1 c2 c3 : Nat) (W : Wd) (w : World) (h : WAt w W a1 c1 a2 c2 a3 c3) (n m q : Nat) (hn : W.nodes.length = n) (hc : W.clock.length = q) (hm : W.net.length = m) (h4 : n ≤ 1000) (h20 : m ≤ 1000) (hq : q ≤ 1000) :
    Calls Tryz.prog 21 #[.agg #[.slice a1 n c1, .slice a2 q c2, .slice a3 m c3]] w fun e w' => ∃ vn vc vm ns ms, e = .returned (.agg #[vn, vc, vm]) ∧ OW w' w.heap.size vn vc vm ns W.clock ms ∧ lss ns = W.nodes ∧ mss ms = W.net ∧ Below w.heap.size w w' := by
  obtain ⟨w1, hw1, hz1, hb1, hx0, hx1⟩ := two_boxes w (.slice a1 n c1) (.slice a2 q c2) (.slice a3 m c3)
  have HW1 := hide hw1
  have HZ1 := hide hz1
  have HB1 := hide hb1
  have HX0 := hide hx0
  have HX1 := hide hx1
  have HW := hide (h.below hb1)
  have HN := hide hn
  have HCL := hide hc
  have HM := hide hm
  have HST : Hid (∀ W', W' = w1.alloc (wbox (.slice none 0 0) (.slice none 0 0) (.slice none 0 0)) → BSt w1 W' (.slice none 0 0) (.slice none 0 0) (.slice none 0 0) [] [] []) := hide (fun W' e => by rw [e]; exact BSt.start w1)
  clear h hn hc hm hw1 hz1 hb1 hx0 hx1
  go_enter Tryz.func21, Tryz.ntmps21
  go_wp2
  go_loopw [11] (fun j wr => ∃ (k : Nat) (vn : Value) (ns : List Lv), k ≤ n ∧ j = .int .i64 (k : Int) ∧ Hid (BSt w1 wr vn (.slice none 0 0) (.slice none 0 0) ns [] []) ∧ Hid (lss ns = W.nodes.take k) ∧ ns.length = k) (fun j _ => n - (intOf j).toNat)
  case atStart => exact ⟨0, _, [], Nat.zero_le _, rfl, unhide HST _ (by rw [← unhide HW1]), hide rfl, rfl⟩
  case round =>
    clear HST
    obtain ⟨k, vn, ns, hk, rfl, HS, HK, hnk⟩ := hrel
    have hS := unhide HS
    have hD := unhide HZ1
    have q0 : wr.cell? ⟨w.heap.size, 0, none⟩ = some (.slice a1 n c1) := (hS.bel.cell (p := ⟨w.heap.size, 0, none⟩) (by show w.heap.size < _; omega)).trans (heap_row (unhide HX0))
    have q2 : wr.cell? ⟨w.heap.size, 2, none⟩ = some (.slice a3 m c3) := (hS.bel.cell (p := ⟨w.heap.size, 2, none⟩) (by show w.heap.size < _; omega)).trans (heap_row (unhide HX0))
    by_cases hlt : k < n
    · obtain ⟨l, hl⟩ := get_some (l := W.nodes) (k := k) (by rw [unhide HN]; exact hlt)
      have hW := (unhide HW).below hS.bel
      obtain ⟨b, o, x, ha1, hb, hx, hL⟩ := hW.ns.get hl
      have HC := hide (copy_l (hL.below (below_drewN (Below.refl wr.heap.size wr) 1)))
      obtain ⟨ax, cx, hxs⟩ := hL.shape
      obtain ⟨ln, hln⟩ : ∃ ln, l.length = ln := ⟨_, rfl⟩
      rw [hln] at hxs
      subst hxs
      obtain ⟨d0, d1, d2, df⟩ := hS.cells
      rw [hD] at d0
      have HK2 : Hid (∀ y : Lv, y.l = l → lss (ns ++ [y]) = W.nodes.take (k + 1)) := hide (fun y hy => by rw [take_get hl, ← unhide HK]; simp [lss, hy])
      replace hS : BSt w1 wr.drew vn (.slice none 0 0) (.slice none 0 0) ns [] [] := hS.below (below_drewN (Below.refl wr.heap.size wr) 1)
      replace d0 : wr.drew.cell? ⟨w.heap.size + 2, 0, none⟩ = some vn := d0
      obtain ⟨an, cn, hvn⟩ := hS.ow.n.sl
      rw [hnk] at hvn
      have HSD := hide hS
      have HD := hide hD
      have HVN := hide hvn
      have HD0 := hide d0
      clear hW hL hln hl hS hvn hD d0 d1 d2 df HK
      subst ha1
      go_upto_region 5 with fail
      have hS := unhide HSD
      have hD := unhide HD
      have d0 := unhide HD0
      have hvn := unhide HVN
      subst hvn
      refine wp_region_held_drew (S := fun _ => True) (by kernel_rfl) trivial (fun hHeld => ?_)
      refine wpAnyH_take (i := 0) (v := .pointer (some ⟨w.heap.size + 2, 0, none⟩)) rfl (by kernel_rfl) (by kernel_rfl) (by kernel_rfl) (fun _ _ _ h => h) (Or.inl ⟨by rfl, fun W hS => by go_simp⟩) hHeld ?_
      simp only [Act.put, List.setIfInBounds_toArray, List.set_cons_zero, List.set_cons_succ]
      refine wpAnyH_take (i := 2) (v := .slice ax ln cx) rfl (by kernel_rfl) (by kernel_rfl) (by kernel_rfl) (fun _ _ _ h => h) (Or.inl ⟨by rfl, fun W hS => by go_simp⟩) hHeld ?_
      simp only [Act.put, List.setIfInBounds_toArray, List.set_cons_zero, List.set_cons_succ]
      refine wpAnyH_ready (rs := [1, 3]) (by kernel_rfl) (by simp) (AllReadyH.cons rfl (fun K hK => ?_) (AllReadyH.cons rfl (fun K hK => ?_) AllReadyH.nil))
      · go_simp
        refine hK.out _ _ trivial (fun _ => ?_)
        clear hK K
        refine wpAnyH_ready (rs := [3]) (by kernel_rfl) (by simp) (AllReadyH.cons rfl (fun K hK => ?_) AllReadyH.nil)
        go_simp
        refine (unhide HC).mono ?_
        rintro e w4 ⟨x4, rfl, hL, hB4⟩
        dsimp only
        obtain ⟨a', c', hx4⟩ := hL.shape
        obtain ⟨n', hn'⟩ : ∃ n', l.length = n' := ⟨_, rfl⟩
        rw [hn'] at hx4
        subst hx4
        have hS4 := hS.below hB4
        obtain ⟨g0, g1, g2, gf⟩ := hS4.cells
        rw [hD] at g0
        refine hK.out _ _ trivial (fun _ => ?_)
        clear hK K
        refine wpAnyH_ready (rs := [4]) (by kernel_rfl) (by simp) (AllReadyH.cons rfl (fun K hK => ?_) AllReadyH.nil)
        go_simp
        refine hK.out _ _ trivial (fun _ => ?_)
        clear hK K
        have hB5 : Below w4.heap.size w4 (w4.alloc (.cells #[.slice a' n' c'] 46)) := bel_al (Below.refl _ _) _
        have hS5 := hS4.below hB5
        have hY5 : (w4.alloc (.cells #[.slice a' n' c'] 46)).cell? ⟨w4.heap.size, 0, none⟩ = some (Lv.val ⟨l, a', c'⟩) := by rw [heap_row (heap_alloc_new w4 _)]; simp [Lv.val, hn']
        have hL5 : LIn (w4.alloc (.cells #[.slice a' n' c'] 46)) (Lv.val ⟨l, a', c'⟩) l := by have := hL.below hB5; simpa [Lv.val, hn'] using this
        obtain ⟨v', w6, hr, hT, hg, hat⟩ := app_n (w4.alloc (.cells #[.slice a' n' c'] 46)) 22 (y := ⟨l, a', c'⟩) hS5.ow.n hY5 (by omega) (by have := hS5.lt; omega)
        obtain ⟨e0, ef, hS6⟩ := hS5.putN hL5 hT hg
        obtain ⟨a6, c6, hv6⟩ := hT.sl
        rw [List.length_append, List.length_singleton, hnk] at hv6
        subst hv6
        rw [hD] at e0 ef hS6
        have HS6 := hide hS6
        clear hS5 hL5 hT hg hat hS6 hB5
        refine wpAnyH_ready (rs := [5]) (by kernel_rfl) (by simp) (AllReadyH.cons rfl (fun K hK => ?_) AllReadyH.nil)
        rw [if_pos (by rfl)]
        refine wp_append_run (.tmp 16) (.tmp 19) 22 rfl rfl rfl hr ?_
        refine hK.out _ _ trivial (fun _ => ?_)
        clear hK K hr hY5
        simp only [Act.put, List.setIfInBounds_toArray, List.set_cons_zero, List.set_cons_succ]
        refine wpAnyH_take (i := 6) (v := .pointer (some ⟨w.heap.size + 2, 0, none⟩)) rfl (by kernel_rfl) (by kernel_rfl) (by kernel_rfl) (fun _ _ _ h => h) (Or.inl ⟨by rfl, fun W hS => by go_simp⟩) hHeld ?_
        simp only [Act.put, List.setIfInBounds_toArray, List.set_cons_zero, List.set_cons_succ]
        refine wpAnyH_ready (rs := [7]) (by kernel_rfl) (by simp) (AllReadyH.cons rfl (fun K hK => ?_) AllReadyH.nil)
        go_simp
        refine hK.out _ _ trivial (fun _ => ?_)
        clear hK K
        refine wpAnyH_done (by kernel_rfl) ?_ _
        go_wp2
        go_roundw
        case rel => exact ⟨k + 1, _, ns ++ [⟨l, a', c'⟩], by omega, by go_num, HS6, hide (unhide HK2 _ rfl), by simp [hnk]⟩
        case measure => simp [intOf]; omega
      · skip
        go_simp
        refine (unhide HC).mono ?_
        rintro e w4 ⟨x4, rfl, hL, hB4⟩
        dsimp only
        obtain ⟨a', c', hx4⟩ := hL.shape
        obtain ⟨n', hn'⟩ : ∃ n', l.length = n' := ⟨_, rfl⟩
        rw [hn'] at hx4
        subst hx4
        have hS4 := hS.below hB4
        obtain ⟨g0, g1, g2, gf⟩ := hS4.cells
        rw [hD] at g0
        refine hK.out _ _ trivial (fun _ => ?_)
        clear hK K
        refine wpAnyH_ready (rs := [1, 4]) (by kernel_rfl) (by simp) (AllReadyH.cons rfl (fun K hK => ?_) (AllReadyH.cons rfl (fun K hK => ?_) AllReadyH.nil))
        · go_simp
          refine hK.out _ _ trivial (fun _ => ?_)
          clear hK K
          refine wpAnyH_ready (rs := [4]) (by kernel_rfl) (by simp) (AllReadyH.cons rfl (fun K hK => ?_) AllReadyH.nil)
          go_simp
          refine hK.out _ _ trivial (fun _ => ?_)
          clear hK K
          have hB5 : Below w4.heap.size w4 (w4.alloc (.cells #[.slice a' n' c'] 46)) := bel_al (Below.refl _ _) _
          have hS5 := hS4.below hB5
          have hY5 : (w4.alloc (.cells #[.slice a' n' c'] 46)).cell? ⟨w4.heap.size, 0, none⟩ = some (Lv.val ⟨l, a', c'⟩) := by rw [heap_row (heap_alloc_new w4 _)]; simp [Lv.val, hn']
          have hL5 : LIn (w4.alloc (.cells #[.slice a' n' c'] 46)) (Lv.val ⟨l, a', c'⟩) l := by have := hL.below hB5; simpa [Lv.val, hn'] using this
          obtain ⟨v', w6, hr, hT, hg, hat⟩ := app_n (w4.alloc (.cells #[.slice a' n' c'] 46)) 22 (y := ⟨l, a', c'⟩) hS5.ow.n hY5 (by omega) (by have := hS5.lt; omega)
          obtain ⟨e0, ef, hS6⟩ := hS5.putN hL5 hT hg
          obtain ⟨a6, c6, hv6⟩ := hT.sl
          rw [List.length_append, List.length_singleton, hnk] at hv6
          subst hv6
          rw [hD] at e0 ef hS6
          have HS6 := hide hS6
          clear hS5 hL5 hT hg hat hS6 hB5
          refine wpAnyH_ready (rs := [5]) (by kernel_rfl) (by simp) (AllReadyH.cons rfl (fun K hK => ?_) AllReadyH.nil)
          rw [if_pos (by rfl)]
          refine wp_append_run (.tmp 16) (.tmp 19) 22 rfl rfl rfl hr ?_
          refine hK.out _ _ trivial (fun _ => ?_)
          clear hK K hr hY5
          simp only [Act.put, List.setIfInBounds_toArray, List.set_cons_zero, List.set_cons_succ]
          refine wpAnyH_take (i := 6) (v := .pointer (some ⟨w.heap.size + 2, 0, none⟩)) rfl (by kernel_rfl) (by kernel_rfl) (by kernel_rfl) (fun _ _ _ h => h) (Or.inl ⟨by rfl, fun W hS => by go_simp⟩) hHeld ?_
          simp only [Act.put, List.setIfInBounds_toArray, List.set_cons_zero, List.set_cons_succ]
          refine wpAnyH_ready (rs := [7]) (by kernel_rfl) (by simp) (AllReadyH.cons rfl (fun K hK => ?_) AllReadyH.nil)
          go_simp
          refine hK.out _ _ trivial (fun _ => ?_)
          clear hK K
          refine wpAnyH_done (by kernel_rfl) ?_ _
          go_wp2
          go_roundw
          case rel => exact ⟨k + 1, _, ns ++ [⟨l, a', c'⟩], by omega, by go_num, HS6, hide (unhide HK2 _ rfl), by simp [hnk]⟩
          case measure => simp [intOf]; omega
        · go_simp
          refine hK.out _ _ trivial (fun _ => ?_)
          clear hK K
          have g0' : (w4.alloc (.cells #[.slice a' n' c'] 46)).cell? ⟨w.heap.size + 2, 0, none⟩ = some (.slice an k cn) := cell_al g0
          refine wpAnyH_ready (rs := [1]) (by kernel_rfl) (by simp) (AllReadyH.cons rfl (fun K hK => ?_) AllReadyH.nil)
          go_simp
          refine hK.out _ _ trivial (fun _ => ?_)
          clear hK K g0'
          have hB5 : Below w4.heap.size w4 (w4.alloc (.cells #[.slice a' n' c'] 46)) := bel_al (Below.refl _ _) _
          have hS5 := hS4.below hB5
          have hY5 : (w4.alloc (.cells #[.slice a' n' c'] 46)).cell? ⟨w4.heap.size, 0, none⟩ = some (Lv.val ⟨l, a', c'⟩) := by rw [heap_row (heap_alloc_new w4 _)]; simp [Lv.val, hn']
          have hL5 : LIn (w4.alloc (.cells #[.slice a' n' c'] 46)) (Lv.val ⟨l, a', c'⟩) l := by have := hL.below hB5; simpa [Lv.val, hn'] using this
          obtain ⟨v', w6, hr, hT, hg, hat⟩ := app_n (w4.alloc (.cells #[.slice a' n' c'] 46)) 22 (y := ⟨l, a', c'⟩) hS5.ow.n hY5 (by omega) (by have := hS5.lt; omega)
          obtain ⟨e0, ef, hS6⟩ := hS5.putN hL5 hT hg
          obtain ⟨a6, c6, hv6⟩ := hT.sl
          rw [List.length_append, List.length_singleton, hnk] at hv6
          subst hv6
          rw [hD] at e0 ef hS6
          have HS6 := hide hS6
          clear hS5 hL5 hT hg hat hS6 hB5
          refine wpAnyH_ready (rs := [5]) (by kernel_rfl) (by simp) (AllReadyH.cons rfl (fun K hK => ?_) AllReadyH.nil)
          rw [if_pos (by rfl)]
          refine wp_append_run (.tmp 16) (.tmp 19) 22 rfl rfl rfl hr ?_
          refine hK.out _ _ trivial (fun _ => ?_)
          clear hK K hr hY5
          simp only [Act.put, List.setIfInBounds_toArray, List.set_cons_zero, List.set_cons_succ]
          refine wpAnyH_take (i := 6) (v := .pointer (some ⟨w.heap.size + 2, 0, none⟩)) rfl (by kernel_rfl) (by kernel_rfl) (by kernel_rfl) (fun _ _ _ h => h) (Or.inl ⟨by rfl, fun W hS => by go_simp⟩) hHeld ?_
          simp only [Act.put, List.setIfInBounds_toArray, List.set_cons_zero, List.set_cons_succ]
          refine wpAnyH_ready (rs := [7]) (by kernel_rfl) (by simp) (AllReadyH.cons rfl (fun K hK => ?_) AllReadyH.nil)
          go_simp
          refine hK.out _ _ trivial (fun _ => ?_)
          clear hK K
          refine wpAnyH_done (by kernel_rfl) ?_ _
          go_wp2
          go_roundw
          case rel => exact ⟨k + 1, _, ns ++ [⟨l, a', c'⟩], by omega, by go_num, HS6, hide (unhide HK2 _ rfl), by simp [hnk]⟩
          case measure => simp [intOf]; omega
    · obtain rfl : n = k := by omega
      have hlen : lss ns = W.nodes := by have := unhide HK; rwa [List.take_of_length_le (by rw [unhide HN]; exact Nat.le_refl _)] at this
      have HLS := hide hlen
      obtain ⟨an, cn, hvn⟩ := hS.ow.n.sl
      rw [hnk] at hvn
      subst hvn
      clear hlen hS q0 HK hlt
      go_wp2
      go_loopw [26] (fun j wr => ∃ (k : Nat) (vm : Value) (ms : List Mv), k ≤ m ∧ j = .int .i64 (k : Int) ∧ Hid (BSt w1 wr (.slice an n cn) (.slice none 0 0) vm ns [] ms) ∧ Hid (mss ms = W.net.take k) ∧ ms.length = k) (fun j _ => m - (intOf j).toNat)
      case atStart => exact ⟨0, _, [], Nat.zero_le _, rfl, HS, hide rfl, rfl⟩
      case round =>
        clear HS q2
        obtain ⟨k, vm, ms, hk, rfl, HS, HK, hnk⟩ := hrel
        have hS := unhide HS
        by_cases hlt : k < m
        · obtain ⟨mm, hl⟩ := get_some (l := W.net) (k := k) (by rw [unhide HM]; exact hlt)
          have hW := (unhide HW).below hS.bel
          obtain ⟨b, o, x, ha1, hb, hy0, hy1, hL⟩ := hW.ms.get hl
          obtain ⟨d, l⟩ := mm
          simp only at hy0 hL
          obtain ⟨ax, cx, hxs⟩ := hL.shape
          obtain ⟨ln, hln⟩ : ∃ ln, l.length = ln := ⟨_, rfl⟩
          rw [hln] at hxs
          subst hxs
          have hbm : Below wr.heap.size wr (wr.alloc (mbox (.int .i64 d) (.slice ax ln cx))).drew := below_drewN (bel_al (Below.refl _ _) _) 1
          have HC := hide (copyMsg_l d (hL.below hbm))
          obtain ⟨d0, d1, d2, df⟩ := (hS.below hbm).cells
          have HK2 : Hid (∀ y : Mv, y.m = ⟨d, l⟩ → mss (ms ++ [y]) = W.net.take (k + 1)) := hide (fun y hy => by rw [take_get hl, ← unhide HK]; simp [mss, hy])
          have hGm : ∀ G, G = wr.heap.size → vm.ownBlock ≠ some G := fun G e1 e2 => by have := (hS.ow.m.lt e2).2; omega
          have hGd := hS.lt
          have HSD := hide (hS.below hbm)
          obtain ⟨am, cm, hvm⟩ := hS.ow.m.sl
          rw [hnk] at hvm
          have HVM := hide hvm
          have HGM := hide hGm
          have HD2 := hide d2
          have HG0 : Hid ((wr.alloc (mbox (.int .i64 d) (.slice ax ln cx))).drew.heap[wr.heap.size]? = some (.cells #[.int .i64 d, .slice ax ln cx] 54 (0, 0))) := hide (heap_alloc_new wr _)
          have HGD := hide hGd
          have HD := hide hD
          clear hW hL hln hl hS hvm hD d0 d1 d2 df HK hbm hGm hGd HS
          subst ha1
          go_upto_region 10 with fail
          have hS := unhide HSD
          have hD := unhide HD
          have d2 := unhide HD2
          have hG0 := unhide HG0
          have hGm := unhide HGM _ rfl
          have hGd := unhide HGD
          rw [hD] at d2 hGd
          have hvm := unhide HVM
          subst hvm
          clear HSD HD HD2 HG0 HGM HGD HVM
          obtain ⟨G, hGG⟩ : ∃ G, wr.heap.size = G := ⟨_, rfl⟩
          rw [hGG] at hG0 hGm hGd ⊢
          refine wp_region_held_drew (S := fun W => W.heap[G]? = some (.cells #[.int .i64 d, .slice ax ln cx] 54 (0, 0))) (by kernel_rfl) hG0 (fun hHeld => ?_)
          refine wpAnyH_take (i := 0) (v := .pointer (some ⟨w.heap.size + 2, 2, none⟩)) rfl (by kernel_rfl) (by kernel_rfl) (by kernel_rfl) (fun _ _ _ h => h) (Or.inl ⟨by rfl, fun W hS => by go_simp⟩) hHeld ?_
          simp only [Act.put, List.setIfInBounds_toArray, List.set_cons_zero, List.set_cons_succ]
          refine wpAnyH_take (i := 2) (v := .agg #[.int .i64 d, .slice ax ln cx]) rfl (by kernel_rfl) (by kernel_rfl) (by kernel_rfl) (fun _ _ _ h => h) (Or.inl ⟨by rfl, fun W hS => by have z0 := heap_row (i := 0) hS; have z1 := heap_row (i := 1) hS; go_simp⟩) hHeld ?_
          simp only [Act.put, List.setIfInBounds_toArray, List.set_cons_zero, List.set_cons_succ]
          refine wpAnyH_ready (rs := [1, 3]) (by kernel_rfl) (by simp) (AllReadyH.cons rfl (fun K hK => ?_) (AllReadyH.cons rfl (fun K hK => ?_) AllReadyH.nil))
          · go_simp
            refine hK.out _ _ hHeld (fun hHeld => ?_)
            clear hK K
            refine wpAnyH_ready (rs := [3]) (by kernel_rfl) (by simp) (AllReadyH.cons rfl (fun K hK => ?_) AllReadyH.nil)
            go_simp
            refine (unhide HC).mono ?_
            rintro e w4 ⟨x4, rfl, hL, hB4⟩
            dsimp only
            obtain ⟨a', c', hx4⟩ := hL.shape
            obtain ⟨n', hn'⟩ : ∃ n', l.length = n' := ⟨_, rfl⟩
            rw [hn'] at hx4
            subst hx4
            have hS4 := hS.below hB4
            have hG4 := (hB4.block G (Array.getElem?_eq_some_iff.1 hHeld).1).trans hHeld
            obtain ⟨g0, g1, g2, gf⟩ := hS4.cells
            rw [hD] at g2
            refine hK.out _ _ hG4 (fun hHeld => ?_)
            clear hK K
            refine wpAnyH_ready (rs := [4]) (by kernel_rfl) (by simp) (AllReadyH.cons rfl (fun K hK => ?_) AllReadyH.nil)
            go_simp
            refine hK.out _ _ ((Below.heap_alloc _ _ _ (Array.getElem?_eq_some_iff.1 hG4).1).trans hG4) (fun hHeld => ?_)
            clear hK K
            have hB5 : Below w4.heap.size w4 (w4.alloc (.cells #[.int .i64 d, .slice a' n' c'] 54)) := bel_al (Below.refl _ _) _
            have hS5 := hS4.below hB5
            have hY5 : (w4.alloc (.cells #[.int .i64 d, .slice a' n' c'] 54)).cell? ⟨w4.heap.size, 0, none⟩ = some (.int .i64 (Mv.mk ⟨d, l⟩ a' c').m.dst) := heap_row (heap_alloc_new w4 _)
            have hZ5 : (w4.alloc (.cells #[.int .i64 d, .slice a' n' c'] 54)).cell? ⟨w4.heap.size, 1, none⟩ = some (Mv.mk ⟨d, l⟩ a' c').sl := by rw [heap_row (heap_alloc_new w4 _)]; simp [Mv.sl, hn']
            have hL5 : LIn (w4.alloc (.cells #[.int .i64 d, .slice a' n' c'] 54)) (Mv.mk ⟨d, l⟩ a' c').sl l := by have := hL.below hB5; simpa [Mv.sl, hn'] using this
            obtain ⟨v', w6, hr, hT, hg, hat⟩ := app_m (w4.alloc (.cells #[.int .i64 d, .slice a' n' c'] 54)) 24 (y := ⟨⟨d, l⟩, a', c'⟩) hS5.ow.m hY5 hZ5 (by omega) (by have := hS5.lt; omega)
            obtain ⟨e0, ef, hS6⟩ := hS5.putM hL5 hT hg
            have hG6 : w6.heap[G]? = some (.cells #[.int .i64 d, .slice ax ln cx] 54 (0, 0)) := by
              rw [hg.block G (by rw [World.size_alloc]; have := (Array.getElem?_eq_some_iff.1 hG4).1; omega) (fun e => hGm e.symm), Below.heap_alloc _ _ _ (Array.getElem?_eq_some_iff.1 hG4).1]
              exact hG4
            obtain ⟨a6, c6, hv6⟩ := hT.sl
            rw [List.length_append, List.length_singleton, hnk] at hv6
            subst hv6
            rw [hD] at e0 ef hS6
            have HS6 := hide hS6
            have HG7 : Hid ((w6.setCell ⟨w.heap.size + 2, 2, none⟩ (.slice a6 (k + 1) c6)).heap[G]? = some (.cells #[.int .i64 d, .slice ax ln cx] 54 (0, 0))) := hide ((Below.heap_setCell w6 _ _ G (by show G ≠ w.heap.size + 2; omega)).trans hG6)
            clear hS5 hL5 hT hg hat hS6
            refine wpAnyH_ready (rs := [5]) (by kernel_rfl) (by simp) (AllReadyH.cons rfl (fun K hK => ?_) AllReadyH.nil)
            rw [if_pos (by rfl)]
            refine wp_append_run (.tmp 31) (.tmp 34) 24 rfl rfl rfl hr ?_
            refine hK.out _ _ hG6 (fun hHeld => ?_)
            clear hK K hr hY5 hZ5 hG4
            simp only [Act.put, List.setIfInBounds_toArray, List.set_cons_zero, List.set_cons_succ]
            refine wpAnyH_take (i := 6) (v := .pointer (some ⟨w.heap.size + 2, 2, none⟩)) rfl (by kernel_rfl) (by kernel_rfl) (by kernel_rfl) (fun _ _ _ h => h) (Or.inl ⟨by rfl, fun W hS => by go_simp⟩) hHeld ?_
            simp only [Act.put, List.setIfInBounds_toArray, List.set_cons_zero, List.set_cons_succ]
            refine wpAnyH_ready (rs := [7]) (by kernel_rfl) (by simp) (AllReadyH.cons rfl (fun K hK => ?_) AllReadyH.nil)
            go_simp
            refine hK.out _ _ (unhide HG7) (fun _ => ?_)
            clear hK K
            refine wpAnyH_done (by kernel_rfl) ?_ _
            clear hG6 hB5
            go_wp2
            go_roundw
            case rel => exact ⟨k + 1, _, ms ++ [⟨⟨d, l⟩, a', c'⟩], by omega, by go_num, HS6, hide (unhide HK2 _ rfl), by simp [hnk]⟩
            case measure => simp [intOf]; omega
          · skip
            go_simp
            refine (unhide HC).mono ?_
            rintro e w4 ⟨x4, rfl, hL, hB4⟩
            dsimp only
            obtain ⟨a', c', hx4⟩ := hL.shape
            obtain ⟨n', hn'⟩ : ∃ n', l.length = n' := ⟨_, rfl⟩
            rw [hn'] at hx4
            subst hx4
            have hS4 := hS.below hB4
            have hG4 := (hB4.block G (Array.getElem?_eq_some_iff.1 hHeld).1).trans hHeld
            obtain ⟨g0, g1, g2, gf⟩ := hS4.cells
            rw [hD] at g2
            refine hK.out _ _ hG4 (fun hHeld => ?_)
            clear hK K
            refine wpAnyH_ready (rs := [1, 4]) (by kernel_rfl) (by simp) (AllReadyH.cons rfl (fun K hK => ?_) (AllReadyH.cons rfl (fun K hK => ?_) AllReadyH.nil))
            · go_simp
              refine hK.out _ _ hHeld (fun hHeld => ?_)
              clear hK K
              refine wpAnyH_ready (rs := [4]) (by kernel_rfl) (by simp) (AllReadyH.cons rfl (fun K hK => ?_) AllReadyH.nil)
              go_simp
              refine hK.out _ _ ((Below.heap_alloc _ _ _ (Array.getElem?_eq_some_iff.1 hG4).1).trans hG4) (fun hHeld => ?_)
              clear hK K
              have hB5 : Below w4.heap.size w4 (w4.alloc (.cells #[.int .i64 d, .slice a' n' c'] 54)) := bel_al (Below.refl _ _) _
              have hS5 := hS4.below hB5
              have hY5 : (w4.alloc (.cells #[.int .i64 d, .slice a' n' c'] 54)).cell? ⟨w4.heap.size, 0, none⟩ = some (.int .i64 (Mv.mk ⟨d, l⟩ a' c').m.dst) := heap_row (heap_alloc_new w4 _)
              have hZ5 : (w4.alloc (.cells #[.int .i64 d, .slice a' n' c'] 54)).cell? ⟨w4.heap.size, 1, none⟩ = some (Mv.mk ⟨d, l⟩ a' c').sl := by rw [heap_row (heap_alloc_new w4 _)]; simp [Mv.sl, hn']
              have hL5 : LIn (w4.alloc (.cells #[.int .i64 d, .slice a' n' c'] 54)) (Mv.mk ⟨d, l⟩ a' c').sl l := by have := hL.below hB5; simpa [Mv.sl, hn'] using this
              obtain ⟨v', w6, hr, hT, hg, hat⟩ := app_m (w4.alloc (.cells #[.int .i64 d, .slice a' n' c'] 54)) 24 (y := ⟨⟨d, l⟩, a', c'⟩) hS5.ow.m hY5 hZ5 (by omega) (by have := hS5.lt; omega)
              obtain ⟨e0, ef, hS6⟩ := hS5.putM hL5 hT hg
              have hG6 : w6.heap[G]? = some (.cells #[.int .i64 d, .slice ax ln cx] 54 (0, 0)) := by
                rw [hg.block G (by rw [World.size_alloc]; have := (Array.getElem?_eq_some_iff.1 hG4).1; omega) (fun e => hGm e.symm), Below.heap_alloc _ _ _ (Array.getElem?_eq_some_iff.1 hG4).1]
                exact hG4
              obtain ⟨a6, c6, hv6⟩ := hT.sl
              rw [List.length_append, List.length_singleton, hnk] at hv6
              subst hv6
              rw [hD] at e0 ef hS6
              have HS6 := hide hS6
              have HG7 : Hid ((w6.setCell ⟨w.heap.size + 2, 2, none⟩ (.slice a6 (k + 1) c6)).heap[G]? = some (.cells #[.int .i64 d, .slice ax ln cx] 54 (0, 0))) := hide ((Below.heap_setCell w6 _ _ G (by show G ≠ w.heap.size + 2; omega)).trans hG6)
              clear hS5 hL5 hT hg hat hS6
              refine wpAnyH_ready (rs := [5]) (by kernel_rfl) (by simp) (AllReadyH.cons rfl (fun K hK => ?_) AllReadyH.nil)
              rw [if_pos (by rfl)]
              refine wp_append_run (.tmp 31) (.tmp 34) 24 rfl rfl rfl hr ?_
              refine hK.out _ _ hG6 (fun hHeld => ?_)
              clear hK K hr hY5 hZ5 hG4
              simp only [Act.put, List.setIfInBounds_toArray, List.set_cons_zero, List.set_cons_succ]
              refine wpAnyH_take (i := 6) (v := .pointer (some ⟨w.heap.size + 2, 2, none⟩)) rfl (by kernel_rfl) (by kernel_rfl) (by kernel_rfl) (fun _ _ _ h => h) (Or.inl ⟨by rfl, fun W hS => by go_simp⟩) hHeld ?_
              simp only [Act.put, List.setIfInBounds_toArray, List.set_cons_zero, List.set_cons_succ]
              refine wpAnyH_ready (rs := [7]) (by kernel_rfl) (by simp) (AllReadyH.cons rfl (fun K hK => ?_) AllReadyH.nil)
              go_simp
              refine hK.out _ _ (unhide HG7) (fun _ => ?_)
              clear hK K
              refine wpAnyH_done (by kernel_rfl) ?_ _
              clear hG6 hB5
              go_wp2
              go_roundw
              case rel => exact ⟨k + 1, _, ms ++ [⟨⟨d, l⟩, a', c'⟩], by omega, by go_num, HS6, hide (unhide HK2 _ rfl), by simp [hnk]⟩
              case measure => simp [intOf]; omega
            · go_simp
              refine hK.out _ _ ((Below.heap_alloc _ _ _ (Array.getElem?_eq_some_iff.1 hG4).1).trans hG4) (fun hHeld => ?_)
              clear hK K
              have g2' : (w4.alloc (.cells #[.int .i64 d, .slice a' n' c'] 54)).cell? ⟨w.heap.size + 2, 2, none⟩ = some (.slice am k cm) := cell_al g2
              refine wpAnyH_ready (rs := [1]) (by kernel_rfl) (by simp) (AllReadyH.cons rfl (fun K hK => ?_) AllReadyH.nil)
              go_simp
              refine hK.out _ _ hHeld (fun hHeld => ?_)
              clear hK K g2'
              have hB5 : Below w4.heap.size w4 (w4.alloc (.cells #[.int .i64 d, .slice a' n' c'] 54)) := bel_al (Below.refl _ _) _
              have hS5 := hS4.below hB5
              have hY5 : (w4.alloc (.cells #[.int .i64 d, .slice a' n' c'] 54)).cell? ⟨w4.heap.size, 0, none⟩ = some (.int .i64 (Mv.mk ⟨d, l⟩ a' c').m.dst) := heap_row (heap_alloc_new w4 _)
              have hZ5 : (w4.alloc (.cells #[.int .i64 d, .slice a' n' c'] 54)).cell? ⟨w4.heap.size, 1, none⟩ = some (Mv.mk ⟨d, l⟩ a' c').sl := by rw [heap_row (heap_alloc_new w4 _)]; simp [Mv.sl, hn']
              have hL5 : LIn (w4.alloc (.cells #[.int .i64 d, .slice a' n' c'] 54)) (Mv.mk ⟨d, l⟩ a' c').sl l := by have := hL.below hB5; simpa [Mv.sl, hn'] using this
              obtain ⟨v', w6, hr, hT, hg, hat⟩ := app_m (w4.alloc (.cells #[.int .i64 d, .slice a' n' c'] 54)) 24 (y := ⟨⟨d, l⟩, a', c'⟩) hS5.ow.m hY5 hZ5 (by omega) (by have := hS5.lt; omega)
              obtain ⟨e0, ef, hS6⟩ := hS5.putM hL5 hT hg
              have hG6 : w6.heap[G]? = some (.cells #[.int .i64 d, .slice ax ln cx] 54 (0, 0)) := by
                rw [hg.block G (by rw [World.size_alloc]; have := (Array.getElem?_eq_some_iff.1 hG4).1; omega) (fun e => hGm e.symm), Below.heap_alloc _ _ _ (Array.getElem?_eq_some_iff.1 hG4).1]
                exact hG4
              obtain ⟨a6, c6, hv6⟩ := hT.sl
              rw [List.length_append, List.length_singleton, hnk] at hv6
              subst hv6
              rw [hD] at e0 ef hS6
              have HS6 := hide hS6
              have HG7 : Hid ((w6.setCell ⟨w.heap.size + 2, 2, none⟩ (.slice a6 (k + 1) c6)).heap[G]? = some (.cells #[.int .i64 d, .slice ax ln cx] 54 (0, 0))) := hide ((Below.heap_setCell w6 _ _ G (by show G ≠ w.heap.size + 2; omega)).trans hG6)
              clear hS5 hL5 hT hg hat hS6
              refine wpAnyH_ready (rs := [5]) (by kernel_rfl) (by simp) (AllReadyH.cons rfl (fun K hK => ?_) AllReadyH.nil)
              rw [if_pos (by rfl)]
              refine wp_append_run (.tmp 31) (.tmp 34) 24 rfl rfl rfl hr ?_
              refine hK.out _ _ hG6 (fun hHeld => ?_)
              clear hK K hr hY5 hZ5 hG4
              simp only [Act.put, List.setIfInBounds_toArray, List.set_cons_zero, List.set_cons_succ]
              refine wpAnyH_take (i := 6) (v := .pointer (some ⟨w.heap.size + 2, 2, none⟩)) rfl (by kernel_rfl) (by kernel_rfl) (by kernel_rfl) (fun _ _ _ h => h) (Or.inl ⟨by rfl, fun W hS => by go_simp⟩) hHeld ?_
              simp only [Act.put, List.setIfInBounds_toArray, List.set_cons_zero, List.set_cons_succ]
              refine wpAnyH_ready (rs := [7]) (by kernel_rfl) (by simp) (AllReadyH.cons rfl (fun K hK => ?_) AllReadyH.nil)
              go_simp
              refine hK.out _ _ (unhide HG7) (fun _ => ?_)
              clear hK K
              refine wpAnyH_done (by kernel_rfl) ?_ _
              clear hG6 hB5
              go_wp2
              go_roundw
              case rel => exact ⟨k + 1, _, ms ++ [⟨⟨d, l⟩, a', c'⟩], by omega, by go_num, HS6, hide (unhide HK2 _ rfl), by simp [hnk]⟩
              case measure => simp [intOf]; omega
        · obtain rfl : m = k := by omega
          have hlen : mss ms = W.net := by have := unhide HK; rwa [List.take_of_length_le (by rw [unhide HM]; exact Nat.le_refl _)] at this
          have q1 : wr.cell? ⟨w.heap.size, 1, none⟩ = some (.slice a2 q c2) := (hS.bel.cell (p := ⟨w.heap.size, 1, none⟩) (by show w.heap.size < _; omega)).trans (heap_row (unhide HX0))
          obtain ⟨d0, d1, d2, df⟩ := hS.cells
          obtain ⟨v', w6, hr, hT, hg, hat⟩ := app_c wr 23 (xs := []) hS.ow.c ((unhide HW).below hS.bel).cs (unhide HCL) (by simp; omega) (by have := hS.lt; omega)
          rw [List.nil_append] at hT
          obtain ⟨e0, ef, hS6⟩ := hS.putC hT hg
          obtain ⟨am, cm, hvm⟩ := hS.ow.m.sl
          obtain ⟨a6, c6, hv6⟩ := hT.sl
          rw [unhide HCL] at hv6
          rw [hnk] at hvm
          subst hv6 hvm
          obtain ⟨f0, f1, f2, ff⟩ := hS6.cells
          have hx1 := (hS6.bel.block (w.heap.size + 1) (by omega)).trans (unhide HX1)
          obtain ⟨p1, p2⟩ := put3 (.slice an n cn) (.slice a6 q c6) (.slice am m cm) hx1
          have hOW := (hS6.ow.off p2 (by omega) (nf3 hx1)).mono (B' := w.heap.size) (by omega)
          have hbl : Below w.heap.size w _ := ((unhide HB1).trans (hS6.bel.mono (unhide HB1).size)).grown p2 (by have := hS6.lt; omega) (fun g e => by cases e; omega)
          rw [hD] at d1 e0 ef f0 f1 f2 p1 hOW hbl
          have x0 := heap_row (i := 0) hx1
          have x1 := heap_row (i := 1) hx1
          have x2 := heap_row (i := 2) hx1
          have y0 := frozen_of_row _ _ 0 _ _ hx1
          have y1 := frozen_of_row _ _ 1 _ _ hx1
          have y2 := frozen_of_row _ _ 2 _ _ hx1
          rw [hD] at x0 x1 x2 y0 y1 y2
          have HP := hide p1
          have HO := hide hOW
          have HBL := hide hbl
          have HLM := hide hlen
          clear hS hT hg hat hS6 d0 d2 df hx1 p1 p2 hOW hbl hlen HS HK ff hlt
          go_wp2_with (at_builtin; refine wpList_append_run rfl _ _ _ rfl rfl rfl hr ?_)
          go_wp2
          refine bodyPost_ret (v := .agg #[.slice an n cn, .slice a6 q c6, .slice am m cm]) ?_ rfl ⟨_, _, _, ns, ms, rfl, unhide HO, unhide HLS, unhide HLM, unhide HBL⟩
          exact results_cell_row rfl _ _ _ _ _ _ _ rfl (unhide HP) Tryz.underlying26 rfl (by kernel_rfl)
end Go.Proofs.YtmgmganbamjnmaaGreatDoor
