import Derived.Test.YtcdnbiiaoaeflafGreatDoorQ7
set_option maxHeartbeats 4000000
namespace Go.Proofs.YtcdnbiiaoaeflafGreatDoor
open Go.RowKit
set_option linter.unusedVariables false
set_option linter.unusedSimpArgs false
set_option maxRecDepth 100000
def iback (d k : Nat) (u : US) : US := if u.out.length < d then { u with e := 9 } else if 3000 < u.out.length + k then { u with e := 2 } else ucopy d k u
theorem back_any (No : Nat -> Prop) (B b d k : Nat) (R f1 f2 : Value) (u : US) (w : World) (h : IIs No B w b R f1 f2 u) (he : u.e = 0) (ho : u.out.length <= 3000) (hd : 1 <= d) (hd2 : d <= 80000) (hk : k <= 65535) (hNo : ∀ g, w.heap.size <= g -> ¬ No g) (V : US) (hV : Hid (iback d k u = V)) :
 Calls Tryz.prog 208 #[.pointer (some ⟨b, 0, none⟩), .int .i64 (k : Int), .int .i64 (d : Int)] w fun e w' => Got No B w b R f1 f2 (.tuple #[]) V e w' := by
 obtain ⟨ov, kv, c2, c3, hh, hov, hkv, hap, hn1, hn2⟩ := h.rows
 obtain ⟨a0, cc0, rfl⟩ := own_slice' hov
 have H := Hd h
 have HE := Hd he
 have HNo := Hd hNo
 have HRm := Hd (iroom_any No B b k R f1 f2 u w h ho hk)
 have HG := Hd (giveUp_any 9 w)
 have hv := uh hV
 unfold iback at hv
 clear h hh hov hkv hap hn1 hn2 c3 hNo he hV
 by_cases h1 : u.out.length < d
 . rw [if_pos h1] at hv
   have hdI : (u.out.length : Int) < (d : Int) := by omega
   have HV := Hd hv
   clear hv
   go_enter Tryz.func208, Tryz.ntmps208
   go_wp2_with fail
   refine (uh HG).mono ?_
   rintro e w' ⟨rfl, rfl⟩
   go_wp2
   exact ⟨rfl, .inr ⟨by rw [<- uh HV]; exact (by decide : (9 : Int) ≠ 0), by rw [<- uh HV], Bl.refl _ _ _⟩⟩
 rw [if_neg h1] at hv
 have hdI : ¬ (u.out.length : Int) < (d : Int) := by omega
 have HV := Hd hv
 clear hv
 go_enter Tryz.func208, Tryz.ntmps208
 go_wp2_with fail
 refine (uh HRm).mono ?_
 rintro e w9 ⟨hw9, hg⟩
 rw [hw9]
 clear hw9
 rcases hg with ⟨hl, rfl⟩ | ⟨hl, rfl⟩
 rotate_left
 . have HF : Hid ({ u with e := 2 } = V) := Hd (by rw [<- uh HV, if_pos hl])
   clear hl
   go_wp2
   exact ⟨rfl, .inr ⟨by rw [<- uh HF]; exact (by decide : (2 : Int) ≠ 0), by rw [<- uh HF], Bl.refl _ _ _⟩⟩
 have HVs : Hid (V = ucopy d k u) := Hd (by rw [<- uh HV, if_neg (by omega)])
 have HL := Hd hl
 have HD := Hd h1
 clear hl h1 hdI c2
 go_wp2
 go_loopw [18] (fun v18 wr => ∃ (i : Nat) (x : US), i <= k /\ v18 = .int .i64 (i : Int) /\ Hid (x.out.length + (k - i) <= 3000 /\ d <= x.out.length /\ x.e = 0) /\ Hid (IUp No B w b R f1 f2 x wr) /\ Hid (V = ucopy d (k - i) x)) (fun v18 _ => k - (intOf v18).toNat)
 case atStart => exact ⟨0, u, Nat.zero_le _, rfl, Hd ⟨by have := uh HL; omega, by have := uh HD; omega, uh HE⟩, Hd (IUp.refl (uh H)), HVs⟩
 case round =>
  obtain ⟨i, x, hi, rfl, hx3, hI, hVi⟩ := hrel
  obtain ⟨hxo, hxd, hxe⟩ := uh hx3
  by_cases hlt : i < k
  . have hiI : (i : Int) < (k : Int) := by omega
    have hIs := (uh hI).is
    have hbel := (uh hI).below.size
    have hbl := hIs.lt
    obtain ⟨i0, hi0, hz0, hz1, hz2⟩ := info_parts info_u8
    obtain ⟨ov, kv, c2, c3, hh, hov, hkv, hap, hn1, hn2⟩ := hIs.rows
    obtain ⟨og, oc, rfl, _, hog⟩ := own_shape hov (by omega)
    obtain ⟨q, hq⟩ : ∃ q, x.out.length - d = q := ⟨_, rfl⟩
    obtain ⟨c, hc⟩ : ∃ c, x.out.getD q 0 = c := ⟨_, rfl⟩
    have hcell : wr.cell? ⟨og, q, none⟩ = some (.int .u8 (c : Int)) := by
     have := hov.cells rfl q (.int .u8 (c : Int)) (by
      unfold u8s
      rw [List.getElem?_map, List.getElem?_eq_getElem (by omega)]
      rw [<- hc]
      simp [List.getD, List.getElem?_eq_getElem (show q < x.out.length by omega)])
     by_cases hq0 : q = 0 <;> simpa [Addr.add, hq0] using this
    have hsay : usay c x = { x with out := x.out ++ [c] } := by unfold usay; rw [if_pos hxe, if_neg (by omega)]
    have HVn : Hid (V = ucopy d (k - (i + 1)) { x with out := x.out ++ [c] }) := Hd (by
     obtain ⟨j, hj⟩ : ∃ j, k - i = j + 1 := ⟨k - i - 1, by omega⟩
     rw [uh hVi, hj, show k - (i + 1) = j by omega, <- hsay, <- hc, <- hq]
     show (if x.e = 0 then ucopy d j (usay (x.out.getD (x.out.length - d) 0) x) else x) = _
     rw [if_pos hxe])
    obtain ⟨L, hL⟩ : ∃ L, x.out.length = L := ⟨_, rfl⟩
    rw [hL] at c2 hxo hxd hq
    have HLL := Hd hL
    have HOV := Hd hov
    have HKV := Hd hkv
    have HHH := Hd hh
    have HAP := Hd hap
    have HN1 := Hd hn1
    have HN2 := Hd hn2
    have HIS := Hd hIs
    have hqI : (L : Int) - (d : Int) = (q : Int) := by omega
    have hqL : (q : Int) < (L : Int) := by omega
    have hqw : IntKind.i64.wrap (q : Int) = (q : Int) := wrap_i64_nat q (by omega)
    have HDR : Hid (IUp No B w b R f1 f2 x wr.drew) := Hd ((uh hI).drewN 1)
    clear hov hkv hh hap hn1 hn2 hIs hL hVi HVs HV hsay hc hq
    go_wp2
    refine wp_region_any (by kernel_rfl) ?_
    try (change wpAny _ _ _ _ _ _ _ (World.drew _))
    refine wpAny_take (i := 0) (v := .pointer (some ⟨b, 0, none⟩)) rfl (by kernel_rfl) (by kernel_rfl) (by kernel_rfl) (fun _ _ _ h => h) (Or.inl ⟨by rfl, fun W => by go_simp⟩) ?_
    simp only [Act.put, List.setIfInBounds_toArray, List.set_cons_zero, List.set_cons_succ]
    refine wpAny_take (i := 1) (v := .pointer (some ⟨b, 0, none⟩)) rfl (by kernel_rfl) (by kernel_rfl) (by kernel_rfl) (fun _ _ _ h => h) (Or.inl ⟨by rfl, fun W => by go_simp⟩) ?_
    simp only [Act.put, List.setIfInBounds_toArray, List.set_cons_zero, List.set_cons_succ]
    refine wpAny_take (i := 2) (v := .pointer (some ⟨b, 0, none⟩)) rfl (by kernel_rfl) (by kernel_rfl) (by kernel_rfl) (fun _ _ _ h => h) (Or.inl ⟨by rfl, fun W => by go_simp⟩) ?_
    simp only [Act.put, List.setIfInBounds_toArray, List.set_cons_zero, List.set_cons_succ]
    refine wpAny_take (i := 3) (v := .pointer (some ⟨b, 2, none⟩)) rfl (by kernel_rfl) (by kernel_rfl) (by kernel_rfl) (fun _ _ _ h => h) (Or.inl ⟨by rfl, fun W => by go_simp⟩) ?_
    simp only [Act.put, List.setIfInBounds_toArray, List.set_cons_zero, List.set_cons_succ]
    refine wpAny_take (i := 5) (v := .pointer (some ⟨b, 0, none⟩)) rfl (by kernel_rfl) (by kernel_rfl) (by kernel_rfl) (fun _ _ _ h => h) (Or.inl ⟨by rfl, fun W => by go_simp⟩) ?_
    simp only [Act.put, List.setIfInBounds_toArray, List.set_cons_zero, List.set_cons_succ]
    refine wpAny_take (i := 6) (v := .pointer (some ⟨b, 0, none⟩)) rfl (by kernel_rfl) (by kernel_rfl) (by kernel_rfl) (fun _ _ _ h => h) (Or.inl ⟨by rfl, fun W => by go_simp⟩) ?_
    simp only [Act.put, List.setIfInBounds_toArray, List.set_cons_zero, List.set_cons_succ]
    refine wpAny_take (i := 7) (v := .pointer (some ⟨b, 2, none⟩)) rfl (by kernel_rfl) (by kernel_rfl) (by kernel_rfl) (fun _ _ _ h => h) (Or.inl ⟨by rfl, fun W => by go_simp⟩) ?_
    simp only [Act.put, List.setIfInBounds_toArray, List.set_cons_zero, List.set_cons_succ]
    refine wpAny_take (i := 9) (v := .pointer (some ⟨b, 0, none⟩)) rfl (by kernel_rfl) (by kernel_rfl) (by kernel_rfl) (fun _ _ _ h => h) (Or.inl ⟨by rfl, fun W => by go_simp⟩) ?_
    simp only [Act.put, List.setIfInBounds_toArray, List.set_cons_zero, List.set_cons_succ]
    refine wpAny_take (i := 10) (v := .pointer (some ⟨b, 0, none⟩)) rfl (by kernel_rfl) (by kernel_rfl) (by kernel_rfl) (fun _ _ _ h => h) (Or.inl ⟨by rfl, fun W => by go_simp⟩) ?_
    simp only [Act.put, List.setIfInBounds_toArray, List.set_cons_zero, List.set_cons_succ]
    refine wpAny_take (i := 11) (v := .pointer (some ⟨b, 2, none⟩)) rfl (by kernel_rfl) (by kernel_rfl) (by kernel_rfl) (fun _ _ _ h => h) (Or.inl ⟨by rfl, fun W => by go_simp⟩) ?_
    simp only [Act.put, List.setIfInBounds_toArray, List.set_cons_zero, List.set_cons_succ]
    refine wpAny_take (i := 14) (v := .int .i64 (d : Int)) rfl (by kernel_rfl) (by kernel_rfl) (by kernel_rfl) (fun _ _ _ h => h) (Or.inl ⟨by rfl, fun W => by go_simp⟩) ?_
    simp only [Act.put, List.setIfInBounds_toArray, List.set_cons_zero, List.set_cons_succ]
    refine wpAny_ready (rs := [4, 8, 12]) (by kernel_rfl) (by simp) (AllReady.cons rfl (fun K hK => ?_) (AllReady.cons rfl (fun K hK => ?_) (AllReady.cons rfl (fun K hK => ?_) AllReady.nil)))
    . go_simp
      refine hK _ _ ?_
      clear hK K
      refine wpAny_ready (rs := [8, 12]) (by kernel_rfl) (by simp) (AllReady.cons rfl (fun K hK => ?_) (AllReady.cons rfl (fun K hK => ?_) AllReady.nil))
      . go_simp
        refine hK _ _ ?_
        clear hK K
        refine wpAny_ready (rs := [12]) (by kernel_rfl) (by simp) (AllReady.cons rfl (fun K hK => ?_) AllReady.nil)
        . go_simp
          refine hK _ _ ?_
          clear hK K
          refine wpAny_take (i := 13) (v := .int .i64 (L : Int)) rfl (by kernel_rfl) (by kernel_rfl) (by kernel_rfl) (fun _ _ _ h => h) (Or.inl ⟨by rfl, fun W => by go_simp⟩) ?_
          simp only [Act.put, List.setIfInBounds_toArray, List.set_cons_zero, List.set_cons_succ]
          refine wpAny_take (i := 15) (v := .int .i64 (q : Int)) rfl (by kernel_rfl) (by kernel_rfl) (by kernel_rfl) (fun _ _ _ h => h) (Or.inl ⟨by rfl, fun W => by go_simp⟩) ?_
          simp only [Act.put, List.setIfInBounds_toArray, List.set_cons_zero, List.set_cons_succ]
          refine wpAny_take (i := 16) (v := .pointer (some ⟨og, q, none⟩)) rfl (by kernel_rfl) (by kernel_rfl) (by kernel_rfl) (fun _ _ _ h => h) (Or.inl ⟨by rfl, fun W => by go_simp⟩) ?_
          simp only [Act.put, List.setIfInBounds_toArray, List.set_cons_zero, List.set_cons_succ]
          refine wpAny_ready (rs := [17]) (by kernel_rfl) (by simp) (AllReady.cons rfl (fun K hK => ?_) AllReady.nil)
          . go_simp
            refine hK _ _ ?_
            clear hK K
            refine wpAny_ready (rs := [18]) (by kernel_rfl) (by simp) (AllReady.cons rfl (fun K hK => ?_) AllReady.nil)
            . go_simp
              refine hK _ _ ?_
              clear hK K
              have hovL : wr.drew.ownsRow (b + 1) 5 1 (.slice (some ⟨og, 0, none⟩) L oc) L (u8s x.out) := by
               have := own_kp (w' := wr.drew) (uh HOV) (fun _ _ => rfl)
               rw [uh HLL] at this
               exact this
              refine wpAny_ready (rs := [19]) (by kernel_rfl) (by simp) (AllReady.cons rfl (fun K hK => ?_) AllReady.nil)
              refine step_append_lies _ rfl (.tmp 24) (.tmp 38) 23 rfl (b + 1) 5 i0 (.int .u8 0) 1 1 Tryz.underlying23 hi0 hz0 hz1 hz2 rfl (by decide) (.slice (some ⟨og, 0, none⟩) L oc) L (u8s x.out) rfl (hovL.alloc _) ⟨wr.heap.size, 0, none⟩ 1 1 [.int .u8 (c : Int)] rfl rfl (cell_one_new wr.drew _ _) (one_cell rfl) (by decide) (by unfold maxLen; omega) (by omega) (by simp; omega) _ rfl ?_
              intro g5 cap5 w5 hO5 hgrow5 hspot5 hlt5
              obtain ⟨q2, f25, hI5⟩ := IIs.said (c := c) (w := wr.drew) (v' := .slice (some ⟨g5, 0, none⟩) (L + 1) cap5) (uh HIS).base (uh HIS).no (uh HHH) (own_kp (uh HOV) (fun _ _ => rfl)) (own_kp (uh HKV) (fun _ _ => rfl)) (uh HAP) (uh HN1) (uh HN2) (fun g hg => uh HNo g (by have hg' : wr.heap.size <= g := hg; omega)) (by rw [uh HLL]; exact hO5) hgrow5 (by
               rcases hspot5 with h | h
               . exact .inl h.symm
               . exact .inr (by rw [h]; rfl))
              have HI5 := Hd ((uh HDR).trans hI5)
              refine hK _ _ ?_
              clear hK K hI5 hO5 hgrow5 hspot5 hlt5 hovL
              rw [uh HLL] at q2
              simp only [Act.put, List.setIfInBounds_toArray, List.set_cons_zero, List.set_cons_succ]
              refine wpAny_take (i := 20) (v := .pointer (some ⟨b, 0, none⟩)) rfl (by kernel_rfl) (by kernel_rfl) (by kernel_rfl) (fun _ _ _ h => h) (Or.inl ⟨by rfl, fun W => by go_simp⟩) ?_
              simp only [Act.put, List.setIfInBounds_toArray, List.set_cons_zero, List.set_cons_succ]
              refine wpAny_take (i := 21) (v := .pointer (some ⟨b, 2, none⟩)) rfl (by kernel_rfl) (by kernel_rfl) (by kernel_rfl) (fun _ _ _ h => h) (Or.inl ⟨by rfl, fun W => by go_simp⟩) ?_
              simp only [Act.put, List.setIfInBounds_toArray, List.set_cons_zero, List.set_cons_succ]
              refine wpAny_ready (rs := [22]) (by kernel_rfl) (by simp) (AllReady.cons rfl (fun K hK => ?_) AllReady.nil)
              go_simp
              refine hK _ _ ?_
              clear hK K
              refine wpAny_done (by kernel_rfl) ?_ _
              go_wp2
              go_roundw
              case rel => exact ⟨i + 1, { x with out := x.out ++ [c] }, by omega, by go_num, Hd ⟨by show (x.out ++ [c]).length + _ <= _; rw [List.length_append, uh HLL]; simp only [List.length_cons, List.length_nil]; omega, by show d <= (x.out ++ [c]).length; rw [List.length_append, uh HLL]; omega, hxe⟩, HI5, HVn⟩
              case measure => simp [intOf]; omega
      . go_simp
        refine hK _ _ ?_
        clear hK K
        refine wpAny_take (i := 13) (v := .int .i64 (L : Int)) rfl (by kernel_rfl) (by kernel_rfl) (by kernel_rfl) (fun _ _ _ h => h) (Or.inl ⟨by rfl, fun W => by go_simp⟩) ?_
        simp only [Act.put, List.setIfInBounds_toArray, List.set_cons_zero, List.set_cons_succ]
        refine wpAny_take (i := 15) (v := .int .i64 (q : Int)) rfl (by kernel_rfl) (by kernel_rfl) (by kernel_rfl) (fun _ _ _ h => h) (Or.inl ⟨by rfl, fun W => by go_simp⟩) ?_
        simp only [Act.put, List.setIfInBounds_toArray, List.set_cons_zero, List.set_cons_succ]
        refine wpAny_ready (rs := [8]) (by kernel_rfl) (by simp) (AllReady.cons rfl (fun K hK => ?_) AllReady.nil)
        . go_simp
          refine hK _ _ ?_
          clear hK K
          refine wpAny_take (i := 16) (v := .pointer (some ⟨og, q, none⟩)) rfl (by kernel_rfl) (by kernel_rfl) (by kernel_rfl) (fun _ _ _ h => h) (Or.inl ⟨by rfl, fun W => by go_simp⟩) ?_
          simp only [Act.put, List.setIfInBounds_toArray, List.set_cons_zero, List.set_cons_succ]
          refine wpAny_ready (rs := [17]) (by kernel_rfl) (by simp) (AllReady.cons rfl (fun K hK => ?_) AllReady.nil)
          . go_simp
            refine hK _ _ ?_
            clear hK K
            refine wpAny_ready (rs := [18]) (by kernel_rfl) (by simp) (AllReady.cons rfl (fun K hK => ?_) AllReady.nil)
            . go_simp
              refine hK _ _ ?_
              clear hK K
              have hovL : wr.drew.ownsRow (b + 1) 5 1 (.slice (some ⟨og, 0, none⟩) L oc) L (u8s x.out) := by
               have := own_kp (w' := wr.drew) (uh HOV) (fun _ _ => rfl)
               rw [uh HLL] at this
               exact this
              refine wpAny_ready (rs := [19]) (by kernel_rfl) (by simp) (AllReady.cons rfl (fun K hK => ?_) AllReady.nil)
              refine step_append_lies _ rfl (.tmp 24) (.tmp 38) 23 rfl (b + 1) 5 i0 (.int .u8 0) 1 1 Tryz.underlying23 hi0 hz0 hz1 hz2 rfl (by decide) (.slice (some ⟨og, 0, none⟩) L oc) L (u8s x.out) rfl (hovL.alloc _) ⟨wr.heap.size, 0, none⟩ 1 1 [.int .u8 (c : Int)] rfl rfl (cell_one_new wr.drew _ _) (one_cell rfl) (by decide) (by unfold maxLen; omega) (by omega) (by simp; omega) _ rfl ?_
              intro g5 cap5 w5 hO5 hgrow5 hspot5 hlt5
              obtain ⟨q2, f25, hI5⟩ := IIs.said (c := c) (w := wr.drew) (v' := .slice (some ⟨g5, 0, none⟩) (L + 1) cap5) (uh HIS).base (uh HIS).no (uh HHH) (own_kp (uh HOV) (fun _ _ => rfl)) (own_kp (uh HKV) (fun _ _ => rfl)) (uh HAP) (uh HN1) (uh HN2) (fun g hg => uh HNo g (by have hg' : wr.heap.size <= g := hg; omega)) (by rw [uh HLL]; exact hO5) hgrow5 (by
               rcases hspot5 with h | h
               . exact .inl h.symm
               . exact .inr (by rw [h]; rfl))
              have HI5 := Hd ((uh HDR).trans hI5)
              refine hK _ _ ?_
              clear hK K hI5 hO5 hgrow5 hspot5 hlt5 hovL
              rw [uh HLL] at q2
              simp only [Act.put, List.setIfInBounds_toArray, List.set_cons_zero, List.set_cons_succ]
              refine wpAny_take (i := 20) (v := .pointer (some ⟨b, 0, none⟩)) rfl (by kernel_rfl) (by kernel_rfl) (by kernel_rfl) (fun _ _ _ h => h) (Or.inl ⟨by rfl, fun W => by go_simp⟩) ?_
              simp only [Act.put, List.setIfInBounds_toArray, List.set_cons_zero, List.set_cons_succ]
              refine wpAny_take (i := 21) (v := .pointer (some ⟨b, 2, none⟩)) rfl (by kernel_rfl) (by kernel_rfl) (by kernel_rfl) (fun _ _ _ h => h) (Or.inl ⟨by rfl, fun W => by go_simp⟩) ?_
              simp only [Act.put, List.setIfInBounds_toArray, List.set_cons_zero, List.set_cons_succ]
              refine wpAny_ready (rs := [22]) (by kernel_rfl) (by simp) (AllReady.cons rfl (fun K hK => ?_) AllReady.nil)
              go_simp
              refine hK _ _ ?_
              clear hK K
              refine wpAny_done (by kernel_rfl) ?_ _
              go_wp2
              go_roundw
              case rel => exact ⟨i + 1, { x with out := x.out ++ [c] }, by omega, by go_num, Hd ⟨by show (x.out ++ [c]).length + _ <= _; rw [List.length_append, uh HLL]; simp only [List.length_cons, List.length_nil]; omega, by show d <= (x.out ++ [c]).length; rw [List.length_append, uh HLL]; omega, hxe⟩, HI5, HVn⟩
              case measure => simp [intOf]; omega
    . go_simp
      refine hK _ _ ?_
      clear hK K
      refine wpAny_ready (rs := [4, 12]) (by kernel_rfl) (by simp) (AllReady.cons rfl (fun K hK => ?_) (AllReady.cons rfl (fun K hK => ?_) AllReady.nil))
      . go_simp
        refine hK _ _ ?_
        clear hK K
        refine wpAny_ready (rs := [12]) (by kernel_rfl) (by simp) (AllReady.cons rfl (fun K hK => ?_) AllReady.nil)
        . go_simp
          refine hK _ _ ?_
          clear hK K
          refine wpAny_take (i := 13) (v := .int .i64 (L : Int)) rfl (by kernel_rfl) (by kernel_rfl) (by kernel_rfl) (fun _ _ _ h => h) (Or.inl ⟨by rfl, fun W => by go_simp⟩) ?_
          simp only [Act.put, List.setIfInBounds_toArray, List.set_cons_zero, List.set_cons_succ]
          refine wpAny_take (i := 15) (v := .int .i64 (q : Int)) rfl (by kernel_rfl) (by kernel_rfl) (by kernel_rfl) (fun _ _ _ h => h) (Or.inl ⟨by rfl, fun W => by go_simp⟩) ?_
          simp only [Act.put, List.setIfInBounds_toArray, List.set_cons_zero, List.set_cons_succ]
          refine wpAny_take (i := 16) (v := .pointer (some ⟨og, q, none⟩)) rfl (by kernel_rfl) (by kernel_rfl) (by kernel_rfl) (fun _ _ _ h => h) (Or.inl ⟨by rfl, fun W => by go_simp⟩) ?_
          simp only [Act.put, List.setIfInBounds_toArray, List.set_cons_zero, List.set_cons_succ]
          refine wpAny_ready (rs := [17]) (by kernel_rfl) (by simp) (AllReady.cons rfl (fun K hK => ?_) AllReady.nil)
          . go_simp
            refine hK _ _ ?_
            clear hK K
            refine wpAny_ready (rs := [18]) (by kernel_rfl) (by simp) (AllReady.cons rfl (fun K hK => ?_) AllReady.nil)
            . go_simp
              refine hK _ _ ?_
              clear hK K
              have hovL : wr.drew.ownsRow (b + 1) 5 1 (.slice (some ⟨og, 0, none⟩) L oc) L (u8s x.out) := by
               have := own_kp (w' := wr.drew) (uh HOV) (fun _ _ => rfl)
               rw [uh HLL] at this
               exact this
              refine wpAny_ready (rs := [19]) (by kernel_rfl) (by simp) (AllReady.cons rfl (fun K hK => ?_) AllReady.nil)
              refine step_append_lies _ rfl (.tmp 24) (.tmp 38) 23 rfl (b + 1) 5 i0 (.int .u8 0) 1 1 Tryz.underlying23 hi0 hz0 hz1 hz2 rfl (by decide) (.slice (some ⟨og, 0, none⟩) L oc) L (u8s x.out) rfl (hovL.alloc _) ⟨wr.heap.size, 0, none⟩ 1 1 [.int .u8 (c : Int)] rfl rfl (cell_one_new wr.drew _ _) (one_cell rfl) (by decide) (by unfold maxLen; omega) (by omega) (by simp; omega) _ rfl ?_
              intro g5 cap5 w5 hO5 hgrow5 hspot5 hlt5
              obtain ⟨q2, f25, hI5⟩ := IIs.said (c := c) (w := wr.drew) (v' := .slice (some ⟨g5, 0, none⟩) (L + 1) cap5) (uh HIS).base (uh HIS).no (uh HHH) (own_kp (uh HOV) (fun _ _ => rfl)) (own_kp (uh HKV) (fun _ _ => rfl)) (uh HAP) (uh HN1) (uh HN2) (fun g hg => uh HNo g (by have hg' : wr.heap.size <= g := hg; omega)) (by rw [uh HLL]; exact hO5) hgrow5 (by
               rcases hspot5 with h | h
               . exact .inl h.symm
               . exact .inr (by rw [h]; rfl))
              have HI5 := Hd ((uh HDR).trans hI5)
              refine hK _ _ ?_
              clear hK K hI5 hO5 hgrow5 hspot5 hlt5 hovL
              rw [uh HLL] at q2
              simp only [Act.put, List.setIfInBounds_toArray, List.set_cons_zero, List.set_cons_succ]
              refine wpAny_take (i := 20) (v := .pointer (some ⟨b, 0, none⟩)) rfl (by kernel_rfl) (by kernel_rfl) (by kernel_rfl) (fun _ _ _ h => h) (Or.inl ⟨by rfl, fun W => by go_simp⟩) ?_
              simp only [Act.put, List.setIfInBounds_toArray, List.set_cons_zero, List.set_cons_succ]
              refine wpAny_take (i := 21) (v := .pointer (some ⟨b, 2, none⟩)) rfl (by kernel_rfl) (by kernel_rfl) (by kernel_rfl) (fun _ _ _ h => h) (Or.inl ⟨by rfl, fun W => by go_simp⟩) ?_
              simp only [Act.put, List.setIfInBounds_toArray, List.set_cons_zero, List.set_cons_succ]
              refine wpAny_ready (rs := [22]) (by kernel_rfl) (by simp) (AllReady.cons rfl (fun K hK => ?_) AllReady.nil)
              go_simp
              refine hK _ _ ?_
              clear hK K
              refine wpAny_done (by kernel_rfl) ?_ _
              go_wp2
              go_roundw
              case rel => exact ⟨i + 1, { x with out := x.out ++ [c] }, by omega, by go_num, Hd ⟨by show (x.out ++ [c]).length + _ <= _; rw [List.length_append, uh HLL]; simp only [List.length_cons, List.length_nil]; omega, by show d <= (x.out ++ [c]).length; rw [List.length_append, uh HLL]; omega, hxe⟩, HI5, HVn⟩
              case measure => simp [intOf]; omega
      . go_simp
        refine hK _ _ ?_
        clear hK K
        refine wpAny_take (i := 13) (v := .int .i64 (L : Int)) rfl (by kernel_rfl) (by kernel_rfl) (by kernel_rfl) (fun _ _ _ h => h) (Or.inl ⟨by rfl, fun W => by go_simp⟩) ?_
        simp only [Act.put, List.setIfInBounds_toArray, List.set_cons_zero, List.set_cons_succ]
        refine wpAny_take (i := 15) (v := .int .i64 (q : Int)) rfl (by kernel_rfl) (by kernel_rfl) (by kernel_rfl) (fun _ _ _ h => h) (Or.inl ⟨by rfl, fun W => by go_simp⟩) ?_
        simp only [Act.put, List.setIfInBounds_toArray, List.set_cons_zero, List.set_cons_succ]
        refine wpAny_take (i := 16) (v := .pointer (some ⟨og, q, none⟩)) rfl (by kernel_rfl) (by kernel_rfl) (by kernel_rfl) (fun _ _ _ h => h) (Or.inl ⟨by rfl, fun W => by go_simp⟩) ?_
        simp only [Act.put, List.setIfInBounds_toArray, List.set_cons_zero, List.set_cons_succ]
        refine wpAny_ready (rs := [4, 17]) (by kernel_rfl) (by simp) (AllReady.cons rfl (fun K hK => ?_) (AllReady.cons rfl (fun K hK => ?_) AllReady.nil))
        . go_simp
          refine hK _ _ ?_
          clear hK K
          refine wpAny_ready (rs := [17]) (by kernel_rfl) (by simp) (AllReady.cons rfl (fun K hK => ?_) AllReady.nil)
          . go_simp
            refine hK _ _ ?_
            clear hK K
            refine wpAny_ready (rs := [18]) (by kernel_rfl) (by simp) (AllReady.cons rfl (fun K hK => ?_) AllReady.nil)
            . go_simp
              refine hK _ _ ?_
              clear hK K
              have hovL : wr.drew.ownsRow (b + 1) 5 1 (.slice (some ⟨og, 0, none⟩) L oc) L (u8s x.out) := by
               have := own_kp (w' := wr.drew) (uh HOV) (fun _ _ => rfl)
               rw [uh HLL] at this
               exact this
              refine wpAny_ready (rs := [19]) (by kernel_rfl) (by simp) (AllReady.cons rfl (fun K hK => ?_) AllReady.nil)
              refine step_append_lies _ rfl (.tmp 24) (.tmp 38) 23 rfl (b + 1) 5 i0 (.int .u8 0) 1 1 Tryz.underlying23 hi0 hz0 hz1 hz2 rfl (by decide) (.slice (some ⟨og, 0, none⟩) L oc) L (u8s x.out) rfl (hovL.alloc _) ⟨wr.heap.size, 0, none⟩ 1 1 [.int .u8 (c : Int)] rfl rfl (cell_one_new wr.drew _ _) (one_cell rfl) (by decide) (by unfold maxLen; omega) (by omega) (by simp; omega) _ rfl ?_
              intro g5 cap5 w5 hO5 hgrow5 hspot5 hlt5
              obtain ⟨q2, f25, hI5⟩ := IIs.said (c := c) (w := wr.drew) (v' := .slice (some ⟨g5, 0, none⟩) (L + 1) cap5) (uh HIS).base (uh HIS).no (uh HHH) (own_kp (uh HOV) (fun _ _ => rfl)) (own_kp (uh HKV) (fun _ _ => rfl)) (uh HAP) (uh HN1) (uh HN2) (fun g hg => uh HNo g (by have hg' : wr.heap.size <= g := hg; omega)) (by rw [uh HLL]; exact hO5) hgrow5 (by
               rcases hspot5 with h | h
               . exact .inl h.symm
               . exact .inr (by rw [h]; rfl))
              have HI5 := Hd ((uh HDR).trans hI5)
              refine hK _ _ ?_
              clear hK K hI5 hO5 hgrow5 hspot5 hlt5 hovL
              rw [uh HLL] at q2
              simp only [Act.put, List.setIfInBounds_toArray, List.set_cons_zero, List.set_cons_succ]
              refine wpAny_take (i := 20) (v := .pointer (some ⟨b, 0, none⟩)) rfl (by kernel_rfl) (by kernel_rfl) (by kernel_rfl) (fun _ _ _ h => h) (Or.inl ⟨by rfl, fun W => by go_simp⟩) ?_
              simp only [Act.put, List.setIfInBounds_toArray, List.set_cons_zero, List.set_cons_succ]
              refine wpAny_take (i := 21) (v := .pointer (some ⟨b, 2, none⟩)) rfl (by kernel_rfl) (by kernel_rfl) (by kernel_rfl) (fun _ _ _ h => h) (Or.inl ⟨by rfl, fun W => by go_simp⟩) ?_
              simp only [Act.put, List.setIfInBounds_toArray, List.set_cons_zero, List.set_cons_succ]
              refine wpAny_ready (rs := [22]) (by kernel_rfl) (by simp) (AllReady.cons rfl (fun K hK => ?_) AllReady.nil)
              go_simp
              refine hK _ _ ?_
              clear hK K
              refine wpAny_done (by kernel_rfl) ?_ _
              go_wp2
              go_roundw
              case rel => exact ⟨i + 1, { x with out := x.out ++ [c] }, by omega, by go_num, Hd ⟨by show (x.out ++ [c]).length + _ <= _; rw [List.length_append, uh HLL]; simp only [List.length_cons, List.length_nil]; omega, by show d <= (x.out ++ [c]).length; rw [List.length_append, uh HLL]; omega, hxe⟩, HI5, HVn⟩
              case measure => simp [intOf]; omega
        . go_simp
          refine hK _ _ ?_
          clear hK K
          refine wpAny_ready (rs := [4, 18]) (by kernel_rfl) (by simp) (AllReady.cons rfl (fun K hK => ?_) (AllReady.cons rfl (fun K hK => ?_) AllReady.nil))
          . go_simp
            refine hK _ _ ?_
            clear hK K
            refine wpAny_ready (rs := [18]) (by kernel_rfl) (by simp) (AllReady.cons rfl (fun K hK => ?_) AllReady.nil)
            . go_simp
              refine hK _ _ ?_
              clear hK K
              have hovL : wr.drew.ownsRow (b + 1) 5 1 (.slice (some ⟨og, 0, none⟩) L oc) L (u8s x.out) := by
               have := own_kp (w' := wr.drew) (uh HOV) (fun _ _ => rfl)
               rw [uh HLL] at this
               exact this
              refine wpAny_ready (rs := [19]) (by kernel_rfl) (by simp) (AllReady.cons rfl (fun K hK => ?_) AllReady.nil)
              refine step_append_lies _ rfl (.tmp 24) (.tmp 38) 23 rfl (b + 1) 5 i0 (.int .u8 0) 1 1 Tryz.underlying23 hi0 hz0 hz1 hz2 rfl (by decide) (.slice (some ⟨og, 0, none⟩) L oc) L (u8s x.out) rfl (hovL.alloc _) ⟨wr.heap.size, 0, none⟩ 1 1 [.int .u8 (c : Int)] rfl rfl (cell_one_new wr.drew _ _) (one_cell rfl) (by decide) (by unfold maxLen; omega) (by omega) (by simp; omega) _ rfl ?_
              intro g5 cap5 w5 hO5 hgrow5 hspot5 hlt5
              obtain ⟨q2, f25, hI5⟩ := IIs.said (c := c) (w := wr.drew) (v' := .slice (some ⟨g5, 0, none⟩) (L + 1) cap5) (uh HIS).base (uh HIS).no (uh HHH) (own_kp (uh HOV) (fun _ _ => rfl)) (own_kp (uh HKV) (fun _ _ => rfl)) (uh HAP) (uh HN1) (uh HN2) (fun g hg => uh HNo g (by have hg' : wr.heap.size <= g := hg; omega)) (by rw [uh HLL]; exact hO5) hgrow5 (by
               rcases hspot5 with h | h
               . exact .inl h.symm
               . exact .inr (by rw [h]; rfl))
              have HI5 := Hd ((uh HDR).trans hI5)
              refine hK _ _ ?_
              clear hK K hI5 hO5 hgrow5 hspot5 hlt5 hovL
              rw [uh HLL] at q2
              simp only [Act.put, List.setIfInBounds_toArray, List.set_cons_zero, List.set_cons_succ]
              refine wpAny_take (i := 20) (v := .pointer (some ⟨b, 0, none⟩)) rfl (by kernel_rfl) (by kernel_rfl) (by kernel_rfl) (fun _ _ _ h => h) (Or.inl ⟨by rfl, fun W => by go_simp⟩) ?_
              simp only [Act.put, List.setIfInBounds_toArray, List.set_cons_zero, List.set_cons_succ]
              refine wpAny_take (i := 21) (v := .pointer (some ⟨b, 2, none⟩)) rfl (by kernel_rfl) (by kernel_rfl) (by kernel_rfl) (fun _ _ _ h => h) (Or.inl ⟨by rfl, fun W => by go_simp⟩) ?_
              simp only [Act.put, List.setIfInBounds_toArray, List.set_cons_zero, List.set_cons_succ]
              refine wpAny_ready (rs := [22]) (by kernel_rfl) (by simp) (AllReady.cons rfl (fun K hK => ?_) AllReady.nil)
              go_simp
              refine hK _ _ ?_
              clear hK K
              refine wpAny_done (by kernel_rfl) ?_ _
              go_wp2
              go_roundw
              case rel => exact ⟨i + 1, { x with out := x.out ++ [c] }, by omega, by go_num, Hd ⟨by show (x.out ++ [c]).length + _ <= _; rw [List.length_append, uh HLL]; simp only [List.length_cons, List.length_nil]; omega, by show d <= (x.out ++ [c]).length; rw [List.length_append, uh HLL]; omega, hxe⟩, HI5, HVn⟩
              case measure => simp [intOf]; omega
          . go_simp
            refine hK _ _ ?_
            clear hK K
            refine wpAny_ready (rs := [4]) (by kernel_rfl) (by simp) (AllReady.cons rfl (fun K hK => ?_) AllReady.nil)
            . go_simp
              refine hK _ _ ?_
              clear hK K
              have hovL : wr.drew.ownsRow (b + 1) 5 1 (.slice (some ⟨og, 0, none⟩) L oc) L (u8s x.out) := by
               have := own_kp (w' := wr.drew) (uh HOV) (fun _ _ => rfl)
               rw [uh HLL] at this
               exact this
              refine wpAny_ready (rs := [19]) (by kernel_rfl) (by simp) (AllReady.cons rfl (fun K hK => ?_) AllReady.nil)
              refine step_append_lies _ rfl (.tmp 24) (.tmp 38) 23 rfl (b + 1) 5 i0 (.int .u8 0) 1 1 Tryz.underlying23 hi0 hz0 hz1 hz2 rfl (by decide) (.slice (some ⟨og, 0, none⟩) L oc) L (u8s x.out) rfl (hovL.alloc _) ⟨wr.heap.size, 0, none⟩ 1 1 [.int .u8 (c : Int)] rfl rfl (cell_one_new wr.drew _ _) (one_cell rfl) (by decide) (by unfold maxLen; omega) (by omega) (by simp; omega) _ rfl ?_
              intro g5 cap5 w5 hO5 hgrow5 hspot5 hlt5
              obtain ⟨q2, f25, hI5⟩ := IIs.said (c := c) (w := wr.drew) (v' := .slice (some ⟨g5, 0, none⟩) (L + 1) cap5) (uh HIS).base (uh HIS).no (uh HHH) (own_kp (uh HOV) (fun _ _ => rfl)) (own_kp (uh HKV) (fun _ _ => rfl)) (uh HAP) (uh HN1) (uh HN2) (fun g hg => uh HNo g (by have hg' : wr.heap.size <= g := hg; omega)) (by rw [uh HLL]; exact hO5) hgrow5 (by
               rcases hspot5 with h | h
               . exact .inl h.symm
               . exact .inr (by rw [h]; rfl))
              have HI5 := Hd ((uh HDR).trans hI5)
              refine hK _ _ ?_
              clear hK K hI5 hO5 hgrow5 hspot5 hlt5 hovL
              rw [uh HLL] at q2
              simp only [Act.put, List.setIfInBounds_toArray, List.set_cons_zero, List.set_cons_succ]
              refine wpAny_take (i := 20) (v := .pointer (some ⟨b, 0, none⟩)) rfl (by kernel_rfl) (by kernel_rfl) (by kernel_rfl) (fun _ _ _ h => h) (Or.inl ⟨by rfl, fun W => by go_simp⟩) ?_
              simp only [Act.put, List.setIfInBounds_toArray, List.set_cons_zero, List.set_cons_succ]
              refine wpAny_take (i := 21) (v := .pointer (some ⟨b, 2, none⟩)) rfl (by kernel_rfl) (by kernel_rfl) (by kernel_rfl) (fun _ _ _ h => h) (Or.inl ⟨by rfl, fun W => by go_simp⟩) ?_
              simp only [Act.put, List.setIfInBounds_toArray, List.set_cons_zero, List.set_cons_succ]
              refine wpAny_ready (rs := [22]) (by kernel_rfl) (by simp) (AllReady.cons rfl (fun K hK => ?_) AllReady.nil)
              go_simp
              refine hK _ _ ?_
              clear hK K
              refine wpAny_done (by kernel_rfl) ?_ _
              go_wp2
              go_roundw
              case rel => exact ⟨i + 1, { x with out := x.out ++ [c] }, by omega, by go_num, Hd ⟨by show (x.out ++ [c]).length + _ <= _; rw [List.length_append, uh HLL]; simp only [List.length_cons, List.length_nil]; omega, by show d <= (x.out ++ [c]).length; rw [List.length_append, uh HLL]; omega, hxe⟩, HI5, HVn⟩
              case measure => simp [intOf]; omega
    . go_simp
      refine hK _ _ ?_
      clear hK K
      refine wpAny_take (i := 13) (v := .int .i64 (L : Int)) rfl (by kernel_rfl) (by kernel_rfl) (by kernel_rfl) (fun _ _ _ h => h) (Or.inl ⟨by rfl, fun W => by go_simp⟩) ?_
      simp only [Act.put, List.setIfInBounds_toArray, List.set_cons_zero, List.set_cons_succ]
      refine wpAny_take (i := 15) (v := .int .i64 (q : Int)) rfl (by kernel_rfl) (by kernel_rfl) (by kernel_rfl) (fun _ _ _ h => h) (Or.inl ⟨by rfl, fun W => by go_simp⟩) ?_
      simp only [Act.put, List.setIfInBounds_toArray, List.set_cons_zero, List.set_cons_succ]
      refine wpAny_ready (rs := [4, 8]) (by kernel_rfl) (by simp) (AllReady.cons rfl (fun K hK => ?_) (AllReady.cons rfl (fun K hK => ?_) AllReady.nil))
      . go_simp
        refine hK _ _ ?_
        clear hK K
        refine wpAny_ready (rs := [8]) (by kernel_rfl) (by simp) (AllReady.cons rfl (fun K hK => ?_) AllReady.nil)
        . go_simp
          refine hK _ _ ?_
          clear hK K
          refine wpAny_take (i := 16) (v := .pointer (some ⟨og, q, none⟩)) rfl (by kernel_rfl) (by kernel_rfl) (by kernel_rfl) (fun _ _ _ h => h) (Or.inl ⟨by rfl, fun W => by go_simp⟩) ?_
          simp only [Act.put, List.setIfInBounds_toArray, List.set_cons_zero, List.set_cons_succ]
          refine wpAny_ready (rs := [17]) (by kernel_rfl) (by simp) (AllReady.cons rfl (fun K hK => ?_) AllReady.nil)
          . go_simp
            refine hK _ _ ?_
            clear hK K
            refine wpAny_ready (rs := [18]) (by kernel_rfl) (by simp) (AllReady.cons rfl (fun K hK => ?_) AllReady.nil)
            . go_simp
              refine hK _ _ ?_
              clear hK K
              have hovL : wr.drew.ownsRow (b + 1) 5 1 (.slice (some ⟨og, 0, none⟩) L oc) L (u8s x.out) := by
               have := own_kp (w' := wr.drew) (uh HOV) (fun _ _ => rfl)
               rw [uh HLL] at this
               exact this
              refine wpAny_ready (rs := [19]) (by kernel_rfl) (by simp) (AllReady.cons rfl (fun K hK => ?_) AllReady.nil)
              refine step_append_lies _ rfl (.tmp 24) (.tmp 38) 23 rfl (b + 1) 5 i0 (.int .u8 0) 1 1 Tryz.underlying23 hi0 hz0 hz1 hz2 rfl (by decide) (.slice (some ⟨og, 0, none⟩) L oc) L (u8s x.out) rfl (hovL.alloc _) ⟨wr.heap.size, 0, none⟩ 1 1 [.int .u8 (c : Int)] rfl rfl (cell_one_new wr.drew _ _) (one_cell rfl) (by decide) (by unfold maxLen; omega) (by omega) (by simp; omega) _ rfl ?_
              intro g5 cap5 w5 hO5 hgrow5 hspot5 hlt5
              obtain ⟨q2, f25, hI5⟩ := IIs.said (c := c) (w := wr.drew) (v' := .slice (some ⟨g5, 0, none⟩) (L + 1) cap5) (uh HIS).base (uh HIS).no (uh HHH) (own_kp (uh HOV) (fun _ _ => rfl)) (own_kp (uh HKV) (fun _ _ => rfl)) (uh HAP) (uh HN1) (uh HN2) (fun g hg => uh HNo g (by have hg' : wr.heap.size <= g := hg; omega)) (by rw [uh HLL]; exact hO5) hgrow5 (by
               rcases hspot5 with h | h
               . exact .inl h.symm
               . exact .inr (by rw [h]; rfl))
              have HI5 := Hd ((uh HDR).trans hI5)
              refine hK _ _ ?_
              clear hK K hI5 hO5 hgrow5 hspot5 hlt5 hovL
              rw [uh HLL] at q2
              simp only [Act.put, List.setIfInBounds_toArray, List.set_cons_zero, List.set_cons_succ]
              refine wpAny_take (i := 20) (v := .pointer (some ⟨b, 0, none⟩)) rfl (by kernel_rfl) (by kernel_rfl) (by kernel_rfl) (fun _ _ _ h => h) (Or.inl ⟨by rfl, fun W => by go_simp⟩) ?_
              simp only [Act.put, List.setIfInBounds_toArray, List.set_cons_zero, List.set_cons_succ]
              refine wpAny_take (i := 21) (v := .pointer (some ⟨b, 2, none⟩)) rfl (by kernel_rfl) (by kernel_rfl) (by kernel_rfl) (fun _ _ _ h => h) (Or.inl ⟨by rfl, fun W => by go_simp⟩) ?_
              simp only [Act.put, List.setIfInBounds_toArray, List.set_cons_zero, List.set_cons_succ]
              refine wpAny_ready (rs := [22]) (by kernel_rfl) (by simp) (AllReady.cons rfl (fun K hK => ?_) AllReady.nil)
              go_simp
              refine hK _ _ ?_
              clear hK K
              refine wpAny_done (by kernel_rfl) ?_ _
              go_wp2
              go_roundw
              case rel => exact ⟨i + 1, { x with out := x.out ++ [c] }, by omega, by go_num, Hd ⟨by show (x.out ++ [c]).length + _ <= _; rw [List.length_append, uh HLL]; simp only [List.length_cons, List.length_nil]; omega, by show d <= (x.out ++ [c]).length; rw [List.length_append, uh HLL]; omega, hxe⟩, HI5, HVn⟩
              case measure => simp [intOf]; omega
      . go_simp
        refine hK _ _ ?_
        clear hK K
        refine wpAny_take (i := 16) (v := .pointer (some ⟨og, q, none⟩)) rfl (by kernel_rfl) (by kernel_rfl) (by kernel_rfl) (fun _ _ _ h => h) (Or.inl ⟨by rfl, fun W => by go_simp⟩) ?_
        simp only [Act.put, List.setIfInBounds_toArray, List.set_cons_zero, List.set_cons_succ]
        refine wpAny_ready (rs := [4, 17]) (by kernel_rfl) (by simp) (AllReady.cons rfl (fun K hK => ?_) (AllReady.cons rfl (fun K hK => ?_) AllReady.nil))
        . go_simp
          refine hK _ _ ?_
          clear hK K
          refine wpAny_ready (rs := [17]) (by kernel_rfl) (by simp) (AllReady.cons rfl (fun K hK => ?_) AllReady.nil)
          . go_simp
            refine hK _ _ ?_
            clear hK K
            refine wpAny_ready (rs := [18]) (by kernel_rfl) (by simp) (AllReady.cons rfl (fun K hK => ?_) AllReady.nil)
            . go_simp
              refine hK _ _ ?_
              clear hK K
              have hovL : wr.drew.ownsRow (b + 1) 5 1 (.slice (some ⟨og, 0, none⟩) L oc) L (u8s x.out) := by
               have := own_kp (w' := wr.drew) (uh HOV) (fun _ _ => rfl)
               rw [uh HLL] at this
               exact this
              refine wpAny_ready (rs := [19]) (by kernel_rfl) (by simp) (AllReady.cons rfl (fun K hK => ?_) AllReady.nil)
              refine step_append_lies _ rfl (.tmp 24) (.tmp 38) 23 rfl (b + 1) 5 i0 (.int .u8 0) 1 1 Tryz.underlying23 hi0 hz0 hz1 hz2 rfl (by decide) (.slice (some ⟨og, 0, none⟩) L oc) L (u8s x.out) rfl (hovL.alloc _) ⟨wr.heap.size, 0, none⟩ 1 1 [.int .u8 (c : Int)] rfl rfl (cell_one_new wr.drew _ _) (one_cell rfl) (by decide) (by unfold maxLen; omega) (by omega) (by simp; omega) _ rfl ?_
              intro g5 cap5 w5 hO5 hgrow5 hspot5 hlt5
              obtain ⟨q2, f25, hI5⟩ := IIs.said (c := c) (w := wr.drew) (v' := .slice (some ⟨g5, 0, none⟩) (L + 1) cap5) (uh HIS).base (uh HIS).no (uh HHH) (own_kp (uh HOV) (fun _ _ => rfl)) (own_kp (uh HKV) (fun _ _ => rfl)) (uh HAP) (uh HN1) (uh HN2) (fun g hg => uh HNo g (by have hg' : wr.heap.size <= g := hg; omega)) (by rw [uh HLL]; exact hO5) hgrow5 (by
               rcases hspot5 with h | h
               . exact .inl h.symm
               . exact .inr (by rw [h]; rfl))
              have HI5 := Hd ((uh HDR).trans hI5)
              refine hK _ _ ?_
              clear hK K hI5 hO5 hgrow5 hspot5 hlt5 hovL
              rw [uh HLL] at q2
              simp only [Act.put, List.setIfInBounds_toArray, List.set_cons_zero, List.set_cons_succ]
              refine wpAny_take (i := 20) (v := .pointer (some ⟨b, 0, none⟩)) rfl (by kernel_rfl) (by kernel_rfl) (by kernel_rfl) (fun _ _ _ h => h) (Or.inl ⟨by rfl, fun W => by go_simp⟩) ?_
              simp only [Act.put, List.setIfInBounds_toArray, List.set_cons_zero, List.set_cons_succ]
              refine wpAny_take (i := 21) (v := .pointer (some ⟨b, 2, none⟩)) rfl (by kernel_rfl) (by kernel_rfl) (by kernel_rfl) (fun _ _ _ h => h) (Or.inl ⟨by rfl, fun W => by go_simp⟩) ?_
              simp only [Act.put, List.setIfInBounds_toArray, List.set_cons_zero, List.set_cons_succ]
              refine wpAny_ready (rs := [22]) (by kernel_rfl) (by simp) (AllReady.cons rfl (fun K hK => ?_) AllReady.nil)
              go_simp
              refine hK _ _ ?_
              clear hK K
              refine wpAny_done (by kernel_rfl) ?_ _
              go_wp2
              go_roundw
              case rel => exact ⟨i + 1, { x with out := x.out ++ [c] }, by omega, by go_num, Hd ⟨by show (x.out ++ [c]).length + _ <= _; rw [List.length_append, uh HLL]; simp only [List.length_cons, List.length_nil]; omega, by show d <= (x.out ++ [c]).length; rw [List.length_append, uh HLL]; omega, hxe⟩, HI5, HVn⟩
              case measure => simp [intOf]; omega
        . go_simp
          refine hK _ _ ?_
          clear hK K
          refine wpAny_ready (rs := [4, 18]) (by kernel_rfl) (by simp) (AllReady.cons rfl (fun K hK => ?_) (AllReady.cons rfl (fun K hK => ?_) AllReady.nil))
          . go_simp
            refine hK _ _ ?_
            clear hK K
            refine wpAny_ready (rs := [18]) (by kernel_rfl) (by simp) (AllReady.cons rfl (fun K hK => ?_) AllReady.nil)
            . go_simp
              refine hK _ _ ?_
              clear hK K
              have hovL : wr.drew.ownsRow (b + 1) 5 1 (.slice (some ⟨og, 0, none⟩) L oc) L (u8s x.out) := by
               have := own_kp (w' := wr.drew) (uh HOV) (fun _ _ => rfl)
               rw [uh HLL] at this
               exact this
              refine wpAny_ready (rs := [19]) (by kernel_rfl) (by simp) (AllReady.cons rfl (fun K hK => ?_) AllReady.nil)
              refine step_append_lies _ rfl (.tmp 24) (.tmp 38) 23 rfl (b + 1) 5 i0 (.int .u8 0) 1 1 Tryz.underlying23 hi0 hz0 hz1 hz2 rfl (by decide) (.slice (some ⟨og, 0, none⟩) L oc) L (u8s x.out) rfl (hovL.alloc _) ⟨wr.heap.size, 0, none⟩ 1 1 [.int .u8 (c : Int)] rfl rfl (cell_one_new wr.drew _ _) (one_cell rfl) (by decide) (by unfold maxLen; omega) (by omega) (by simp; omega) _ rfl ?_
              intro g5 cap5 w5 hO5 hgrow5 hspot5 hlt5
              obtain ⟨q2, f25, hI5⟩ := IIs.said (c := c) (w := wr.drew) (v' := .slice (some ⟨g5, 0, none⟩) (L + 1) cap5) (uh HIS).base (uh HIS).no (uh HHH) (own_kp (uh HOV) (fun _ _ => rfl)) (own_kp (uh HKV) (fun _ _ => rfl)) (uh HAP) (uh HN1) (uh HN2) (fun g hg => uh HNo g (by have hg' : wr.heap.size <= g := hg; omega)) (by rw [uh HLL]; exact hO5) hgrow5 (by
               rcases hspot5 with h | h
               . exact .inl h.symm
               . exact .inr (by rw [h]; rfl))
              have HI5 := Hd ((uh HDR).trans hI5)
              refine hK _ _ ?_
              clear hK K hI5 hO5 hgrow5 hspot5 hlt5 hovL
              rw [uh HLL] at q2
              simp only [Act.put, List.setIfInBounds_toArray, List.set_cons_zero, List.set_cons_succ]
              refine wpAny_take (i := 20) (v := .pointer (some ⟨b, 0, none⟩)) rfl (by kernel_rfl) (by kernel_rfl) (by kernel_rfl) (fun _ _ _ h => h) (Or.inl ⟨by rfl, fun W => by go_simp⟩) ?_
              simp only [Act.put, List.setIfInBounds_toArray, List.set_cons_zero, List.set_cons_succ]
              refine wpAny_take (i := 21) (v := .pointer (some ⟨b, 2, none⟩)) rfl (by kernel_rfl) (by kernel_rfl) (by kernel_rfl) (fun _ _ _ h => h) (Or.inl ⟨by rfl, fun W => by go_simp⟩) ?_
              simp only [Act.put, List.setIfInBounds_toArray, List.set_cons_zero, List.set_cons_succ]
              refine wpAny_ready (rs := [22]) (by kernel_rfl) (by simp) (AllReady.cons rfl (fun K hK => ?_) AllReady.nil)
              go_simp
              refine hK _ _ ?_
              clear hK K
              refine wpAny_done (by kernel_rfl) ?_ _
              go_wp2
              go_roundw
              case rel => exact ⟨i + 1, { x with out := x.out ++ [c] }, by omega, by go_num, Hd ⟨by show (x.out ++ [c]).length + _ <= _; rw [List.length_append, uh HLL]; simp only [List.length_cons, List.length_nil]; omega, by show d <= (x.out ++ [c]).length; rw [List.length_append, uh HLL]; omega, hxe⟩, HI5, HVn⟩
              case measure => simp [intOf]; omega
          . go_simp
            refine hK _ _ ?_
            clear hK K
            refine wpAny_ready (rs := [4]) (by kernel_rfl) (by simp) (AllReady.cons rfl (fun K hK => ?_) AllReady.nil)
            . go_simp
              refine hK _ _ ?_
              clear hK K
              have hovL : wr.drew.ownsRow (b + 1) 5 1 (.slice (some ⟨og, 0, none⟩) L oc) L (u8s x.out) := by
               have := own_kp (w' := wr.drew) (uh HOV) (fun _ _ => rfl)
               rw [uh HLL] at this
               exact this
              refine wpAny_ready (rs := [19]) (by kernel_rfl) (by simp) (AllReady.cons rfl (fun K hK => ?_) AllReady.nil)
              refine step_append_lies _ rfl (.tmp 24) (.tmp 38) 23 rfl (b + 1) 5 i0 (.int .u8 0) 1 1 Tryz.underlying23 hi0 hz0 hz1 hz2 rfl (by decide) (.slice (some ⟨og, 0, none⟩) L oc) L (u8s x.out) rfl (hovL.alloc _) ⟨wr.heap.size, 0, none⟩ 1 1 [.int .u8 (c : Int)] rfl rfl (cell_one_new wr.drew _ _) (one_cell rfl) (by decide) (by unfold maxLen; omega) (by omega) (by simp; omega) _ rfl ?_
              intro g5 cap5 w5 hO5 hgrow5 hspot5 hlt5
              obtain ⟨q2, f25, hI5⟩ := IIs.said (c := c) (w := wr.drew) (v' := .slice (some ⟨g5, 0, none⟩) (L + 1) cap5) (uh HIS).base (uh HIS).no (uh HHH) (own_kp (uh HOV) (fun _ _ => rfl)) (own_kp (uh HKV) (fun _ _ => rfl)) (uh HAP) (uh HN1) (uh HN2) (fun g hg => uh HNo g (by have hg' : wr.heap.size <= g := hg; omega)) (by rw [uh HLL]; exact hO5) hgrow5 (by
               rcases hspot5 with h | h
               . exact .inl h.symm
               . exact .inr (by rw [h]; rfl))
              have HI5 := Hd ((uh HDR).trans hI5)
              refine hK _ _ ?_
              clear hK K hI5 hO5 hgrow5 hspot5 hlt5 hovL
              rw [uh HLL] at q2
              simp only [Act.put, List.setIfInBounds_toArray, List.set_cons_zero, List.set_cons_succ]
              refine wpAny_take (i := 20) (v := .pointer (some ⟨b, 0, none⟩)) rfl (by kernel_rfl) (by kernel_rfl) (by kernel_rfl) (fun _ _ _ h => h) (Or.inl ⟨by rfl, fun W => by go_simp⟩) ?_
              simp only [Act.put, List.setIfInBounds_toArray, List.set_cons_zero, List.set_cons_succ]
              refine wpAny_take (i := 21) (v := .pointer (some ⟨b, 2, none⟩)) rfl (by kernel_rfl) (by kernel_rfl) (by kernel_rfl) (fun _ _ _ h => h) (Or.inl ⟨by rfl, fun W => by go_simp⟩) ?_
              simp only [Act.put, List.setIfInBounds_toArray, List.set_cons_zero, List.set_cons_succ]
              refine wpAny_ready (rs := [22]) (by kernel_rfl) (by simp) (AllReady.cons rfl (fun K hK => ?_) AllReady.nil)
              go_simp
              refine hK _ _ ?_
              clear hK K
              refine wpAny_done (by kernel_rfl) ?_ _
              go_wp2
              go_roundw
              case rel => exact ⟨i + 1, { x with out := x.out ++ [c] }, by omega, by go_num, Hd ⟨by show (x.out ++ [c]).length + _ <= _; rw [List.length_append, uh HLL]; simp only [List.length_cons, List.length_nil]; omega, by show d <= (x.out ++ [c]).length; rw [List.length_append, uh HLL]; omega, hxe⟩, HI5, HVn⟩
              case measure => simp [intOf]; omega
  . obtain rfl : i = k := by omega
    have HF : Hid (V = x) := Hd (by rw [uh hVi, Nat.sub_self]; rfl)
    clear hVi
    go_wp2
    go_end0
    exact .inl ⟨by rw [uh HF]; exact hxe, rfl, by rw [uh HF]; exact uh hI⟩
end Go.Proofs.YtcdnbiiaoaeflafGreatDoor
