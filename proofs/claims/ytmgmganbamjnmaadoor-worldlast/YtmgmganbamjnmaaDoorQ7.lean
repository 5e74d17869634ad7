/-
  Bytes behind a row of the call's own; a file's five cells.
-/
import Derived.Test.YtmgmganbamjnmaaDoorQ2
import Derived.Test.YtmgmganbamjnmaaDoorQ6
import Derived.Maps.AppendAt
import Derived.Laws.AppendOwnNone
import Derived.Test.YtmgmganbamjnmaaDoorQ3
import Derived.Deep.RegionHeld3
namespace Go.Proofs.YtmgmganbamjnmaaDoor
open Go.RowKit
set_option linter.unusedVariables false
set_option maxRecDepth 100000
theorem info_u8b : (Tryd.prog.info? 5).map (fun i => (i.zero, i.size, i.bytes)) = some (some (.int .u8 0), 1, 1) := by kernel_rfl
abbrev u8v (bs : List UInt8) : List Value := bs.map fun x : UInt8 => Value.int .u8 ((x.toNat : Nat) : Int)
/-- a row of bytes of the call's own, read -/
theorem BsIn.own {w : World} {base n : Nat} {v : Value} {bs : List UInt8} (h : w.ownsRow base 5 1 v n (u8v bs)) : ∃ a c, v = .slice a bs.length c ∧ BsIn w a c bs ∧ ∀ b o, a = some ⟨b, o, none⟩ → base ≤ b ∧ b < w.heap.size := by
  have hn : bs.length = n := by have := h.1; simpa using this
  subst hn
  rcases h.2 with ⟨h1, h2⟩ | ⟨g, cap, cur, h1, h2, h3, h4, h5⟩
  · exact ⟨none, 0, by rw [h1, h2], .inl ⟨rfl, List.eq_nil_of_length_eq_zero h2, rfl⟩, fun b o e => by cases e⟩
  · subst h1
    have hlt := h.lt g rfl
    refine ⟨_, _, rfl, .inr (.inr ⟨g, 0, rfl, hlt.2, h4, ?_⟩), ?_⟩
    · intro j hj
      rw [Nat.zero_add, h.cellAt j (by omega)]
      simp [u8v, List.getD, hj]
    · intro b o e
      cases e
      exact hlt
/-- bytes behind a row of the call's own -/
theorem wpList_append_bs (w : World) {ops : Array Oper} {rest : List Oper} {o : Oper} {a : Act} {Q : Exit → Act → World → Prop} (hgd : o.guard = none) (s x : Operand)
    (ho : o.op = .call { callee := .builtin .append, args := #[s, x], argTypes := #[37, 37] }) (base : Nat) (v : Value) (n : Nat) (xs : List UInt8) (hs : a.eval s = v) (hown : w.ownsRow base 5 1 v n (u8v xs))
    (ad : Option Addr) (m c : Nat) (ys : List UInt8) (hx : a.eval x = .slice ad m c) (hm : ys.length = m) (hB : BsIn w ad c ys) (hsz : n + m ≤ 140737488355328) (hbase : base ≤ w.heap.size)
    (h : ∀ v' w', Hid (w'.ownsRow base 5 1 v' (n + m) (u8v (xs ++ ys))) → Hid (w.grownBy w' v.ownBlock) → wpList Tryd.prog ops Q rest (a.put o.dst v') w') : wpList Tryd.prog ops Q (o :: rest) a w := by
  obtain ⟨i0, hi, hz0, hz1, hz2⟩ := info_parts info_u8b
  have e : u8v (xs ++ ys) = u8v xs ++ u8v ys := by rw [u8v, u8v, u8v, List.map_append]
  rcases hB with ⟨rfl, rfl, rfl⟩ | ⟨rfl, ad, rfl⟩ | ⟨b, oo, rfl, h2, h3, h4⟩
  · have h0 : m = 0 := by simpa using hm.symm
    subst h0
    refine wpList_append_own_none hgd s x 37 ho base 5 i0 1 Tryd.underlying37 hi v n (u8v xs) hs hown hx ?_
    exact h v w (hide (by simpa using hown)) (hide ⟨rfl, rfl, rfl, Nat.le_refl _, fun _ _ _ => rfl⟩)
  · refine wpList_append_own_at w hgd s x 37 ho base 5 i0 (.int .u8 0) 1 1 Tryd.underlying37 hi hz0 hz1 hz2 rfl (by decide) v n (u8v xs) hs hown ad m c [] hx (by simpa using hm) (fun j u hj => by simp at hj) (fun u hu => by cases hu) (by unfold maxLen; omega) (by omega) hbase ?_
    intro v' w' h1 h2 _ _
    exact h v' w' (hide (by simpa using h1)) (hide h2)
  · refine wpList_append_own_at w hgd s x 37 ho base 5 i0 (.int .u8 0) 1 1 Tryd.underlying37 hi hz0 hz1 hz2 rfl (by decide) v n (u8v xs) hs hown ⟨b, oo, none⟩ m c (u8v ys) hx (by simp [u8v, hm]) ?_ (by intro u hu; obtain ⟨x, _, rfl⟩ := List.mem_map.1 hu; rfl) (by unfold maxLen; omega) (by omega) hbase ?_
    · intro j u hj
      have hj2 : j < ys.length := by
        by_cases c : j < ys.length
        · exact c
        · rw [List.getElem?_eq_none (by simp [u8v]; omega)] at hj; cases hj
      have e2 : (⟨b, oo, none⟩ : Addr).add j = ⟨b, oo + j, none⟩ := by unfold Addr.add; split <;> simp_all
      rw [e2, h4 j hj2]
      simp [u8v, hj2] at hj
      subst hj
      simp [List.getD, hj2]
    · intro v' w' h1 h2 _ _
      exact h v' w' (hide (by rw [e]; exact h1)) (hide h2)

/-- a file stored over another one -/
theorem put5 (W : World) (g : Nat) (t : TypeId) (o0 o1 o2 o3 o4 v0 v1 v2 v3 v4 : Value) (h : W.heap[g]? = some (.cells #[o0, o1, o2, o3, o4] t (0, 0))) :
    (((((W.setCell ⟨g, 0, none⟩ v0).setCell ⟨g, 1, none⟩ v1).setCell ⟨g, 2, none⟩ v2).setCell ⟨g, 3, none⟩ v3).setCell ⟨g, 4, none⟩ v4).heap[g]? = some (.cells #[v0, v1, v2, v3, v4] t (0, 0)) ∧ W.grownBy (((((W.setCell ⟨g, 0, none⟩ v0).setCell ⟨g, 1, none⟩ v1).setCell ⟨g, 2, none⟩ v2).setCell ⟨g, 3, none⟩ v3).setCell ⟨g, 4, none⟩ v4) (some g) := by
  have h0 := heap_setCell_same W g 0 _ _ v0 h
  have h1 := heap_setCell_same _ g 1 _ _ v1 h0
  have h2 := heap_setCell_same _ g 2 _ _ v2 h1
  have h3 := heap_setCell_same _ g 3 _ _ v3 h2
  have h4 := heap_setCell_same _ g 4 _ _ v4 h3
  exact ⟨h4, grown_trans (grown_trans (grown_trans (grown_trans (grown_setCell _ _ _ _) (grown_setCell _ _ _ _)) (grown_setCell _ _ _ _)) (grown_setCell _ _ _ _)) (grown_setCell _ _ _ _)⟩

end Go.Proofs.YtmgmganbamjnmaaDoor

/-
  Package merge: a copy of a file; bytes behind a row of the call's own.
-/
namespace Go.Proofs.YtmgmganbamjnmaaDoor
open Go.RowKit
set_option linter.unusedVariables false
set_option maxRecDepth 100000
set_option maxHeartbeats 2000000 in
/-- copyOf answers the same file, its bytes in a row of its own -/
theorem copyOf_any (x : Fv) (w : World) (h : FvIn w x) :
    Calls Tryd.prog 47 #[x.val] w fun e w' => ∃ a c, e = .returned (Fv.val ⟨x.f, a, c⟩) ∧ FvIn w' ⟨x.f, a, c⟩ ∧ Below w.heap.size w w' ∧ ∀ b o, a = some ⟨b, o, none⟩ → w.heap.size ≤ b ∧ b < w'.heap.size := by
  rw [val_is]
  obtain ⟨⟨nm, bs, st, nd, gn⟩, a, c⟩ := x
  simp only at *
  have hbs := h.bs
  have hbig := h.big
  have htxt := h.txt
  clear h
  simp only at hbs hbig htxt
  have HBS := hide (((hbs.below ((Below.refl w.heap.size w).alloc (Nat.le_refl _) (.cells #[.string (B nm), .slice a bs.length c, .int .i64 st, .int .i64 nd, .bool gn] 39)) (Nat.le_refl _))).below ((Below.refl (w.heap.size + 1) _).alloc (by simp) (.cells #[.string ⟨#[]⟩, .slice none 0 0, .int .i64 0, .int .i64 0, .bool false] 39)) (by simp))
  have hown : ∀ W : World, W.ownsRow W.heap.size 5 1 (.slice none 0 0) 0 (u8v []) := fun W => World.ownsRow_nil _ _ _ _
  have HT := hide htxt
  obtain ⟨n, hn⟩ : ∃ n, bs.length = n := ⟨_, rfl⟩
  have HN := hide hn
  have HV := hide (fun a c => val_is ⟨⟨nm, bs, st, nd, gn⟩, a, c⟩)
  simp only at HV
  rw [hn] at hbig HV HBS ⊢
  clear hbs hn htxt
  generalize B nm = t at *
  go_enter Tryd.func47, Tryd.ntmps47
  go_wp2_with (at_builtin; refine wpList_append_bs _ rfl _ _ rfl _ (.slice none 0 0) 0 [] rfl (hown _) a n c bs rfl (unhide HN) (unhide HBS) (by omega) (Nat.le_refl _) ?_)
  intro v' w1 hO hg
  obtain ⟨a', c', hv, hB', hloc⟩ := BsIn.own (unhide hO)
  rw [show bs.length = n from unhide HN] at hv
  subst hv
  have hg0 : ((w.alloc (.cells #[.string t, .slice a n c, .int .i64 st, .int .i64 nd, .bool gn] 39)).alloc (.cells #[.string ⟨#[]⟩, .slice none 0 0, .int .i64 0, .int .i64 0, .bool false] 39)).grownBy w1 none := unhide hg
  have hz := hg0.size
  simp only [World.size_alloc] at hz
  have h1 : w1.heap[w.heap.size]? = some (.cells #[.string t, .slice a n c, .int .i64 st, .int .i64 nd, .bool gn] 39 (0, 0)) := by
    rw [hg0.block _ (by simp; omega) (by simp), Below.heap_alloc _ _ _ (by simp), heap_alloc_new]
  have h2 : w1.heap[w.heap.size + 1]? = some (.cells #[.string ⟨#[]⟩, .slice none 0 0, .int .i64 0, .int .i64 0, .bool false] 39 (0, 0)) := by
    rw [hg0.block _ (by simp) (by simp)]
    have := heap_alloc_new (w.alloc (.cells #[.string t, .slice a n c, .int .i64 st, .int .i64 nd, .bool gn] 39)) (.cells #[.string ⟨#[]⟩, .slice none 0 0, .int .i64 0, .int .i64 0, .bool false] 39)
    simpa using this
  have HBel := hide (((Below.refl w.heap.size w).alloc (Nat.le_refl _) (.cells #[.string t, .slice a n c, .int .i64 st, .int .i64 nd, .bool gn] 39)).alloc (by simp) (.cells #[.string ⟨#[]⟩, .slice none 0 0, .int .i64 0, .int .i64 0, .bool false] 39))
  have HBel1 := hide ((unhide HBel).grown hg0 (by simp; omega) (fun k e => by cases e))
  have q0 : w1.cell? ⟨w.heap.size, 0, none⟩ = some (.string t) := heap_row h1
  have q1 : w1.cell? ⟨w.heap.size, 1, none⟩ = some (.slice a n c) := heap_row h1
  have q2 : w1.cell? ⟨w.heap.size, 2, none⟩ = some (.int .i64 st) := heap_row h1
  have q3 : w1.cell? ⟨w.heap.size, 3, none⟩ = some (.int .i64 nd) := heap_row h1
  have q4 : w1.cell? ⟨w.heap.size, 4, none⟩ = some (.bool gn) := heap_row h1
  have r0 : w1.cell? ⟨w.heap.size + 1, 0, none⟩ = some (.string ⟨#[]⟩) := heap_row h2
  have r1 : w1.cell? ⟨w.heap.size + 1, 1, none⟩ = some (.slice none 0 0) := heap_row h2
  have r2 : w1.cell? ⟨w.heap.size + 1, 2, none⟩ = some (.int .i64 0) := heap_row h2
  have r3 : w1.cell? ⟨w.heap.size + 1, 3, none⟩ = some (.int .i64 0) := heap_row h2
  have r4 : w1.cell? ⟨w.heap.size + 1, 4, none⟩ = some (.bool false) := heap_row h2
  have f1 := frozen_of_row w1 w.heap.size 1 _ _ h1
  have g0 := frozen_of_row w1 (w.heap.size + 1) 0 _ _ h2
  have g1 := frozen_of_row w1 (w.heap.size + 1) 1 _ _ h2
  have g2 := frozen_of_row w1 (w.heap.size + 1) 2 _ _ h2
  have g3 := frozen_of_row w1 (w.heap.size + 1) 3 _ _ h2
  have g4 := frozen_of_row w1 (w.heap.size + 1) 4 _ _ h2
  have k1 := grown_setCell w1 w.heap.size 1 (.slice a' n c')
  obtain ⟨p1, p2⟩ := put5 (w1.setCell ⟨w.heap.size, 1, none⟩ (.slice a' n c')) (w.heap.size + 1) 39 _ _ _ _ _ (.string t) (.slice a' n c') (.int .i64 st) (.int .i64 nd) (.bool gn) ((k1.block _ (by omega) (by simp)).trans h2)
  have hz1 := k1.size
  have hz2 := p2.size
  have HP1 := hide p1
  have HF := hide (((unhide HBel1).grown k1 (by omega) (fun k e => by cases e; exact Nat.le_refl _)).grown p2 (by omega) (fun k e => by cases e; omega))
  have HB' := hide ((hB'.grown k1 (fun b o e => by have := hloc b o e; simp; omega)).grown p2 (fun b o e => by have := hloc b o e; simp; omega))
  have HLoc : Hid (∀ b o, a' = some ⟨b, o, none⟩ → w.heap.size ≤ b ∧ b < ((((((w1.setCell ⟨w.heap.size, 1, none⟩ (.slice a' n c')).setCell ⟨w.heap.size + 1, 0, none⟩ (.string t)).setCell ⟨w.heap.size + 1, 1, none⟩ (.slice a' n c')).setCell ⟨w.heap.size + 1, 2, none⟩ (.int .i64 st)).setCell ⟨w.heap.size + 1, 3, none⟩ (.int .i64 nd)).setCell ⟨w.heap.size + 1, 4, none⟩ (.bool gn)).heap.size) := fun b o e => by
    have := hloc b o e
    omega
  clear h1 h2 hB' hloc hg hg0 hO k1 p1 p2 hz1 hz2
  go_wp2
  refine bodyPost_ret (v := .agg #[.string t, .slice a' n c', .int .i64 st, .int .i64 nd, .bool gn]) ?_ rfl ⟨a', c', by rw [unhide HV], ⟨unhide HB', by rw [unhide HN]; exact hbig, unhide HT⟩, unhide HF, unhide HLoc⟩
  exact results_cell_row rfl _ _ _ _ _ _ _ rfl (unhide HP1) Tryd.underlying39 rfl (by kernel_rfl)
end Go.Proofs.YtmgmganbamjnmaaDoor

/-
  Package merge: which of two files is newer.
-/
namespace Go.Proofs.YtmgmganbamjnmaaDoor
open Go.RowKit
set_option linter.unusedVariables false
set_option maxRecDepth 100000

theorem newer_b0 (w : World) (o1 o2 : Obj) : Below w.heap.size w ((w.alloc o1).alloc o2).drew := below_drewN (((Below.refl _ w).alloc (Nat.le_refl _) o1).alloc (by simp) o2) 1
theorem newer_b1 (w : World) (o1 o2 o3 : Obj) : Below w.heap.size w (((w.alloc o1).alloc o2).alloc o3).drew := below_drewN ((((Below.refl _ w).alloc (Nat.le_refl _) o1).alloc (by simp) o2).alloc (by simp; omega) o3) 1
theorem newer_b2 (w : World) (o1 o2 o3 : Obj) (v1 v2 v3 v4 : Value) : Below w.heap.size w (((w.alloc o1).alloc o2).alloc o3).drew := below_drewN ((((Below.refl _ w).alloc (Nat.le_refl _) o1).alloc (by simp) o2).alloc (by simp; omega) o3) 1
theorem idxN0 (a b c d : Int) (W : World) : (Instr.index 72 (.agg #[.int .i64 a, .int .i64 b, .int .i64 c, .int .i64 d]) (.int .i64 0)).run Tryd.prog W = .ok (.int .i64 a) W := by kernel_rfl
theorem idxN1 (a b c d : Int) (W : World) : (Instr.index 72 (.agg #[.int .i64 a, .int .i64 b, .int .i64 c, .int .i64 d]) (.int .i64 1)).run Tryd.prog W = .ok (.int .i64 b) W := by kernel_rfl
theorem idxN2 (a b c d : Int) (W : World) : (Instr.index 72 (.agg #[.int .i64 a, .int .i64 b, .int .i64 c, .int .i64 d]) (.int .i64 2)).run Tryd.prog W = .ok (.int .i64 c) W := by kernel_rfl
theorem idxN3 (a b c d : Int) (W : World) : (Instr.index 72 (.agg #[.int .i64 a, .int .i64 b, .int .i64 c, .int .i64 d]) (.int .i64 3)).run Tryd.prog W = .ok (.int .i64 d) W := by kernel_rfl
theorem nz_at {a b : Int} (h : a ≠ 0) : nz a b = a := by unfold nz; rw [if_pos h]
theorem nz_past {b : Int} : nz 0 b = b := by unfold nz; rw [if_neg (by decide)]
theorem ne_b {a : Int} (h : a ≠ 0) : (a != 0) = true := by rw [bne_iff_ne]; exact h

set_option maxHeartbeats 4000000 in
theorem newer_any (x y : Fv) (w : World) (hx : FvIn w x) (hy : FvIn w y) :
    Calls Tryd.prog 17 #[x.val, y.val] w fun e w' => e = .returned (.int .i64 (nwr x.f y.f)) ∧ Below w.heap.size w w' := by
  have hb : ∀ W, Below w.heap.size w W → Calls Tryd.prog 33 #[.slice x.a x.f.bytes.length x.c, .slice y.a y.f.bytes.length y.c] W fun e w' => e = .returned (.int .i64 (cmpB x.f.bytes y.f.bytes)) ∧ w' = W :=
    fun W hW => cmp_bytes (hx.bs.below hW (Nat.le_refl _)) (hy.bs.below hW (Nat.le_refl _))
  have hd : nwr x.f y.f = nz (cmpI x.f.stamp y.f.stamp) (nz (cmpI x.f.node y.f.node) (nz (cmpG x.f.gone y.f.gone) (cmpB x.f.bytes y.f.bytes))) := rfl
  rw [val_is, val_is, hd]
  clear hx hy hd
  obtain ⟨⟨nm, bs, st, nd, gn⟩, a, c⟩ := x
  obtain ⟨⟨nm2, bs2, st2, nd2, gn2⟩, a2, c2⟩ := y
  simp only at *
  generalize B nm = t at *
  generalize B nm2 = t2 at *
  generalize bs.length = n at *
  generalize bs2.length = n2 at *
  have h3 := gone_cmp gn gn2
  generalize cmpG gn gn2 = k3 at *
  generalize cmpB bs bs2 = k4 at *
  have H3 := hide h3
  have H4 := hide hb
  clear h3 hb
  go_enter Tryd.func17, Tryd.ntmps17
  go_wp2
  go_region_held3 (fun W => Below w.heap.size w W ∧ W.cell? ⟨w.heap.size, 1, none⟩ = some (.slice a n c) ∧ W.cell? ⟨w.heap.size, 2, none⟩ = some (.int .i64 st) ∧ W.cell? ⟨w.heap.size, 3, none⟩ = some (.int .i64 nd) ∧ W.cell? ⟨w.heap.size, 4, none⟩ = some (.bool gn) ∧ W.cell? ⟨w.heap.size + 1, 1, none⟩ = some (.slice a2 n2 c2) ∧ W.cell? ⟨w.heap.size + 1, 2, none⟩ = some (.int .i64 st2) ∧ W.cell? ⟨w.heap.size + 1, 3, none⟩ = some (.int .i64 nd2) ∧ W.cell? ⟨w.heap.size + 1, 4, none⟩ = some (.bool gn2)) (refine ⟨?_, ?_, ?_, ?_, ?_, ?_, ?_, ?_, ?_⟩ <;> first | exact newer_b0 _ _ _ | exact newer_b1 _ _ _ _ | exact newer_b2 _ _ _ _ _ _ _ _ | go_keep)
    (first | (go_at_call 31; refine (cmp_int _ _ _).mono ?_; rintro e w' ⟨rfl, rfl⟩) | (go_at_call 32; refine (unhide H3 _).mono ?_; rintro e w' ⟨rfl, rfl⟩) | (go_at_call 33; refine (unhide H4 _ (by first | exact newer_b0 _ _ _ | exact newer_b1 _ _ _ _)).mono ?_; rintro e w' ⟨rfl, rfl⟩))
  all_goals (
    generalize hk1 : cmpI st st2 = k1
    generalize hk2 : cmpI nd nd2 = k2
    have HK1 := hide hk1
    have HK2 := hide hk2
    clear hk1 hk2
    have i0 := idxN0 k1 k2 k3 k4
    have i1 := idxN1 k1 k2 k3 k4
    have i2 := idxN2 k1 k2 k3 k4
    have i3 := idxN3 k1 k2 k3 k4
    clear H3 H4
    go_wp2
    go_loopw [7, 30] (fun _ i wr => Hid (Below w.heap.size w wr) ∧ ((i = .int .i64 0) ∨ (i = .int .i64 1 ∧ k1 = 0) ∨ (i = .int .i64 2 ∧ k1 = 0 ∧ k2 = 0) ∨ (i = .int .i64 3 ∧ k1 = 0 ∧ k2 = 0 ∧ k3 = 0) ∨ (i = .int .i64 4 ∧ k1 = 0 ∧ k2 = 0 ∧ k3 = 0 ∧ k4 = 0))) (fun _ i _ => 4 - (intOf i).toNat)
    case atStart => exact ⟨newer_b1 _ _ _ _, .inl rfl⟩
    case round =>
      obtain ⟨HB, rfl | ⟨rfl, rfl⟩ | ⟨rfl, rfl, rfl⟩ | ⟨rfl, rfl, rfl, rfl⟩ | ⟨rfl, rfl, rfl, rfl, rfl⟩⟩ := hrel
      · by_cases h : k1 = 0
        · subst h
          go_wp2
          go_roundw
          case rel => exact ⟨HB, by simp⟩
          case measure => simp [intOf]
        · have hb := ne_b h
          go_wp2
          go_ret
          exact ⟨ret_int (by rw [unhide HK1, nz_at h]), unhide HB⟩
      · by_cases h : k2 = 0
        · subst h
          go_wp2
          go_roundw
          case rel => exact ⟨HB, by simp⟩
          case measure => simp [intOf]
        · have hb := ne_b h
          go_wp2
          go_ret
          exact ⟨ret_int (by rw [unhide HK1, unhide HK2, nz_past, nz_at h]), unhide HB⟩
      · by_cases h : k3 = 0
        · subst h
          go_wp2
          go_roundw
          case rel => exact ⟨HB, by simp⟩
          case measure => simp [intOf]
        · have hb := ne_b h
          go_wp2
          go_ret
          exact ⟨ret_int (by rw [unhide HK1, unhide HK2, nz_past, nz_past, nz_at h]), unhide HB⟩
      · by_cases h : k4 = 0
        · subst h
          go_wp2
          go_roundw
          case rel => exact ⟨HB, by simp⟩
          case measure => simp [intOf]
        · have hb := ne_b h
          go_wp2
          go_ret
          exact ⟨ret_int (by rw [unhide HK1, unhide HK2, nz_past, nz_past, nz_past]), unhide HB⟩
      · go_wp2
        go_ret
        exact ⟨ret_int (by rw [unhide HK1, unhide HK2, nz_past, nz_past, nz_past]), unhide HB⟩)
end Go.Proofs.YtmgmganbamjnmaaDoor
