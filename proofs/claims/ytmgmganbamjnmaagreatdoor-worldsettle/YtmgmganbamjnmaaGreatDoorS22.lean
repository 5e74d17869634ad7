/-
  The document's own: files of several together.
-/
import Derived.Test.YtmgmganbamjnmaaGreatDoorS20
import Derived.Test.YtmgmganbamjnmaaGreatDoorS21
namespace Go.Proofs.YtmgmganbamjnmaaGreatDoor
open Go.RowKit
set_option linter.unusedVariables false
set_option maxRecDepth 100000

theorem info_strT : (Tryz.prog.info? 9).map (fun i => (i.zero, i.size, i.bytes)) = some (some (.string ⟨#[]⟩), 1, 16) := by kernel_rfl
/-- a text behind a row of the call's own -/
theorem wpList_append_str (w : World) {ops : Array Oper} {rest : List Oper} {o : Oper} {a : Act} {Q : Exit → Act → World → Prop} (hgd : o.guard = none) (s x : Operand)
    (ho : o.op = .call { callee := .builtin .append, args := #[s, x], argTypes := #[67, 67] }) (base : Nat) (v : Value) (ps : List (List UInt8)) (hs : a.eval s = v) (hown : SRow w base v ps)
    (g : Nat) (y : List UInt8) (hx : a.eval x = .slice (some ⟨g, 0, none⟩) 1 1) (hc : w.cell? ⟨g, 0, none⟩ = some (.string (B y))) (hsz : ps.length + 1 ≤ 2097152) (hbase : base ≤ w.heap.size)
    (h : ∀ v' w', Hid (SRow w' base v' (ps ++ [y])) → Hid (w.grownBy w' v.ownBlock) → wpList Tryz.prog ops Q rest (a.put o.dst v') w') : wpList Tryz.prog ops Q (o :: rest) a w := by
  obtain ⟨i0, hi, hz0, hz1, hz2⟩ := info_parts info_strT
  refine wpList_append_own_at w hgd s x 67 ho base 9 i0 _ 1 16 Tryz.underlying67 hi hz0 hz1 hz2 rfl (by decide) v ps.length (strV ps) hs hown ⟨g, 0, none⟩ 1 1 [.string (B y)] hx rfl (fun j u hj => new_cell hc hj) (by intro u hu; simp at hu; subst hu; rfl) (by unfold maxLen; omega) (by omega) hbase ?_
  intro v' w' h1 h2 _ _
  refine h v' w' (hide ?_) (hide h2)
  unfold SRow
  rw [List.length_append]
  have : strV (ps ++ [y]) = strV ps ++ [.string (B y)] := by simp [strV]
  rw [this]
  exact h1
theorem row_map_ne {w : World} {b r : Nat} {v : Value} {ps : List (List UInt8)} {M : List Fv} (h : SRow w b v ps) (k : MapIs w r M) : some r ≠ v.ownBlock := by
  intro e
  obtain ⟨es, c, hb, _⟩ := k
  rcases h.2 with ⟨h1, _⟩ | ⟨g, cap, cur, h1, _, hg, _⟩
  · rw [h1] at e; cases e
  · rw [h1] at e
    have : r = g := Option.some.inj e
    subst this
    rw [hb] at hg
    cases hg
theorem SRow.grown {w w' : World} {b : Nat} {v : Value} {ps : List (List UInt8)} {r : Option Nat} (h : SRow w b v ps) (hg : w.grownBy w' r) (hv : v.ownBlock = none ∨ v.ownBlock ≠ r) : SRow w' b v ps := World.ownsRow.kept h hg hv
theorem grow_map_ne {w : World} {b r : Nat} {v : Value} {xs M : List Fv} (h : GRow w b v xs) (k : MapIs w r M) : some r ≠ v.ownBlock := by
  intro e
  obtain ⟨es, c, hb, _⟩ := k
  rcases h.own.2 with ⟨h1, _⟩ | ⟨g, cap, cur, h1, _, hg, _⟩
  · rw [h1] at e; cases e
  · rw [h1] at e
    have : r = g := Option.some.inj e
    subst this
    rw [hb] at hg
    cases hg
theorem grow_row_ne {w : World} {b b' : Nat} {v u : Value} {xs : List Fv} {ps : List (List UInt8)} (h : GRow w b v xs) (k : SRow w b' u ps) : u.ownBlock = none ∨ u.ownBlock ≠ v.ownBlock := by
  rcases k.2 with ⟨h1, _⟩ | ⟨g, cap, cur, h1, _, hg, _⟩
  · left; rw [h1]; rfl
  · right
    intro e
    rcases h.own.2 with ⟨h2, _⟩ | ⟨g2, cap2, cur2, h2, _, hg2, _⟩
    · rw [h1, h2] at e; cases e
    · rw [h1, h2] at e
      have : g = g2 := Option.some.inj e
      subst this
      rw [hg] at hg2
      have h3 := Option.some.inj hg2
      injection h3 with _ h4 _
      exact absurd h4 (by decide)
/-- what the loops hold -/
structure TgSt (w : World) (r : Nat) (v4 : Value) (M : List Fv) (wr : World) : Prop where
  map : MapIs wr r M
  row : SRow wr w.heap.size v4 (nms M)
  all : ∀ x ∈ M, FvIn w x
  bel : Below w.heap.size w wr
  rge : w.heap.size ≤ r
theorem TgSt.below {w : World} {r : Nat} {v4 : Value} {M : List Fv} {wr w' : World} (h : TgSt w r v4 M wr) (hB : Below wr.heap.size wr w') : TgSt w r v4 M w' :=
  ⟨h.map.below hB, h.row.below hB, h.all, h.bel.trans (hB.mono h.bel.size), h.rge⟩
theorem foldl_step {xs : List Fv} {k : Nat} {z : Fv} (M : List Fv) (h : xs[k]? = some z) : (xs.take (k + 1)).foldl addT M = addT ((xs.take k).foldl addT M) z := by
  rw [List.take_add_one, h, List.foldl_append]
  rfl
theorem addT_len (M : List Fv) (y : Fv) : (addT M y).length ≤ M.length + 1 := by
  unfold addT
  split
  · split
    · simp
    · omega
  · simp

set_option maxHeartbeats 8000000 in
theorem togetherRef_any (g : Nat) (ad bd : Option Addr) (c d : Nat) (xs ys : List Fv) (w : World) (h : FsIn w ad c xs) (k : FsIn w bd d ys) (n m : Nat) (hn : xs.length = n) (hm : ys.length = m) (hN : n ≤ 12) (hM : m ≤ 12)
    (hg0 : w.cell? ⟨g, 0, none⟩ = some (.slice ad n c)) (hg1 : w.cell? ⟨g, 1, none⟩ = some (.slice bd m d)) (hgl : g < w.heap.size) :
    Calls Tryz.prog 17 #[.slice (some ⟨g, 0, none⟩) 2 2] w fun e w' => ∃ v out, e = .returned v ∧ GRow w' w.heap.size v out ∧ nms out = srtS (nms ((xs ++ ys).foldl addT [])) ∧ (∀ x ∈ out, lookF x.f.name (fls ((xs ++ ys).foldl addT [])) = some x.f) ∧ out.length ≤ 24 ∧ Below w.heap.size w w' := by
  have HXS := hide h
  have HYS := hide k
  have HNX := hide hn
  have HNY := hide hm
  have HG0 := hide (fun W (hW : Below w.heap.size w W) => (hW.cell (p := ⟨g, 0, none⟩) hgl).trans hg0)
  have HG1 := hide (fun W (hW : Below w.heap.size w W) => (hW.cell (p := ⟨g, 1, none⟩) hgl).trans hg1)
  have hmm := @run_makeMap Tryz.prog
  have HS0 : Hid (TgSt w w.heap.size (.slice none 0 0) [] (w.alloc (.map #[] 0))) := ⟨MapIs.new w, SRow.nil _ _, fun x hx => absurd hx List.not_mem_nil, bel_al (Below.refl _ _) _, Nat.le_refl _⟩
  have HLT := hide (fun (x y : Fv) (W : World) (h : FvIn W x) (k : FvIn W y) => later_any x y W h k)
  clear h k hn hm hg0 hg1
  go_enter Tryz.func17, Tryz.ntmps17
  go_wp2
  clear hmm
  go_loopw [4, 6, 8, 9, 10, 17] (fun v4 _ _ _ _ i wr => ∃ M : List Fv, Hid (TgSt w w.heap.size v4 M wr) ∧ ((i = .int .i64 0 ∧ Hid (M = [] ∧ M.length ≤ 0)) ∨ (i = .int .i64 1 ∧ Hid (M = xs.foldl addT [] ∧ M.length ≤ 12)) ∨ (i = .int .i64 2 ∧ Hid (M = (xs ++ ys).foldl addT [] ∧ M.length ≤ 24)))) (fun _ _ _ _ _ i _ => 2 - (intOf i).toNat)
  case atStart => exact ⟨[], HS0, .inl ⟨rfl, rfl, by simp⟩⟩
  case round =>
    obtain ⟨M, HT, ⟨rfl, HI⟩ | ⟨rfl, HI⟩ | ⟨rfl, HI⟩⟩ := hrel
    · have hcell := unhide HG0 wr (unhide HT).bel
      go_wp2
      go_loopw [4, 8, 9, 10, 23] (fun v4 _ _ _ j wr' => ∃ (k : Nat) (M' : List Fv), k ≤ n ∧ j = .int .i64 (k : Int) ∧ Hid (TgSt w w.heap.size v4 M' wr' ∧ M' = (xs.take k).foldl addT M ∧ M'.length ≤ M.length + k)) (fun _ _ _ _ j _ => n - (intOf j).toNat)
      case atStart => exact ⟨0, M, Nat.zero_le _, rfl, unhide HT, by simp, Nat.le_refl _⟩
      case round =>
        obtain ⟨k, M', hk, rfl, HS2⟩ := hrel
        by_cases hlt : k < n
        · obtain ⟨z, hz, hzm⟩ := get_of (xs := xs) (k := k) (by rw [unhide HNX]; exact hlt)
          obtain ⟨t1, t2, t3⟩ := unhide HS2
          obtain ⟨b, o, hA, hb, c0, c1, c2, c3, c4⟩ := (unhide HXS).get t1.bel hz
          have hzw := t1.bel.size
          have HZIN := hide ((unhide HXS).all z hzm)
          have HFS := hide (foldl_step M hz)
          have hMl : M'.length ≤ 100 := by have := (unhide HI).2; omega
          have HTT := hide t1
          have HTM := hide t2
          have hMk := t3
          have hzs : z.sl = .slice z.a z.f.bytes.length z.c := rfl
          rw [hzs] at c1
          have HAL := hide (addT_len M' z)
          have hnl : (nms M').length = M'.length := by simp [nms]
          -- the map's answers, in whatever world it lies
          have HGET := hide (fun (W : World) (hW : MapIs W w.heap.size M') => map_get hW z.f.name true)
          have HPUT := hide (fun (W : World) (hW : MapIs W w.heap.size M') => map_put hW z)
          rw [val_is] at HPUT
          have HLZ : Hid (∀ (y : Fv) (W : World), FvIn W z → FvIn W y → Calls Tryz.prog 38 #[.agg #[.string (B z.f.name), .slice z.a z.f.bytes.length z.c, .int .i64 z.f.stamp, .int .i64 z.f.node, .bool z.f.gone], .agg #[.string (B y.f.name), .slice y.a y.f.bytes.length y.c, .int .i64 y.f.stamp, .int .i64 y.f.node, .bool y.f.gone]] W fun e w' => e = .returned (.int .i64 (nwr z.f y.f)) ∧ Below W.heap.size W w') := fun y W => unhide HLT z y W
          clear t1 t2 t3 hz hzm hzs HS2
          subst hA
          obtain ⟨zt, hzt⟩ : ∃ zt, B z.f.name = zt := ⟨_, rfl⟩
          rw [hzt] at c0 HGET HPUT HLZ
          have HZT := hide hzt
          clear hzt
          generalize z.f.bytes.length = zn at *
          generalize z.f.stamp = zs at *
          generalize z.f.node = zd at *
          generalize z.f.gone = zg at *
          have HBX := hide (bel_al (Below.refl wr.heap.size wr) (.cells #[.string zt, .slice z.a zn z.c, .int .i64 zs, .int .i64 zd, .bool zg] 49))
          cases hfm : fm z.f.name M' 0 with
          | none =>
            obtain ⟨a1, a2, a3⟩ := addT_none hfm
            have HA1 := hide a1
            have HA2 := hide a2
            have HA3 := hide a3
            have hget := unhide HGET (wr.alloc (.cells #[.string zt, .slice z.a zn z.c, .int .i64 zs, .int .i64 zd, .bool zg] 49)) ((unhide HTT).map.below (unhide HBX))
            rw [hfm] at hget
            simp only [if_true, Option.isSome_none, zeroF] at hget
            clear a1 a2 a3 hfm HGET
            have HW5 := hide (bel_al (bel_al (unhide HBX) (.cells #[.string ⟨#[]⟩, .slice none 0 0, .int .i64 0, .int .i64 0, .bool false] 49)) (.cells #[.string zt] 9))
            have HT5 := hide ((unhide HTT).below (unhide HW5))
            have hc5 : (((wr.alloc (.cells #[.string zt, .slice z.a zn z.c, .int .i64 zs, .int .i64 zd, .bool zg] 49)).alloc (.cells #[.string ⟨#[]⟩, .slice none 0 0, .int .i64 0, .int .i64 0, .bool false] 49)).alloc (.cells #[.string zt] 9)).cell? ⟨wr.heap.size + 1 + 1, 0, none⟩ = some (.string (B z.f.name)) := by
              rw [World.cell?_alloc_at _ _ _ _ (by rw [World.size_alloc, World.size_alloc]), unhide HZT]
              rfl
            have HC5 := hide hc5
            clear hc5
            go_wp2_with (at_builtin; refine wpList_append_str _ rfl _ _ rfl w.heap.size _ (nms M') rfl (unhide HT5).row (wr.heap.size + 1 + 1) z.f.name rfl (unhide HC5) (by omega) (by simp; omega) ?_)
            intro v' w5 hR hG
            have hg1 := unhide hG
            have hne := row_map_ne (unhide HT5).row (unhide HT5).map
            have hM5 := (unhide HT5).map.grown hg1 hne
            have hne5 := row_map_ne (unhide hR) hM5
            obtain ⟨w6, hrun, hM6, hg6⟩ := unhide HPUT w5 hM5
            have hown : ∀ g, u4.ownBlock = some g → w.heap.size ≤ g ∧ g < wr.heap.size := fun g e => World.ownsRow.lt (unhide HTT).row g e
            have h8 : w5.heap[wr.heap.size]? = some (.cells #[.string zt, .slice z.a zn z.c, .int .i64 zs, .int .i64 zd, .bool zg] 49 (0, 0)) := by
              rw [hg1.block _ (by simp only [World.size_alloc]; omega) (fun e => by have := (hown _ e.symm).2; omega), Below.heap_alloc _ _ _ (by simp only [World.size_alloc]; omega), Below.heap_alloc _ _ _ (by simp only [World.size_alloc]; omega), heap_alloc_new]
            have e0 : w5.cell? ⟨wr.heap.size, 0, none⟩ = some (.string zt) := heap_row h8
            have e1 : w5.cell? ⟨wr.heap.size, 1, none⟩ = some (.slice z.a zn z.c) := heap_row h8
            have e2 : w5.cell? ⟨wr.heap.size, 2, none⟩ = some (.int .i64 zs) := heap_row h8
            have e3 : w5.cell? ⟨wr.heap.size, 3, none⟩ = some (.int .i64 zd) := heap_row h8
            have e4 : w5.cell? ⟨wr.heap.size, 4, none⟩ = some (.bool zg) := heap_row h8
            have HFIN : Hid (TgSt w w.heap.size v' (addT M' z) w6) := by
              refine ⟨by rw [unhide HA1, ← unhide HA2]; exact hM6, ?_, ?_, ?_, Nat.le_refl _⟩
              · rw [unhide HA3]
                exact (unhide hR).grown hg6 (by
                  cases hv : v'.ownBlock with
                  | none => exact .inl rfl
                  | some q => right; rw [← hv]; exact hne5.symm)
              · intro x hx
                rcases mem_addT hx with hx | rfl
                · exact (unhide HTT).all x hx
                · exact unhide HZIN
              · have hz5 := hg1.size
                simp only [World.size_alloc] at hz5
                exact ((unhide HT5).bel.grown hg1 (by simp; omega) (fun g e => (hown g e).1)).grown hg6 (by omega) (fun g e => by cases e; exact Nat.le_refl _)
            clear hg1 hne hM5 hne5 hM6 hg6 hown h8 hR hG hget
            go_wp2
            go_roundw
            case rel => exact ⟨k + 1, _, by omega, by go_num, unhide HFIN, by rw [unhide HFS, ← unhide HTM], by have := unhide HAL; omega⟩
            case measure => simp [intOf]; omega
          | some p =>
            obtain ⟨a1, a2, a3⟩ := addT_some hfm
            have HA1 := hide a1
            have HA2 := hide a2
            have HA3 := hide a3
            have hqm : p.2 ∈ M' := by
              obtain ⟨j, x⟩ := p
              obtain ⟨_, _, q3, _⟩ := fm_at hfm
              exact List.mem_of_getElem? q3
            have HQIN := hide ((unhide HTT).all p.2 hqm)
            have hget := unhide HGET (wr.alloc (.cells #[.string zt, .slice z.a zn z.c, .int .i64 zs, .int .i64 zd, .bool zg] 49)) ((unhide HTT).map.below (unhide HBX))
            rw [hfm] at hget
            simp only [if_true, Option.isSome_some] at hget
            obtain ⟨q, hq⟩ : ∃ q, p.2 = q := ⟨_, rfl⟩
            rw [hq] at hget HA1 HA2 HQIN
            rw [val_is] at hget
            have HLQ := hide (unhide HLZ q)
            obtain ⟨nw, hnw⟩ : ∃ nw, nwr z.f q.f = nw := ⟨_, rfl⟩
            rw [hnw] at HLQ HA1 HA2
            clear a1 a2 a3 hfm HGET hqm hq hnw HLZ
            generalize B q.f.name = ot at *
            generalize q.f.bytes.length = on at *
            generalize q.f.stamp = os at *
            generalize q.f.node = od at *
            generalize q.f.gone = og at *
            have HW5 := hide (bel_al (unhide HBX) (.cells #[.string ot, .slice q.a on q.c, .int .i64 os, .int .i64 od, .bool og] 49))
            have HT5 := hide ((unhide HTT).below (unhide HW5))
            go_wp2_with fail
            refine (unhide HLQ _ ((unhide HZIN).below (unhide HT5).bel (Nat.le_refl _)) ((unhide HQIN).below (unhide HT5).bel (Nat.le_refl _))).mono ?_
            rintro e w5 ⟨rfl, hb5⟩
            have HT6 := hide ((unhide HT5).below hb5)
            have hz5 := hb5.size
            simp only [World.size_alloc] at hz5
            have h8 : w5.heap[wr.heap.size]? = some (.cells #[.string zt, .slice z.a zn z.c, .int .i64 zs, .int .i64 zd, .bool zg] 49 (0, 0)) := by
              rw [hb5.block _ (by simp; omega), Below.heap_alloc _ _ _ (by simp), heap_alloc_new]
            have e0 : w5.cell? ⟨wr.heap.size, 0, none⟩ = some (.string zt) := heap_row h8
            have e1 : w5.cell? ⟨wr.heap.size, 1, none⟩ = some (.slice z.a zn z.c) := heap_row h8
            have e2 : w5.cell? ⟨wr.heap.size, 2, none⟩ = some (.int .i64 zs) := heap_row h8
            have e3 : w5.cell? ⟨wr.heap.size, 3, none⟩ = some (.int .i64 zd) := heap_row h8
            have e4 : w5.cell? ⟨wr.heap.size, 4, none⟩ = some (.bool zg) := heap_row h8
            clear hb5 hget
            by_cases hpos : 0 < nw
            · obtain ⟨w6, hrun, hM6, hg6⟩ := unhide HPUT w5 (unhide HT6).map
              have hne := row_map_ne (unhide HT6).row (unhide HT6).map
              have HFIN : Hid (TgSt w w.heap.size u4 (addT M' z) w6) := by
                refine ⟨by rw [unhide HA1 hpos]; exact hM6, ?_, ?_, (unhide HT6).bel.grown hg6 (by omega) (fun g e => by cases e; exact Nat.le_refl _), Nat.le_refl _⟩
                · rw [unhide HA3]
                  exact (unhide HT6).row.grown hg6 (by
                    cases hv : u4.ownBlock with
                    | none => exact .inl rfl
                    | some q => right; rw [← hv]; exact hne.symm)
                · intro x hx
                  rcases mem_addT hx with hx | rfl
                  · exact (unhide HTT).all x hx
                  · exact unhide HZIN
              clear hM6 hg6 hne h8
              go_wp2
              go_roundw
              case rel => exact ⟨k + 1, _, by omega, by go_num, unhide HFIN, by rw [unhide HFS, ← unhide HTM], by have := unhide HAL; omega⟩
              case measure => simp [intOf]; omega
            · have hpf : decide ((0 : Int) < nw) = false := decide_eq_false hpos
              have HFIN : Hid (TgSt w w.heap.size u4 (addT M' z) w5) := by rw [unhide HA2 (by omega)]; exact unhide HT6
              clear h8
              go_wp2
              go_roundw
              case rel => exact ⟨k + 1, _, by omega, by go_num, unhide HFIN, by rw [unhide HFS, ← unhide HTM], by have := unhide HAL; omega⟩
              case measure => simp [intOf]; omega
        · obtain rfl : n = k := by omega
          obtain ⟨t1, t2, t3⟩ := unhide HS2
          rw [List.take_of_length_le (by rw [unhide HNX]; exact Nat.le_refl _)] at t2
          have HT1 := hide t1
          have HRL : Hid (M' = xs.foldl addT [] ∧ M'.length ≤ 12) := by
            have hI := unhide HI
            refine ⟨?_, by have := hI.2; omega⟩
            rw [t2, hI.1]
            try rw [List.foldl_append]
          clear t1 t2 t3
          go_wp2
          go_roundw
          case rel => exact ⟨M', HT1, by simp; first | exact HRL | (rw [← List.foldl_append]; exact HRL)⟩
          case measure => simp [intOf]
    · have hcell := unhide HG1 wr (unhide HT).bel
      go_wp2
      go_loopw [4, 8, 9, 10, 23] (fun v4 _ _ _ j wr' => ∃ (k : Nat) (M' : List Fv), k ≤ m ∧ j = .int .i64 (k : Int) ∧ Hid (TgSt w w.heap.size v4 M' wr' ∧ M' = (ys.take k).foldl addT M ∧ M'.length ≤ M.length + k)) (fun _ _ _ _ j _ => m - (intOf j).toNat)
      case atStart => exact ⟨0, M, Nat.zero_le _, rfl, unhide HT, by simp, Nat.le_refl _⟩
      case round =>
        obtain ⟨k, M', hk, rfl, HS2⟩ := hrel
        by_cases hlt : k < m
        · obtain ⟨z, hz, hzm⟩ := get_of (xs := ys) (k := k) (by rw [unhide HNY]; exact hlt)
          obtain ⟨t1, t2, t3⟩ := unhide HS2
          obtain ⟨b, o, hA, hb, c0, c1, c2, c3, c4⟩ := (unhide HYS).get t1.bel hz
          have hzw := t1.bel.size
          have HZIN := hide ((unhide HYS).all z hzm)
          have HFS := hide (foldl_step M hz)
          have hMl : M'.length ≤ 100 := by have := (unhide HI).2; omega
          have HTT := hide t1
          have HTM := hide t2
          have hMk := t3
          have hzs : z.sl = .slice z.a z.f.bytes.length z.c := rfl
          rw [hzs] at c1
          have HAL := hide (addT_len M' z)
          have hnl : (nms M').length = M'.length := by simp [nms]
          -- the map's answers, in whatever world it lies
          have HGET := hide (fun (W : World) (hW : MapIs W w.heap.size M') => map_get hW z.f.name true)
          have HPUT := hide (fun (W : World) (hW : MapIs W w.heap.size M') => map_put hW z)
          rw [val_is] at HPUT
          have HLZ : Hid (∀ (y : Fv) (W : World), FvIn W z → FvIn W y → Calls Tryz.prog 38 #[.agg #[.string (B z.f.name), .slice z.a z.f.bytes.length z.c, .int .i64 z.f.stamp, .int .i64 z.f.node, .bool z.f.gone], .agg #[.string (B y.f.name), .slice y.a y.f.bytes.length y.c, .int .i64 y.f.stamp, .int .i64 y.f.node, .bool y.f.gone]] W fun e w' => e = .returned (.int .i64 (nwr z.f y.f)) ∧ Below W.heap.size W w') := fun y W => unhide HLT z y W
          clear t1 t2 t3 hz hzm hzs HS2
          subst hA
          obtain ⟨zt, hzt⟩ : ∃ zt, B z.f.name = zt := ⟨_, rfl⟩
          rw [hzt] at c0 HGET HPUT HLZ
          have HZT := hide hzt
          clear hzt
          generalize z.f.bytes.length = zn at *
          generalize z.f.stamp = zs at *
          generalize z.f.node = zd at *
          generalize z.f.gone = zg at *
          have HBX := hide (bel_al (Below.refl wr.heap.size wr) (.cells #[.string zt, .slice z.a zn z.c, .int .i64 zs, .int .i64 zd, .bool zg] 49))
          cases hfm : fm z.f.name M' 0 with
          | none =>
            obtain ⟨a1, a2, a3⟩ := addT_none hfm
            have HA1 := hide a1
            have HA2 := hide a2
            have HA3 := hide a3
            have hget := unhide HGET (wr.alloc (.cells #[.string zt, .slice z.a zn z.c, .int .i64 zs, .int .i64 zd, .bool zg] 49)) ((unhide HTT).map.below (unhide HBX))
            rw [hfm] at hget
            simp only [if_true, Option.isSome_none, zeroF] at hget
            clear a1 a2 a3 hfm HGET
            have HW5 := hide (bel_al (bel_al (unhide HBX) (.cells #[.string ⟨#[]⟩, .slice none 0 0, .int .i64 0, .int .i64 0, .bool false] 49)) (.cells #[.string zt] 9))
            have HT5 := hide ((unhide HTT).below (unhide HW5))
            have hc5 : (((wr.alloc (.cells #[.string zt, .slice z.a zn z.c, .int .i64 zs, .int .i64 zd, .bool zg] 49)).alloc (.cells #[.string ⟨#[]⟩, .slice none 0 0, .int .i64 0, .int .i64 0, .bool false] 49)).alloc (.cells #[.string zt] 9)).cell? ⟨wr.heap.size + 1 + 1, 0, none⟩ = some (.string (B z.f.name)) := by
              rw [World.cell?_alloc_at _ _ _ _ (by rw [World.size_alloc, World.size_alloc]), unhide HZT]
              rfl
            have HC5 := hide hc5
            clear hc5
            go_wp2_with (at_builtin; refine wpList_append_str _ rfl _ _ rfl w.heap.size _ (nms M') rfl (unhide HT5).row (wr.heap.size + 1 + 1) z.f.name rfl (unhide HC5) (by omega) (by simp; omega) ?_)
            intro v' w5 hR hG
            have hg1 := unhide hG
            have hne := row_map_ne (unhide HT5).row (unhide HT5).map
            have hM5 := (unhide HT5).map.grown hg1 hne
            have hne5 := row_map_ne (unhide hR) hM5
            obtain ⟨w6, hrun, hM6, hg6⟩ := unhide HPUT w5 hM5
            have hown : ∀ g, u4.ownBlock = some g → w.heap.size ≤ g ∧ g < wr.heap.size := fun g e => World.ownsRow.lt (unhide HTT).row g e
            have h8 : w5.heap[wr.heap.size]? = some (.cells #[.string zt, .slice z.a zn z.c, .int .i64 zs, .int .i64 zd, .bool zg] 49 (0, 0)) := by
              rw [hg1.block _ (by simp only [World.size_alloc]; omega) (fun e => by have := (hown _ e.symm).2; omega), Below.heap_alloc _ _ _ (by simp only [World.size_alloc]; omega), Below.heap_alloc _ _ _ (by simp only [World.size_alloc]; omega), heap_alloc_new]
            have e0 : w5.cell? ⟨wr.heap.size, 0, none⟩ = some (.string zt) := heap_row h8
            have e1 : w5.cell? ⟨wr.heap.size, 1, none⟩ = some (.slice z.a zn z.c) := heap_row h8
            have e2 : w5.cell? ⟨wr.heap.size, 2, none⟩ = some (.int .i64 zs) := heap_row h8
            have e3 : w5.cell? ⟨wr.heap.size, 3, none⟩ = some (.int .i64 zd) := heap_row h8
            have e4 : w5.cell? ⟨wr.heap.size, 4, none⟩ = some (.bool zg) := heap_row h8
            have HFIN : Hid (TgSt w w.heap.size v' (addT M' z) w6) := by
              refine ⟨by rw [unhide HA1, ← unhide HA2]; exact hM6, ?_, ?_, ?_, Nat.le_refl _⟩
              · rw [unhide HA3]
                exact (unhide hR).grown hg6 (by
                  cases hv : v'.ownBlock with
                  | none => exact .inl rfl
                  | some q => right; rw [← hv]; exact hne5.symm)
              · intro x hx
                rcases mem_addT hx with hx | rfl
                · exact (unhide HTT).all x hx
                · exact unhide HZIN
              · have hz5 := hg1.size
                simp only [World.size_alloc] at hz5
                exact ((unhide HT5).bel.grown hg1 (by simp; omega) (fun g e => (hown g e).1)).grown hg6 (by omega) (fun g e => by cases e; exact Nat.le_refl _)
            clear hg1 hne hM5 hne5 hM6 hg6 hown h8 hR hG hget
            go_wp2
            go_roundw
            case rel => exact ⟨k + 1, _, by omega, by go_num, unhide HFIN, by rw [unhide HFS, ← unhide HTM], by have := unhide HAL; omega⟩
            case measure => simp [intOf]; omega
          | some p =>
            obtain ⟨a1, a2, a3⟩ := addT_some hfm
            have HA1 := hide a1
            have HA2 := hide a2
            have HA3 := hide a3
            have hqm : p.2 ∈ M' := by
              obtain ⟨j, x⟩ := p
              obtain ⟨_, _, q3, _⟩ := fm_at hfm
              exact List.mem_of_getElem? q3
            have HQIN := hide ((unhide HTT).all p.2 hqm)
            have hget := unhide HGET (wr.alloc (.cells #[.string zt, .slice z.a zn z.c, .int .i64 zs, .int .i64 zd, .bool zg] 49)) ((unhide HTT).map.below (unhide HBX))
            rw [hfm] at hget
            simp only [if_true, Option.isSome_some] at hget
            obtain ⟨q, hq⟩ : ∃ q, p.2 = q := ⟨_, rfl⟩
            rw [hq] at hget HA1 HA2 HQIN
            rw [val_is] at hget
            have HLQ := hide (unhide HLZ q)
            obtain ⟨nw, hnw⟩ : ∃ nw, nwr z.f q.f = nw := ⟨_, rfl⟩
            rw [hnw] at HLQ HA1 HA2
            clear a1 a2 a3 hfm HGET hqm hq hnw HLZ
            generalize B q.f.name = ot at *
            generalize q.f.bytes.length = on at *
            generalize q.f.stamp = os at *
            generalize q.f.node = od at *
            generalize q.f.gone = og at *
            have HW5 := hide (bel_al (unhide HBX) (.cells #[.string ot, .slice q.a on q.c, .int .i64 os, .int .i64 od, .bool og] 49))
            have HT5 := hide ((unhide HTT).below (unhide HW5))
            go_wp2_with fail
            refine (unhide HLQ _ ((unhide HZIN).below (unhide HT5).bel (Nat.le_refl _)) ((unhide HQIN).below (unhide HT5).bel (Nat.le_refl _))).mono ?_
            rintro e w5 ⟨rfl, hb5⟩
            have HT6 := hide ((unhide HT5).below hb5)
            have hz5 := hb5.size
            simp only [World.size_alloc] at hz5
            have h8 : w5.heap[wr.heap.size]? = some (.cells #[.string zt, .slice z.a zn z.c, .int .i64 zs, .int .i64 zd, .bool zg] 49 (0, 0)) := by
              rw [hb5.block _ (by simp; omega), Below.heap_alloc _ _ _ (by simp), heap_alloc_new]
            have e0 : w5.cell? ⟨wr.heap.size, 0, none⟩ = some (.string zt) := heap_row h8
            have e1 : w5.cell? ⟨wr.heap.size, 1, none⟩ = some (.slice z.a zn z.c) := heap_row h8
            have e2 : w5.cell? ⟨wr.heap.size, 2, none⟩ = some (.int .i64 zs) := heap_row h8
            have e3 : w5.cell? ⟨wr.heap.size, 3, none⟩ = some (.int .i64 zd) := heap_row h8
            have e4 : w5.cell? ⟨wr.heap.size, 4, none⟩ = some (.bool zg) := heap_row h8
            clear hb5 hget
            by_cases hpos : 0 < nw
            · obtain ⟨w6, hrun, hM6, hg6⟩ := unhide HPUT w5 (unhide HT6).map
              have hne := row_map_ne (unhide HT6).row (unhide HT6).map
              have HFIN : Hid (TgSt w w.heap.size u4 (addT M' z) w6) := by
                refine ⟨by rw [unhide HA1 hpos]; exact hM6, ?_, ?_, (unhide HT6).bel.grown hg6 (by omega) (fun g e => by cases e; exact Nat.le_refl _), Nat.le_refl _⟩
                · rw [unhide HA3]
                  exact (unhide HT6).row.grown hg6 (by
                    cases hv : u4.ownBlock with
                    | none => exact .inl rfl
                    | some q => right; rw [← hv]; exact hne.symm)
                · intro x hx
                  rcases mem_addT hx with hx | rfl
                  · exact (unhide HTT).all x hx
                  · exact unhide HZIN
              clear hM6 hg6 hne h8
              go_wp2
              go_roundw
              case rel => exact ⟨k + 1, _, by omega, by go_num, unhide HFIN, by rw [unhide HFS, ← unhide HTM], by have := unhide HAL; omega⟩
              case measure => simp [intOf]; omega
            · have hpf : decide ((0 : Int) < nw) = false := decide_eq_false hpos
              have HFIN : Hid (TgSt w w.heap.size u4 (addT M' z) w5) := by rw [unhide HA2 (by omega)]; exact unhide HT6
              clear h8
              go_wp2
              go_roundw
              case rel => exact ⟨k + 1, _, by omega, by go_num, unhide HFIN, by rw [unhide HFS, ← unhide HTM], by have := unhide HAL; omega⟩
              case measure => simp [intOf]; omega
        · obtain rfl : m = k := by omega
          obtain ⟨t1, t2, t3⟩ := unhide HS2
          rw [List.take_of_length_le (by rw [unhide HNY]; exact Nat.le_refl _)] at t2
          have HT1 := hide t1
          have HRL : Hid (M' = (xs ++ ys).foldl addT [] ∧ M'.length ≤ 24) := by
            have hI := unhide HI
            refine ⟨?_, by have := hI.2; omega⟩
            rw [t2, hI.1]
            try rw [List.foldl_append]
          clear t1 t2 t3
          go_wp2
          go_roundw
          case rel => exact ⟨M', HT1, by simp; first | exact HRL | (rw [← List.foldl_append]; exact HRL)⟩
          case measure => simp [intOf]
    · obtain ⟨hM1, hM2⟩ := unhide HI
      have HST := hide (sortStr (unhide HT).row (by simp [nms]; omega))
      have hMeq := hM1
      have HME := hide hM1
      clear hM1
      go_wp2_with fail
      refine (unhide HST).mono ?_
      rintro e w5 ⟨rfl, hS5, hg5⟩
      have hT := unhide HT
      have hne := row_map_ne hT.row hT.map
      have hM5 := hT.map.grown hg5 hne
      have hB5 : Below w.heap.size w w5 := hT.bel.grown hg5 hT.bel.size (fun g e => (World.ownsRow.lt hT.row g e).1)
      have HALL := hide hT.all
      have HS5 := hide hS5
      have HM5 := hide hM5
      have HB5 := hide hB5
      obtain ⟨P, hP⟩ : ∃ P, srtS (nms M) = P := ⟨_, rfl⟩
      rw [hP] at HS5
      have hPl : P.length = M.length := by rw [← hP, srt_len]; simp [nms]
      have HPM : Hid (∀ s ∈ P, ∃ p, fm s M 0 = some p) := by
        intro s hs
        rw [← hP, srt_mem] at hs
        exact fm_mem hs
      have HP := hide hP
      clear hS5 hg5 hT hne hM5 hB5 HT HI hP HST hMeq
      obtain ⟨L, hL⟩ : ∃ L, P.length = L := ⟨_, rfl⟩
      rw [hL] at hPl
      have HL := hide hL
      have hsh : ∃ a c, u4 = .slice a L c := by
        obtain ⟨a, c, e⟩ := own_slice' (unhide HS5)
        rw [hL] at e
        exact ⟨a, c, e⟩
      obtain ⟨na, nc, rfl⟩ := hsh
      clear hL
      go_wp2
      go_loopw [11, 13, 59] (fun v11 _ j wr' => ∃ (k : Nat) (out : List Fv), k ≤ L ∧ j = .int .i64 (k : Int) ∧ Hid (GRow wr' w.heap.size v11 out ∧ SRow wr' w.heap.size (.slice na L nc) P ∧ MapIs wr' w.heap.size M ∧ Below w.heap.size w wr' ∧ nms out = P.take k ∧ (∀ x ∈ out, lookF x.f.name (fls M) = some x.f) ∧ out.length = k)) (fun _ _ j _ => L - (intOf j).toNat)
      case atStart => exact ⟨0, [], Nat.zero_le _, rfl, GRow.nil _ _, unhide HS5, unhide HM5, unhide HB5, by simp [nms], fun x hx => absurd hx List.not_mem_nil, rfl⟩
      case round =>
        obtain ⟨k, out, hk, rfl, HS2⟩ := hrel
        by_cases hlt : k < L
        · obtain ⟨t1, t2, t3, t4, t5, t6, t7⟩ := unhide HS2
          have hkP : k < P.length := by rw [unhide HL]; exact hlt
          obtain ⟨p, hp⟩ := unhide HPM P[k] (List.getElem_mem hkP)
          obtain ⟨z, hz⟩ : ∃ z, p.2 = z := ⟨_, rfl⟩
          have hzn : z.f.name = P[k] ∧ z ∈ M ∧ lookF P[k] (fls M) = some z.f := by
            obtain ⟨j, x⟩ := p
            simp only at hz
            subst hz
            obtain ⟨q1, _, q3, q4⟩ := fm_at hp
            exact ⟨q1, List.mem_of_getElem? q3, q4⟩
          have hget := map_get t3 P[k] false
          rw [hp] at hget
          simp only [Bool.false_eq_true, if_false] at hget
          rw [hz, val_is] at hget
          have hcell : ∃ gg, na = some ⟨gg, 0, none⟩ ∧ wr.cell? ⟨gg, k, none⟩ = some (.string (B P[k])) := by
            rcases t2.cases with ⟨e1, e2⟩ | ⟨gg, cap, e1, _, _, _, _, hc⟩
            · rw [e2] at hkP; simp at hkP
            · injection e1 with e1 _ _
              refine ⟨gg, e1, ?_⟩
              have := hc k (B P[k]) (by simp [hkP])
              rw [Nat.zero_add] at this
              exact this
          obtain ⟨gg, rfl, hcell⟩ := hcell
          have hzw := t4.size
          have HZIN := hide (unhide HALL z hzn.2.1)
          have hzap : z.f.bytes ≠ [] → ∀ b o, z.a = some ⟨b, o, none⟩ → b < w.heap.size := by
            intro hne b o e
            rcases (unhide HZIN).bs with ⟨_, h, _⟩ | ⟨h, _⟩ | ⟨b', o', h1, h2, _⟩
            · exact absurd h hne
            · exact absurd h hne
            · rw [h1] at e; cases e; exact h2
          have HZAP := hide hzap
          have HZC : Hid (z.cells = [.string (B z.f.name), .slice z.a z.f.bytes.length z.c, .int .i64 z.f.stamp, .int .i64 z.f.node, .bool z.f.gone]) := rfl
          have HZN := hide hzn
          have HTK : Hid (P.take (k + 1) = P.take k ++ [z.f.name]) := by
            rw [List.take_add_one, List.getElem?_eq_getElem hkP, hzn.1]
            rfl
          have T1 := hide t1
          have T2 := hide t2
          have T3 := hide t3
          have T4 := hide t4
          have T5 := hide t5
          have T6 := hide t6
          clear hp hzn hzap hz t1 t2 t3 t4 t5 t6 HS2 p
          obtain ⟨zt, hzt⟩ : ∃ zt, B z.f.name = zt := ⟨_, rfl⟩
          rw [hzt] at hget HZC
          clear hzt
          generalize B P[k] = st at *
          generalize z.f.bytes.length = zn at *
          generalize z.f.stamp = zs at *
          generalize z.f.node = zd at *
          generalize z.f.gone = zg at *
          have HW5 := hide (bel_al (Below.refl wr.heap.size wr) (.cells #[.string zt, .slice z.a zn z.c, .int .i64 zs, .int .i64 zd, .bool zg] 49))
          have R5 := hide ((unhide T1).below (unhide HW5))
          have R6 := hide ((unhide T2).below (unhide HW5))
          have R7 := hide ((unhide T3).below (unhide HW5))
          have R8 := hide ((unhide T4).trans ((unhide HW5).mono hzw))
          have HV5 := hide ((unhide HZIN).below (unhide R8) (Nat.le_refl _))
          have HC5 : Hid (∀ j u, z.cells[j]? = some u → (wr.alloc (.cells #[.string zt, .slice z.a zn z.c, .int .i64 zs, .int .i64 zd, .bool zg] 49)).cell? ⟨wr.heap.size, j, none⟩ = some u) := by
            intro j u hj
            rw [unhide HZC] at hj
            rw [World.cell?_alloc_at _ _ _ _ rfl]
            simpa using hj
          go_wp2_with (at_builtin; refine wpList_append_fileG _ rfl _ _ rfl w.heap.size _ out rfl (unhide R5) wr.heap.size z rfl (unhide HC5) (unhide HV5) (unhide HZAP) (by omega) (by simp; omega) ?_)
          intro v' w8 hR hG
          obtain ⟨hg1, hg2⟩ := unhide hG
          have HFIN : Hid (SRow w8 w.heap.size (.slice (some ⟨gg, 0, none⟩) L nc) P ∧ MapIs w8 w.heap.size M ∧ Below w.heap.size w w8) :=
            ⟨(unhide R6).grown hg1 (grow_row_ne (unhide R5) (unhide R6)), (unhide R7).grown hg1 (grow_map_ne (unhide R5) (unhide R7)), (unhide R8).grown hg1 (by simp; omega) (fun q e => ((unhide R5).lt e).1)⟩
          have HR8 := hide (unhide hR)
          clear hg1 hg2 hR hG hget hcell R5 R6 R7 R8 HV5 HC5
          go_wp2
          go_roundw
          case rel =>
            obtain ⟨s1, s2, s3⟩ := unhide HFIN
            refine ⟨k + 1, out ++ [z], by omega, by go_num, unhide HR8, s1, s2, s3, ?_, ?_, by rw [List.length_append]; simp; omega⟩
            · rw [unhide HTK, ← unhide T5]; simp [nms]
            · intro x hx
              rcases List.mem_append.1 hx with hx | hx
              · exact unhide T6 x hx
              · simp at hx
                subst hx
                rw [(unhide HZN).1]
                exact (unhide HZN).2.2
          case measure => simp [intOf]; omega
        · obtain rfl : L = k := by omega
          obtain ⟨t1, t2, t3, t4, t5, t6, t7⟩ := unhide HS2
          rw [List.take_of_length_le (by rw [unhide HL]; exact Nat.le_refl _), ← unhide HP] at t5
          have T1 := hide t1
          have T4 := hide t4
          have T5 := hide t5
          have T6 := hide t6
          have T7 := hide t7
          clear t1 t2 t3 t4 t5 t6 t7 HS2
          go_wp2
          go_ret
          rw [← unhide HME]
          exact ⟨_, out, rfl, unhide T1, unhide T5, unhide T6, by rw [unhide T7]; omega, unhide T4⟩
end Go.Proofs.YtmgmganbamjnmaaGreatDoor
