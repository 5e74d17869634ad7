/-
  The document's own: files of any number of lists together.
-/
import Derived.Test.YtmgmganbamjnmaaGreatDoorS23
import Derived.Test.YtmgmganbamjnmaaGreatDoorS11
namespace Go.Proofs.YtmgmganbamjnmaaGreatDoor
open Go.RowKit
set_option linter.unusedVariables false
set_option linter.unusedSimpArgs false
set_option maxRecDepth 100000

/-! of lists alone -/
theorem look_many (n : List UInt8) : ∀ (Ls : List (List Fv)) (M : List Fv), (∀ l ∈ Ls, NRise (fls l)) → lookF n (fls (Ls.flatten.foldl addT M)) = (Ls.map fls).foldl (fun a l => joinO a (lookF n l)) (lookF n (fls M))
  | [], M, _ => rfl
  | l :: r, M, h => by
    rw [List.flatten_cons, List.foldl_append, look_many n r _ (fun x hx => h x (List.mem_cons_of_mem _ hx)), look_fold n l M (h l List.mem_cons_self)]
    rfl
theorem rise_many : ∀ (ls : List (List Fl)) (A : List Fl), NRise A → (∀ l ∈ ls, NRise l) → NRise (ls.foldl tog A)
  | [], A, hA, _ => hA
  | l :: r, A, hA, h => rise_many r _ (rise_tog _ _ hA (h l List.mem_cons_self)) (fun x hx => h x (List.mem_cons_of_mem _ hx))
theorem look_togs (n : List UInt8) : ∀ (ls : List (List Fl)) (A : List Fl), NRise A → (∀ l ∈ ls, NRise l) → lookF n (ls.foldl tog A) = ls.foldl (fun a l => joinO a (lookF n l)) (lookF n A)
  | [], A, _, _ => rfl
  | l :: r, A, hA, h => by
    rw [List.foldl_cons, List.foldl_cons, look_togs n r _ (rise_tog _ _ hA (h l List.mem_cons_self)) (fun x hx => h x (List.mem_cons_of_mem _ hx)), look_tog _ _ hA (h l List.mem_cons_self)]
theorem together_many {Ls : List (List Fv)} {out : List Fv} (hx : ∀ l ∈ Ls, NRise (fls l)) (M : List Fv) (hM : M = Ls.flatten.foldl addT []) (ho : nms out = srtS (nms M)) (hl : ∀ x ∈ out, lookF x.f.name (fls M) = some x.f) : fls out = (Ls.map fls).foldl tog [] := by
  have hnd : (nms M).Nodup := by rw [hM]; exact nodup_fold _ _ (by simp [nms])
  have hpw := srt_rise hnd
  rw [← ho] at hpw
  have hro : NRise (fls out) := by
    intro i j a b ha hb hij
    rw [List.pairwise_iff_getElem] at hpw
    simp only [fls, List.getElem?_map] at ha hb
    cases hia : out[i]? with
    | none => rw [hia] at ha; cases ha
    | some u =>
      cases hjb : out[j]? with
      | none => rw [hjb] at hb; cases hb
      | some v =>
        rw [hia] at ha
        rw [hjb] at hb
        simp at ha hb
        subst ha
        subst hb
        obtain ⟨hi, ei⟩ := List.getElem?_eq_some_iff.1 hia
        obtain ⟨hj, ej⟩ := List.getElem?_eq_some_iff.1 hjb
        have := hpw i j (by simpa [nms] using hi) (by simpa [nms] using hj) hij
        simpa [nms, ei, ej] using this
  have hR : ∀ l ∈ Ls.map fls, NRise l := fun l h => by obtain ⟨y, hy, rfl⟩ := List.mem_map.1 h; exact hx y hy
  have hlM : ∀ n, lookF n (fls M) = lookF n ((Ls.map fls).foldl tog []) := fun n => by rw [hM, look_many n Ls [] hx, look_togs n _ [] rise_nil hR]; rfl
  refine rise_ext _ _ hro (rise_many _ _ rise_nil hR) (fun n => ?_)
  rw [← hlM]
  cases h1 : lookF n (fls M) with
  | none =>
    cases h2 : lookF n (fls out) with
    | none => rfl
    | some f =>
      obtain ⟨hn, hm⟩ := look_some h2
      obtain ⟨x, hx', rfl⟩ := List.mem_map.1 hm
      have := hl x hx'
      rw [hn, h1] at this
      cases this
  | some f =>
    obtain ⟨hn, hm⟩ := look_some h1
    obtain ⟨x, hx', rfl⟩ := List.mem_map.1 hm
    have hin : n ∈ nms out := by rw [ho, srt_mem]; exact List.mem_map.2 ⟨x, hx', hn⟩
    obtain ⟨z, hz, hzn⟩ := List.mem_map.1 hin
    have h3 := hl z hz
    rw [hzn, h1] at h3
    have h4 := look_mem hro (List.mem_map.2 ⟨z, hz, rfl⟩)
    rw [hzn] at h4
    rw [h4]
    exact h3.symm
/-- any number of lists -/
theorem sum_drop {ls : List (List Fl)} {q : Nat} {l : List Fl} (h : ls[q]? = some l) : ((ls.drop q).map List.length).sum = l.length + ((ls.drop (q + 1)).map List.length).sum := by
  obtain ⟨k1, e1⟩ := List.getElem?_eq_some_iff.1 h
  rw [List.drop_eq_getElem_cons k1, e1]
  simp
theorem take_more {Ls : List (List Fv)} {ls : List (List Fl)} {q : Nat} {xs : List Fv} {l : List Fl} (h : Ls.map fls = ls.take q) (hl : ls[q]? = some l) (hx : fls xs = l) : (Ls ++ [xs]).map fls = ls.take (q + 1) := by
  rw [List.take_add_one, hl, ← h]
  simp [hx]
set_option maxHeartbeats 8000000 in
theorem togetherNs_any (ad : Option Addr) (c : Nat) (ls : List (List Fl)) (w : World) (h : NsIn w ad c ls) (n0 : Nat) (hn : ls.length = n0) (hT : (ls.map List.length).sum ≤ 1048576) :
    Calls Tryz.prog 17 #[.slice ad n0 c] w fun e w' => ∃ (v : Value) (out : List Fv) (Ls : List (List Fv)), e = .returned v ∧ GRow w' w.heap.size v out ∧ Ls.map fls = ls ∧ nms out = srtS (nms (Ls.flatten.foldl addT [])) ∧ (∀ x ∈ out, lookF x.f.name (fls (Ls.flatten.foldl addT [])) = some x.f) ∧ out.length ≤ 1048576 ∧ Below w.heap.size w w' := by
  have HNS := hide h
  have HN0 := hide hn
  have hzn := h.lim
  rw [hn] at hzn
  have HI0 : Hid (([] : List (List Fv)).map fls = ls.take 0 ∧ ([] : List Fv) = ([] : List (List Fv)).flatten.foldl addT [] ∧ ([] : List Fv).length + ((ls.drop 0).map List.length).sum ≤ 1048576) := hide ⟨rfl, rfl, by simpa using hT⟩
  have hmm := @run_makeMap Tryz.prog
  have HS0 : Hid (TgSt w w.heap.size (.slice none 0 0) [] (w.alloc (.map #[] 0))) := ⟨MapIs.new w, SRow.nil _ _, fun x hx => absurd hx List.not_mem_nil, bel_al (Below.refl _ _) _, Nat.le_refl _⟩
  have HLT := hide (fun (x y : Fv) (W : World) (h : FvIn W x) (k : FvIn W y) => later_any x y W h k)
  clear h hn hT
  go_enter Tryz.func17, Tryz.ntmps17
  go_wp2
  clear hmm
  go_loopw [4, 6, 8, 9, 10, 17] (fun v4 _ _ _ _ i wr => ∃ (q : Nat) (M : List Fv) (Ls : List (List Fv)), q ≤ n0 ∧ i = .int .i64 (q : Int) ∧ Hid (TgSt w w.heap.size v4 M wr) ∧ Hid (Ls.map fls = ls.take q ∧ M = Ls.flatten.foldl addT [] ∧ M.length + ((ls.drop q).map List.length).sum ≤ 1048576)) (fun _ _ _ _ _ i _ => n0 - (intOf i).toNat)
  case atStart => exact ⟨0, [], [], Nat.zero_le _, rfl, HS0, HI0⟩
  case round =>
    clear HI0 HS0
    obtain ⟨q, M, Ls, hqn, rfl, HT, HI⟩ := hrel
    by_cases hq : q < n0
    · obtain ⟨l, hl⟩ := get_some (l := ls) (k := q) (by rw [unhide HN0]; exact hq)
      obtain ⟨b, o, x, ha, hb, hx, hL⟩ := (unhide HNS).get hl
      have hcell := ((unhide HT).bel.cell (p := ⟨b, o + q, none⟩) hb).trans hx
      obtain ⟨ad2, c2, xs, rfl, hFs, hfl⟩ := hL
      have HXS := hide hFs
      have hxl := fls_len hfl
      obtain ⟨n, hnl⟩ : ∃ n, l.length = n := ⟨_, rfl⟩
      rw [hnl] at hcell hxl
      have HNX := hide hxl
      have hsd := sum_drop hl
      rw [hnl] at hsd
      replace HI : Hid ((Ls ++ [xs]).map fls = ls.take (q + 1) ∧ M = Ls.flatten.foldl addT [] ∧ M.length + n + ((ls.drop (q + 1)).map List.length).sum ≤ 1048576) := by
        obtain ⟨i1, i2, i3⟩ := unhide HI
        exact ⟨take_more i1 hl hfl, i2, by omega⟩
      have hnB : n ≤ 1048576 := by have := (unhide HI).2.2; omega
      clear hl hx hFs hfl hxl hnl hsd hb
      subst ha
      go_wp2
      go_loopw [4, 8, 9, 10, 23] (fun v4 _ _ _ j wr' => ∃ (k : Nat) (M' : List Fv), k ≤ n ∧ j = .int .i64 (k : Int) ∧ Hid (TgSt w w.heap.size v4 M' wr' ∧ M' = (xs.take k).foldl addT M ∧ M'.length ≤ M.length + k)) (fun _ _ _ _ j _ => n - (intOf j).toNat)
      case atStart => exact ⟨0, M, Nat.zero_le _, rfl, unhide HT, by simp, Nat.le_refl _⟩
      case round =>
        obtain ⟨k, M', hk, rfl, HS2⟩ := hrel
        by_cases hlt : k < n
        · obtain ⟨z, hz, hzm⟩ := get_of (xs := xs) (k := k) (by rw [unhide HNX]; exact hlt)
          obtain ⟨t1, t2, t3⟩ := unhide HS2
          obtain ⟨b, o, hA, hb, c0, c1, c2, c3, c4⟩ := (unhide HXS).get t1.bel hz
          have hzw := t1.bel.size
          have HZIN := hide ((unhide HXS).all z hzm)
          have HFS := hide (foldl_step M hz)
          have hMl : M'.length ≤ 1048575 := by have := (unhide HI).2.2; omega
          have HTT := hide t1
          have HTM := hide t2
          have hMk := t3
          have hzs : z.sl = .slice z.a z.f.bytes.length z.c := rfl
          rw [hzs] at c1
          have HAL := hide (addT_len M' z)
          have hnl : (nms M').length = M'.length := by simp [nms]
          -- the map's answers, in whatever world it lies
          have HGET := hide (fun (W : World) (hW : MapIs W w.heap.size M') => map_get hW z.f.name true)
          have HPUT := hide (fun (W : World) (hW : MapIs W w.heap.size M') => map_put hW z)
          rw [val_is] at HPUT
          have HLZ : Hid (∀ (y : Fv) (W : World), FvIn W z → FvIn W y → Calls Tryz.prog 38 #[.agg #[.string (B z.f.name), .slice z.a z.f.bytes.length z.c, .int .i64 z.f.stamp, .int .i64 z.f.node, .bool z.f.gone], .agg #[.string (B y.f.name), .slice y.a y.f.bytes.length y.c, .int .i64 y.f.stamp, .int .i64 y.f.node, .bool y.f.gone]] W fun e w' => e = .returned (.int .i64 (nwr z.f y.f)) ∧ Below W.heap.size W w') := fun y W => unhide HLT z y W
          clear t1 t2 t3 hz hzm hzs HS2
          subst hA
          obtain ⟨zt, hzt⟩ : ∃ zt, B z.f.name = zt := ⟨_, rfl⟩
          rw [hzt] at c0 HGET HPUT HLZ
          have HZT := hide hzt
          clear hzt
          generalize z.f.bytes.length = zn at *
          generalize z.f.stamp = zs at *
          generalize z.f.node = zd at *
          generalize z.f.gone = zg at *
          have HBX := hide (bel_al (Below.refl wr.heap.size wr) (.cells #[.string zt, .slice z.a zn z.c, .int .i64 zs, .int .i64 zd, .bool zg] 49))
          cases hfm : fm z.f.name M' 0 with
          | none =>
            obtain ⟨a1, a2, a3⟩ := addT_none hfm
            have HA1 := hide a1
            have HA2 := hide a2
            have HA3 := hide a3
            have hget := unhide HGET (wr.alloc (.cells #[.string zt, .slice z.a zn z.c, .int .i64 zs, .int .i64 zd, .bool zg] 49)) ((unhide HTT).map.below (unhide HBX))
            rw [hfm] at hget
            simp only [if_true, Option.isSome_none, zeroF] at hget
            clear a1 a2 a3 hfm HGET
            have HW5 := hide (bel_al (bel_al (unhide HBX) (.cells #[.string ⟨#[]⟩, .slice none 0 0, .int .i64 0, .int .i64 0, .bool false] 49)) (.cells #[.string zt] 9))
            have HT5 := hide ((unhide HTT).below (unhide HW5))
            have hc5 : (((wr.alloc (.cells #[.string zt, .slice z.a zn z.c, .int .i64 zs, .int .i64 zd, .bool zg] 49)).alloc (.cells #[.string ⟨#[]⟩, .slice none 0 0, .int .i64 0, .int .i64 0, .bool false] 49)).alloc (.cells #[.string zt] 9)).cell? ⟨wr.heap.size + 1 + 1, 0, none⟩ = some (.string (B z.f.name)) := by
              rw [World.cell?_alloc_at _ _ _ _ (by rw [World.size_alloc, World.size_alloc]), unhide HZT]
              rfl
            have HC5 := hide hc5
            clear hc5
            go_wp2_with (at_builtin; refine wpList_append_str _ rfl _ _ rfl w.heap.size _ (nms M') rfl (unhide HT5).row (wr.heap.size + 1 + 1) z.f.name rfl (unhide HC5) (by omega) (by simp; omega) ?_)
            intro v' w5 hR hG
            have hg1 := unhide hG
            have hne := row_map_ne (unhide HT5).row (unhide HT5).map
            have hM5 := (unhide HT5).map.grown hg1 hne
            have hne5 := row_map_ne (unhide hR) hM5
            obtain ⟨w6, hrun, hM6, hg6⟩ := unhide HPUT w5 hM5
            have hown : ∀ g, u4.ownBlock = some g → w.heap.size ≤ g ∧ g < wr.heap.size := fun g e => World.ownsRow.lt (unhide HTT).row g e
            have h8 : w5.heap[wr.heap.size]? = some (.cells #[.string zt, .slice z.a zn z.c, .int .i64 zs, .int .i64 zd, .bool zg] 49 (0, 0)) := by
              rw [hg1.block _ (by simp only [World.size_alloc]; omega) (fun e => by have := (hown _ e.symm).2; omega), Below.heap_alloc _ _ _ (by simp only [World.size_alloc]; omega), Below.heap_alloc _ _ _ (by simp only [World.size_alloc]; omega), heap_alloc_new]
            have e0 : w5.cell? ⟨wr.heap.size, 0, none⟩ = some (.string zt) := heap_row h8
            have e1 : w5.cell? ⟨wr.heap.size, 1, none⟩ = some (.slice z.a zn z.c) := heap_row h8
            have e2 : w5.cell? ⟨wr.heap.size, 2, none⟩ = some (.int .i64 zs) := heap_row h8
            have e3 : w5.cell? ⟨wr.heap.size, 3, none⟩ = some (.int .i64 zd) := heap_row h8
            have e4 : w5.cell? ⟨wr.heap.size, 4, none⟩ = some (.bool zg) := heap_row h8
            have HFIN : Hid (TgSt w w.heap.size v' (addT M' z) w6) := by
              refine ⟨by rw [unhide HA1, ← unhide HA2]; exact hM6, ?_, ?_, ?_, Nat.le_refl _⟩
              · rw [unhide HA3]
                exact (unhide hR).grown hg6 (by
                  cases hv : v'.ownBlock with
                  | none => exact .inl rfl
                  | some q => right; rw [← hv]; exact hne5.symm)
              · intro x hx
                rcases mem_addT hx with hx | rfl
                · exact (unhide HTT).all x hx
                · exact unhide HZIN
              · have hz5 := hg1.size
                simp only [World.size_alloc] at hz5
                exact ((unhide HT5).bel.grown hg1 (by simp; omega) (fun g e => (hown g e).1)).grown hg6 (by omega) (fun g e => by cases e; exact Nat.le_refl _)
            clear hg1 hne hM5 hne5 hM6 hg6 hown h8 hR hG hget
            go_wp2
            go_roundw
            case rel => exact ⟨k + 1, _, by omega, by go_num, unhide HFIN, by rw [unhide HFS, ← unhide HTM], by have := unhide HAL; omega⟩
            case measure => simp [intOf]; omega
          | some p =>
            obtain ⟨a1, a2, a3⟩ := addT_some hfm
            have HA1 := hide a1
            have HA2 := hide a2
            have HA3 := hide a3
            have hqm : p.2 ∈ M' := by
              obtain ⟨j, x⟩ := p
              obtain ⟨_, _, q3, _⟩ := fm_at hfm
              exact List.mem_of_getElem? q3
            have HQIN := hide ((unhide HTT).all p.2 hqm)
            have hget := unhide HGET (wr.alloc (.cells #[.string zt, .slice z.a zn z.c, .int .i64 zs, .int .i64 zd, .bool zg] 49)) ((unhide HTT).map.below (unhide HBX))
            rw [hfm] at hget
            simp only [if_true, Option.isSome_some] at hget
            obtain ⟨q, hq⟩ : ∃ q, p.2 = q := ⟨_, rfl⟩
            rw [hq] at hget HA1 HA2 HQIN
            rw [val_is] at hget
            have HLQ := hide (unhide HLZ q)
            obtain ⟨nw, hnw⟩ : ∃ nw, nwr z.f q.f = nw := ⟨_, rfl⟩
            rw [hnw] at HLQ HA1 HA2
            clear a1 a2 a3 hfm HGET hqm hq hnw HLZ
            generalize B q.f.name = ot at *
            generalize q.f.bytes.length = on at *
            generalize q.f.stamp = os at *
            generalize q.f.node = od at *
            generalize q.f.gone = og at *
            have HW5 := hide (bel_al (unhide HBX) (.cells #[.string ot, .slice q.a on q.c, .int .i64 os, .int .i64 od, .bool og] 49))
            have HT5 := hide ((unhide HTT).below (unhide HW5))
            go_wp2_with fail
            refine (unhide HLQ _ ((unhide HZIN).below (unhide HT5).bel (Nat.le_refl _)) ((unhide HQIN).below (unhide HT5).bel (Nat.le_refl _))).mono ?_
            rintro e w5 ⟨rfl, hb5⟩
            have HT6 := hide ((unhide HT5).below hb5)
            have hz5 := hb5.size
            simp only [World.size_alloc] at hz5
            have h8 : w5.heap[wr.heap.size]? = some (.cells #[.string zt, .slice z.a zn z.c, .int .i64 zs, .int .i64 zd, .bool zg] 49 (0, 0)) := by
              rw [hb5.block _ (by simp; omega), Below.heap_alloc _ _ _ (by simp), heap_alloc_new]
            have e0 : w5.cell? ⟨wr.heap.size, 0, none⟩ = some (.string zt) := heap_row h8
            have e1 : w5.cell? ⟨wr.heap.size, 1, none⟩ = some (.slice z.a zn z.c) := heap_row h8
            have e2 : w5.cell? ⟨wr.heap.size, 2, none⟩ = some (.int .i64 zs) := heap_row h8
            have e3 : w5.cell? ⟨wr.heap.size, 3, none⟩ = some (.int .i64 zd) := heap_row h8
            have e4 : w5.cell? ⟨wr.heap.size, 4, none⟩ = some (.bool zg) := heap_row h8
            clear hb5 hget
            by_cases hpos : 0 < nw
            · obtain ⟨w6, hrun, hM6, hg6⟩ := unhide HPUT w5 (unhide HT6).map
              have hne := row_map_ne (unhide HT6).row (unhide HT6).map
              have HFIN : Hid (TgSt w w.heap.size u4 (addT M' z) w6) := by
                refine ⟨by rw [unhide HA1 hpos]; exact hM6, ?_, ?_, (unhide HT6).bel.grown hg6 (by omega) (fun g e => by cases e; exact Nat.le_refl _), Nat.le_refl _⟩
                · rw [unhide HA3]
                  exact (unhide HT6).row.grown hg6 (by
                    cases hv : u4.ownBlock with
                    | none => exact .inl rfl
                    | some q => right; rw [← hv]; exact hne.symm)
                · intro x hx
                  rcases mem_addT hx with hx | rfl
                  · exact (unhide HTT).all x hx
                  · exact unhide HZIN
              clear hM6 hg6 hne h8
              go_wp2
              go_roundw
              case rel => exact ⟨k + 1, _, by omega, by go_num, unhide HFIN, by rw [unhide HFS, ← unhide HTM], by have := unhide HAL; omega⟩
              case measure => simp [intOf]; omega
            · have hpf : decide ((0 : Int) < nw) = false := decide_eq_false hpos
              have HFIN : Hid (TgSt w w.heap.size u4 (addT M' z) w5) := by rw [unhide HA2 (by omega)]; exact unhide HT6
              clear h8
              go_wp2
              go_roundw
              case rel => exact ⟨k + 1, _, by omega, by go_num, unhide HFIN, by rw [unhide HFS, ← unhide HTM], by have := unhide HAL; omega⟩
              case measure => simp [intOf]; omega
        · obtain rfl : n = k := by omega
          obtain ⟨t1, t2, t3⟩ := unhide HS2
          rw [List.take_of_length_le (by rw [unhide HNX]; exact Nat.le_refl _)] at t2
          have HT1 := hide t1
          have HRL : Hid ((Ls ++ [xs]).map fls = ls.take (q + 1) ∧ M' = (Ls ++ [xs]).flatten.foldl addT [] ∧ M'.length + ((ls.drop (q + 1)).map List.length).sum ≤ 1048576) := by
            obtain ⟨i1, i2, i3⟩ := unhide HI
            refine ⟨i1, ?_, by omega⟩
            rw [t2, i2, List.flatten_append, List.foldl_append]
            simp
          clear t1 t2 t3
          go_wp2
          go_roundw
          case rel => exact ⟨q + 1, M', _, by omega, by go_num, HT1, HRL⟩
          case measure => simp [intOf]; omega
    · obtain rfl : n0 = q := by omega
      obtain ⟨hMf, hM1, hM3⟩ := unhide HI
      have hM2 : M.length ≤ 1048576 := by omega
      have HMF : Hid (Ls.map fls = ls) := by rw [List.take_of_length_le (by rw [unhide HN0]; exact Nat.le_refl _)] at hMf; exact hMf
      clear hM3 hMf hq
      have HST := hide (sortStr (unhide HT).row (by simp [nms]; omega))
      have hMeq := hM1
      have HME := hide hM1
      clear hM1
      go_wp2_with fail
      refine (unhide HST).mono ?_
      rintro e w5 ⟨rfl, hS5, hg5⟩
      have hT := unhide HT
      have hne := row_map_ne hT.row hT.map
      have hM5 := hT.map.grown hg5 hne
      have hB5 : Below w.heap.size w w5 := hT.bel.grown hg5 hT.bel.size (fun g e => (World.ownsRow.lt hT.row g e).1)
      have HALL := hide hT.all
      have HS5 := hide hS5
      have HM5 := hide hM5
      have HB5 := hide hB5
      obtain ⟨P, hP⟩ : ∃ P, srtS (nms M) = P := ⟨_, rfl⟩
      rw [hP] at HS5
      have hPl : P.length = M.length := by rw [← hP, srt_len]; simp [nms]
      have HPM : Hid (∀ s ∈ P, ∃ p, fm s M 0 = some p) := by
        intro s hs
        rw [← hP, srt_mem] at hs
        exact fm_mem hs
      have HP := hide hP
      clear hS5 hg5 hT hne hM5 hB5 HT HI hP HST hMeq
      obtain ⟨L, hL⟩ : ∃ L, P.length = L := ⟨_, rfl⟩
      rw [hL] at hPl
      have HL := hide hL
      have hsh : ∃ a c, u4 = .slice a L c := by
        obtain ⟨a, c, e⟩ := own_slice' (unhide HS5)
        rw [hL] at e
        exact ⟨a, c, e⟩
      obtain ⟨na, nc, rfl⟩ := hsh
      clear hL
      go_wp2
      go_loopw [11, 13, 59] (fun v11 _ j wr' => ∃ (k : Nat) (out : List Fv), k ≤ L ∧ j = .int .i64 (k : Int) ∧ Hid (GRow wr' w.heap.size v11 out ∧ SRow wr' w.heap.size (.slice na L nc) P ∧ MapIs wr' w.heap.size M ∧ Below w.heap.size w wr' ∧ nms out = P.take k ∧ (∀ x ∈ out, lookF x.f.name (fls M) = some x.f) ∧ out.length = k)) (fun _ _ j _ => L - (intOf j).toNat)
      case atStart => exact ⟨0, [], Nat.zero_le _, rfl, GRow.nil _ _, unhide HS5, unhide HM5, unhide HB5, by simp [nms], fun x hx => absurd hx List.not_mem_nil, rfl⟩
      case round =>
        obtain ⟨k, out, hk, rfl, HS2⟩ := hrel
        by_cases hlt : k < L
        · obtain ⟨t1, t2, t3, t4, t5, t6, t7⟩ := unhide HS2
          have hkP : k < P.length := by rw [unhide HL]; exact hlt
          obtain ⟨p, hp⟩ := unhide HPM P[k] (List.getElem_mem hkP)
          obtain ⟨z, hz⟩ : ∃ z, p.2 = z := ⟨_, rfl⟩
          have hzn : z.f.name = P[k] ∧ z ∈ M ∧ lookF P[k] (fls M) = some z.f := by
            obtain ⟨j, x⟩ := p
            simp only at hz
            subst hz
            obtain ⟨q1, _, q3, q4⟩ := fm_at hp
            exact ⟨q1, List.mem_of_getElem? q3, q4⟩
          have hget := map_get t3 P[k] false
          rw [hp] at hget
          simp only [Bool.false_eq_true, if_false] at hget
          rw [hz, val_is] at hget
          have hcell : ∃ gg, na = some ⟨gg, 0, none⟩ ∧ wr.cell? ⟨gg, k, none⟩ = some (.string (B P[k])) := by
            rcases t2.cases with ⟨e1, e2⟩ | ⟨gg, cap, e1, _, _, _, _, hc⟩
            · rw [e2] at hkP; simp at hkP
            · injection e1 with e1 _ _
              refine ⟨gg, e1, ?_⟩
              have := hc k (B P[k]) (by simp [hkP])
              rw [Nat.zero_add] at this
              exact this
          obtain ⟨gg, rfl, hcell⟩ := hcell
          have hzw := t4.size
          have HZIN := hide (unhide HALL z hzn.2.1)
          have hzap : z.f.bytes ≠ [] → ∀ b o, z.a = some ⟨b, o, none⟩ → b < w.heap.size := by
            intro hne b o e
            rcases (unhide HZIN).bs with ⟨_, h, _⟩ | ⟨h, _⟩ | ⟨b', o', h1, h2, _⟩
            · exact absurd h hne
            · exact absurd h hne
            · rw [h1] at e; cases e; exact h2
          have HZAP := hide hzap
          have HZC : Hid (z.cells = [.string (B z.f.name), .slice z.a z.f.bytes.length z.c, .int .i64 z.f.stamp, .int .i64 z.f.node, .bool z.f.gone]) := rfl
          have HZN := hide hzn
          have HTK : Hid (P.take (k + 1) = P.take k ++ [z.f.name]) := by
            rw [List.take_add_one, List.getElem?_eq_getElem hkP, hzn.1]
            rfl
          have T1 := hide t1
          have T2 := hide t2
          have T3 := hide t3
          have T4 := hide t4
          have T5 := hide t5
          have T6 := hide t6
          clear hp hzn hzap hz t1 t2 t3 t4 t5 t6 HS2 p
          obtain ⟨zt, hzt⟩ : ∃ zt, B z.f.name = zt := ⟨_, rfl⟩
          rw [hzt] at hget HZC
          clear hzt
          generalize B P[k] = st at *
          generalize z.f.bytes.length = zn at *
          generalize z.f.stamp = zs at *
          generalize z.f.node = zd at *
          generalize z.f.gone = zg at *
          have HW5 := hide (bel_al (Below.refl wr.heap.size wr) (.cells #[.string zt, .slice z.a zn z.c, .int .i64 zs, .int .i64 zd, .bool zg] 49))
          have R5 := hide ((unhide T1).below (unhide HW5))
          have R6 := hide ((unhide T2).below (unhide HW5))
          have R7 := hide ((unhide T3).below (unhide HW5))
          have R8 := hide ((unhide T4).trans ((unhide HW5).mono hzw))
          have HV5 := hide ((unhide HZIN).below (unhide R8) (Nat.le_refl _))
          have HC5 : Hid (∀ j u, z.cells[j]? = some u → (wr.alloc (.cells #[.string zt, .slice z.a zn z.c, .int .i64 zs, .int .i64 zd, .bool zg] 49)).cell? ⟨wr.heap.size, j, none⟩ = some u) := by
            intro j u hj
            rw [unhide HZC] at hj
            rw [World.cell?_alloc_at _ _ _ _ rfl]
            simpa using hj
          go_wp2_with (at_builtin; refine wpList_append_fileG _ rfl _ _ rfl w.heap.size _ out rfl (unhide R5) wr.heap.size z rfl (unhide HC5) (unhide HV5) (unhide HZAP) (by omega) (by simp; omega) ?_)
          intro v' w8 hR hG
          obtain ⟨hg1, hg2⟩ := unhide hG
          have HFIN : Hid (SRow w8 w.heap.size (.slice (some ⟨gg, 0, none⟩) L nc) P ∧ MapIs w8 w.heap.size M ∧ Below w.heap.size w w8) :=
            ⟨(unhide R6).grown hg1 (grow_row_ne (unhide R5) (unhide R6)), (unhide R7).grown hg1 (grow_map_ne (unhide R5) (unhide R7)), (unhide R8).grown hg1 (by simp; omega) (fun q e => ((unhide R5).lt e).1)⟩
          have HR8 := hide (unhide hR)
          clear hg1 hg2 hR hG hget hcell R5 R6 R7 R8 HV5 HC5
          go_wp2
          go_roundw
          case rel =>
            obtain ⟨s1, s2, s3⟩ := unhide HFIN
            refine ⟨k + 1, out ++ [z], by omega, by go_num, unhide HR8, s1, s2, s3, ?_, ?_, by rw [List.length_append]; simp; omega⟩
            · rw [unhide HTK, ← unhide T5]; simp [nms]
            · intro x hx
              rcases List.mem_append.1 hx with hx | hx
              · exact unhide T6 x hx
              · simp at hx
                subst hx
                rw [(unhide HZN).1]
                exact (unhide HZN).2.2
          case measure => simp [intOf]; omega
        · obtain rfl : L = k := by omega
          obtain ⟨t1, t2, t3, t4, t5, t6, t7⟩ := unhide HS2
          rw [List.take_of_length_le (by rw [unhide HL]; exact Nat.le_refl _), ← unhide HP] at t5
          have T1 := hide t1
          have T4 := hide t4
          have T5 := hide t5
          have T6 := hide t6
          have T7 := hide t7
          clear t1 t2 t3 t4 t5 t6 t7 HS2
          go_wp2
          go_ret
          rw [unhide HME] at T5 T6
          exact ⟨_, out, Ls, rfl, unhide T1, unhide HMF, unhide T5, unhide T6, by rw [unhide T7]; omega, unhide T4⟩
/-- of lists that rise: what comes together, one behind the other -/
theorem together_ns {w : World} {ad : Option Addr} {c n : Nat} {ls : List (List Fl)} (h : NsIn w ad c ls) (hn : ls.length = n) (hT : (ls.map List.length).sum ≤ 1048576) :
    Calls Tryz.prog 17 #[.slice ad n c] w fun e w' => ∃ x L, e = .returned x ∧ LIn w' x L ∧ ((∀ l ∈ ls, NRise l) → L = ls.foldl tog []) ∧ Below w.heap.size w w' := by
  refine (togetherNs_any ad c ls w h n hn hT).mono ?_
  rintro e w' ⟨v, out, Ls, rfl, hr, hLs, ho, hl, hlen, hbel⟩
  refine ⟨v, _, rfl, hr.lin (by omega), fun hR => ?_, hbel⟩
  rw [← hLs]
  exact together_many (fun l h => hR _ (by rw [← hLs]; exact List.mem_map.2 ⟨l, h, rfl⟩)) _ rfl ho hl
end Go.Proofs.YtmgmganbamjnmaaGreatDoor
