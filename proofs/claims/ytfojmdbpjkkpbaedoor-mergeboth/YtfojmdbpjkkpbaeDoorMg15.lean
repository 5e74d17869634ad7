/-
  The document's own: which of two files is later.
-/
import Derived.Test.YtfojmdbpjkkpbaeDoorMg4
import Derived.Test.YtfojmdbpjkkpbaeDoorMg7
namespace Go.Proofs.YtfojmdbpjkkpbaeDoor
open Go.RowKit
set_option linter.unusedVariables false
set_option maxRecDepth 100000

theorem cmpString_any (a b : ByteArray) (w : World) : Calls Tryd.prog 74 #[.string a, .string b] w fun e w' => e = .returned (.int .i64 (Lib.compareBytes a.data.toList b.data.toList)) ∧ w' = w := by
  go_enter Tryd.func74, Tryd.ntmps74
  go_wp2
  rw [run_callFunc_extern Tryd.func87 (by kernel_rfl) (by kernel_rfl) (by kernel_rfl) (e := Extern.BytealgCompare.compare) (by kernel_rfl), Lib.run_compareString]
  simp only [Result.andThen]
  rw [Oper.upon_value]
  go_wp2
  go_ret
  exact ⟨rfl, rfl⟩
theorem strCompare_any (x y : List UInt8) (w : World) : Calls Tryd.prog 48 #[.string (B x), .string (B y)] w fun e w' => e = .returned (.int .i64 (cmpB x y)) ∧ w' = w := by
  have HC := hide (cmpString_any (B x) (B y) w)
  rw [data_B, data_B] at HC
  generalize B x = s at *
  generalize B y = t at *
  go_enter Tryd.func48, Tryd.ntmps48
  go_wp2_with (go_at_call 74; refine (unhide HC).mono ?_; rintro e w' ⟨rfl, rfl⟩)
  go_ret
  exact ⟨rfl, rfl⟩

abbrev mapE : Array MapEntry := #[{ key := .bool true, val := .int .i64 1, born := 0 }]
theorem map_ins (X : World) : (Instr.mapUpdate 76 (.map (some X.heap.size)) (.bool true) (.int .i64 1)).run Tryd.prog (X.alloc (.map #[] 0)) = .ok () (X.alloc (.map mapE 1)) := by
  have hb : (X.alloc (.map #[] 0)).heap[X.heap.size]? = some (.map #[] 0) := heap_alloc_new X _
  have hk := Tryd.underlying4
  have hf : Instr.findNow .bool (.bool true) ([] : List MapEntry) 0 = some none := rfl
  have hc : (Instr.checkKey false 10000 4 (.bool true)).run Tryd.prog (X.alloc (.map #[] 0)) = .ok () (X.alloc (.map #[] 0)) := MapKept.run_checkKey (k := .bool true) hk (by simp [MapKept.IsKey]) false 9999
  have he : { X.alloc (.map #[] 0) with heap := (X.alloc (.map #[] 0)).heap.setIfInBounds X.heap.size (.map mapE 1) } = X.alloc (.map mapE 1) := by
    have e1 : (X.alloc (.map #[] 0)).heap.setIfInBounds X.heap.size (.map mapE 1) = (X.alloc (.map mapE 1)).heap := by
      show (X.heap.push (.map #[] 0)).setIfInBounds X.heap.size (.map mapE 1) = X.heap.push (.map mapE 1)
      apply Array.ext
      · simp
      · intro i h1 h2
        simp only [Array.size_setIfInBounds, Array.size_push] at h1
        rw [Array.getElem_setIfInBounds]
        by_cases hi : X.heap.size = i
        · subst hi; simp
        · rw [if_neg hi, Array.getElem_push_lt (by omega), Array.getElem_push_lt (by omega)]
        · simpa using h1
    rw [e1]
    rfl
  simp only [Instr.mapUpdate, Sem.run_bind, run_underlying Tryd.underlying76, MapKept.run_getObj_map hb, hc, MapKept.run_findKey hk hf, MapKept.run_setObj_map _ hb, Result.andThen]
  exact congrArg (Result.ok ()) he
theorem map_look (W : World) (r : Nat) (g : Bool) (hb : W.heap[r]? = some (.map mapE 1)) : (Instr.lookup 76 (.map (some r)) (.bool g) false).run Tryd.prog W = .ok (.int .i64 (if g then 1 else 0)) W := by
  have hk := Tryd.underlying4
  have hc : (Instr.checkKey false 10000 4 (.bool g)).run Tryd.prog W = .ok () W := MapKept.run_checkKey (k := .bool g) hk (by simp [MapKept.IsKey]) false 9999
  have hf : Instr.findNow .bool (.bool g) mapE.toList 0 = some (if g then some (0, .int .i64 1) else none) := by cases g <;> rfl
  have hz : (zeroValue 3).run Tryd.prog W = .ok (.int .i64 0) W := Tryd.zeroValue3 W
  cases g
  · simp [Instr.lookup, run_underlying Tryd.underlying76, MapKept.run_getObj_map hb, hc, MapKept.run_findKey hk hf, hz, Result.andThen]
  · simp [Instr.lookup, run_underlying Tryd.underlying76, MapKept.run_getObj_map hb, hc, MapKept.run_findKey hk hf, Result.andThen]

theorem w2_row (w : World) (o1 o2 o3 : Obj) (cs : Array Value) (t : TypeId) (j : Nat) : ((((w.alloc o1).alloc o2).alloc o3).alloc (.cells cs t)).cell? ⟨w.heap.size + 1 + 1 + 1, j, none⟩ = cs[j]? :=
  World.cell?_alloc_at _ _ _ _ (by rw [World.size_alloc, World.size_alloc, World.size_alloc])
theorem w2_b0 (w : World) (o2 o3 o4 : Obj) (cs : Array Value) (t : TypeId) (j : Nat) : ((((w.alloc (.cells cs t)).alloc o2).alloc o3).alloc o4).cell? ⟨w.heap.size, j, none⟩ = cs[j]? := by
  rw [World.cell?_alloc_past _ _ _ (by rw [World.size_alloc, World.size_alloc, World.size_alloc]; omega), World.cell?_alloc_past _ _ _ (by rw [World.size_alloc, World.size_alloc]; omega), World.cell?_alloc_past _ _ _ (by rw [World.size_alloc]; omega)]
  exact World.cell?_alloc_at _ _ _ _ rfl
theorem w2_b1 (w : World) (o1 o3 o4 : Obj) (cs : Array Value) (t : TypeId) (j : Nat) : ((((w.alloc o1).alloc (.cells cs t)).alloc o3).alloc o4).cell? ⟨w.heap.size + 1, j, none⟩ = cs[j]? := by
  rw [World.cell?_alloc_past _ _ _ (by rw [World.size_alloc, World.size_alloc, World.size_alloc]; omega), World.cell?_alloc_past _ _ _ (by rw [World.size_alloc, World.size_alloc]; omega)]
  exact World.cell?_alloc_at _ _ _ _ (by rw [World.size_alloc])

set_option maxHeartbeats 4000000 in
theorem later_any (x y : Fv) (w : World) (hx : FvIn w x) (hy : FvIn w y) :
    Calls Tryd.prog 26 #[x.val, y.val] w fun e w' => e = .returned (.int .i64 (nwr x.f y.f)) ∧ Below w.heap.size w w' := by
  have hb1 : ∀ W, Below w.heap.size w W → (convert 38 9 (.slice x.a x.f.bytes.length x.c)).run Tryd.prog W = .ok (.string (B x.f.bytes)) W := fun W hW => conv_any (hx.bs.below hW (Nat.le_refl _))
  have hb2 : ∀ W, Below w.heap.size w W → (convert 38 9 (.slice y.a y.f.bytes.length y.c)).run Tryd.prog W = .ok (.string (B y.f.bytes)) W := fun W hW => conv_any (hy.bs.below hW (Nat.le_refl _))
  have HS := hide (strCompare_any x.f.bytes y.f.bytes)
  have hd : nwr x.f y.f = nz (cmpI x.f.stamp y.f.stamp) (nz (cmpI x.f.node y.f.node) (nz (cmpG x.f.gone y.f.gone) (cmpB x.f.bytes y.f.bytes))) := rfl
  rw [val_is, val_is, hd]
  clear hx hy hd
  obtain ⟨⟨nm, bs, st, nd, gn⟩, a, c⟩ := x
  obtain ⟨⟨nm2, bs2, st2, nd2, gn2⟩, a2, c2⟩ := y
  simp only at *
  have HB1 := hide hb1
  have HB2 := hide hb2
  clear hb1 hb2
  generalize B nm = t at *
  generalize B nm2 = t2 at *
  generalize B bs = sb at *
  generalize B bs2 = sb2 at *
  generalize bs.length = n at *
  generalize bs2.length = n2 at *
  generalize cmpB bs bs2 = k4 at *
  have hmm := @run_makeMap Tryd.prog
  have hins := map_ins ((w.alloc (.cells #[.string t, .slice a n c, .int .i64 st, .int .i64 nd, .bool gn] 40)).alloc (.cells #[.string t2, .slice a2 n2 c2, .int .i64 st2, .int .i64 nd2, .bool gn2] 40))
  have hlk := fun g => map_look (((w.alloc (.cells #[.string t, .slice a n c, .int .i64 st, .int .i64 nd, .bool gn] 40)).alloc (.cells #[.string t2, .slice a2 n2 c2, .int .i64 st2, .int .i64 nd2, .bool gn2] 40)).alloc (.map mapE 1)) _ g (heap_alloc_new _ _)
  simp only [World.size_alloc] at hins hlk
  have hl1 := hlk gn
  have hl2 := hlk gn2
  obtain ⟨i1, hi1⟩ : ∃ i1 : Int, (if gn then 1 else 0) = i1 := ⟨_, rfl⟩
  obtain ⟨i2, hi2⟩ : ∃ i2 : Int, (if gn2 then 1 else 0) = i2 := ⟨_, rfl⟩
  rw [hi1] at hl1
  rw [hi2] at hl2
  have hgc : cmpG gn gn2 = cmpI i1 i2 := by rw [← hi1, ← hi2]; cases gn <;> cases gn2 <;> rfl
  rw [hgc]
  clear hlk hi1 hi2 hgc
  have HBW : Hid (∀ W, Below (w.heap.size + 3) (((w.alloc (.cells #[.string t, .slice a n c, .int .i64 st, .int .i64 nd, .bool gn] 40)).alloc (.cells #[.string t2, .slice a2 n2 c2, .int .i64 st2, .int .i64 nd2, .bool gn2] 40)).alloc (.map mapE 1)) W → Below w.heap.size w W) := fun W hW => (bel_al (bel_al (bel_al (Below.refl _ _) _) _) _).trans (hW.mono (by omega))
  go_enter Tryd.func26, Tryd.ntmps26
  go_wp2
  go_loopw [7, 31] (fun _ i wr => Hid (Below ((((w.alloc (.cells #[.string t, .slice a n c, .int .i64 st, .int .i64 nd, .bool gn] 40)).alloc (.cells #[.string t2, .slice a2 n2 c2, .int .i64 st2, .int .i64 nd2, .bool gn2] 40)).alloc (.map mapE 1)).alloc (.cells #[.int .i64 st, .int .i64 st2, .int .i64 nd, .int .i64 nd2, .int .i64 i1, .int .i64 i2] 77)).heap.size ((((w.alloc (.cells #[.string t, .slice a n c, .int .i64 st, .int .i64 nd, .bool gn] 40)).alloc (.cells #[.string t2, .slice a2 n2 c2, .int .i64 st2, .int .i64 nd2, .bool gn2] 40)).alloc (.map mapE 1)).alloc (.cells #[.int .i64 st, .int .i64 st2, .int .i64 nd, .int .i64 nd2, .int .i64 i1, .int .i64 i2] 77)) wr) ∧ ((i = .int .i64 0) ∨ (i = .int .i64 1 ∧ Hid (cmpI st st2 = 0)) ∨ (i = .int .i64 2 ∧ Hid (cmpI st st2 = 0) ∧ Hid (cmpI nd nd2 = 0)) ∨ (i = .int .i64 3 ∧ Hid (cmpI st st2 = 0) ∧ Hid (cmpI nd nd2 = 0) ∧ Hid (cmpI i1 i2 = 0)))) (fun _ i _ => 3 - (intOf i).toNat)
  case atStart => exact ⟨Below.refl _ _, .inl rfl⟩
  case round =>
    have HBX : Hid (∀ W, Below ((((w.alloc (.cells #[.string t, .slice a n c, .int .i64 st, .int .i64 nd, .bool gn] 40)).alloc (.cells #[.string t2, .slice a2 n2 c2, .int .i64 st2, .int .i64 nd2, .bool gn2] 40)).alloc (.map mapE 1)).alloc (.cells #[.int .i64 st, .int .i64 st2, .int .i64 nd, .int .i64 nd2, .int .i64 i1, .int .i64 i2] 77)).heap.size ((((w.alloc (.cells #[.string t, .slice a n c, .int .i64 st, .int .i64 nd, .bool gn] 40)).alloc (.cells #[.string t2, .slice a2 n2 c2, .int .i64 st2, .int .i64 nd2, .bool gn2] 40)).alloc (.map mapE 1)).alloc (.cells #[.int .i64 st, .int .i64 st2, .int .i64 nd, .int .i64 nd2, .int .i64 i1, .int .i64 i2] 77)) W → Below w.heap.size w W) := fun W hW => (bel_al (bel_al (bel_al (bel_al (Below.refl _ _) _) _) _) _).trans (hW.mono (by simp; omega))
    clear HBW hins hl1 hl2 hmm
    obtain ⟨HB, rfl | ⟨rfl, HZ0⟩ | ⟨rfl, HZ0, HZ1⟩ | ⟨rfl, HZ0, HZ1, HZ2⟩⟩ := hrel
    · have c0 : wr.cell? ⟨w.heap.size + 1 + 1 + 1, 0, none⟩ = some (.int .i64 st) := ((unhide HB).cell (p := ⟨w.heap.size + 1 + 1 + 1, 0, none⟩) (by simp only [World.size_alloc]; omega)).trans (w2_row _ _ _ _ _ _ _)
      have c1 : wr.cell? ⟨w.heap.size + 1 + 1 + 1, 1, none⟩ = some (.int .i64 st2) := ((unhide HB).cell (p := ⟨w.heap.size + 1 + 1 + 1, 1, none⟩) (by simp only [World.size_alloc]; omega)).trans (w2_row _ _ _ _ _ _ _)
      have HBn := hide (fun o => bel_al (unhide HB) o)
      have HBv := hide (fun o => unhide HBX _ (bel_al (unhide HB) o))
      rcases Int.lt_trichotomy st st2 with hc | hc | hc
      · have hk : cmpI st st2 = -1 := by unfold cmpI; rw [if_pos hc]
        have HK := hide hk
        have hn1 : ¬ st2 < st := by omega
        clear hk
        go_wp2
        go_ret
        exact ⟨ret_int (by rw [ unhide HK]; rfl), unhide HBv _⟩
      · have hk : cmpI st st2 = 0 := by unfold cmpI; rw [if_neg (by omega), if_neg (by omega)]
        have HK := hide hk
        have hn1 : ¬ st < st2 := by omega
        have hn2 : ¬ st2 < st := by omega
        clear hk
        go_wp2
        go_roundw
        case rel => exact ⟨unhide HBn _, by simp; exact HK⟩
        case measure => simp [intOf]
      · have hk : cmpI st st2 = 1 := by unfold cmpI; rw [if_neg (by omega), if_pos hc]
        have HK := hide hk
        clear hk
        go_wp2
        go_ret
        exact ⟨ret_int (by rw [ unhide HK]; rfl), unhide HBv _⟩
    · have c0 : wr.cell? ⟨w.heap.size + 1 + 1 + 1, 2, none⟩ = some (.int .i64 nd) := ((unhide HB).cell (p := ⟨w.heap.size + 1 + 1 + 1, 2, none⟩) (by simp only [World.size_alloc]; omega)).trans (w2_row _ _ _ _ _ _ _)
      have c1 : wr.cell? ⟨w.heap.size + 1 + 1 + 1, 3, none⟩ = some (.int .i64 nd2) := ((unhide HB).cell (p := ⟨w.heap.size + 1 + 1 + 1, 3, none⟩) (by simp only [World.size_alloc]; omega)).trans (w2_row _ _ _ _ _ _ _)
      have HBn := hide (fun o => bel_al (unhide HB) o)
      have HBv := hide (fun o => unhide HBX _ (bel_al (unhide HB) o))
      rcases Int.lt_trichotomy nd nd2 with hc | hc | hc
      · have hk : cmpI nd nd2 = -1 := by unfold cmpI; rw [if_pos hc]
        have HK := hide hk
        have hn1 : ¬ nd2 < nd := by omega
        clear hk
        go_wp2
        go_ret
        exact ⟨ret_int (by rw [unhide HZ0, nz_past,  unhide HK]; rfl), unhide HBv _⟩
      · have hk : cmpI nd nd2 = 0 := by unfold cmpI; rw [if_neg (by omega), if_neg (by omega)]
        have HK := hide hk
        have hn1 : ¬ nd < nd2 := by omega
        have hn2 : ¬ nd2 < nd := by omega
        clear hk
        go_wp2
        go_roundw
        case rel => exact ⟨unhide HBn _, by simp; exact ⟨HZ0, HK⟩⟩
        case measure => simp [intOf]
      · have hk : cmpI nd nd2 = 1 := by unfold cmpI; rw [if_neg (by omega), if_pos hc]
        have HK := hide hk
        clear hk
        go_wp2
        go_ret
        exact ⟨ret_int (by rw [unhide HZ0, nz_past,  unhide HK]; rfl), unhide HBv _⟩
    · have c0 : wr.cell? ⟨w.heap.size + 1 + 1 + 1, 4, none⟩ = some (.int .i64 i1) := ((unhide HB).cell (p := ⟨w.heap.size + 1 + 1 + 1, 4, none⟩) (by simp only [World.size_alloc]; omega)).trans (w2_row _ _ _ _ _ _ _)
      have c1 : wr.cell? ⟨w.heap.size + 1 + 1 + 1, 5, none⟩ = some (.int .i64 i2) := ((unhide HB).cell (p := ⟨w.heap.size + 1 + 1 + 1, 5, none⟩) (by simp only [World.size_alloc]; omega)).trans (w2_row _ _ _ _ _ _ _)
      have HBn := hide (fun o => bel_al (unhide HB) o)
      have HBv := hide (fun o => unhide HBX _ (bel_al (unhide HB) o))
      rcases Int.lt_trichotomy i1 i2 with hc | hc | hc
      · have hk : cmpI i1 i2 = -1 := by unfold cmpI; rw [if_pos hc]
        have HK := hide hk
        have hn1 : ¬ i2 < i1 := by omega
        clear hk
        go_wp2
        go_ret
        exact ⟨ret_int (by rw [unhide HZ0, nz_past, unhide HZ1, nz_past,  unhide HK]; rfl), unhide HBv _⟩
      · have hk : cmpI i1 i2 = 0 := by unfold cmpI; rw [if_neg (by omega), if_neg (by omega)]
        have HK := hide hk
        have hn1 : ¬ i1 < i2 := by omega
        have hn2 : ¬ i2 < i1 := by omega
        clear hk
        go_wp2
        go_roundw
        case rel => exact ⟨unhide HBn _, by simp; exact ⟨HZ0, HZ1, HK⟩⟩
        case measure => simp [intOf]
      · have hk : cmpI i1 i2 = 1 := by unfold cmpI; rw [if_neg (by omega), if_pos hc]
        have HK := hide hk
        clear hk
        go_wp2
        go_ret
        exact ⟨ret_int (by rw [unhide HZ0, nz_past, unhide HZ1, nz_past,  unhide HK]; rfl), unhide HBv _⟩
    · have e1 := unhide HB1 wr (unhide HBX _ (unhide HB))
      have e2 := unhide HB2 wr (unhide HBX _ (unhide HB))
      have q1 : wr.cell? ⟨w.heap.size, 1, none⟩ = some (.slice a n c) := ((unhide HB).cell (p := ⟨w.heap.size, 1, none⟩) (by simp only [World.size_alloc]; omega)).trans (w2_b0 _ _ _ _ _ _ _)
      have q2 : wr.cell? ⟨w.heap.size + 1, 1, none⟩ = some (.slice a2 n2 c2) := ((unhide HB).cell (p := ⟨w.heap.size + 1, 1, none⟩) (by simp only [World.size_alloc]; omega)).trans (w2_b1 _ _ _ _ _ _ _)
      have HBY := hide (unhide HBX _ (unhide HB))
      clear HB1 HB2
      go_wp2_with (go_at_call 48; refine (unhide HS _).mono ?_; rintro e w' ⟨rfl, rfl⟩)
      go_ret
      exact ⟨ret_int (by rw [unhide HZ0, unhide HZ1, unhide HZ2, nz_past, nz_past, nz_past]), unhide HBY⟩
end Go.Proofs.YtfojmdbpjkkpbaeDoor
