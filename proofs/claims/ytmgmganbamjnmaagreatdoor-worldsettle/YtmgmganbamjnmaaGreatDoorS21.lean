/-
  The document's own: which of two files is later.
-/
import Derived.Test.YtmgmganbamjnmaaGreatDoorS5
import Derived.Test.YtmgmganbamjnmaaGreatDoorS7
import Derived.Test.YtmgmganbamjnmaaGreatDoorQ6
import Derived.Test.YtmgmganbamjnmaaGreatDoorS8
namespace Go.Proofs.YtmgmganbamjnmaaGreatDoor
open Go.RowKit
set_option linter.unusedVariables false
set_option maxRecDepth 100000

theorem cmpString_any (a b : ByteArray) (w : World) : Calls Tryz.prog 73 #[.string a, .string b] w fun e w' => e = .returned (.int .i64 (Lib.compareBytes a.data.toList b.data.toList)) ∧ w' = w := by
  go_enter Tryz.func73, Tryz.ntmps73
  go_wp2
  rw [run_callFunc_extern Tryz.func92 (by kernel_rfl) (by kernel_rfl) (by kernel_rfl) (e := Extern.BytealgCompare.compare) (by kernel_rfl), Lib.run_compareString]
  simp only [Result.andThen]
  rw [Oper.upon_value]
  go_wp2
  go_ret
  exact ⟨rfl, rfl⟩
theorem strCompare_any (x y : List UInt8) (w : World) : Calls Tryz.prog 51 #[.string (B x), .string (B y)] w fun e w' => e = .returned (.int .i64 (cmpB x y)) ∧ w' = w := by
  have HC := hide (cmpString_any (B x) (B y) w)
  rw [data_B, data_B] at HC
  generalize B x = s at *
  generalize B y = t at *
  go_enter Tryz.func51, Tryz.ntmps51
  go_wp2_with (go_at_call 73; refine (unhide HC).mono ?_; rintro e w' ⟨rfl, rfl⟩)
  go_ret
  exact ⟨rfl, rfl⟩

abbrev mapE : Array MapEntry := #[{ key := .bool true, val := .int .i64 1, born := 0 }]
theorem map_ins (X : World) : (Instr.mapUpdate 87 (.map (some X.heap.size)) (.bool true) (.int .i64 1)).run Tryz.prog (X.alloc (.map #[] 0)) = .ok () (X.alloc (.map mapE 1)) := by
  have hb : (X.alloc (.map #[] 0)).heap[X.heap.size]? = some (.map #[] 0) := heap_alloc_new X _
  have hk := Tryz.underlying4
  have hf : Instr.findNow .bool (.bool true) ([] : List MapEntry) 0 = some none := rfl
  have hc : (Instr.checkKey false 10000 4 (.bool true)).run Tryz.prog (X.alloc (.map #[] 0)) = .ok () (X.alloc (.map #[] 0)) := MapKept.run_checkKey (k := .bool true) hk (by simp [MapKept.IsKey]) false 9999
  have he : { X.alloc (.map #[] 0) with heap := (X.alloc (.map #[] 0)).heap.setIfInBounds X.heap.size (.map mapE 1) } = X.alloc (.map mapE 1) := by
    have e1 : (X.alloc (.map #[] 0)).heap.setIfInBounds X.heap.size (.map mapE 1) = (X.alloc (.map mapE 1)).heap := by
      show (X.heap.push (.map #[] 0)).setIfInBounds X.heap.size (.map mapE 1) = X.heap.push (.map mapE 1)
      apply Array.ext
      · simp
      · intro i h1 h2
        simp only [Array.size_setIfInBounds, Array.size_push] at h1
        rw [Array.getElem_setIfInBounds]
        by_cases hi : X.heap.size = i
        · subst hi; simp
        · rw [if_neg hi, Array.getElem_push_lt (by omega), Array.getElem_push_lt (by omega)]
        · simpa using h1
    rw [e1]
    rfl
  simp only [Instr.mapUpdate, Sem.run_bind, run_underlying Tryz.underlying87, MapKept.run_getObj_map hb, hc, MapKept.run_findKey hk hf, MapKept.run_setObj_map _ hb, Result.andThen]
  exact congrArg (Result.ok ()) he
theorem map_look (W : World) (r : Nat) (g : Bool) (hb : W.heap[r]? = some (.map mapE 1)) : (Instr.lookup 87 (.map (some r)) (.bool g) false).run Tryz.prog W = .ok (.int .i64 (if g then 1 else 0)) W := by
  have hk := Tryz.underlying4
  have hc : (Instr.checkKey false 10000 4 (.bool g)).run Tryz.prog W = .ok () W := MapKept.run_checkKey (k := .bool g) hk (by simp [MapKept.IsKey]) false 9999
  have hf : Instr.findNow .bool (.bool g) mapE.toList 0 = some (if g then some (0, .int .i64 1) else none) := by cases g <;> rfl
  have hz : (zeroValue 3).run Tryz.prog W = .ok (.int .i64 0) W := Tryz.zeroValue3 W
  cases g
  · simp [Instr.lookup, run_underlying Tryz.underlying87, MapKept.run_getObj_map hb, hc, MapKept.run_findKey hk hf, hz, Result.andThen]
  · simp [Instr.lookup, run_underlying Tryz.underlying87, MapKept.run_getObj_map hb, hc, MapKept.run_findKey hk hf, Result.andThen]

theorem w2_row (w : World) (o1 o2 o3 : Obj) (cs : Array Value) (t : TypeId) (j : Nat) : ((((w.alloc o1).alloc o2).alloc o3).alloc (.cells cs t)).cell? ⟨w.heap.size + 1 + 1 + 1, j, none⟩ = cs[j]? :=
  World.cell?_alloc_at _ _ _ _ (by rw [World.size_alloc, World.size_alloc, World.size_alloc])
theorem w2_b0 (w : World) (o2 o3 o4 : Obj) (cs : Array Value) (t : TypeId) (j : Nat) : ((((w.alloc (.cells cs t)).alloc o2).alloc o3).alloc o4).cell? ⟨w.heap.size, j, none⟩ = cs[j]? := by
  rw [World.cell?_alloc_past _ _ _ (by rw [World.size_alloc, World.size_alloc, World.size_alloc]; omega), World.cell?_alloc_past _ _ _ (by rw [World.size_alloc, World.size_alloc]; omega), World.cell?_alloc_past _ _ _ (by rw [World.size_alloc]; omega)]
  exact World.cell?_alloc_at _ _ _ _ rfl
theorem w2_b1 (w : World) (o1 o3 o4 : Obj) (cs : Array Value) (t : TypeId) (j : Nat) : ((((w.alloc o1).alloc (.cells cs t)).alloc o3).alloc o4).cell? ⟨w.heap.size + 1, j, none⟩ = cs[j]? := by
  rw [World.cell?_alloc_past _ _ _ (by rw [World.size_alloc, World.size_alloc, World.size_alloc]; omega), World.cell?_alloc_past _ _ _ (by rw [World.size_alloc, World.size_alloc]; omega)]
  exact World.cell?_alloc_at _ _ _ _ (by rw [World.size_alloc])

set_option maxHeartbeats 4000000 in
theorem later_any (x y : Fv) (w : World) (hx : FvIn w x) (hy : FvIn w y) :
    Calls Tryz.prog 38 #[x.val, y.val] w fun e w' => e = .returned (.int .i64 (nwr x.f y.f)) ∧ Below w.heap.size w w' := by
  have hb1 : ∀ W, Below w.heap.size w W → (convert 27 9 (.slice x.a x.f.bytes.length x.c)).run Tryz.prog W = .ok (.string (B x.f.bytes)) W := fun W hW => conv_any (hx.bs.below hW (Nat.le_refl _))
  have hb2 : ∀ W, Below w.heap.size w W → (convert 27 9 (.slice y.a y.f.bytes.length y.c)).run Tryz.prog W = .ok (.string (B y.f.bytes)) W := fun W hW => conv_any (hy.bs.below hW (Nat.le_refl _))
  have HS := hide (strCompare_any x.f.bytes y.f.bytes)
  have hd : nwr x.f y.f = nz (cmpI x.f.stamp y.f.stamp) (nz (cmpI x.f.node y.f.node) (nz (cmpG x.f.gone y.f.gone) (cmpB x.f.bytes y.f.bytes))) := rfl
  rw [val_is, val_is, hd]
  clear hx hy hd
  obtain ⟨⟨nm, bs, st, nd, gn⟩, a, c⟩ := x
  obtain ⟨⟨nm2, bs2, st2, nd2, gn2⟩, a2, c2⟩ := y
  simp only at *
  have HB1 := hide hb1
  have HB2 := hide hb2
  clear hb1 hb2
  generalize B nm = t at *
  generalize B nm2 = t2 at *
  generalize B bs = sb at *
  generalize B bs2 = sb2 at *
  generalize bs.length = n at *
  generalize bs2.length = n2 at *
  generalize cmpB bs bs2 = k4 at *
  have hmm := @run_makeMap Tryz.prog
  have hins := map_ins ((w.alloc (.cells #[.string t, .slice a n c, .int .i64 st, .int .i64 nd, .bool gn] 49)).alloc (.cells #[.string t2, .slice a2 n2 c2, .int .i64 st2, .int .i64 nd2, .bool gn2] 49))
  have hlk := fun g => map_look (((w.alloc (.cells #[.string t, .slice a n c, .int .i64 st, .int .i64 nd, .bool gn] 49)).alloc (.cells #[.string t2, .slice a2 n2 c2, .int .i64 st2, .int .i64 nd2, .bool gn2] 49)).alloc (.map mapE 1)) _ g (heap_alloc_new _ _)
  simp only [World.size_alloc] at hins hlk
  have hl1 := hlk gn
  have hl2 := hlk gn2
  obtain ⟨i1, hi1⟩ : ∃ i1 : Int, (if gn then 1 else 0) = i1 := ⟨_, rfl⟩
  obtain ⟨i2, hi2⟩ : ∃ i2 : Int, (if gn2 then 1 else 0) = i2 := ⟨_, rfl⟩
  rw [hi1] at hl1
  rw [hi2] at hl2
  have hgc : cmpG gn gn2 = cmpI i1 i2 := by rw [← hi1, ← hi2]; cases gn <;> cases gn2 <;> rfl
  rw [hgc]
  clear hlk hi1 hi2 hgc
  have HBW : Hid (∀ W, Below (w.heap.size + 3) (((w.alloc (.cells #[.string t, .slice a n c, .int .i64 st, .int .i64 nd, .bool gn] 49)).alloc (.cells #[.string t2, .slice a2 n2 c2, .int .i64 st2, .int .i64 nd2, .bool gn2] 49)).alloc (.map mapE 1)) W → Below w.heap.size w W) := fun W hW => (bel_al (bel_al (bel_al (Below.refl _ _) _) _) _).trans (hW.mono (by omega))
  go_enter Tryz.func38, Tryz.ntmps38
  go_wp2
  go_loopw [7, 31] (fun _ i wr => Hid (Below ((((w.alloc (.cells #[.string t, .slice a n c, .int .i64 st, .int .i64 nd, .bool gn] 49)).alloc (.cells #[.string t2, .slice a2 n2 c2, .int .i64 st2, .int .i64 nd2, .bool gn2] 49)).alloc (.map mapE 1)).alloc (.cells #[.int .i64 st, .int .i64 st2, .int .i64 nd, .int .i64 nd2, .int .i64 i1, .int .i64 i2] 88)).heap.size ((((w.alloc (.cells #[.string t, .slice a n c, .int .i64 st, .int .i64 nd, .bool gn] 49)).alloc (.cells #[.string t2, .slice a2 n2 c2, .int .i64 st2, .int .i64 nd2, .bool gn2] 49)).alloc (.map mapE 1)).alloc (.cells #[.int .i64 st, .int .i64 st2, .int .i64 nd, .int .i64 nd2, .int .i64 i1, .int .i64 i2] 88)) wr) ∧ ((i = .int .i64 0) ∨ (i = .int .i64 1 ∧ Hid (cmpI st st2 = 0)) ∨ (i = .int .i64 2 ∧ Hid (cmpI st st2 = 0) ∧ Hid (cmpI nd nd2 = 0)) ∨ (i = .int .i64 3 ∧ Hid (cmpI st st2 = 0) ∧ Hid (cmpI nd nd2 = 0) ∧ Hid (cmpI i1 i2 = 0)))) (fun _ i _ => 3 - (intOf i).toNat)
  case atStart => exact ⟨Below.refl _ _, .inl rfl⟩
  case round =>
    have HBX : Hid (∀ W, Below ((((w.alloc (.cells #[.string t, .slice a n c, .int .i64 st, .int .i64 nd, .bool gn] 49)).alloc (.cells #[.string t2, .slice a2 n2 c2, .int .i64 st2, .int .i64 nd2, .bool gn2] 49)).alloc (.map mapE 1)).alloc (.cells #[.int .i64 st, .int .i64 st2, .int .i64 nd, .int .i64 nd2, .int .i64 i1, .int .i64 i2] 88)).heap.size ((((w.alloc (.cells #[.string t, .slice a n c, .int .i64 st, .int .i64 nd, .bool gn] 49)).alloc (.cells #[.string t2, .slice a2 n2 c2, .int .i64 st2, .int .i64 nd2, .bool gn2] 49)).alloc (.map mapE 1)).alloc (.cells #[.int .i64 st, .int .i64 st2, .int .i64 nd, .int .i64 nd2, .int .i64 i1, .int .i64 i2] 88)) W → Below w.heap.size w W) := fun W hW => (bel_al (bel_al (bel_al (bel_al (Below.refl _ _) _) _) _) _).trans (hW.mono (by simp; omega))
    clear HBW hins hl1 hl2 hmm
    obtain ⟨HB, rfl | ⟨rfl, HZ0⟩ | ⟨rfl, HZ0, HZ1⟩ | ⟨rfl, HZ0, HZ1, HZ2⟩⟩ := hrel
    · have c0 : wr.cell? ⟨w.heap.size + 1 + 1 + 1, 0, none⟩ = some (.int .i64 st) := ((unhide HB).cell (p := ⟨w.heap.size + 1 + 1 + 1, 0, none⟩) (by simp only [World.size_alloc]; omega)).trans (w2_row _ _ _ _ _ _ _)
      have c1 : wr.cell? ⟨w.heap.size + 1 + 1 + 1, 1, none⟩ = some (.int .i64 st2) := ((unhide HB).cell (p := ⟨w.heap.size + 1 + 1 + 1, 1, none⟩) (by simp only [World.size_alloc]; omega)).trans (w2_row _ _ _ _ _ _ _)
      have HBn := hide (fun o => bel_al (unhide HB) o)
      have HBv := hide (fun o => unhide HBX _ (bel_al (unhide HB) o))
      rcases Int.lt_trichotomy st st2 with hc | hc | hc
      · have hk : cmpI st st2 = -1 := by unfold cmpI; rw [if_pos hc]
        have HK := hide hk
        have hn1 : ¬ st2 < st := by omega
        clear hk
        go_wp2
        go_ret
        exact ⟨ret_int (by rw [ unhide HK]; rfl), unhide HBv _⟩
      · have hk : cmpI st st2 = 0 := by unfold cmpI; rw [if_neg (by omega), if_neg (by omega)]
        have HK := hide hk
        have hn1 : ¬ st < st2 := by omega
        have hn2 : ¬ st2 < st := by omega
        clear hk
        go_wp2
        go_roundw
        case rel => exact ⟨unhide HBn _, by simp; exact HK⟩
        case measure => simp [intOf]
      · have hk : cmpI st st2 = 1 := by unfold cmpI; rw [if_neg (by omega), if_pos hc]
        have HK := hide hk
        clear hk
        go_wp2
        go_ret
        exact ⟨ret_int (by rw [ unhide HK]; rfl), unhide HBv _⟩
    · have c0 : wr.cell? ⟨w.heap.size + 1 + 1 + 1, 2, none⟩ = some (.int .i64 nd) := ((unhide HB).cell (p := ⟨w.heap.size + 1 + 1 + 1, 2, none⟩) (by simp only [World.size_alloc]; omega)).trans (w2_row _ _ _ _ _ _ _)
      have c1 : wr.cell? ⟨w.heap.size + 1 + 1 + 1, 3, none⟩ = some (.int .i64 nd2) := ((unhide HB).cell (p := ⟨w.heap.size + 1 + 1 + 1, 3, none⟩) (by simp only [World.size_alloc]; omega)).trans (w2_row _ _ _ _ _ _ _)
      have HBn := hide (fun o => bel_al (unhide HB) o)
      have HBv := hide (fun o => unhide HBX _ (bel_al (unhide HB) o))
      rcases Int.lt_trichotomy nd nd2 with hc | hc | hc
      · have hk : cmpI nd nd2 = -1 := by unfold cmpI; rw [if_pos hc]
        have HK := hide hk
        have hn1 : ¬ nd2 < nd := by omega
        clear hk
        go_wp2
        go_ret
        exact ⟨ret_int (by rw [unhide HZ0, nz_past,  unhide HK]; rfl), unhide HBv _⟩
      · have hk : cmpI nd nd2 = 0 := by unfold cmpI; rw [if_neg (by omega), if_neg (by omega)]
        have HK := hide hk
        have hn1 : ¬ nd < nd2 := by omega
        have hn2 : ¬ nd2 < nd := by omega
        clear hk
        go_wp2
        go_roundw
        case rel => exact ⟨unhide HBn _, by simp; exact ⟨HZ0, HK⟩⟩
        case measure => simp [intOf]
      · have hk : cmpI nd nd2 = 1 := by unfold cmpI; rw [if_neg (by omega), if_pos hc]
        have HK := hide hk
        clear hk
        go_wp2
        go_ret
        exact ⟨ret_int (by rw [unhide HZ0, nz_past,  unhide HK]; rfl), unhide HBv _⟩
    · have c0 : wr.cell? ⟨w.heap.size + 1 + 1 + 1, 4, none⟩ = some (.int .i64 i1) := ((unhide HB).cell (p := ⟨w.heap.size + 1 + 1 + 1, 4, none⟩) (by simp only [World.size_alloc]; omega)).trans (w2_row _ _ _ _ _ _ _)
      have c1 : wr.cell? ⟨w.heap.size + 1 + 1 + 1, 5, none⟩ = some (.int .i64 i2) := ((unhide HB).cell (p := ⟨w.heap.size + 1 + 1 + 1, 5, none⟩) (by simp only [World.size_alloc]; omega)).trans (w2_row _ _ _ _ _ _ _)
      have HBn := hide (fun o => bel_al (unhide HB) o)
      have HBv := hide (fun o => unhide HBX _ (bel_al (unhide HB) o))
      rcases Int.lt_trichotomy i1 i2 with hc | hc | hc
      · have hk : cmpI i1 i2 = -1 := by unfold cmpI; rw [if_pos hc]
        have HK := hide hk
        have hn1 : ¬ i2 < i1 := by omega
        clear hk
        go_wp2
        go_ret
        exact ⟨ret_int (by rw [unhide HZ0, nz_past, unhide HZ1, nz_past,  unhide HK]; rfl), unhide HBv _⟩
      · have hk : cmpI i1 i2 = 0 := by unfold cmpI; rw [if_neg (by omega), if_neg (by omega)]
        have HK := hide hk
        have hn1 : ¬ i1 < i2 := by omega
        have hn2 : ¬ i2 < i1 := by omega
        clear hk
        go_wp2
        go_roundw
        case rel => exact ⟨unhide HBn _, by simp; exact ⟨HZ0, HZ1, HK⟩⟩
        case measure => simp [intOf]
      · have hk : cmpI i1 i2 = 1 := by unfold cmpI; rw [if_neg (by omega), if_pos hc]
        have HK := hide hk
        clear hk
        go_wp2
        go_ret
        exact ⟨ret_int (by rw [unhide HZ0, nz_past, unhide HZ1, nz_past,  unhide HK]; rfl), unhide HBv _⟩
    · have e1 := unhide HB1 wr (unhide HBX _ (unhide HB))
      have e2 := unhide HB2 wr (unhide HBX _ (unhide HB))
      have q1 : wr.cell? ⟨w.heap.size, 1, none⟩ = some (.slice a n c) := ((unhide HB).cell (p := ⟨w.heap.size, 1, none⟩) (by simp only [World.size_alloc]; omega)).trans (w2_b0 _ _ _ _ _ _ _)
      have q2 : wr.cell? ⟨w.heap.size + 1, 1, none⟩ = some (.slice a2 n2 c2) := ((unhide HB).cell (p := ⟨w.heap.size + 1, 1, none⟩) (by simp only [World.size_alloc]; omega)).trans (w2_b1 _ _ _ _ _ _ _)
      have HBY := hide (unhide HBX _ (unhide HB))
      clear HB1 HB2
      go_wp2_with (go_at_call 51; refine (unhide HS _).mono ?_; rintro e w' ⟨rfl, rfl⟩)
      go_ret
      exact ⟨ret_int (by rw [unhide HZ0, unhide HZ1, unhide HZ2, nz_past, nz_past, nz_past]), unhide HBY⟩
end Go.Proofs.YtmgmganbamjnmaaGreatDoor

/-
  Rows of files whose bytes lie elsewhere.
-/
namespace Go.Proofs.YtmgmganbamjnmaaGreatDoor
open Go.RowKit
set_option linter.unusedVariables false
set_option maxRecDepth 100000

/-- v is a row of the call's own, from block B on, that holds these files; their bytes, where there are any, lie below it -/
structure GRow (w : World) (B : Nat) (v : Value) (xs : List Fv) : Prop where
  own : w.ownsRow B 49 5 v xs.length (fcells xs)
  all : ∀ x ∈ xs, FvIn w x
  apart : ∀ x ∈ xs, x.f.bytes ≠ [] → ∀ b o, x.a = some ⟨b, o, none⟩ → b < B
theorem GRow.nil (w : World) (B : Nat) : GRow w B (.slice none 0 0) [] := ⟨World.ownsRow_nil _ _ _ _, (fun x hx => absurd hx List.not_mem_nil), (fun x hx => absurd hx List.not_mem_nil)⟩
theorem GRow.lt {w : World} {B : Nat} {v : Value} {xs : List Fv} (h : GRow w B v xs) {g : Nat} (e : v.ownBlock = some g) : B ≤ g ∧ g < w.heap.size := h.own.lt g e
theorem BsIn.grown2 {w w' : World} {r : Option Nat} {a : Option Addr} {c : Nat} {bs : List UInt8} (h : BsIn w a c bs) (hg : w.grownBy w' r) (hr : bs ≠ [] → ∀ b o, a = some ⟨b, o, none⟩ → some b ≠ r) : BsIn w' a c bs := by
  by_cases h0 : bs = []
  · subst h0
    rcases h with h | h | ⟨b, o, h1, _⟩
    · exact .inl h
    · exact .inr (.inl h)
    · exact .inr (.inl ⟨rfl, _, h1⟩)
  · exact h.grown hg (hr h0)
theorem GRow.grown {w w' : World} {B : Nat} {v : Value} {xs : List Fv} {r : Option Nat} (h : GRow w B v xs) (hg : w.grownBy w' r) (hr : ∀ g, r = some g → B ≤ g) (hv : v.ownBlock = none ∨ v.ownBlock ≠ r) : GRow w' B v xs := by
  refine ⟨h.own.kept hg hv, fun x hx => ?_, h.apart⟩
  have hf := h.all x hx
  refine ⟨hf.bs.grown2 hg (fun hne b o e e2 => ?_), hf.big, hf.txt⟩
  have := h.apart x hx hne b o e
  have := hr b e2.symm
  omega
theorem GRow.below {w w' : World} {B : Nat} {v : Value} {xs : List Fv} (h : GRow w B v xs) (hB : Below w.heap.size w w') : GRow w' B v xs :=
  h.grown (below_grown hB) (fun g e => by cases e) (by cases hv : v.ownBlock with
    | none => exact .inl rfl
    | some k => exact .inr (by simp))
theorem GRow.files {w : World} {B : Nat} {v : Value} {xs : List Fv} (h : GRow w B v xs) (hl : xs.length ≤ 2199023255552) : ∃ ad c, v = .slice ad xs.length c ∧ FsIn w ad c xs := by
  rcases h.own.2 with ⟨h1, h2⟩ | ⟨g, cap, cur, h1, h2, h3, h4, h5, h6, h7⟩
  · have hx : xs = [] := List.eq_nil_of_length_eq_zero h2
    subst hx
    exact ⟨none, 0, h1, FsIn.nil w⟩
  · refine ⟨_, _, h1, ⟨.inr ⟨g, 0, rfl, (h.lt (g := g) (by rw [h1]; rfl)).2, ?_⟩, h4, by unfold maxLen at h5; omega, hl, h.all⟩⟩
    intro j x hj
    have hlt : j < xs.length := by
      rcases Nat.lt_or_ge j xs.length with h' | h'
      · exact h'
      · rw [List.getElem?_eq_none h'] at hj; cases hj
    have hc : ∀ i u, i < 5 → x.cells[i]? = some u → w.cell? ⟨g, 0 + j * 5 + i, none⟩ = some u := by
      intro i u hi hu
      have e := fcells_at xs j x i hj hi
      have hown := h.own
      rw [h1] at hown
      rw [Nat.zero_add, hown.cellAt _ (by omega)]
      rw [e, hu]
    exact ⟨hc 0 _ (by decide) rfl, hc 1 _ (by decide) rfl, hc 2 _ (by decide) rfl, hc 3 _ (by decide) rfl, hc 4 _ (by decide) rfl⟩
theorem GRow.lin {w : World} {B : Nat} {v : Value} {xs : List Fv} (h : GRow w B v xs) (hl : xs.length ≤ 2199023255552) : LIn w v (fls xs) := by
  obtain ⟨ad, c, rfl, h2⟩ := h.files hl
  exact lin_of h2 rfl
/-- a file behind such a row -/
theorem wpList_append_fileG (w : World) {ops : Array Oper} {rest : List Oper} {o : Oper} {a : Act} {Q : Exit → Act → World → Prop} (hgd : o.guard = none) (s x : Operand)
    (ho : o.op = .call { callee := .builtin .append, args := #[s, x], argTypes := #[46, 46] }) (base : Nat) (v : Value) (xs : List Fv) (hs : a.eval s = v) (hown : GRow w base v xs)
    (g : Nat) (y : Fv) (hx : a.eval x = .slice (some ⟨g, 0, none⟩) 1 1) (hc : ∀ j u, y.cells[j]? = some u → w.cell? ⟨g, j, none⟩ = some u) (hy : FvIn w y) (hyb : y.f.bytes ≠ [] → ∀ b o, y.a = some ⟨b, o, none⟩ → b < base) (hsz : xs.length + 1 ≤ 2199023255552) (hbase : base ≤ w.heap.size)
    (h : ∀ v' w', Hid (GRow w' base v' (xs ++ [y])) → Hid (w.grownBy w' v.ownBlock ∧ (v'.ownBlock = v.ownBlock ∨ v'.ownBlock = some w.heap.size)) → wpList Tryz.prog ops Q rest (a.put o.dst v') w') : wpList Tryz.prog ops Q (o :: rest) a w := by
  obtain ⟨i0, hi, hz0, hz1, hz2⟩ := info_parts info_file
  refine wpList_append_own_at w hgd s x 46 ho base 49 i0 _ 5 64 Tryz.underlying46 hi hz0 hz1 hz2 rfl (by decide) v xs.length (fcells xs) hs hown.own ⟨g, 0, none⟩ 1 1 y.cells hx rfl ?_ (cells_one y) (by unfold maxLen; omega) (by omega) hbase ?_
  · intro j u hj
    have e2 : (⟨g, 0, none⟩ : Addr).add j = ⟨g, j, none⟩ := by unfold Addr.add; split <;> simp_all
    rw [e2]
    exact hc j u hj
  · intro v' w' h1 h2 _ h4
    have hm : ∀ z, z ∈ xs ++ [y] → z ∈ xs ∨ z = y := by intro z hz; simpa using hz
    have hne : ∀ z, z ∈ xs ++ [y] → z.f.bytes ≠ [] → ∀ b o, z.a = some ⟨b, o, none⟩ → b < base := by
      intro z hz hn b o e
      rcases hm z hz with hz | rfl
      · exact hown.apart z hz hn b o e
      · exact hyb hn b o e
    refine h v' w' (hide ⟨?_, ?_, hne⟩) (hide ⟨h2, h4⟩)
    · rw [fcells_app, fcells_one, List.length_append]
      exact h1
    · intro z hz
      have hf : FvIn w z := by
        rcases hm z hz with hz | rfl
        · exact hown.all z hz
        · exact hy
      refine ⟨hf.bs.grown2 h2 (fun hn b o e e2 => ?_), hf.big, hf.txt⟩
      have := hne z hz hn b o e
      have := (hown.own.lt b e2.symm).1
      omega
end Go.Proofs.YtmgmganbamjnmaaGreatDoor
