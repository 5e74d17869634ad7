/-
  The library's strings.Split at a slash: what stands between slashes.
-/
import Derived.Test.YtmgmganbamjnmaaDoorQ3
import Derived.Shelf.Strings.Split
import Derived.Test.YtmgmganbamjnmaaDoorQ2
namespace Go.Proofs.YtmgmganbamjnmaaDoor
open Go.RowKit
set_option linter.unusedVariables false
set_option maxRecDepth 100000

def splRen : Go.Shelf.Ren := ⟨fun | 221 => 65 | 268 => 67 | 138 => 68 | 143 => 69 | 195 => 70 | 197 => 71 | 218 => 72 | 219 => 73 | 260 => 74 | 217 => 75 | 225 => 76 | 224 => 77 | 267 => 78 | 266 => 79 | 314 => 80 | n => n, fun | 9 => 9 | 3 => 3 | 31 => 90 | 4 => 4 | 0 => 0 | 105 => 102 | 21 => 21 | 5 => 5 | 46 => 106 | 119 => 107 | 139 => 110 | 138 => 109 | 146 => 112 | 51 => 111 | n => n, fun | 1 => 0 | 3 => 1 | 4 => 2 | n => n⟩
theorem splLays : Go.Proofs.Lays.n221 Tryd.prog splRen := {
  mixed := by kernel_rfl
  f138 := Tryd.func68.trans (congrArg some (by kernel_rfl))
  f143 := Tryd.func69.trans (congrArg some (by kernel_rfl))
  f195 := Tryd.func70.trans (congrArg some (by kernel_rfl))
  f197 := Tryd.func71.trans (congrArg some (by kernel_rfl))
  f217 := Tryd.func75.trans (congrArg some (by kernel_rfl))
  f218 := Tryd.func72.trans (congrArg some (by kernel_rfl))
  f219 := Tryd.func73.trans (congrArg some (by kernel_rfl))
  f221 := Tryd.func65.trans (congrArg some (by kernel_rfl))
  f224 := Tryd.func77.trans (congrArg some (by kernel_rfl))
  f225 := Tryd.func76.trans (congrArg some (by kernel_rfl))
  f260 := Tryd.func74.trans (congrArg some (by kernel_rfl))
  f266 := Tryd.func79.trans (congrArg some (by kernel_rfl))
  f267 := Tryd.func78.trans (congrArg some (by kernel_rfl))
  f268 := Tryd.func67.trans (congrArg some (by kernel_rfl))
  f314 := Tryd.func80.trans (congrArg some (by kernel_rfl))
  t0 := Tryd.underlying0
  a0 := Tryd.isAgg0
  z0 := Tryd.sizeOf0
  v0 := Tryd.zeroValue0
  t3 := Tryd.underlying3
  a3 := Tryd.isAgg3
  z3 := Tryd.sizeOf3
  v3 := Tryd.zeroValue3
  t4 := Tryd.underlying4
  a4 := Tryd.isAgg4
  z4 := Tryd.sizeOf4
  v4 := Tryd.zeroValue4
  t5 := Tryd.underlying5
  a5 := Tryd.isAgg5
  z5 := Tryd.sizeOf5
  v5 := Tryd.zeroValue5
  t9 := Tryd.underlying9
  a9 := Tryd.isAgg9
  z9 := Tryd.sizeOf9
  v9 := Tryd.zeroValue9
  t21 := Tryd.underlying21
  a21 := Tryd.isAgg21
  z21 := Tryd.sizeOf21
  v21 := Tryd.zeroValue21
  t31 := Tryd.underlying90
  a31 := Tryd.isAgg90
  z31 := Tryd.sizeOf90
  v31 := Tryd.zeroValue90
  t46 := Tryd.underlying106
  a46 := Tryd.isAgg106
  z46 := Tryd.sizeOf106
  v46 := Tryd.zeroValue106
  t51 := Tryd.underlying111
  a51 := Tryd.isAgg111
  z51 := Tryd.sizeOf111
  v51 := Tryd.zeroValue111
  t105 := Tryd.underlying102
  a105 := Tryd.isAgg102
  z105 := Tryd.sizeOf102
  v105 := Tryd.zeroValue102
  t119 := Tryd.underlying107
  a119 := Tryd.isAgg107
  z119 := Tryd.sizeOf107
  t138 := Tryd.underlying109
  a138 := Tryd.isAgg109
  z138 := Tryd.sizeOf109
  v138 := Tryd.zeroValue109
  t139 := Tryd.underlying110
  a139 := Tryd.isAgg110
  z139 := Tryd.sizeOf110
  v139 := Tryd.zeroValue110
  t146 := Tryd.underlying112
  a146 := Tryd.isAgg112
  z146 := Tryd.sizeOf112
  v146 := Tryd.zeroValue112
  g1 := by kernel_rfl
  g3 := by kernel_rfl
  g4 := by kernel_rfl }

/-- the cells of a row of texts -/
def strV (ps : List (List UInt8)) : List Value := ps.map fun p => .string (B p)
theorem info_str : (Tryd.prog.info? 9).map (fun i => (i.zero, i.size, i.bytes)) = some (some (.string ByteArray.empty), 1, 16) := by kernel_rfl

theorem genSplit_any (s : ByteArray) (w : World) (hs : s.size < 4294967281) :
    Calls Tryd.prog 65 #[.string s, .string ⟨#[47]⟩, .int .i64 0, .int .i64 (-1)] w fun e w' =>
      e = .returned (.slice (some ⟨w.heap.size, 0, none⟩) (spl s.data.toList).length (spl s.data.toList).length) ∧ w' = w.alloc (.cells (strV (spl s.data.toList)).toArray 9) := by
  have hsz : (⟨#[47]⟩ : ByteArray).size = 1 := rfl
  have hle := Lib.countB_le ⟨#[47]⟩ (by rw [hsz]; decide) s.size s (Nat.le_refl _)
  have hlen := Lib.splitB_all ⟨#[47]⟩ (by rw [hsz]; decide) 0 _ s rfl
  have hI : ∀ (x : ByteArray) (c : Array Value), x.size ≤ s.size → Calls Tryd.prog (splRen.f 143) #[.string x, .string ⟨#[47]⟩] (w.alloc (.cells c (splRen.t 9))) fun e w' => e = .returned (.int .i64 (Lib.indexB x ⟨#[47]⟩)) ∧ w' = w.alloc (.cells c (splRen.t 9)) := by
    intro x c _
    refine (Any.strings_Index_one { splLays with } x 47 _).mono ?_
    rintro e w' ⟨rfl, rfl⟩
    refine ⟨?_, rfl⟩
    show _ = Ending.returned (Value.int .i64 (Lib.index x.data.toList [47]))
    rw [Lib.index_one]
  have hC : Calls Tryd.prog (splRen.f 138) #[.string s, .string ⟨#[47]⟩] w fun e w' => e = .returned (.int .i64 (Lib.countB s ⟨#[47]⟩)) ∧ w' = w := by
    refine (Any.strings_Count_one { splLays with } s 47 w).mono ?_
    rintro e w' ⟨rfl, rfl⟩
    refine ⟨?_, rfl⟩
    show _ = Ending.returned (Value.int .i64 ((Lib.count s.data.toList [47] : Nat) : Int))
    rw [Lib.count_one]
    rfl
  have c := Any.strings_genSplit_core splLays info_str s ⟨#[47]⟩ 0 (-1) (Lib.countB s ⟨#[47]⟩ + 1) w hs (by rw [hsz]; decide) (Nat.zero_le _) hI hC (by decide) (by decide) (by rw [if_pos (by decide)]; omega)
  rw [Nat.add_sub_cancel] at c
  have e2 : Lib.cellsOf (Lib.splitB ⟨#[47]⟩ 0 (Lib.countB s ⟨#[47]⟩) s) (Lib.countB s ⟨#[47]⟩ + 1) = ((Lib.splitB ⟨#[47]⟩ 0 (Lib.countB s ⟨#[47]⟩) s).map Value.string).toArray := by rw [← hlen]; exact Lib.cellsOf_full _
  rw [e2, splitB_spl, countB_spl] at c
  refine c.mono ?_
  rintro e w' ⟨rfl, rfl⟩
  refine ⟨by simp, ?_⟩
  simp only [strV, List.map_map]
  rfl

theorem split_any (s : ByteArray) (w : World) (hs : s.size < 4294967281) :
    Calls Tryd.prog 63 #[.string s, .string ⟨#[47]⟩] w fun e w' =>
      e = .returned (.slice (some ⟨w.heap.size, 0, none⟩) (spl s.data.toList).length (spl s.data.toList).length) ∧ w' = w.alloc (.cells (strV (spl s.data.toList)).toArray 9) := by
  have c := genSplit_any s w hs
  go_enter Tryd.func63, Tryd.ntmps63
  go_wp2_with (go_at_call 65; refine c.mono ?_; rintro e w' ⟨rfl, hw⟩; rw [hw])
  go_ret
  exact ⟨rfl, rfl⟩
end Go.Proofs.YtmgmganbamjnmaaDoor

/-
  Rows of texts of a call's own.
-/
namespace Go.Proofs.YtmgmganbamjnmaaDoor
open Go.RowKit
set_option linter.unusedVariables false
set_option maxRecDepth 100000

/-- v is a row of the call's own, from block b on, that holds the texts ps -/
def SRow (w : World) (b : Nat) (v : Value) (ps : List (List UInt8)) : Prop := w.ownsRow b 9 1 v ps.length (strV ps)
theorem strV_len (ps : List (List UInt8)) : (strV ps).length = ps.length := by simp [strV]
theorem SRow.nil (w : World) (b : Nat) : SRow w b (.slice none 0 0) [] := World.ownsRow_nil _ _ _ _
theorem SRow.new (w : World) (ps : List (List UInt8)) (h : ps.length ≤ maxLen) : SRow (w.alloc (.cells (strV ps).toArray 9)) w.heap.size (.slice (some ⟨w.heap.size, 0, none⟩) ps.length ps.length) ps :=
  ⟨by rw [strV_len]; omega, .inr ⟨w.heap.size, ps.length, (strV ps).toArray, rfl, Nat.le_refl _, heap_alloc_new w _, Nat.le_refl _, h, by simp [strV_len], by simp [← strV_len]⟩⟩
theorem SRow.below {w w' : World} {b : Nat} {v : Value} {ps : List (List UInt8)} (h : SRow w b v ps) (hg : Below w.heap.size w w') : SRow w' b v ps := own_below h hg
theorem SRow.drewN {w : World} {b : Nat} {v : Value} {ps : List (List UInt8)} (h : SRow w b v ps) (n : Nat) : SRow (w.drewN n) b v ps := h.below (below_drewN (Below.refl _ _) n)
theorem SRow.mono {w : World} {b c : Nat} {v : Value} {ps : List (List UInt8)} (h : SRow w b v ps) (hc : c ≤ b) : SRow w c v ps := by
  obtain ⟨h1, h2⟩ := h
  refine ⟨h1, h2.imp id ?_⟩
  rintro ⟨g, cap, cur, a1, a2, a3⟩
  exact ⟨g, cap, cur, a1, Nat.le_trans hc a2, a3⟩
/-- what it is -/
theorem SRow.cases {w : World} {b : Nat} {v : Value} {ps : List (List UInt8)} (h : SRow w b v ps) : (v = .slice none 0 0 ∧ ps = []) ∨ ∃ g cap, v = .slice (some ⟨g, 0, none⟩) ps.length cap ∧ b ≤ g ∧ g < w.heap.size ∧ ps.length ≤ cap ∧ cap ≤ maxLen ∧ ∀ j x, (ps.map B)[j]? = some x → w.cell? ⟨g, 0 + j, none⟩ = some (.string x) := by
  obtain ⟨h1, h2 | ⟨g, cap, cur, a1, a2, a3, a4, a5, a6, a7⟩⟩ := h
  · exact .inl ⟨h2.1, List.length_eq_zero_iff.1 h2.2⟩
  · have hg : g < w.heap.size := by
      rcases Nat.lt_or_ge g w.heap.size with h' | h'
      · exact h'
      · simp [Array.getElem?_eq_none h'] at a3
    refine .inr ⟨g, cap, a1, a2, hg, a4, a5, ?_⟩
    intro j x hx
    have hj : j < ps.length := by
      rcases Nat.lt_or_ge j ps.length with h' | h'
      · exact h'
      · rw [List.getElem?_eq_none (by simpa using h')] at hx; exact absurd hx (by simp)
    rw [Nat.zero_add, Lib.cell_of_heap a3]
    have e : (cur.toList.take (ps.length * 1))[j]? = (strV ps)[j]? := by rw [a7]
    rw [List.getElem?_take, if_pos (by omega)] at e
    simp only [strV, List.getElem?_map] at e hx
    rw [← Array.getElem?_toList, e]
    cases hp : ps[j]? with
    | none => rw [hp] at hx; exact absurd hx (by simp)
    | some p => rw [hp] at hx; simp at hx ⊢; exact hx
/-- its last text taken off -/
theorem SRow.cut {w : World} {b g cap : Nat} {ps : List (List UInt8)} (h : SRow w b (.slice (some ⟨g, 0, none⟩) ps.length cap) ps) : SRow w b (.slice (some ⟨g, 0, none⟩) (ps.length - 1) cap) ps.dropLast := by
  obtain ⟨h1, h2 | ⟨g', cap', cur, a1, a2, a3, a4, a5, a6, a7⟩⟩ := h
  · exact absurd h2.1 (by simp)
  · injection a1 with b1 b2 b3
    injection b1 with b1
    injection b1 with b1
    subst b1; subst b3
    refine ⟨by simp [strV_len], .inr ⟨g, cap, cur, by simp, a2, a3, by simp; omega, a5, a6, ?_⟩⟩
    simp only [List.length_dropLast, Nat.mul_one] at a7 ⊢
    have : strV ps.dropLast = (strV ps).take (ps.length - 1) := by
      simp [strV, List.dropLast_eq_take]
    rw [this, ← a7, List.take_take]
    congr 1
    omega
end Go.Proofs.YtmgmganbamjnmaaDoor
