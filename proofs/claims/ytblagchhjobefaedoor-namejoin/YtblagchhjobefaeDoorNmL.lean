/-
  Functions of the library on texts and on rows of texts, laid by the kit's own contracts: strings.Join, strings.HasPrefix, slices.Equal.
-/
import Derived.Test.YtblagchhjobefaeDoorNmS
import Derived.Test.YtblagchhjobefaeDoorOwnB
import Derived.Shelf.Strings.OnBuilder
import Derived.Shelf.Strings.Prefix
import Derived.Shelf.Slices.Equal
import Derived.Shelf.Slices.Empties2
namespace Go.Proofs.YtblagchhjobefaeDoor
open Go.RowKit
set_option linter.unusedVariables false
set_option maxRecDepth 100000

/-- v is a row of the call's own, from block b on, that holds the texts ps -/
def SRow (w : World) (b : Nat) (v : Value) (ps : List (List UInt8)) : Prop := w.ownsRow b 9 1 v ps.length (strV ps)
theorem strV_len (ps : List (List UInt8)) : (strV ps).length = ps.length := by simp [strV]
theorem SRow.nil (w : World) (b : Nat) : SRow w b (.slice none 0 0) [] := World.ownsRow_nil _ _ _ _
theorem SRow.new (w : World) (ps : List (List UInt8)) (h : ps.length ≤ maxLen) : SRow (w.alloc (.cells (strV ps).toArray 9)) w.heap.size (.slice (some ⟨w.heap.size, 0, none⟩) ps.length ps.length) ps :=
  ⟨by rw [strV_len]; omega, .inr ⟨w.heap.size, ps.length, (strV ps).toArray, rfl, Nat.le_refl _, heap_alloc_new w _, Nat.le_refl _, h, by simp [strV_len], by simp [← strV_len]⟩⟩
theorem SRow.below {w w' : World} {b : Nat} {v : Value} {ps : List (List UInt8)} (h : SRow w b v ps) (hg : Below w.heap.size w w') : SRow w' b v ps := own_below h hg
theorem SRow.drewN {w : World} {b : Nat} {v : Value} {ps : List (List UInt8)} (h : SRow w b v ps) (n : Nat) : SRow (w.drewN n) b v ps := h.below (below_drewN (Below.refl _ _) n)
theorem SRow.mono {w : World} {b c : Nat} {v : Value} {ps : List (List UInt8)} (h : SRow w b v ps) (hc : c ≤ b) : SRow w c v ps := by
  obtain ⟨h1, h2⟩ := h
  refine ⟨h1, h2.imp id ?_⟩
  rintro ⟨g, cap, cur, a1, a2, a3⟩
  exact ⟨g, cap, cur, a1, Nat.le_trans hc a2, a3⟩
/-- what it is -/
theorem SRow.cases {w : World} {b : Nat} {v : Value} {ps : List (List UInt8)} (h : SRow w b v ps) : (v = .slice none 0 0 ∧ ps = []) ∨ ∃ g cap, v = .slice (some ⟨g, 0, none⟩) ps.length cap ∧ b ≤ g ∧ g < w.heap.size ∧ ps.length ≤ cap ∧ cap ≤ maxLen ∧ ∀ j x, (ps.map B)[j]? = some x → w.cell? ⟨g, 0 + j, none⟩ = some (.string x) := by
  obtain ⟨h1, h2 | ⟨g, cap, cur, a1, a2, a3, a4, a5, a6, a7⟩⟩ := h
  · exact .inl ⟨h2.1, List.length_eq_zero_iff.1 h2.2⟩
  · have hg : g < w.heap.size := by
      rcases Nat.lt_or_ge g w.heap.size with h' | h'
      · exact h'
      · simp [Array.getElem?_eq_none h'] at a3
    refine .inr ⟨g, cap, a1, a2, hg, a4, a5, ?_⟩
    intro j x hx
    have hj : j < ps.length := by
      rcases Nat.lt_or_ge j ps.length with h' | h'
      · exact h'
      · rw [List.getElem?_eq_none (by simpa using h')] at hx; exact absurd hx (by simp)
    rw [Nat.zero_add, Lib.cell_of_heap a3]
    have e : (cur.toList.take (ps.length * 1))[j]? = (strV ps)[j]? := by rw [a7]
    rw [List.getElem?_take, if_pos (by omega)] at e
    simp only [strV, List.getElem?_map] at e hx
    rw [← Array.getElem?_toList, e]
    cases hp : ps[j]? with
    | none => rw [hp] at hx; exact absurd hx (by simp)
    | some p => rw [hp] at hx; simp at hx ⊢; exact hx
/-- its last text taken off -/
theorem SRow.cut {w : World} {b g cap : Nat} {ps : List (List UInt8)} (h : SRow w b (.slice (some ⟨g, 0, none⟩) ps.length cap) ps) : SRow w b (.slice (some ⟨g, 0, none⟩) (ps.length - 1) cap) ps.dropLast := by
  obtain ⟨h1, h2 | ⟨g', cap', cur, a1, a2, a3, a4, a5, a6, a7⟩⟩ := h
  · exact absurd h2.1 (by simp)
  · injection a1 with b1 b2 b3
    injection b1 with b1
    injection b1 with b1
    subst b1; subst b3
    refine ⟨by simp [strV_len], .inr ⟨g, cap, cur, by simp, a2, a3, by simp; omega, a5, a6, ?_⟩⟩
    simp only [List.length_dropLast, Nat.mul_one] at a7 ⊢
    have : strV ps.dropLast = (strV ps).take (ps.length - 1) := by
      simp [strV, List.dropLast_eq_take]
    rw [this, ← a7, List.take_take]
    congr 1
    omega

def joiRen : Go.Shelf.Ren := ⟨fun | 156 => 15 | 165 => 21 | 166 => 22 | 169 => 23 | 240 => 36 | 241 => 37 | 276 => 45 | 277 => 46 | n => n, fun | 31 => 22 | 9 => 9 | 3 => 3 | 4 => 4 | 0 => 0 | 20 => 20 | 72 => 45 | 76 => 49 | 70 => 42 | 37 => 43 | 75 => 48 | 127 => 62 | 164 => 70 | 5 => 5 | 80 => 51 | n => n, fun | n => n⟩
theorem joiLays : Go.Proofs.Lays.n156 Tryd.prog joiRen := {
  mixed := by kernel_rfl
  f156 := Tryd.func15.trans (congrArg some (by kernel_rfl))
  f165 := Tryd.func21.trans (congrArg some (by kernel_rfl))
  f166 := Tryd.func22.trans (congrArg some (by kernel_rfl))
  f169 := Tryd.func23.trans (congrArg some (by kernel_rfl))
  f240 := Tryd.func36.trans (congrArg some (by kernel_rfl))
  f241 := Tryd.func37.trans (congrArg some (by kernel_rfl))
  f276 := Tryd.func45.trans (congrArg some (by kernel_rfl))
  f277 := Tryd.func46.trans (congrArg some (by kernel_rfl))
  t0 := Tryd.underlying0
  a0 := Tryd.isAgg0
  z0 := Tryd.sizeOf0
  v0 := Tryd.zeroValue0
  t3 := Tryd.underlying3
  a3 := Tryd.isAgg3
  z3 := Tryd.sizeOf3
  v3 := Tryd.zeroValue3
  t4 := Tryd.underlying4
  a4 := Tryd.isAgg4
  z4 := Tryd.sizeOf4
  v4 := Tryd.zeroValue4
  t9 := Tryd.underlying9
  a9 := Tryd.isAgg9
  z9 := Tryd.sizeOf9
  v9 := Tryd.zeroValue9
  t20 := Tryd.underlying20
  a20 := Tryd.isAgg20
  z20 := Tryd.sizeOf20
  v20 := Tryd.zeroValue20
  t31 := Tryd.underlying22
  a31 := Tryd.isAgg22
  z31 := Tryd.sizeOf22
  v31 := Tryd.zeroValue22
  t37 := Tryd.underlying43
  a37 := Tryd.isAgg43
  z37 := Tryd.sizeOf43
  v37 := Tryd.zeroValue43
  t70 := Tryd.underlying42
  a70 := Tryd.isAgg42
  z70 := Tryd.sizeOf42
  v70 := Tryd.zeroValue42
  t72 := Tryd.underlying45
  a72 := Tryd.isAgg45
  z72 := Tryd.sizeOf45
  v72 := Tryd.zeroValue45
  t75 := Tryd.underlying48
  a75 := Tryd.isAgg48
  z75 := Tryd.sizeOf48
  v75 := Tryd.zeroValue48
  t76 := Tryd.underlying49
  a76 := Tryd.isAgg49
  z76 := Tryd.sizeOf49
  v76 := Tryd.zeroValue49
  t127 := Tryd.underlying62
  a127 := Tryd.isAgg62
  z127 := Tryd.sizeOf62
  v127 := Tryd.zeroValue62
  t164 := Tryd.underlying70
  a164 := Tryd.isAgg70
  z164 := Tryd.sizeOf70
  v164 := Tryd.zeroValue70 }
theorem joiExtra : Go.Proofs.Builder.Extra Tryd.prog joiRen := {
  sizeBuilder := by kernel_rfl
  liesBuilder := by kernel_rfl
  t5 := Tryd.underlying5
  a5 := Tryd.isAgg5
  z5 := Tryd.sizeOf5
  v5 := Tryd.zeroValue5
  infoByte := by kernel_rfl
  cellsByte := by kernel_rfl
  sizeByte := by kernel_rfl
  neB5 := by decide }
theorem joinS {b : Nat} {v : Value} {ps : List (List UInt8)} {w : World} (h : SRow w b v ps) (hn : ps.length ≤ 1000) (hl : (jn ps).length ≤ 1000000) :
    Calls Tryd.prog 15 #[v, .string ⟨#[47]⟩] w fun e w' => e = .returned (.string (B (jn ps))) ∧ Below w.heap.size w w' := by
  rcases h.cases with ⟨rfl, rfl⟩ | ⟨g, cap, rfl, hg, hgs, hc, hm, hcell⟩
  · refine (Any.strings_Join_none joiLays joiExtra none 0 ⟨#[47]⟩ w).mono ?_
    rintro e w' ⟨rfl, rfl⟩
    exact ⟨rfl, Below.refl _ _⟩
  · have e1 : (ps.map B).map (fun x : ByteArray => x.data.toList) = ps := by
      rw [List.map_map]
      have : ((fun x : ByteArray => x.data.toList) ∘ B) = id := by funext l; rfl
      rw [this, List.map_id]
    have h47 : (⟨#[47]⟩ : ByteArray).data.toList = [47] := rfl
    have c := Any.strings_Join joiLays joiExtra g 0 cap (ps.map B) ⟨#[47]⟩ w hcell hgs (by simp; omega) (by simpa using hc) (by
      rw [e1, h47]
      show (jn ps).length ≤ _
      omega)
    rw [e1, h47, List.length_map] at c
    exact c

def preRen : Go.Shelf.Ren := ⟨fun | 99 => 17 | 206 => 25 | n => n, fun | 9 => 9 | 4 => 4 | 3 => 3 | n => n, fun | n => n⟩
theorem preLays : Go.Proofs.Lays.n99 Tryd.prog preRen := {
  mixed := by kernel_rfl
  f99 := Tryd.func17.trans (congrArg some (by kernel_rfl))
  f206 := Tryd.func25.trans (congrArg some (by kernel_rfl))
  t3 := Tryd.underlying3
  a3 := Tryd.isAgg3
  z3 := Tryd.sizeOf3
  v3 := Tryd.zeroValue3
  t4 := Tryd.underlying4
  a4 := Tryd.isAgg4
  z4 := Tryd.sizeOf4
  v4 := Tryd.zeroValue4
  t9 := Tryd.underlying9
  a9 := Tryd.isAgg9
  z9 := Tryd.sizeOf9
  v9 := Tryd.zeroValue9 }
theorem prefixS (s p : List UInt8) (w : World) :
    Calls Tryd.prog 17 #[.string (B s), .string (B p)] w fun e w' => e = .returned (.bool (p.isPrefixOf s)) ∧ w' = w :=
  Any.strings_HasPrefix preLays (B s) (B p) w

def equRen : Go.Shelf.Ren := ⟨fun | 193 => 11 | n => n, fun | 31 => 22 | 9 => 9 | 4 => 4 | 3 => 3 | 0 => 0 | n => n, fun | n => n⟩
theorem equLays : Go.Proofs.Lays.n193 Tryd.prog equRen := {
  mixed := by kernel_rfl
  f193 := Tryd.func11.trans (congrArg some (by kernel_rfl))
  t0 := Tryd.underlying0
  a0 := Tryd.isAgg0
  z0 := Tryd.sizeOf0
  v0 := Tryd.zeroValue0
  t3 := Tryd.underlying3
  a3 := Tryd.isAgg3
  z3 := Tryd.sizeOf3
  v3 := Tryd.zeroValue3
  t4 := Tryd.underlying4
  a4 := Tryd.isAgg4
  z4 := Tryd.sizeOf4
  v4 := Tryd.zeroValue4
  t9 := Tryd.underlying9
  a9 := Tryd.isAgg9
  z9 := Tryd.sizeOf9
  v9 := Tryd.zeroValue9
  t31 := Tryd.underlying22
  a31 := Tryd.isAgg22
  z31 := Tryd.sizeOf22
  v31 := Tryd.zeroValue22 }
theorem getD_B (ps : List (List UInt8)) (j : Nat) (hj : j < (ps.map B).length) : (ps.map B)[j]? = some ((ps.map B).getD j ByteArray.empty) := by
  simp only [List.length_map] at hj
  simp [List.getD, hj]
theorem equalS {b c : Nat} {v u : Value} {ps qs : List (List UInt8)} {w : World} (h : SRow w b v ps) (h2 : SRow w c u qs) :
    Calls Tryd.prog 11 #[v, u] w fun e w' => e = .returned (.bool (decide (ps = qs))) ∧ ∃ q, w' = w.drewN q := by
  have done0 : ∀ w' : World, w' = w → ∃ q, w' = w.drewN q := fun w' e => ⟨0, by rw [e]; rfl⟩
  rcases h.cases with ⟨rfl, rfl⟩ | ⟨g, cap, rfl, hg, hgs, hc, hm, hcell⟩
  · rcases h2.cases with ⟨rfl, rfl⟩ | ⟨g2, cap2, rfl, hg2, hgs2, hc2, hm2, hcell2⟩
    · refine (Any.slices_Equal_string_empty equLays none none 0 0 0 w (by decide)).mono ?_
      rintro e w' ⟨rfl, hw⟩
      exact ⟨rfl, done0 _ hw⟩
    · unfold maxLen at hm2
      refine (Any.slices_Equal_string_empty equLays none _ 0 qs.length cap2 w (by omega)).mono ?_
      rintro e w' ⟨rfl, hw⟩
      refine ⟨ret_bool ?_, done0 _ hw⟩
      rw [decide_eq_decide]
      rw [List.length_eq_zero_iff]
      exact ⟨fun e => e.symm, fun e => e.symm⟩
  · rcases h2.cases with ⟨rfl, rfl⟩ | ⟨g2, cap2, rfl, hg2, hgs2, hc2, hm2, hcell2⟩
    · by_cases h0 : ps.length = 0
      · rw [h0]
        refine (Any.slices_Equal_string_empty equLays _ none cap 0 0 w (by decide)).mono ?_
        rintro e w' ⟨rfl, hw⟩
        refine ⟨ret_bool ?_, done0 _ hw⟩
        rw [List.length_eq_zero_iff.1 h0]
        rfl
      · refine (Any.slices_Equal_string_lens equLays _ none ps.length cap 0 0 w h0).mono ?_
        rintro e w' ⟨rfl, hw⟩
        refine ⟨ret_bool ?_, done0 _ hw⟩
        have : ps ≠ [] := fun e => h0 (by rw [e]; rfl)
        simp [this]
    · unfold maxLen at hm hm2
      refine (Any.slices_Equal_string equLays g 0 ps.length cap g2 0 qs.length cap2 (ps.map B) (qs.map B) w (by simp) (by simp) (by omega) (by omega) (fun j hj => hcell j _ (getD_B ps j hj)) (fun j hj => hcell2 j _ (getD_B qs j hj))).mono ?_
      rintro e w' ⟨rfl, hw⟩
      refine ⟨ret_bool ?_, hw⟩
      rw [decide_eq_decide, List.take_of_length_le (by simp), List.take_of_length_le (by simp)]
      constructor
      · intro e
        have := congrArg (List.map fun x : ByteArray => x.data.toList) e
        simp only [List.map_map] at this
        have e3 : ((fun x : ByteArray => x.data.toList) ∘ B) = id := by funext l; rfl
        rw [e3, List.map_id, List.map_id] at this
        exact this
      · intro e; rw [e]

end Go.Proofs.YtblagchhjobefaeDoor
