/-
  A map of files by their names; the library's sort.Strings on a row of the call's own.
-/
import Derived.Test.YtfojmdbpjkkpbaeDoorMg9
import Derived.Test.YtfojmdbpjkkpbaeDoorNmL0
import Derived.Shelf.Sort.Plain
import Derived.Shelf.Slices.In.SortNone2
import Derived.Sort.OwnSorted
import Derived.MapFrom
namespace Go.Proofs.YtfojmdbpjkkpbaeDoor
open Go.RowKit
set_option linter.unusedVariables false
set_option maxRecDepth 100000

def strRen : Go.Shelf.Ren := ⟨fun | 192 => 51 | 190 => 76 | 125 => 89 | 258 => 88 | 128 => 107 | 129 => 108 | 302 => 98 | 303 => 99 | 304 => 100 | 305 => 101 | 306 => 102 | 307 => 103 | 308 => 104 | 309 => 105 | 310 => 106 | 333 => 113 | 329 => 114 | 330 => 115 | 334 => 116 | 335 => 117 | 336 => 90 | 344 => 118 | n => n, fun | 31 => 22 | 0 => 0 | 9 => 9 | 3 => 3 | 46 => 103 | 51 => 126 | 53 => 128 | 4 => 4 | 183 => 120 | 182 => 119 | 131 => 87 | 5 => 5 | 218 => 136 | 222 => 140 | 228 => 142 | 229 => 143 | n => n, fun | n => n⟩
theorem strLays : Go.Proofs.Lays.n192 Tryd.prog strRen := {
  mixed := by kernel_rfl
  f125 := Tryd.func89.trans (congrArg some (by kernel_rfl))
  f128 := Tryd.func107.trans (congrArg some (by kernel_rfl))
  f129 := Tryd.func108.trans (congrArg some (by kernel_rfl))
  f190 := Tryd.func76.trans (congrArg some (by kernel_rfl))
  f192 := Tryd.func51.trans (congrArg some (by kernel_rfl))
  f258 := Tryd.func88.trans (congrArg some (by kernel_rfl))
  f302 := Tryd.func98.trans (congrArg some (by kernel_rfl))
  f303 := Tryd.func99.trans (congrArg some (by kernel_rfl))
  f304 := Tryd.func100.trans (congrArg some (by kernel_rfl))
  f305 := Tryd.func101.trans (congrArg some (by kernel_rfl))
  f306 := Tryd.func102.trans (congrArg some (by kernel_rfl))
  f307 := Tryd.func103.trans (congrArg some (by kernel_rfl))
  f308 := Tryd.func104.trans (congrArg some (by kernel_rfl))
  f309 := Tryd.func105.trans (congrArg some (by kernel_rfl))
  f310 := Tryd.func106.trans (congrArg some (by kernel_rfl))
  f329 := Tryd.func114.trans (congrArg some (by kernel_rfl))
  f330 := Tryd.func115.trans (congrArg some (by kernel_rfl))
  f333 := Tryd.func113.trans (congrArg some (by kernel_rfl))
  f334 := Tryd.func116.trans (congrArg some (by kernel_rfl))
  f335 := Tryd.func117.trans (congrArg some (by kernel_rfl))
  f336 := Tryd.func90.trans (congrArg some (by kernel_rfl))
  f344 := Tryd.func118.trans (congrArg some (by kernel_rfl))
  t0 := Tryd.underlying0
  a0 := Tryd.isAgg0
  z0 := Tryd.sizeOf0
  v0 := Tryd.zeroValue0
  t3 := Tryd.underlying3
  a3 := Tryd.isAgg3
  z3 := Tryd.sizeOf3
  v3 := Tryd.zeroValue3
  t4 := Tryd.underlying4
  a4 := Tryd.isAgg4
  z4 := Tryd.sizeOf4
  v4 := Tryd.zeroValue4
  t5 := Tryd.underlying5
  a5 := Tryd.isAgg5
  z5 := Tryd.sizeOf5
  v5 := Tryd.zeroValue5
  t9 := Tryd.underlying9
  a9 := Tryd.isAgg9
  z9 := Tryd.sizeOf9
  v9 := Tryd.zeroValue9
  t31 := Tryd.underlying22
  a31 := Tryd.isAgg22
  z31 := Tryd.sizeOf22
  v31 := Tryd.zeroValue22
  t46 := Tryd.underlying103
  a46 := Tryd.isAgg103
  z46 := Tryd.sizeOf103
  v46 := Tryd.zeroValue103
  t51 := Tryd.underlying126
  a51 := Tryd.isAgg126
  z51 := Tryd.sizeOf126
  v51 := Tryd.zeroValue126
  t53 := Tryd.underlying128
  a53 := Tryd.isAgg128
  z53 := Tryd.sizeOf128
  v53 := Tryd.zeroValue128
  t131 := Tryd.underlying87
  a131 := Tryd.isAgg87
  z131 := Tryd.sizeOf87
  v131 := Tryd.zeroValue87
  t182 := Tryd.underlying119
  a182 := Tryd.isAgg119
  z182 := Tryd.sizeOf119
  v182 := Tryd.zeroValue119
  t183 := Tryd.underlying120
  a183 := Tryd.isAgg120
  z183 := Tryd.sizeOf120
  v183 := Tryd.zeroValue120
  t218 := Tryd.underlying136
  a218 := Tryd.isAgg136
  z218 := Tryd.sizeOf136
  v218 := Tryd.zeroValue136
  t222 := Tryd.underlying140
  a222 := Tryd.isAgg140
  z222 := Tryd.sizeOf140
  v222 := Tryd.zeroValue140
  t228 := Tryd.underlying142
  a228 := Tryd.isAgg142
  z228 := Tryd.sizeOf142
  v228 := Tryd.zeroValue142
  t229 := Tryd.underlying143
  a229 := Tryd.isAgg143
  z229 := Tryd.sizeOf143
  v229 := Tryd.zeroValue143 }


def srtS (ps : List (List UInt8)) : List (List UInt8) := ps.mergeSort fun x y => decide (x ≤ y)
theorem sortStr {b : Nat} {v : Value} {ps : List (List UInt8)} {w : World} (h : SRow w b v ps) (hn : ps.length ≤ 1000) :
    Calls Tryd.prog 51 #[v] w fun e w' => e = .returned (.tuple #[]) ∧ SRow w' b v (srtS ps) ∧ w.grownBy w' v.ownBlock := by
  rcases h.2 with ⟨h1, h2⟩ | ⟨g, cap, cur, h1, hg, hb, k1, k2, k3, k4⟩
  · have hp : ps = [] := List.eq_nil_of_length_eq_zero h2
    subst hp
    subst h1
    refine (Any.sort_Strings_none strLays none 0 w).mono ?_
    rintro e w' ⟨rfl, rfl⟩
    exact ⟨rfl, by have : srtS [] = [] := by simp [srtS]
                   rw [this]; exact h, ⟨rfl, rfl, rfl, Nat.le_refl _, fun _ _ _ => rfl⟩⟩
  · subst h1
    have hgl : g < w.heap.size := (World.ownsRow.lt h g rfl).2
    have hH := holds_of_block (ss := ps) hb (by rw [Nat.mul_one] at k4; exact k4)
    refine (Any.sort_Strings strLays g 0 cap ps w hH hgl (by omega)).mono ?_
    rintro e w' ⟨rfl, k, os, rfl⟩
    refine ⟨rfl, ?_, grownBy_sorted _⟩
    have hl : (srtS ps).length = ps.length := List.length_mergeSort _
    have := ownsRow_sorted (base := b) (e := 9) (n := k) (os := os) (ss := ps) (ts := srtS ps) hl hg hb k1 k2 k3
    unfold SRow
    rw [hl]
    exact this

/-- the map in block r holds these files by their names -/
def MapIs (w : World) (r : Nat) (M : List Fv) : Prop := ∃ es clock, w.heap[r]? = some (.map es clock) ∧ es.toList.map (fun e => (e.key, e.val)) = M.map (fun x : Fv => (Value.string (B x.f.name), x.val))
theorem MapIs.new (w : World) : MapIs (w.alloc (.map #[] 0)) w.heap.size [] := ⟨#[], 0, heap_alloc_new _ _, rfl⟩
theorem MapIs.lt {w : World} {r : Nat} {M : List Fv} (h : MapIs w r M) : r < w.heap.size := by
  obtain ⟨es, c, h1, _⟩ := h
  rcases Nat.lt_or_ge r w.heap.size with h' | h'
  · exact h'
  · rw [Array.getElem?_eq_none h'] at h1; cases h1
theorem MapIs.grown {w w' : World} {r : Nat} {M : List Fv} {o : Option Nat} (h : MapIs w r M) (hg : w.grownBy w' o) (hr : some r ≠ o) : MapIs w' r M := by
  have hl := h.lt
  obtain ⟨es, c, h1, h2⟩ := h
  exact ⟨es, c, (hg.block r hl hr).trans h1, h2⟩
theorem MapIs.below {w w' : World} {r : Nat} {M : List Fv} (h : MapIs w r M) (hB : Below w.heap.size w w') : MapIs w' r M := h.grown (below_grown hB) (by simp)
/-- where a name is first met -/
def fm (n : List UInt8) : List Fv → Nat → Option (Nat × Fv)
  | [], _ => none
  | x :: r, i => if x.f.name = n then some (i, x) else fm n r (i + 1)
theorem beqB (a b : List UInt8) : (B a == B b) = decide (a = b) := by
  show (a.toArray == b.toArray) = _
  rw [Bool.eq_iff_iff]
  simp
theorem find_fm (n : List UInt8) : ∀ (l : List MapEntry) (M : List Fv) (i : Nat), l.map (fun e => (e.key, e.val)) = M.map (fun x : Fv => (Value.string (B x.f.name), x.val)) → Instr.findNow .string (.string (B n)) l i = some ((fm n M i).map fun p => (p.1, p.2.val))
  | [], [], i, _ => rfl
  | [], x :: M, i, h => by cases h
  | e :: l, [], i, h => by cases h
  | e :: l, x :: M, i, h => by
    simp only [List.map_cons, List.cons.injEq, Prod.mk.injEq] at h
    obtain ⟨⟨h1, h2⟩, h3⟩ := h
    rw [Instr.findNow, h1]
    show (match (some (B n == B x.f.name) : Option Bool) with | some true => _ | some false => _ | none => _) = _
    by_cases e0 : x.f.name = n
    · have : (B n == B x.f.name) = true := by rw [beqB]; exact decide_eq_true e0.symm
      rw [this]
      simp only [fm, if_pos e0, Option.map_some, h2]
    · have : (B n == B x.f.name) = false := by rw [beqB]; exact decide_eq_false (fun e2 => e0 e2.symm)
      rw [this]
      simp only [fm, if_neg e0]
      exact find_fm n l M (i + 1) h3
theorem fm_at {n : List UInt8} : ∀ {M : List Fv} {i j : Nat} {x : Fv}, fm n M i = some (j, x) → x.f.name = n ∧ i ≤ j ∧ M[j - i]? = some x ∧ lookF n (fls M) = some x.f
  | [], i, j, x, h => by cases h
  | y :: M, i, j, x, h => by
    rw [fm] at h
    by_cases e : y.f.name = n
    · rw [if_pos e] at h
      cases h
      refine ⟨e, Nat.le_refl _, by simp, ?_⟩
      unfold lookF
      simp [fls, e]
    · rw [if_neg e] at h
      obtain ⟨h1, h2, h3, h4⟩ := fm_at h
      refine ⟨h1, by omega, ?_, ?_⟩
      · rw [show j - i = (j - (i + 1)) + 1 by omega]
        simpa using h3
      · unfold lookF at h4 ⊢
        have : (y.f.name == n) = false := by simpa using e
        simpa [fls, List.find?_cons, this] using h4
theorem fm_none {n : List UInt8} : ∀ {M : List Fv} {i : Nat}, fm n M i = none → lookF n (fls M) = none
  | [], i, _ => rfl
  | y :: M, i, h => by
    rw [fm] at h
    by_cases e : y.f.name = n
    · rw [if_pos e] at h; cases h
    · rw [if_neg e] at h
      have h4 := fm_none h
      unfold lookF at h4 ⊢
      have : (y.f.name == n) = false := by simpa using e
      simpa [fls, List.find?_cons, this] using h4
def zeroF : Value := .agg #[.string ⟨#[]⟩, .slice none 0 0, .int .i64 0, .int .i64 0, .bool false]
theorem zeroF_run (W : World) : (zeroValue 40).run Tryd.prog W = .ok zeroF W := Tryd.zeroValue40 W
theorem map_get {w : World} {r : Nat} {M : List Fv} (h : MapIs w r M) (n : List UInt8) (ok : Bool) : (Instr.lookup 83 (.map (some r)) (.string (B n)) ok).run Tryd.prog w = .ok (if ok then .tuple #[(match fm n M 0 with | some p => p.2.val | none => zeroF), .bool (fm n M 0).isSome] else (match fm n M 0 with | some p => p.2.val | none => zeroF)) w := by
  obtain ⟨es, c, hb, he⟩ := h
  have hk := Tryd.underlying9
  have hf := find_fm n es.toList M 0 he
  have hc : ∀ e, (Instr.checkKey e 10000 9 (.string (B n))).run Tryd.prog w = .ok () w := fun e => MapKept.run_checkKey (k := .string (B n)) hk (by simp [MapKept.IsKey]) e 9999
  have hz := zeroF_run w
  cases hfm : fm n M 0 with
  | none =>
    rw [hfm] at hf
    simp only [Option.map_none] at hf
    cases ok <;> simp [Instr.lookup, run_underlying Tryd.underlying83, MapKept.run_getObj_map hb, hc, MapKept.run_findKey hk hf, hz, Result.andThen]
  | some p =>
    rw [hfm] at hf
    simp only [Option.map_some] at hf
    cases ok <;> simp [Instr.lookup, run_underlying Tryd.underlying83, MapKept.run_getObj_map hb, hc, MapKept.run_findKey hk hf, Result.andThen]
/-- a file laid into the map -/
def addM (M : List Fv) (y : Fv) : List Fv := match fm y.f.name M 0 with | some p => M.set p.1 y | none => M ++ [y]
theorem map_put {w : World} {r : Nat} {M : List Fv} (h : MapIs w r M) (y : Fv) : ∃ w', (Instr.mapUpdate 83 (.map (some r)) (.string (B y.f.name)) y.val).run Tryd.prog w = .ok () w' ∧ MapIs w' r (addM M y) ∧ w.grownBy w' (some r) := by
  have hl := h.lt
  obtain ⟨es, c, hb, he⟩ := h
  have hk := Tryd.underlying9
  have hf := find_fm y.f.name es.toList M 0 he
  have hc : (Instr.checkKey false 10000 9 (.string (B y.f.name))).run Tryd.prog w = .ok () w := MapKept.run_checkKey (k := .string (B y.f.name)) hk (by simp [MapKept.IsKey]) false 9999
  have hgr : ∀ o, w.grownBy { w with heap := w.heap.setIfInBounds r o } (some r) := fun o => ⟨rfl, rfl, rfl, by simp, fun k hk hne => by
    have : r ≠ k := fun e => hne (by rw [e])
    simp [this]⟩
  have hget : ∀ o, ({ w with heap := w.heap.setIfInBounds r o } : World).heap[r]? = some o := fun o => by simp [hl]
  cases hfm : fm y.f.name M 0 with
  | none =>
    rw [hfm] at hf
    simp only [Option.map_none] at hf
    refine ⟨{ w with heap := w.heap.setIfInBounds r (.map (es.push { key := .string (B y.f.name), val := y.val, born := c }) (c + 1)) }, ?_, ⟨_, _, hget _, ?_⟩, hgr _⟩
    · simp [Instr.mapUpdate, run_underlying Tryd.underlying83, MapKept.run_getObj_map hb, hc, MapKept.run_findKey hk hf, MapKept.run_setObj_map _ hb, Result.andThen]
    · unfold addM
      rw [hfm]
      simp [he]
  | some p =>
    rw [hfm] at hf
    simp only [Option.map_some] at hf
    obtain ⟨p1, p2⟩ := p
    obtain ⟨q1, q2, q3, q4⟩ := fm_at hfm
    simp only [Nat.sub_zero] at q3
    have hi : p1 < es.size := by
      have hM : p1 < M.length := (List.getElem?_eq_some_iff.1 q3).1
      have := congrArg List.length he
      simp at this
      omega
    have hkey : ((es[p1]?).map (·.key)).getD (.string (B y.f.name)) = .string (B y.f.name) := by
      have h1 := congrArg (fun l => l[p1]?) he
      simp [q3, hi] at h1
      rw [Array.getElem?_eq_getElem hi]
      show es[p1].key = _
      rw [h1.1, q1]
    have hst : (Instr.keyThatStays (.string (B y.f.name)) (.string (B y.f.name))).run Tryd.prog w = .ok (.string (B y.f.name)) w := MapKept.run_keyThatStays (d := .string) (by simp [MapKept.IsKey])
    refine ⟨{ w with heap := w.heap.setIfInBounds r (.map (es.modify p1 fun e => { e with key := .string (B y.f.name), val := y.val }) c) }, ?_, ⟨_, _, hget _, ?_⟩, hgr _⟩
    · simp [Instr.mapUpdate, run_underlying Tryd.underlying83, MapKept.run_getObj_map hb, hc, MapKept.run_findKey hk hf, hkey, hst, MapKept.run_setObj_map _ hb, Result.andThen]
    · unfold addM
      rw [hfm]
      apply List.ext_getElem?
      intro i
      have h1 := congrArg (fun l => l[i]?) he
      simp only [List.getElem?_map, Array.getElem?_toList, List.getElem?_set, Array.getElem?_modify] at h1 ⊢
      by_cases e : p1 = i
      · subst e
        have hM : p1 < M.length := (List.getElem?_eq_some_iff.1 q3).1
        simp [hi, hM]
      · simp only [if_neg e]
        exact h1
end Go.Proofs.YtfojmdbpjkkpbaeDoor
