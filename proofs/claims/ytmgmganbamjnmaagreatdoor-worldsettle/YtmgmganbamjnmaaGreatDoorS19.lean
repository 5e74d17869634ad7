/-
  A map of files by their names; the library's sort.Strings on a row of the call's own.
-/
import Derived.Test.YtmgmganbamjnmaaGreatDoorS16
import Derived.Test.YtmgmganbamjnmaaGreatDoorS3
import Derived.Shelf.Sort.Plain
import Derived.Shelf.Slices.In.SortNone2
import Derived.Sort.OwnSorted
import Derived.MapFrom
namespace Go.Proofs.YtmgmganbamjnmaaGreatDoor
open Go.RowKit
set_option linter.unusedVariables false
set_option maxRecDepth 100000

def strRenM : Go.Shelf.Ren := ⟨fun | 192 => 39 | 190 => 52 | 125 => 75 | 258 => 74 | 128 => 102 | 129 => 103 | 302 => 93 | 303 => 94 | 304 => 95 | 305 => 96 | 306 => 97 | 307 => 98 | 308 => 99 | 309 => 100 | 310 => 101 | 333 => 114 | 329 => 115 | 330 => 116 | 334 => 117 | 335 => 118 | 336 => 111 | 344 => 126 | n => n, fun | 31 => 67 | 0 => 0 | 9 => 9 | 3 => 3 | 46 => 110 | 51 => 131 | 53 => 133 | 4 => 4 | 183 => 123 | 182 => 122 | 131 => 128 | 5 => 5 | 218 => 138 | 222 => 142 | 228 => 150 | 229 => 151 | n => n, fun | n => n⟩
theorem strLaysM : Go.Proofs.Lays.n192 Tryz.prog strRenM := {
  mixed := by kernel_rfl
  f125 := Tryz.func75.trans (congrArg some (by kernel_rfl))
  f128 := Tryz.func102.trans (congrArg some (by kernel_rfl))
  f129 := Tryz.func103.trans (congrArg some (by kernel_rfl))
  f190 := Tryz.func52.trans (congrArg some (by kernel_rfl))
  f192 := Tryz.func39.trans (congrArg some (by kernel_rfl))
  f258 := Tryz.func74.trans (congrArg some (by kernel_rfl))
  f302 := Tryz.func93.trans (congrArg some (by kernel_rfl))
  f303 := Tryz.func94.trans (congrArg some (by kernel_rfl))
  f304 := Tryz.func95.trans (congrArg some (by kernel_rfl))
  f305 := Tryz.func96.trans (congrArg some (by kernel_rfl))
  f306 := Tryz.func97.trans (congrArg some (by kernel_rfl))
  f307 := Tryz.func98.trans (congrArg some (by kernel_rfl))
  f308 := Tryz.func99.trans (congrArg some (by kernel_rfl))
  f309 := Tryz.func100.trans (congrArg some (by kernel_rfl))
  f310 := Tryz.func101.trans (congrArg some (by kernel_rfl))
  f329 := Tryz.func115.trans (congrArg some (by kernel_rfl))
  f330 := Tryz.func116.trans (congrArg some (by kernel_rfl))
  f333 := Tryz.func114.trans (congrArg some (by kernel_rfl))
  f334 := Tryz.func117.trans (congrArg some (by kernel_rfl))
  f335 := Tryz.func118.trans (congrArg some (by kernel_rfl))
  f336 := Tryz.func111.trans (congrArg some (by kernel_rfl))
  f344 := Tryz.func126.trans (congrArg some (by kernel_rfl))
  t0 := Tryz.underlying0
  a0 := Tryz.isAgg0
  z0 := Tryz.sizeOf0
  v0 := Tryz.zeroValue0
  t3 := Tryz.underlying3
  a3 := Tryz.isAgg3
  z3 := Tryz.sizeOf3
  v3 := Tryz.zeroValue3
  t4 := Tryz.underlying4
  a4 := Tryz.isAgg4
  z4 := Tryz.sizeOf4
  v4 := Tryz.zeroValue4
  t5 := Tryz.underlying5
  a5 := Tryz.isAgg5
  z5 := Tryz.sizeOf5
  v5 := Tryz.zeroValue5
  t9 := Tryz.underlying9
  a9 := Tryz.isAgg9
  z9 := Tryz.sizeOf9
  v9 := Tryz.zeroValue9
  t31 := Tryz.underlying67
  a31 := Tryz.isAgg67
  z31 := Tryz.sizeOf67
  v31 := Tryz.zeroValue67
  t46 := Tryz.underlying110
  a46 := Tryz.isAgg110
  z46 := Tryz.sizeOf110
  v46 := Tryz.zeroValue110
  t51 := Tryz.underlying131
  a51 := Tryz.isAgg131
  z51 := Tryz.sizeOf131
  v51 := Tryz.zeroValue131
  t53 := Tryz.underlying133
  a53 := Tryz.isAgg133
  z53 := Tryz.sizeOf133
  v53 := Tryz.zeroValue133
  t131 := Tryz.underlying128
  a131 := Tryz.isAgg128
  z131 := Tryz.sizeOf128
  v131 := Tryz.zeroValue128
  t182 := Tryz.underlying122
  a182 := Tryz.isAgg122
  z182 := Tryz.sizeOf122
  v182 := Tryz.zeroValue122
  t183 := Tryz.underlying123
  a183 := Tryz.isAgg123
  z183 := Tryz.sizeOf123
  v183 := Tryz.zeroValue123
  t218 := Tryz.underlying138
  a218 := Tryz.isAgg138
  z218 := Tryz.sizeOf138
  v218 := Tryz.zeroValue138
  t222 := Tryz.underlying142
  a222 := Tryz.isAgg142
  z222 := Tryz.sizeOf142
  v222 := Tryz.zeroValue142
  t228 := Tryz.underlying150
  a228 := Tryz.isAgg150
  z228 := Tryz.sizeOf150
  v228 := Tryz.zeroValue150
  t229 := Tryz.underlying151
  a229 := Tryz.isAgg151
  z229 := Tryz.sizeOf151
  v229 := Tryz.zeroValue151 }


def srtS (ps : List (List UInt8)) : List (List UInt8) := ps.mergeSort fun x y => decide (x ≤ y)
theorem sortStr {b : Nat} {v : Value} {ps : List (List UInt8)} {w : World} (h : SRow w b v ps) (hn : ps.length ≤ 2097152) :
    Calls Tryz.prog 39 #[v] w fun e w' => e = .returned (.tuple #[]) ∧ SRow w' b v (srtS ps) ∧ w.grownBy w' v.ownBlock := by
  rcases h.2 with ⟨h1, h2⟩ | ⟨g, cap, cur, h1, hg, hb, k1, k2, k3, k4⟩
  · have hp : ps = [] := List.eq_nil_of_length_eq_zero h2
    subst hp
    subst h1
    refine (Any.sort_Strings_none strLaysM none 0 w).mono ?_
    rintro e w' ⟨rfl, rfl⟩
    exact ⟨rfl, by have : srtS [] = [] := by simp [srtS]
                   rw [this]; exact h, ⟨rfl, rfl, rfl, Nat.le_refl _, fun _ _ _ => rfl⟩⟩
  · subst h1
    have hgl : g < w.heap.size := (World.ownsRow.lt h g rfl).2
    have hH := holds_of_block (ss := ps) hb (by rw [Nat.mul_one] at k4; exact k4)
    refine (Any.sort_Strings strLaysM g 0 cap ps w hH hgl (by omega)).mono ?_
    rintro e w' ⟨rfl, k, os, rfl⟩
    refine ⟨rfl, ?_, grownBy_sorted _⟩
    have hl : (srtS ps).length = ps.length := List.length_mergeSort _
    have := ownsRow_sorted (base := b) (e := 9) (n := k) (os := os) (ss := ps) (ts := srtS ps) hl hg hb k1 k2 k3
    unfold SRow
    rw [hl]
    exact this

/-- the map in block r holds these files by their names -/
def MapIs (w : World) (r : Nat) (M : List Fv) : Prop := ∃ es clock, w.heap[r]? = some (.map es clock) ∧ es.toList.map (fun e => (e.key, e.val)) = M.map (fun x : Fv => (Value.string (B x.f.name), x.val))
theorem MapIs.new (w : World) : MapIs (w.alloc (.map #[] 0)) w.heap.size [] := ⟨#[], 0, heap_alloc_new _ _, rfl⟩
theorem MapIs.lt {w : World} {r : Nat} {M : List Fv} (h : MapIs w r M) : r < w.heap.size := by
  obtain ⟨es, c, h1, _⟩ := h
  rcases Nat.lt_or_ge r w.heap.size with h' | h'
  · exact h'
  · rw [Array.getElem?_eq_none h'] at h1; cases h1
theorem MapIs.grown {w w' : World} {r : Nat} {M : List Fv} {o : Option Nat} (h : MapIs w r M) (hg : w.grownBy w' o) (hr : some r ≠ o) : MapIs w' r M := by
  have hl := h.lt
  obtain ⟨es, c, h1, h2⟩ := h
  exact ⟨es, c, (hg.block r hl hr).trans h1, h2⟩
theorem MapIs.below {w w' : World} {r : Nat} {M : List Fv} (h : MapIs w r M) (hB : Below w.heap.size w w') : MapIs w' r M := h.grown (below_grown hB) (by simp)
/-- where a name is first met -/
def fm (n : List UInt8) : List Fv → Nat → Option (Nat × Fv)
  | [], _ => none
  | x :: r, i => if x.f.name = n then some (i, x) else fm n r (i + 1)
theorem beqB (a b : List UInt8) : (B a == B b) = decide (a = b) := by
  show (a.toArray == b.toArray) = _
  rw [Bool.eq_iff_iff]
  simp
theorem find_fm (n : List UInt8) : ∀ (l : List MapEntry) (M : List Fv) (i : Nat), l.map (fun e => (e.key, e.val)) = M.map (fun x : Fv => (Value.string (B x.f.name), x.val)) → Instr.findNow .string (.string (B n)) l i = some ((fm n M i).map fun p => (p.1, p.2.val))
  | [], [], i, _ => rfl
  | [], x :: M, i, h => by cases h
  | e :: l, [], i, h => by cases h
  | e :: l, x :: M, i, h => by
    simp only [List.map_cons, List.cons.injEq, Prod.mk.injEq] at h
    obtain ⟨⟨h1, h2⟩, h3⟩ := h
    rw [Instr.findNow, h1]
    show (match (some (B n == B x.f.name) : Option Bool) with | some true => _ | some false => _ | none => _) = _
    by_cases e0 : x.f.name = n
    · have : (B n == B x.f.name) = true := by rw [beqB]; exact decide_eq_true e0.symm
      rw [this]
      simp only [fm, if_pos e0, Option.map_some, h2]
    · have : (B n == B x.f.name) = false := by rw [beqB]; exact decide_eq_false (fun e2 => e0 e2.symm)
      rw [this]
      simp only [fm, if_neg e0]
      exact find_fm n l M (i + 1) h3
theorem fm_at {n : List UInt8} : ∀ {M : List Fv} {i j : Nat} {x : Fv}, fm n M i = some (j, x) → x.f.name = n ∧ i ≤ j ∧ M[j - i]? = some x ∧ lookF n (fls M) = some x.f
  | [], i, j, x, h => by cases h
  | y :: M, i, j, x, h => by
    rw [fm] at h
    by_cases e : y.f.name = n
    · rw [if_pos e] at h
      cases h
      refine ⟨e, Nat.le_refl _, by simp, ?_⟩
      unfold lookF
      simp [fls, e]
    · rw [if_neg e] at h
      obtain ⟨h1, h2, h3, h4⟩ := fm_at h
      refine ⟨h1, by omega, ?_, ?_⟩
      · rw [show j - i = (j - (i + 1)) + 1 by omega]
        simpa using h3
      · unfold lookF at h4 ⊢
        have : (y.f.name == n) = false := by simpa using e
        simpa [fls, List.find?_cons, this] using h4
theorem fm_none {n : List UInt8} : ∀ {M : List Fv} {i : Nat}, fm n M i = none → lookF n (fls M) = none
  | [], i, _ => rfl
  | y :: M, i, h => by
    rw [fm] at h
    by_cases e : y.f.name = n
    · rw [if_pos e] at h; cases h
    · rw [if_neg e] at h
      have h4 := fm_none h
      unfold lookF at h4 ⊢
      have : (y.f.name == n) = false := by simpa using e
      simpa [fls, List.find?_cons, this] using h4
def zeroF : Value := .agg #[.string ⟨#[]⟩, .slice none 0 0, .int .i64 0, .int .i64 0, .bool false]
theorem zeroF_run (W : World) : (zeroValue 49).run Tryz.prog W = .ok zeroF W := Tryz.zeroValue49 W
theorem map_get {w : World} {r : Nat} {M : List Fv} (h : MapIs w r M) (n : List UInt8) (ok : Bool) : (Instr.lookup 75 (.map (some r)) (.string (B n)) ok).run Tryz.prog w = .ok (if ok then .tuple #[(match fm n M 0 with | some p => p.2.val | none => zeroF), .bool (fm n M 0).isSome] else (match fm n M 0 with | some p => p.2.val | none => zeroF)) w := by
  obtain ⟨es, c, hb, he⟩ := h
  have hk := Tryz.underlying9
  have hf := find_fm n es.toList M 0 he
  have hc : ∀ e, (Instr.checkKey e 10000 9 (.string (B n))).run Tryz.prog w = .ok () w := fun e => MapKept.run_checkKey (k := .string (B n)) hk (by simp [MapKept.IsKey]) e 9999
  have hz := zeroF_run w
  cases hfm : fm n M 0 with
  | none =>
    rw [hfm] at hf
    simp only [Option.map_none] at hf
    cases ok <;> simp [Instr.lookup, run_underlying Tryz.underlying75, MapKept.run_getObj_map hb, hc, MapKept.run_findKey hk hf, hz, Result.andThen]
  | some p =>
    rw [hfm] at hf
    simp only [Option.map_some] at hf
    cases ok <;> simp [Instr.lookup, run_underlying Tryz.underlying75, MapKept.run_getObj_map hb, hc, MapKept.run_findKey hk hf, Result.andThen]
/-- a file laid into the map -/
def addM (M : List Fv) (y : Fv) : List Fv := match fm y.f.name M 0 with | some p => M.set p.1 y | none => M ++ [y]
theorem map_put {w : World} {r : Nat} {M : List Fv} (h : MapIs w r M) (y : Fv) : ∃ w', (Instr.mapUpdate 75 (.map (some r)) (.string (B y.f.name)) y.val).run Tryz.prog w = .ok () w' ∧ MapIs w' r (addM M y) ∧ w.grownBy w' (some r) := by
  have hl := h.lt
  obtain ⟨es, c, hb, he⟩ := h
  have hk := Tryz.underlying9
  have hf := find_fm y.f.name es.toList M 0 he
  have hc : (Instr.checkKey false 10000 9 (.string (B y.f.name))).run Tryz.prog w = .ok () w := MapKept.run_checkKey (k := .string (B y.f.name)) hk (by simp [MapKept.IsKey]) false 9999
  have hgr : ∀ o, w.grownBy { w with heap := w.heap.setIfInBounds r o } (some r) := fun o => ⟨rfl, rfl, rfl, by simp, fun k hk hne => by
    have : r ≠ k := fun e => hne (by rw [e])
    simp [this]⟩
  have hget : ∀ o, ({ w with heap := w.heap.setIfInBounds r o } : World).heap[r]? = some o := fun o => by simp [hl]
  cases hfm : fm y.f.name M 0 with
  | none =>
    rw [hfm] at hf
    simp only [Option.map_none] at hf
    refine ⟨{ w with heap := w.heap.setIfInBounds r (.map (es.push { key := .string (B y.f.name), val := y.val, born := c }) (c + 1)) }, ?_, ⟨_, _, hget _, ?_⟩, hgr _⟩
    · simp [Instr.mapUpdate, run_underlying Tryz.underlying75, MapKept.run_getObj_map hb, hc, MapKept.run_findKey hk hf, MapKept.run_setObj_map _ hb, Result.andThen]
    · unfold addM
      rw [hfm]
      simp [he]
  | some p =>
    rw [hfm] at hf
    simp only [Option.map_some] at hf
    obtain ⟨p1, p2⟩ := p
    obtain ⟨q1, q2, q3, q4⟩ := fm_at hfm
    simp only [Nat.sub_zero] at q3
    have hi : p1 < es.size := by
      have hM : p1 < M.length := (List.getElem?_eq_some_iff.1 q3).1
      have := congrArg List.length he
      simp at this
      omega
    have hkey : ((es[p1]?).map (·.key)).getD (.string (B y.f.name)) = .string (B y.f.name) := by
      have h1 := congrArg (fun l => l[p1]?) he
      simp [q3, hi] at h1
      rw [Array.getElem?_eq_getElem hi]
      show es[p1].key = _
      rw [h1.1, q1]
    have hst : (Instr.keyThatStays (.string (B y.f.name)) (.string (B y.f.name))).run Tryz.prog w = .ok (.string (B y.f.name)) w := MapKept.run_keyThatStays (d := .string) (by simp [MapKept.IsKey])
    refine ⟨{ w with heap := w.heap.setIfInBounds r (.map (es.modify p1 fun e => { e with key := .string (B y.f.name), val := y.val }) c) }, ?_, ⟨_, _, hget _, ?_⟩, hgr _⟩
    · simp [Instr.mapUpdate, run_underlying Tryz.underlying75, MapKept.run_getObj_map hb, hc, MapKept.run_findKey hk hf, hkey, hst, MapKept.run_setObj_map _ hb, Result.andThen]
    · unfold addM
      rw [hfm]
      apply List.ext_getElem?
      intro i
      have h1 := congrArg (fun l => l[i]?) he
      simp only [List.getElem?_map, Array.getElem?_toList, List.getElem?_set, Array.getElem?_modify] at h1 ⊢
      by_cases e : p1 = i
      · subst e
        have hM : p1 < M.length := (List.getElem?_eq_some_iff.1 q3).1
        simp [hi, hM]
      · simp only [if_neg e]
        exact h1
end Go.Proofs.YtmgmganbamjnmaaGreatDoor
