/-
  The map of package match: places by the first three bytes.
-/
import Derived.Test.YtoiioemkibfdcacKeep
import Derived.Test.YtoiioemkibfdcacPBase
import Derived.Maps.GroupsBeside
import Derived.WideKeyPair
namespace Go.Proofs.Ytoiioemkibfdcac
open Go.RowKit Go.Maps Go.WideMaps Go.ChangeShapes
set_option linter.unusedVariables false

theorem arr3 : ArrKey Try.prog 102 5 3 := ⟨Try.underlying102, by kernel_rfl, by kernel_rfl, by kernel_rfl⟩
theorem law3 : Keyed Try.prog 102 := Keyed.of_law arr3.law
theorem types1 : ∃ m, Try.prog.types.size = m + 1 := ⟨Try.prog.types.size - 1, by have : 0 < Try.prog.types.size := of_decide_eq_true (by kernel_rfl); omega⟩

abbrev C3 := Nat × Nat × Nat
def kcells (c : C3) : Array Value := #[.int .u8 (c.1 : Int), .int .u8 (c.2.1 : Int), .int .u8 (c.2.2 : Int)]
def kv (c : C3) : Value := .agg (kcells c)
def kl (c : C3) : Lit := .string (keyBytes [.int .u8 (c.1 : Int), .int .u8 (c.2.1 : Int), .int .u8 (c.2.2 : Int)])
def Ok3 (c : C3) : Prop := c.1 < 256 ∧ c.2.1 < 256 ∧ c.2.2 < 256
theorem ok3_key {bs : List Nat} (hb : ∀ j, bs.getD j 0 < 256) (p : Nat) : Ok3 (key3 bs p) := ⟨hb _, hb _, hb _⟩

theorem wf_u8 {x : Nat} (h : x < 256) : (Lit.int .u8 (x : Int)).wf = true := by
  simp [Lit.wf, IntKind.min, IntKind.max, IntKind.signed, IntKind.bits]; omega

theorem keyOf_kv {c : C3} (h : Ok3 c) : keyOf Try.prog 102 (kv c) = some (kl c) := by
  have A := arr3
  have hkt := A.keyType types1
  obtain ⟨m, hm⟩ := types1
  have he : Try.prog.underlying 5 = some (.int .u8) := Try.underlying5
  have w1 := wf_u8 h.1
  have w2 := wf_u8 h.2.1
  have w3 := wf_u8 h.2.2
  unfold keyOf kv kl kcells
  simp only [A.hu]
  rw [if_pos (by simp [hkt, Value.formed, A.hu, A.size]), hm]
  unfold Program.keyLits
  simp only [A.hu, Value.cells]
  rw [if_pos (by rw [A.size]; rfl), show List.range 3 = [0, 1, 2] from rfl, List.mapM_cons, List.mapM_cons, List.mapM_cons, List.mapM_nil]
  simp [A.one, Program.keyLits, he, w1, w2, w3]
theorem kl_inj {c d : C3} (hc : Ok3 c) (hd : Ok3 d) (h : kl c = kl d) : c = d := by
  have := law3.inj (keyOf_kv hc) (by rw [h]; exact keyOf_kv hd)
  obtain ⟨c1, c2, c3⟩ := c
  obtain ⟨d1, d2, d3⟩ := d
  simp [kv, kcells] at this
  simp only [Prod.mk.injEq]
  omega
theorem kl_key (c : C3) : WideAt.IsKeyLit (kl c) := by
  first | trivial | exact ⟨⟩ | (unfold kl WideAt.IsKeyLit; simp)

/-- what the places are in the map's words -/
def datum (zs : List Nat) : DataW Unit := match zs with | [] => .nil | z :: r => .slice (lits .i64 ((z :: r).map fun x : Nat => (x : Int))) []

abbrev Groups (w : World) (base mb n : Nat) (D : DataW Unit) : Prop := w.ownsGroups Try.prog 102 base 3 .i64 mb n D
/-- block mb holds the places ahead of kn, by their first three bytes -/
def Grp (w : World) (base mb : Nat) (bs : List Nat) (kn : Nat) : Prop := ∃ D : DataW Unit, Groups w base mb kn D ∧ ∀ c, Ok3 c → D.atKey (kl c) .nil = datum (plc bs kn c)

theorem groups_isMap {w : World} {base mb n : Nat} {D : DataW Unit} (h : Groups w base mb n D) : IsMap D := by
  obtain ⟨es, clock, hb, F, _, rfl, _⟩ := h
  exact ⟨_, rfl⟩
theorem lits_inj {xs ys : List Int} (h : lits (H := Unit) .i64 xs = lits .i64 ys) : xs = ys := by
  unfold lits at h
  exact (List.map_inj_right (fun a b hab => by simpa using hab)).1 h
theorem row_places {w : World} {base : Nat} {v : Value} {zs : List Int} {ps : List Nat} (ho : w.ownsInts base 3 .i64 v zs) (h : datum ps = rowDatum .i64 v zs) : zs = ps.map fun x : Nat => (x : Int) := by
  cases ps with
  | nil =>
    rcases ho.datum (H := Unit) with ⟨_, e⟩ | e
    · rw [e]; rfl
    · rw [e] at h; simp [datum] at h
  | cons z r =>
    rcases ho.datum (H := Unit) with ⟨e, _⟩ | e
    · rw [e] at h; simp [datum] at h
    · rw [e] at h
      simp only [datum, DataW.slice.injEq, and_true] at h
      exact (lits_inj h).symm

theorem Grp.made (w : World) (base : Nat) (bs : List Nat) (hb : w.heap.size < base) : Grp (w.alloc (.map #[] 0)) base w.heap.size bs 0 := by
  refine ⟨.map [], ⟨#[], 0, (MapKept.heap_alloc w _).1, ⟨by simp, MapKept.stamped_empty 0, by simp⟩, Nat.le_refl _, rfl, hb, by simp, by simp⟩, ?_⟩
  intro c _
  simp [plc, datum, DataW.atKey]
theorem Grp.kept {w w' : World} {base mb kn : Nat} {bs : List Nat} {row : Option Nat} (h : Grp w base mb bs kn) (hg : w.grownBy w' row) (hr : ∀ j, row = some j → j < base ∧ j ≠ mb) : Grp w' base mb bs kn := by
  obtain ⟨D, hD, hA⟩ := h
  refine ⟨D, hD.kept hg ?_ (hD.rowsAbove (fun j e => (hr j e).1)), hA⟩
  intro e
  exact (hr mb e.symm).2 rfl
theorem Grp.lt {w : World} {base mb kn : Nat} {bs : List Nat} (h : Grp w base mb bs kn) : mb < base ∧ mb < w.heap.size := by
  obtain ⟨D, ⟨es, clock, hb, F, _, rfl, h1, _⟩, _⟩ := h
  exact ⟨h1, (Array.getElem?_eq_some_iff.1 hb).1⟩
/-- a step: behind the store of the place kn at its first three bytes -/
theorem Grp.step {w : World} {base mb kn : Nat} {bs : List Nat} {D : DataW Unit} {v' : Value} {zs' : List Int} (hb : ∀ j, bs.getD j 0 < 256) (hA : ∀ c, Ok3 c → D.atKey (kl c) .nil = datum (plc bs kn c)) (hM : IsMap D)
    (hG : Groups w base mb (kn + 1) (D.put (kl (key3 bs kn)) (rowDatum .i64 v' zs'))) (ho : w.ownsInts base 3 .i64 v' zs') (hz : zs' = ((plc bs kn (key3 bs kn)).map fun x : Nat => (x : Int)) ++ [(kn : Int)]) : Grp w base mb bs (kn + 1) := by
  refine ⟨_, hG, ?_⟩
  intro c hc
  rw [plc_succ]
  by_cases e : key3 bs kn = c
  · subst e
    rw [if_pos rfl, atKey_put_same hM (kl_key _), ho.datum_pos (by rw [hz]; simp), hz]
    cases hp : plc bs kn (key3 bs kn) with
    | nil => simp [datum]
    | cons z r => simp [datum]
  · rw [if_neg e, List.append_nil, atKey_put_other (fun h => e (kl_inj hc (ok3_key hb kn) h).symm), hA c hc]

/-- the struct past: the bytes, the map, how far it is known -/
def Pst (w : World) (b : Nat) (bv : Value) (mb kn : Nat) : Prop := w.heap[b]? = some (.cells #[bv, .map (some mb), .int .i64 (kn : Int)] 70 (0, 0))
theorem Pst.cell0 {w : World} {b mb kn : Nat} {bv : Value} (h : Pst w b bv mb kn) : w.cell? ⟨b, 0, none⟩ = some bv := heap_row h
theorem Pst.cell1 {w : World} {b mb kn : Nat} {bv : Value} (h : Pst w b bv mb kn) : w.cell? ⟨b, 1, none⟩ = some (.map (some mb)) := heap_row h
theorem Pst.cell2 {w : World} {b mb kn : Nat} {bv : Value} (h : Pst w b bv mb kn) : w.cell? ⟨b, 2, none⟩ = some (.int .i64 (kn : Int)) := heap_row h
theorem Pst.frozen {w : World} {b mb kn : Nat} {bv : Value} (h : Pst w b bv mb kn) (j : Nat) : w.frozen? ⟨b, j, none⟩ = false := frozen_of_row w b j _ _ h
theorem Pst.lt {w : World} {b mb kn : Nat} {bv : Value} (h : Pst w b bv mb kn) : b < w.heap.size := (Array.getElem?_eq_some_iff.1 h).1
theorem Pst.grown {w w' : World} {b mb kn : Nat} {bv : Value} {r : Option Nat} (h : Pst w b bv mb kn) (hg : w.grownBy w' r) (hr : some b ≠ r) : Pst w' b bv mb kn := (hg.block b h.lt hr).trans h
theorem Pst.drewN {w : World} {b mb kn : Nat} {bv : Value} (h : Pst w b bv mb kn) (n : Nat) : Pst (w.drewN n) b bv mb kn := h
theorem Pst.set {w : World} {b mb kn : Nat} {bv : Value} (h : Pst w b bv mb kn) (q : Nat) : Pst (w.setCell ⟨b, 2, none⟩ (.int .i64 (q : Int))) b bv mb q := by
  unfold Pst; rw [heap_setCell_same w b 2 _ _ _ h]; rfl

/-- where things lie: the bytes below B, the struct at p, the map at mb, its rows from base on; No: what must stay -/
structure Geo (No : Nat → Prop) (B p mb base b : Nat) (bs : List Nat) : Prop where
  bB : b < B
  pB : B ≤ p
  mB : B ≤ mb
  pm : p ≠ mb
  pb : p < base
  nop : ¬ No p
  nom : ¬ No mb
  len : bs.length ≤ 3000
  byte : ∀ j, bs.getD j 0 < 256
/-- the struct past, in whole, that knows the places ahead of kn -/
structure Pas (No : Nat → Prop) (w : World) (p mb base b o n cap : Nat) (bs : List Nat) (kn : Nat) : Prop where
  pst : Pst w p (.slice (some ⟨b, o, none⟩) n cap) mb kn
  grp : Grp w base mb bs kn
  shun : w.Shuns mb No
  row : Bytes w b o bs
  size : base ≤ w.heap.size
theorem Pas.drewN {No : Nat → Prop} {w : World} {p mb base b o n cap kn : Nat} {bs : List Nat} (h : Pas No w p mb base b o n cap bs kn) (q : Nat) : Pas No (w.drewN q) p mb base b o n cap bs kn := by
  have hg : w.grownBy (w.drewN q) none := ⟨rfl, rfl, rfl, Nat.le_refl _, fun _ _ _ => rfl⟩
  exact ⟨h.pst, h.grp.kept hg (fun j e => by cases e), h.shun, h.row, h.size⟩
/-- over whatever turns a block that is none of these -/
theorem Pas.grown {No : Nat → Prop} {w w' : World} {B p mb base b o n cap kn : Nat} {bs : List Nat} {r : Option Nat} (h : Pas No w p mb base b o n cap bs kn) (G : Geo No B p mb base b bs) (hg : w.grownBy w' r) (hr : ∀ j, r = some j → j ≠ p ∧ j ≠ mb ∧ j ≠ b ∧ (No j ∨ j < base)) : Pas No w' p mb base b o n cap bs kn := by
  obtain ⟨D, hD, hA⟩ := h.grp
  have hmr : some mb ≠ r := fun e => (hr mb e.symm).2.1 rfl
  refine ⟨h.pst.grown hg (fun e => (hr p e.symm).1 rfl), ⟨D, hD.kept hg hmr ?_, hA⟩, h.shun.kept hg h.grp.lt.2 hmr, h.row.grown hg (fun e => (hr b e.symm).2.2.1 rfl), Nat.le_trans h.size hg.size⟩
  intro es clock hb x hx
  cases hx' : x.val.ownBlock with
  | none => exact .inl rfl
  | some g =>
    refine .inr (fun e1 => ?_)
    rcases (hr g e1.symm).2.2.2 with h1 | h1
    · exact h.shun es clock hb x hx g hx' h1
    · rcases hD.rowsAbove (row := r) (fun j e => by
        by_cases c : j < base
        · exact c
        · have := (hr j e)
          rw [← e1] at e
          cases e
          omega) es clock hb x hx with h2 | h2
      · rw [h2] at hx'; cases hx'
      · exact h2 (by rw [hx']; exact e1)
end Go.Proofs.Ytoiioemkibfdcac
