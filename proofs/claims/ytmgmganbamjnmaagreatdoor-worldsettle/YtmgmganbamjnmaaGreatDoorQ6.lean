/-
  Rows of files of a call's own; a file behind such a row; what is left of files without the first one.
-/
import Derived.Test.YtmgmganbamjnmaaGreatDoorQ4
import Derived.Test.YtmgmganbamjnmaaGreatDoorQ1
import Derived.Deep.RegionHeld3
namespace Go.Proofs.YtmgmganbamjnmaaGreatDoor
open Go.RowKit
set_option linter.unusedVariables false
set_option maxRecDepth 100000

def fcells (xs : List Fv) : List Value := xs.flatMap Fv.cells
theorem fcells_len (xs : List Fv) : (fcells xs).length = xs.length * 5 := by
  induction xs with
  | nil => rfl
  | cons x r ih =>
    have : fcells (x :: r) = x.cells ++ fcells r := rfl
    rw [this, List.length_append, ih, List.length_cons]
    show 5 + r.length * 5 = _
    omega
theorem fcells_app (xs ys : List Fv) : fcells (xs ++ ys) = fcells xs ++ fcells ys := by simp [fcells]
theorem fcells_one (y : Fv) : fcells [y] = y.cells := by simp [fcells]
theorem fcells_at : ∀ (xs : List Fv) (j : Nat) (x : Fv) (i : Nat), xs[j]? = some x → i < 5 → (fcells xs)[j * 5 + i]? = x.cells[i]?
  | [], j, x, i, h, _ => by simp at h
  | y :: r, 0, x, i, h, hi => by
    have : fcells (y :: r) = y.cells ++ fcells r := rfl
    simp at h
    subst h
    rw [this, Nat.zero_mul, Nat.zero_add, List.getElem?_append_left (show i < 5 from hi)]
  | y :: r, j + 1, x, i, h, hi => by
    have e : fcells (y :: r) = y.cells ++ fcells r := rfl
    have hl : y.cells.length = 5 := rfl
    have ih := fcells_at r j x i (by simpa using h) hi
    rw [e, List.getElem?_append_right (by rw [hl]; omega), hl, show (j + 1) * 5 + i - 5 = j * 5 + i by omega, ih]
theorem cells_one (y : Fv) : ∀ u ∈ y.cells, u.oneCell' = true := by
  intro u hu
  simp only [Fv.cells, Fv.sl, List.mem_cons, List.not_mem_nil, or_false] at hu
  rcases hu with rfl | rfl | rfl | rfl | rfl <;> rfl

/-- v is a row of the call's own, from block B on, that holds these files; their bytes lie elsewhere -/
structure FRow (w : World) (B : Nat) (v : Value) (xs : List Fv) : Prop where
  own : w.ownsRow B 49 5 v xs.length (fcells xs)
  all : ∀ x ∈ xs, FvIn w x
  apart : ∀ x ∈ xs, ∀ b o, x.a = some ⟨b, o, none⟩ → some b ≠ v.ownBlock ∧ b < w.heap.size
theorem FRow.nil (w : World) (B : Nat) : FRow w B (.slice none 0 0) [] := ⟨World.ownsRow_nil _ _ _ _, (fun x hx => absurd hx List.not_mem_nil), (fun x hx => absurd hx List.not_mem_nil)⟩
theorem FRow.below {w w' : World} {B : Nat} {v : Value} {xs : List Fv} (h : FRow w B v xs) (hB : Below w.heap.size w w') : FRow w' B v xs :=
  ⟨own_below h.own hB, fun x hx => (h.all x hx).below hB (Nat.le_refl _), fun x hx b o e => ⟨(h.apart x hx b o e).1, Nat.lt_of_lt_of_le (h.apart x hx b o e).2 hB.size⟩⟩
theorem FRow.lt {w : World} {B : Nat} {v : Value} {xs : List Fv} (h : FRow w B v xs) {g : Nat} (e : v.ownBlock = some g) : B ≤ g ∧ g < w.heap.size := h.own.lt g e
/-- read -/
theorem FRow.files {w : World} {B : Nat} {v : Value} {xs : List Fv} (h : FRow w B v xs) (hl : xs.length ≤ 2199023255552) : ∃ ad c, v = .slice ad xs.length c ∧ FsIn w ad c xs := by
  rcases h.own.2 with ⟨h1, h2⟩ | ⟨g, cap, cur, h1, h2, h3, h4, h5, h6, h7⟩
  · have hx : xs = [] := List.eq_nil_of_length_eq_zero h2
    subst hx
    exact ⟨none, 0, h1, FsIn.nil w⟩
  · refine ⟨_, _, h1, ⟨.inr ⟨g, 0, rfl, (h.lt (g := g) (by rw [h1]; rfl)).2, ?_⟩, h4, by unfold maxLen at h5; omega, hl, h.all⟩⟩
    intro j x hj
    have hlt : j < xs.length := by
      rcases Nat.lt_or_ge j xs.length with h' | h'
      · exact h'
      · rw [List.getElem?_eq_none h'] at hj; cases hj
    have hc : ∀ i u, i < 5 → x.cells[i]? = some u → w.cell? ⟨g, 0 + j * 5 + i, none⟩ = some u := by
      intro i u hi hu
      have e := fcells_at xs j x i hj hi
      have hown := h.own
      rw [h1] at hown
      rw [Nat.zero_add, hown.cellAt _ (by omega)]
      rw [e, hu]
    exact ⟨hc 0 _ (by decide) rfl, hc 1 _ (by decide) rfl, hc 2 _ (by decide) rfl, hc 3 _ (by decide) rfl, hc 4 _ (by decide) rfl⟩

theorem info_file : (Tryz.prog.info? 49).map (fun i => (i.zero, i.size, i.bytes)) = some (some (.agg #[.string ⟨#[]⟩, .slice none 0 0, .int .i64 0, .int .i64 0, .bool false]), 5, 64) := by kernel_rfl
/-- a file behind a row of the call's own -/
theorem wpList_append_file (w : World) {ops : Array Oper} {rest : List Oper} {o : Oper} {a : Act} {Q : Exit → Act → World → Prop} (hgd : o.guard = none) (s x : Operand)
    (ho : o.op = .call { callee := .builtin .append, args := #[s, x], argTypes := #[46, 46] }) (base : Nat) (v : Value) (xs : List Fv) (hs : a.eval s = v) (hown : FRow w base v xs)
    (g : Nat) (y : Fv) (hx : a.eval x = .slice (some ⟨g, 0, none⟩) 1 1) (hc : ∀ j u, y.cells[j]? = some u → w.cell? ⟨g, j, none⟩ = some u) (hy : FvIn w y) (hyb : ∀ b o, y.a = some ⟨b, o, none⟩ → some b ≠ v.ownBlock ∧ b < w.heap.size) (hsz : xs.length + 1 ≤ 2199023255552) (hbase : base ≤ w.heap.size)
    (h : ∀ v' w', Hid (FRow w' base v' (xs ++ [y])) → Hid (Below base w w') → wpList Tryz.prog ops Q rest (a.put o.dst v') w') : wpList Tryz.prog ops Q (o :: rest) a w := by
  obtain ⟨i0, hi, hz0, hz1, hz2⟩ := info_parts info_file
  refine wpList_append_own_at w hgd s x 46 ho base 49 i0 _ 5 64 Tryz.underlying46 hi hz0 hz1 hz2 rfl (by decide) v xs.length (fcells xs) hs hown.own ⟨g, 0, none⟩ 1 1 y.cells hx rfl ?_ (cells_one y) (by unfold maxLen; omega) (by omega) hbase ?_
  · intro j u hj
    have e2 : (⟨g, 0, none⟩ : Addr).add j = ⟨g, j, none⟩ := by unfold Addr.add; split <;> simp_all
    rw [e2]
    exact hc j u hj
  · intro v' w' h1 h2 _ h4
    have hne : ∀ z, (z ∈ xs ∨ z = y) → ∀ b o, z.a = some ⟨b, o, none⟩ → some b ≠ v.ownBlock ∧ b < w.heap.size := by
      intro z hz b o e
      rcases hz with hz | rfl
      · exact hown.apart z hz b o e
      · exact hyb b o e
    have hin : ∀ z, (z ∈ xs ∨ z = y) → FvIn w z := by
      intro z hz
      rcases hz with hz | rfl
      · exact hown.all z hz
      · exact hy
    have hm : ∀ z, z ∈ xs ++ [y] → z ∈ xs ∨ z = y := by intro z hz; simpa using hz
    refine h v' w' (hide ⟨?_, ?_, ?_⟩) (hide ?_)
    · rw [fcells_app, fcells_one, List.length_append]
      exact h1
    · intro z hz
      exact (hin z (hm z hz)).grown h2 (fun b o e => (hne z (hm z hz) b o e).1)
    · intro z hz b o e
      have hb := hne z (hm z hz) b o e
      refine ⟨?_, Nat.lt_of_lt_of_le hb.2 h2.size⟩
      rcases h4 with h4 | h4
      · rw [h4]; exact hb.1
      · rw [h4]
        intro e2
        have := Option.some.inj e2
        omega
    · exact (Below.refl base w).grown h2 hbase (fun k e => (hown.own.lt k e).1)

/-- where the rest lies, without the first one -/
def tlA (b o c : Nat) : Addr := if c = 1 then ⟨b, o, none⟩ else ⟨b, o + 5, none⟩
theorem FsIn.tail {w : World} {b o c : Nat} {x : Fv} {xs : List Fv} (h : FsIn w (some ⟨b, o, none⟩) c (x :: xs)) : FsIn w (some (tlA b o c)) (c - 1) xs := by
  have hc := h.cap
  have hm := h.capm
  have hl := h.lim
  simp only [List.length_cons] at hc hl
  refine ⟨.inr ?_, by omega, by omega, by omega, fun y hy => h.all y (List.mem_cons_of_mem _ hy)⟩
  rcases h.at_ with h1 | ⟨b', o', h1, h2, h3⟩
  · cases h1
  · cases h1
    unfold tlA
    by_cases e : c = 1
    · rw [if_pos e]
      have : xs = [] := List.eq_nil_of_length_eq_zero (by omega)
      subst this
      exact ⟨b, o, rfl, h2, fun j x hj => by simp at hj⟩
    · rw [if_neg e]
      refine ⟨b, o + 5, rfl, h2, ?_⟩
      intro j y hj
      have := h3 (j + 1) y (by simpa using hj)
      rw [show o + (j + 1) * 5 = o + 5 + j * 5 by omega] at this
      exact this
theorem sl_tail (b o k c : Nat) (W : World) (h : k + 1 ≤ c) : (Instr.slice 46 (.slice (some ⟨b, o, none⟩) (k + 1) c) (some (.int .i64 1)) none none).run Tryz.prog W = .ok (.slice (some (tlA b o c)) k (c - 1)) W := by
  have hs := Tryz.sizeOf49
  have ht := Tryz.underlying46
  have h1 : (1 : Int) ≤ ((k + 1 : Nat) : Int) := by omega
  have h2 : k + 1 ≤ c := h
  unfold tlA
  by_cases e : c = 1
  · subst e
    have : k = 0 := by omega
    subst this
    simp [go_sem, ht]
  · rw [if_neg e]
    have h3 : (1 : Int) ≤ (k : Int) + 1 := by omega
    simp [go_sem, ht, h3, e]
end Go.Proofs.YtmgmganbamjnmaaGreatDoor

/-
  Small facts on files in memory.
-/
namespace Go.Proofs.YtmgmganbamjnmaaGreatDoor
open Go.RowKit
set_option linter.unusedVariables false
set_option maxRecDepth 100000
theorem bel_al {a w : World} (h : Below a.heap.size a w) (o : Obj) : Below a.heap.size a (w.alloc o) := h.alloc h.size o
theorem bel_dr {B : Nat} {a w : World} (h : Below B a w) : Below B a w.drew := below_drewN h 1
theorem cell_dr {W : World} {p : Addr} {v : Value} (h : W.cell? p = some v) : W.drew.cell? p = some v := h
theorem cell_al {W : World} {p : Addr} {v : Value} {o : Obj} (h : W.cell? p = some v) : (W.alloc o).cell? p = some v := (World.cell?_alloc_some W p o (by rw [h]; rfl)).trans h
theorem FsIn.head {w : World} {ad : Option Addr} {c : Nat} {x : Fv} {xs : List Fv} (h : FsIn w ad c (x :: xs)) {w' : World} (hB : Below w.heap.size w w') :
    ∃ b o, ad = some ⟨b, o, none⟩ ∧ b < w.heap.size ∧ w'.cell? ⟨b, o, none⟩ = some (.string (B x.f.name)) ∧ w'.cell? ⟨b, o + 1, none⟩ = some x.sl ∧ w'.cell? ⟨b, o + 2, none⟩ = some (.int .i64 x.f.stamp) ∧ w'.cell? ⟨b, o + 3, none⟩ = some (.int .i64 x.f.node) ∧ w'.cell? ⟨b, o + 4, none⟩ = some (.bool x.f.gone) := by
  obtain ⟨b, o, h1, h2, h3, h4, h5, h6, h7⟩ := h.get (k := 0) (x := x) hB rfl
  simp only [Nat.zero_mul, Nat.add_zero] at h3 h4 h5 h6 h7
  exact ⟨b, o, h1, h2, h3, h4, h5, h6, h7⟩
theorem box3 (wr : World) (o1 o2 : Obj) (cs : Array Value) (t : TypeId) : (((wr.alloc o1).alloc o2).alloc (.cells cs t)).drew.heap[wr.heap.size + 2]? = some (.cells cs t (0, 0)) ∧ wr.heap.size ≤ wr.heap.size + 2 ∧ Below wr.heap.size wr (((wr.alloc o1).alloc o2).alloc (.cells cs t)).drew := by
  refine ⟨?_, by omega, bel_dr (bel_al (bel_al (bel_al (Below.refl _ _) _) _) _)⟩
  have := heap_alloc_new ((wr.alloc o1).alloc o2) (.cells cs t)
  rw [World.size_alloc, World.size_alloc] at this
  exact this
theorem box1 (wr : World) (o1 o2 : Obj) (cs : Array Value) (t : TypeId) : (((wr.alloc (.cells cs t)).alloc o1).alloc o2).drew.heap[wr.heap.size]? = some (.cells cs t (0, 0)) ∧ wr.heap.size ≤ wr.heap.size ∧ Below wr.heap.size wr (((wr.alloc (.cells cs t)).alloc o1).alloc o2).drew := by
  refine ⟨?_, by omega, bel_dr (bel_al (bel_al (bel_al (Below.refl _ _) _) _) _)⟩
  show (((wr.alloc (.cells cs t)).alloc o1).alloc o2).heap[wr.heap.size]? = _
  rw [Below.heap_alloc _ _ _ (by simp; omega), Below.heap_alloc _ _ _ (by simp), heap_alloc_new]
theorem fls_snoc (out : List Fv) (z : Fv) : fls (out ++ [z]) = fls out ++ [z.f] := by simp [fls]
end Go.Proofs.YtmgmganbamjnmaaGreatDoor
