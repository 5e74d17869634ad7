/-
  A row of files of the call's own, whose spare room holds nothing: what is set behind it touches no file that has a name.
-/
import Derived.Test.YtmgmganbamjnmaaDoorQ31
namespace Go.Proofs.YtmgmganbamjnmaaDoor
open Go.RowKit
set_option linter.unusedVariables false
set_option linter.unusedSimpArgs false
set_option maxRecDepth 100000

def z0 : Fv := ⟨⟨[], [], 0, 0, false⟩, none, 0⟩
theorem fc_split {ys : List Fv} {i : Nat} {u : Value} (h : (fcells ys)[i]? = some u) : ∃ j r y, i = j * 5 + r ∧ r < 5 ∧ ys[j]? = some y ∧ y.cells[r]? = some u := by
  have hl := (List.getElem?_eq_some_iff.1 h).1
  rw [fcells_len] at hl
  have hj : i / 5 < ys.length := by omega
  have e : i = i / 5 * 5 + i % 5 := by omega
  refine ⟨i / 5, i % 5, ys[i / 5], e, by omega, List.getElem?_eq_getElem hj, ?_⟩
  rw [← fcells_at ys (i / 5) _ (i % 5) (List.getElem?_eq_getElem hj) (by omega), ← e]
  exact h
theorem fc_str {ys : List Fv} {i : Nat} {t : ByteArray} (h : (fcells ys)[i]? = some (.string t)) : ∃ j y, i = j * 5 ∧ ys[j]? = some y ∧ t = B y.f.name := by
  obtain ⟨j, r, y, h1, h2, h3, h4⟩ := fc_split h
  have : r = 0 ∨ r = 1 ∨ r = 2 ∨ r = 3 ∨ r = 4 := by omega
  rcases this with rfl | rfl | rfl | rfl | rfl
  · refine ⟨j, y, by omega, h3, ?_⟩
    have e : some (Value.string (B y.f.name)) = some (.string t) := h4
    exact (Value.string.inj (Option.some.inj e)).symm
  · have e : some y.sl = some (.string t) := h4; cases e
  · have e : some (Value.int .i64 y.f.stamp) = some (.string t) := h4; cases e
  · have e : some (Value.int .i64 y.f.node) = some (.string t) := h4; cases e
  · have e : some (Value.bool y.f.gone) = some (.string t) := h4; cases e
theorem fc_u8 {ys : List Fv} {i : Nat} {k : Int} (h : (fcells ys)[i]? = some (.int .u8 k)) : False := by
  obtain ⟨j, r, y, h1, h2, h3, h4⟩ := fc_split h
  have : r = 0 ∨ r = 1 ∨ r = 2 ∨ r = 3 ∨ r = 4 := by omega
  rcases this with rfl | rfl | rfl | rfl | rfl
  · have e : some (Value.string (B y.f.name)) = some (.int .u8 k) := h4; cases e
  · have e : some y.sl = some (.int .u8 k) := h4; cases e
  · have e : some (Value.int .i64 y.f.stamp) = some (.int .u8 k) := h4; cases e
  · have e : some (Value.int .i64 y.f.node) = some (.int .u8 k) := h4; cases e
  · have e : some (Value.bool y.f.gone) = some (.int .u8 k) := h4; cases e
theorem B_inj2 {a b : List UInt8} (h : B a = B b) : a = b := by rw [← toList_B a, h, toList_B]
/-- what stays: all that lies elsewhere, and of block P the first files -/
structure ZKeep (w w' : World) (P : Option Nat) : Prop where
  g : w.grownBy w' P
  at_ : ∀ p, P = some p → ∃ xs zs zs', w.heap[p]? = some (.cells (fcells (xs ++ zs)).toArray 39 (0, 0)) ∧ w'.heap[p]? = some (.cells (fcells (xs ++ zs')).toArray 39 (0, 0)) ∧ ∀ z ∈ zs, z.f.name = []
theorem ZKeep.bs {w w' : World} {P : Option Nat} {a : Option Addr} {c : Nat} {bs : List UInt8} (k : ZKeep w w' P) (h : BsIn w a c bs) : BsIn w' a c bs := by
  by_cases h0 : bs = []
  · subst h0
    rcases h with h | h | ⟨b, o, h1, _⟩
    · exact .inl h
    · exact .inr (.inl h)
    · exact .inr (.inl ⟨rfl, _, h1⟩)
  · refine h.grown k.g (fun b o e e2 => ?_)
    obtain ⟨xs, zs, zs', h1, _, _⟩ := k.at_ b e2.symm
    rcases h with h | h | ⟨b', o', k1, k2, k3, k4⟩
    · exact h0 h.2.1
    · exact h0 h.1
    · rw [e] at k1
      cases k1
      have hl : 0 < bs.length := by cases bs with | nil => exact absurd rfl h0 | cons _ _ => simp
      have := k4 0 hl
      rw [heap_row h1] at this
      exact fc_u8 (by simpa using this)
theorem ZKeep.fv {w w' : World} {P : Option Nat} {x : Fv} (k : ZKeep w w' P) (h : FvIn w x) : FvIn w' x := ⟨k.bs h.bs, h.big, h.txt⟩
theorem ZKeep.lin {w w' : World} {P : Option Nat} {v : Value} {l : List Fl} (k : ZKeep w w' P) (h : LIn w v l) (hn : ∀ f ∈ l, f.name ≠ []) : LIn w' v l := by
  obtain ⟨ad, c, out, h1, h2, h3⟩ := h
  refine ⟨ad, c, out, h1, ⟨?_, h2.cap, h2.capm, h2.lim, fun x hx => k.fv (h2.all x hx)⟩, h3⟩
  rcases h2.at_ with q | ⟨b, o, q1, q2, q3⟩
  · exact .inl q
  · refine .inr ⟨b, o, q1, Nat.lt_of_lt_of_le q2 k.g.size, fun j x hj => ?_⟩
    by_cases e : some b = P
    · obtain ⟨xs, zs, zs', r1, r2, r3⟩ := k.at_ b e.symm
      obtain ⟨p0, p1, p2, p3, p4⟩ := q3 j x hj
      have p0' := p0
      rw [heap_row r1] at p0'
      obtain ⟨q, y, s1, s2, s3⟩ := fc_str (ys := xs ++ zs) (i := o + j * 5) (t := B x.f.name) (by simpa using p0')
      have hxn : x.f.name ≠ [] := hn x.f (by rw [← h3]; exact List.mem_map_of_mem (List.mem_of_getElem? hj))
      have hyn : y.f.name = x.f.name := (B_inj2 s3).symm
      have hq : q < xs.length := by
        rcases Nat.lt_or_ge q xs.length with hq | hq
        · exact hq
        · rw [List.getElem?_append_right hq] at s2
          have := r3 y (List.mem_of_getElem? s2)
          rw [hyn] at this
          exact absurd this hxn
      rw [List.getElem?_append_left hq] at s2
      have hc : ∀ i, i < 5 → w'.cell? ⟨b, o + j * 5 + i, none⟩ = w.cell? ⟨b, o + j * 5 + i, none⟩ := by
        intro i hi
        rw [heap_row r1, heap_row r2, s1]
        have e1 := fcells_at (xs ++ zs) q y i (by rw [List.getElem?_append_left hq]; exact s2) hi
        have e2 := fcells_at (xs ++ zs') q y i (by rw [List.getElem?_append_left hq]; exact s2) hi
        simpa using e2.trans e1.symm
      exact ⟨(hc 0 (by decide)).trans p0, (hc 1 (by decide)).trans p1, (hc 2 (by decide)).trans p2, (hc 3 (by decide)).trans p3, (hc 4 (by decide)).trans p4⟩
    · obtain ⟨p0, p1, p2, p3, p4⟩ := q3 j x hj
      exact ⟨k.g.cell p0 e, k.g.cell p1 e, k.g.cell p2 e, k.g.cell p3 e, k.g.cell p4 e⟩
theorem ZKeep.win {w w' : World} {P : Option Nat} {v : Value} {W : Wd} (k : ZKeep w w' P) (h : WIn w v W) (hn : ∀ l ∈ W.nodes, ∀ f ∈ l, f.name ≠ []) (hm : ∀ m ∈ W.net, ∀ f ∈ m.files, f.name ≠ []) (hv : ∀ b, vBlocks v b → some b ≠ P) : WIn w' v W := by
  obtain ⟨a1, c1, a2, c2, a3, c3, rfl, h1, h2, h3⟩ := h
  refine ⟨a1, c1, a2, c2, a3, c3, rfl, ⟨h1.cap, h1.capm, h1.lim, h1.nil, ?_⟩, ⟨h2.cap, h2.capm, h2.lim, h2.nil, ?_⟩, ⟨h3.cap, h3.capm, h3.lim, h3.nil, ?_⟩⟩
  · rcases h1.at_ with q | ⟨b, o, k1, k2, k3⟩
    · exact .inl q
    · refine .inr ⟨b, o, k1, Nat.lt_of_lt_of_le k2 k.g.size, fun j l hj => ?_⟩
      obtain ⟨x, q1, q2⟩ := k3 j l hj
      exact ⟨x, k.g.cell q1 (hv b ⟨a1, _, c1, a2, _, c2, a3, _, c3, o, rfl, .inl k1⟩), k.lin q2 (hn l (List.mem_of_getElem? hj))⟩
  · rcases h2.at_ with q | ⟨b, o, k1, k2, k3⟩
    · exact .inl q
    · exact .inr ⟨b, o, k1, Nat.lt_of_lt_of_le k2 k.g.size, fun j l hj => k.g.cell (k3 j l hj) (hv b ⟨a1, _, c1, a2, _, c2, a3, _, c3, o, rfl, .inr (.inl k1)⟩)⟩
  · rcases h3.at_ with q | ⟨b, o, k1, k2, k3⟩
    · exact .inl q
    · refine .inr ⟨b, o, k1, Nat.lt_of_lt_of_le k2 k.g.size, fun j l hj => ?_⟩
      obtain ⟨x, q1, q2, q3⟩ := k3 j l hj
      have hb := hv b ⟨a1, _, c1, a2, _, c2, a3, _, c3, o, rfl, .inr (.inr k1)⟩
      exact ⟨x, k.g.cell q1 hb, k.g.cell q2 hb, k.lin q3 (hm l (List.mem_of_getElem? hj))⟩

/-- v is a row of the call's own, from block B on, that holds these files; its spare room holds nothing -/
structure ZRow (w : World) (B : Nat) (v : Value) (xs : List Fv) : Prop where
  all : ∀ x ∈ xs, FvIn w x
  at_ : (v = .slice none 0 0 ∧ xs = []) ∨ ∃ g cap, v = .slice (some ⟨g, 0, none⟩) xs.length cap ∧ B ≤ g ∧ xs.length ≤ cap ∧ cap ≤ maxLen ∧ w.heap[g]? = some (.cells (fcells (xs ++ List.replicate (cap - xs.length) z0)).toArray 39 (0, 0))
theorem ZRow.nil (w : World) (B : Nat) : ZRow w B (.slice none 0 0) [] := ⟨(fun x hx => by cases hx), .inl ⟨rfl, rfl⟩⟩
theorem ZRow.lt {w : World} {B : Nat} {v : Value} {xs : List Fv} (h : ZRow w B v xs) {g : Nat} (e : v.ownBlock = some g) : B ≤ g ∧ g < w.heap.size := by
  rcases h.at_ with ⟨rfl, _⟩ | ⟨g', cap, rfl, h1, h2, h3, h4⟩
  · cases e
  · cases e
    exact ⟨h1, (Array.getElem?_eq_some_iff.1 h4).1⟩
theorem ZRow.below {w w' : World} {B : Nat} {v : Value} {xs : List Fv} (h : ZRow w B v xs) (hB : Below w.heap.size w w') : ZRow w' B v xs := by
  refine ⟨fun x hx => (h.all x hx).below hB (Nat.le_refl _), ?_⟩
  rcases h.at_ with q | ⟨g, cap, h0, h1, h2, h3, h4⟩
  · exact .inl q
  · exact .inr ⟨g, cap, h0, h1, h2, h3, (hB.block g (Array.getElem?_eq_some_iff.1 h4).1).trans h4⟩
/-- another block was changed, one that holds no bytes -/
theorem ZRow.off {w w' : World} {B g : Nat} {v : Value} {xs : List Fv} (h : ZRow w B v xs) (hg : w.grownBy w' (some g)) (hn : NFb w g) (hv : v.ownBlock ≠ some g) : ZRow w' B v xs := by
  refine ⟨fun x hx => ⟨(h.all x hx).bs.offN hg (fun q e => by cases e; exact hn), (h.all x hx).big, (h.all x hx).txt⟩, ?_⟩
  rcases h.at_ with q | ⟨g', cap, h0, h1, h2, h3, h4⟩
  · exact .inl q
  · refine .inr ⟨g', cap, h0, h1, h2, h3, ?_⟩
    rw [hg.block g' (Array.getElem?_eq_some_iff.1 h4).1 (fun e => hv (by rw [h0]; exact e))]
    exact h4
theorem ZRow.sl {w : World} {B : Nat} {v : Value} {xs : List Fv} (h : ZRow w B v xs) : ∃ a c, v = .slice a xs.length c := by
  rcases h.at_ with ⟨rfl, rfl⟩ | ⟨g, cap, h0, _⟩
  · exact ⟨none, 0, rfl⟩
  · exact ⟨_, _, h0⟩
theorem ZRow.lin {w : World} {B : Nat} {v : Value} {xs : List Fv} (h : ZRow w B v xs) (hl : xs.length ≤ 1000) : ∃ a c, v = .slice a xs.length c ∧ FsIn w a c xs := by
  rcases h.at_ with ⟨rfl, rfl⟩ | ⟨g, cap, h0, h1, h2, h3, h4⟩
  · exact ⟨none, 0, rfl, FsIn.nil w⟩
  · refine ⟨_, _, h0, ⟨.inr ⟨g, 0, rfl, (Array.getElem?_eq_some_iff.1 h4).1, fun j x hj => ?_⟩, h2, by unfold maxLen at h3; omega, by omega, h.all⟩⟩
    have hlt := (List.getElem?_eq_some_iff.1 hj).1
    have hc : ∀ i u, i < 5 → x.cells[i]? = some u → w.cell? ⟨g, 0 + j * 5 + i, none⟩ = some u := by
      intro i u hi hu
      rw [heap_row h4, Nat.zero_add]
      have e := fcells_at (xs ++ List.replicate (cap - xs.length) z0) j x i (by rw [List.getElem?_append_left hlt]; exact hj) hi
      simpa using e.trans hu
    exact ⟨hc 0 _ (by decide) rfl, hc 1 _ (by decide) rfl, hc 2 _ (by decide) rfl, hc 3 _ (by decide) rfl, hc 4 _ (by decide) rfl⟩
theorem zero_cells (k : Nat) : (Builtin.zeroCells (Value.agg #[.string ⟨#[]⟩, .slice none 0 0, .int .i64 0, .int .i64 0, .bool false]).cells k).toList = fcells (List.replicate k z0) := by
  refine List.ext_getElem? (fun i => ?_)
  unfold Builtin.zeroCells
  have hz : (Value.agg #[.string ⟨#[]⟩, .slice none 0 0, .int .i64 0, .int .i64 0, .bool false]).cells = #[.string ⟨#[]⟩, .slice none 0 0, .int .i64 0, .int .i64 0, .bool false] := rfl
  rw [hz]
  by_cases hi : i < k * 5
  · have hj : i / 5 < k := by omega
    have e := fcells_at (List.replicate k z0) (i / 5) z0 (i % 5) (by rw [List.getElem?_replicate, if_pos hj]) (by omega)
    rw [show i / 5 * 5 + i % 5 = i by omega] at e
    rw [e]
    have hl : i < ((Array.map (fun i => (#[Value.string ⟨#[]⟩, .slice none 0 0, .int .i64 0, .int .i64 0, .bool false] : Array Value)[i % (#[Value.string ⟨#[]⟩, .slice none 0 0, .int .i64 0, .int .i64 0, .bool false] : Array Value).size]!) (Array.range (k * (#[Value.string ⟨#[]⟩, .slice none 0 0, .int .i64 0, .int .i64 0, .bool false] : Array Value).size))).toList).length := by
      simp; omega
    rw [List.getElem?_eq_getElem hl]
    simp only [Array.getElem_toList, Array.getElem_map, Array.getElem_range]
    have : i % 5 = 0 ∨ i % 5 = 1 ∨ i % 5 = 2 ∨ i % 5 = 3 ∨ i % 5 = 4 := by omega
    have hs : (#[Value.string ⟨#[]⟩, .slice none 0 0, .int .i64 0, .int .i64 0, .bool false] : Array Value).size = 5 := rfl
    rw [hs]
    rcases this with e | e | e | e | e <;> rw [e] <;> rfl
  · rw [List.getElem?_eq_none (by simp; omega), List.getElem?_eq_none (by rw [fcells_len]; simp; omega)]
/-- a file is set behind it -/
theorem run_append_Z (w : World) (ty : TypeId) {Bs g : Nat} {v : Value} {xs : List Fv} {y : Fv} (h : ZRow w Bs v xs) (hc : ∀ j u, y.cells[j]? = some u → w.cell? ⟨g, j, none⟩ = some u) (hy : FvIn w y) (hl : xs.length ≤ 1000) (hB : Bs ≤ w.heap.size) :
    ∃ v' w', (Builtin.append_ #[35, 35] ty #[v, .slice (some ⟨g, 0, none⟩) 1 1]).run Tryd.prog w = .ok v' w' ∧ ZRow w' Bs v' (xs ++ [y]) ∧ ZKeep w w' v.ownBlock ∧ (v'.ownBlock = v.ownBlock ∨ v'.ownBlock = some w.heap.size) := by
  obtain ⟨i0, hi, hz0, hz1, hz2⟩ := info_parts info_file
  have hcl : y.cells.length = 1 * i0.size := by rw [hz1]; rfl
  have hn2 : ∀ j u, y.cells[j]? = some u → w.cell? ((⟨g, 0, none⟩ : Addr).add j) = some u := by
    intro j u hj
    have e2 : (⟨g, 0, none⟩ : Addr).add j = ⟨g, j, none⟩ := by unfold Addr.add; split <;> simp_all
    rw [e2]
    exact hc j u hj
  have grown : ∀ (cap old : Nat), xs.length + 1 ≤ cap → cap ≤ maxLen → ∀ (A : Array Value), A.toList = fcells (xs ++ [y] ++ List.replicate (cap - (xs.length + 1)) z0) → ∀ r, ZKeep w (w.drew.alloc (.cells A 39)) none ∧ ZRow (w.drew.alloc (.cells A 39)) Bs (.slice (some ⟨w.heap.size, 0, none⟩) (xs.length + 1) cap) (xs ++ [y]) ∧ (v.ownBlock = r → w.grownBy (w.drew.alloc (.cells A 39)) r) := by
    intro cap old h1 h2 A hA r
    have hgr : ∀ r, w.grownBy (w.drew.alloc (.cells A 39)) r := fun r => ⟨rfl, rfl, rfl, by simp, fun k hk _ => heap_alloc_old w.drew _ hk⟩
    have hk : ZKeep w (w.drew.alloc (.cells A 39)) none := ⟨hgr none, fun p e => by cases e⟩
    refine ⟨hk, ⟨fun x hx => ?_, .inr ⟨w.heap.size, cap, by simp, hB, by simpa using h1, h2, ?_⟩⟩, fun _ => hgr r⟩
    · rcases List.mem_append.1 hx with q | q
      · exact hk.fv (h.all x q)
      · rw [List.mem_singleton.1 q]; exact hk.fv hy
    · have e := heap_alloc_new w.drew (.cells A 39)
      rw [show A = (fcells (xs ++ [y] ++ List.replicate (cap - (xs ++ [y]).length) z0)).toArray by
        rw [List.length_append, List.length_singleton, ← hA]] at e ⊢
      exact e
  rcases h.at_ with ⟨rfl, rfl⟩ | ⟨p, cap, rfl, h1, h2, h3, h4⟩
  · have hr := run_append_nil (P := Tryd.prog) w 35 ty 39 i0 _ Tryd.underlying35 hi hz0 ⟨g, 0, none⟩ 1 1 y.cells hcl hn2 (by decide) (by decide) (by rw [hz2]; decide)
    have hge := grownCap_ge w 1 0 39
    have hle := grownCap_le_maxLen w 1 0 39 (by unfold maxLen; omega)
    have hA : (y.cells.toArray ++ Builtin.zeroCells (Value.agg #[.string ⟨#[]⟩, .slice none 0 0, .int .i64 0, .int .i64 0, .bool false]).cells (grownCap w 1 0 39 - 1)).toList = fcells ([] ++ [y] ++ List.replicate (grownCap w 1 0 39 - (0 + 1)) z0) := by
      rw [Array.toList_append, zero_cells, fcells_app, List.nil_append, fcells_one]
    obtain ⟨k1, k2, k3⟩ := grown _ 0 hge hle _ hA (Value.ownBlock (.slice none 0 0))
    exact ⟨_, _, hr, k2, ⟨k3 rfl, fun p e => by cases e⟩, .inr rfl⟩
  · by_cases hroom : xs.length + 1 ≤ cap
    · obtain ⟨k, hk⟩ : ∃ k, cap - xs.length = k + 1 := ⟨cap - xs.length - 1, by omega⟩
      have hsz : ((fcells (xs ++ List.replicate (cap - xs.length) z0)).toArray).size = cap * 5 := by
        rw [List.size_toArray, fcells_len]; simp; omega
      have hr := run_append_room (P := Tryd.prog) w 35 ty 39 i0 Tryd.underlying35 hi p xs.length cap _ h4 ⟨g, 0, none⟩ 1 1 y.cells hcl hn2 (cells_one y) hroom (by rw [hsz, hz1]; show xs.length * 5 + 5 ≤ _; omega)
      have e0 : (fcells (xs ++ List.replicate (cap - xs.length) z0)).toArray.toList.take (xs.length * i0.size) ++ y.cells ++ (fcells (xs ++ List.replicate (cap - xs.length) z0)).toArray.toList.drop (xs.length * i0.size + y.cells.length) = fcells (xs ++ (y :: List.replicate k z0)) := by
        rw [hz1, hk]
        simp only [List.toList_toArray]
        rw [List.replicate_succ, fcells_app]
        have q1 : (fcells xs).length = xs.length * 5 := fcells_len xs
        rw [← q1, List.take_left]
        have q2 : fcells (z0 :: List.replicate k z0) = z0.cells ++ fcells (List.replicate k z0) := rfl
        have q3 : (fcells xs).length + y.cells.length = (fcells xs ++ z0.cells).length := by rw [List.length_append]; rfl
        rw [q2, q3, ← List.append_assoc, List.drop_left, fcells_app]
        have q4 : fcells (y :: List.replicate k z0) = y.cells ++ fcells (List.replicate k z0) := rfl
        rw [q4, List.append_assoc]
      rw [e0] at hr
      have hh := setRow_heap w p _ (fcells (xs ++ (y :: List.replicate k z0))).toArray _ _ h4
      have hgr : w.grownBy (w.setRow p (fcells (xs ++ (y :: List.replicate k z0))).toArray) (some p) := ⟨rfl, rfl, rfl, by simp, fun q _ hq => setRow_other w p q _ (fun e => hq (by simp [e]))⟩
      have hkp : ZKeep w (w.setRow p (fcells (xs ++ (y :: List.replicate k z0))).toArray) (some p) := ⟨hgr, fun q e => by
        cases e
        exact ⟨xs, _, _, h4, hh, fun z hz => by rw [(List.mem_replicate.1 hz).2]; rfl⟩⟩
      refine ⟨_, _, hr, ⟨fun x hx => ?_, .inr ⟨p, cap, by simp, h1, by simpa using hroom, h3, ?_⟩⟩, hkp, .inl rfl⟩
      · rcases List.mem_append.1 hx with q | q
        · exact hkp.fv (h.all x q)
        · rw [List.mem_singleton.1 q]; exact hkp.fv hy
      · rw [hh]
        have : cap - (xs ++ [y]).length = k := by simp; omega
        rw [this, List.append_assoc, List.singleton_append]
    · have hcap : cap = xs.length := by omega
      subst hcap
      rw [Nat.sub_self, List.replicate_zero, List.append_nil] at h4
      have holds : ∀ j u, (fcells xs)[j]? = some u → w.cell? ((⟨p, 0, none⟩ : Addr).add j) = some u := by
        intro j u hj
        have e2 : (⟨p, 0, none⟩ : Addr).add j = ⟨p, j, none⟩ := by unfold Addr.add; split <;> simp_all
        rw [e2, heap_row h4]
        simpa using hj
      have hr := run_append_grow (P := Tryd.prog) w 35 ty 39 i0 _ Tryd.underlying35 hi hz0 ⟨p, 0, none⟩ xs.length xs.length (fcells xs) (by rw [hz1, fcells_len]) holds ⟨g, 0, none⟩ 1 1 y.cells hcl hn2 (by omega) (by omega) (growslice_fits (by omega) (by rw [hz2]; omega))
      have hge := grownCap_ge w (xs.length + 1) xs.length 39
      have hle := grownCap_le_maxLen w (xs.length + 1) xs.length 39 (by unfold maxLen; omega)
      have hA : ((fcells xs).toArray ++ y.cells.toArray ++ Builtin.zeroCells (Value.agg #[.string ⟨#[]⟩, .slice none 0 0, .int .i64 0, .int .i64 0, .bool false]).cells (grownCap w (xs.length + 1) xs.length 39 - (xs.length + 1))).toList = fcells (xs ++ [y] ++ List.replicate (grownCap w (xs.length + 1) xs.length 39 - (xs.length + 1)) z0) := by
        rw [Array.toList_append, Array.toList_append, zero_cells, fcells_app, fcells_app, fcells_one]
      obtain ⟨k1, k2, k3⟩ := grown _ 0 hge hle _ hA (some p)
      exact ⟨_, _, hr, k2, ⟨k3 rfl, fun q e => by
        cases e
        exact ⟨xs, [], [], by rw [List.append_nil]; exact h4, by
          rw [List.append_nil, heap_alloc_old w.drew _ (Array.getElem?_eq_some_iff.1 h4).1]
          exact h4, fun z hz => by cases hz⟩⟩, .inr rfl⟩
end Go.Proofs.YtmgmganbamjnmaaDoor
