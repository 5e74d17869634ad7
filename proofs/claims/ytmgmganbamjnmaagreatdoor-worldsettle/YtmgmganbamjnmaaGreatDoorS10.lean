/-
  Worlds in memory: lists of files, clocks and messages behind one another.
-/
import Derived.Test.YtmgmganbamjnmaaGreatDoorS9
namespace Go.Proofs.YtmgmganbamjnmaaGreatDoor
open Go.RowKit
set_option linter.unusedVariables false
set_option linter.unusedSimpArgs false
set_option maxRecDepth 100000

/-- lists of files in a slice at a, room for c -/
structure NsIn (w : World) (a : Option Addr) (c : Nat) (ls : List (List Fl)) : Prop where
  cap : ls.length ≤ c
  capm : c ≤ 9223372036854775807
  lim : ls.length ≤ 5864062014805
  nil : a = none → c = 0
  at_ : ls = [] ∨ ∃ b o, a = some ⟨b, o, none⟩ ∧ b < w.heap.size ∧ ∀ (j : Nat) (l : List Fl), ls[j]? = some l → ∃ x, w.cell? ⟨b, o + j, none⟩ = some x ∧ LIn w x l
/-- clocks -/
structure CsIn (w : World) (a : Option Addr) (c : Nat) (xs : List Int) : Prop where
  cap : xs.length ≤ c
  capm : c ≤ 9223372036854775807
  lim : xs.length ≤ 17592186044416
  nil : a = none → c = 0
  at_ : xs = [] ∨ ∃ b o, a = some ⟨b, o, none⟩ ∧ b < w.heap.size ∧ ∀ (j : Nat) (x : Int), xs[j]? = some x → w.cell? ⟨b, o + j, none⟩ = some (.int .i64 x)
/-- messages -/
structure MsIn (w : World) (a : Option Addr) (c : Nat) (ms : List Ms) : Prop where
  cap : ms.length ≤ c
  capm : c ≤ 9223372036854775807
  lim : ms.length ≤ 4398046511104
  nil : a = none → c = 0
  at_ : ms = [] ∨ ∃ b o, a = some ⟨b, o, none⟩ ∧ b < w.heap.size ∧ ∀ (j : Nat) (m : Ms), ms[j]? = some m → ∃ x, w.cell? ⟨b, o + j * 2, none⟩ = some (.int .i64 m.dst) ∧ w.cell? ⟨b, o + j * 2 + 1, none⟩ = some x ∧ LIn w x m.files
theorem NsIn.below {w w' : World} {a : Option Addr} {c : Nat} {ls : List (List Fl)} (h : NsIn w a c ls) (hB : Below w.heap.size w w') : NsIn w' a c ls := by
  refine ⟨h.cap, h.capm, h.lim, h.nil, ?_⟩
  rcases h.at_ with h1 | ⟨b, o, h1, h2, h3⟩
  · exact .inl h1
  · refine .inr ⟨b, o, h1, Nat.lt_of_lt_of_le h2 hB.size, fun j l hj => ?_⟩
    obtain ⟨x, k1, k2⟩ := h3 j l hj
    exact ⟨x, (hB.cell (p := ⟨b, _, none⟩) h2).trans k1, k2.below hB⟩
theorem CsIn.below {w w' : World} {a : Option Addr} {c : Nat} {xs : List Int} (h : CsIn w a c xs) (hB : Below w.heap.size w w') : CsIn w' a c xs := by
  refine ⟨h.cap, h.capm, h.lim, h.nil, ?_⟩
  rcases h.at_ with h1 | ⟨b, o, h1, h2, h3⟩
  · exact .inl h1
  · exact .inr ⟨b, o, h1, Nat.lt_of_lt_of_le h2 hB.size, fun j l hj => (hB.cell (p := ⟨b, _, none⟩) h2).trans (h3 j l hj)⟩
theorem MsIn.below {w w' : World} {a : Option Addr} {c : Nat} {ms : List Ms} (h : MsIn w a c ms) (hB : Below w.heap.size w w') : MsIn w' a c ms := by
  refine ⟨h.cap, h.capm, h.lim, h.nil, ?_⟩
  rcases h.at_ with h1 | ⟨b, o, h1, h2, h3⟩
  · exact .inl h1
  · refine .inr ⟨b, o, h1, Nat.lt_of_lt_of_le h2 hB.size, fun j l hj => ?_⟩
    obtain ⟨x, k1, k2, k3⟩ := h3 j l hj
    exact ⟨x, (hB.cell (p := ⟨b, _, none⟩) h2).trans k1, (hB.cell (p := ⟨b, _, none⟩) h2).trans k2, k3.below hB⟩
theorem NsIn.zero (w : World) : NsIn w none 0 [] := ⟨Nat.le_refl _, by omega, by simp, fun _ => rfl, .inl rfl⟩
theorem CsIn.zero (w : World) : CsIn w none 0 [] := ⟨Nat.le_refl _, by omega, by simp, fun _ => rfl, .inl rfl⟩
theorem MsIn.zero (w : World) : MsIn w none 0 [] := ⟨Nat.le_refl _, by omega, by simp, fun _ => rfl, .inl rfl⟩
theorem NsIn.get {w : World} {a : Option Addr} {c j : Nat} {ls : List (List Fl)} {l : List Fl} (h : NsIn w a c ls) (hj : ls[j]? = some l) : ∃ b o x, a = some ⟨b, o, none⟩ ∧ b < w.heap.size ∧ w.cell? ⟨b, o + j, none⟩ = some x ∧ LIn w x l := by
  rcases h.at_ with h1 | ⟨b, o, h1, h2, h3⟩
  · subst h1; simp at hj
  · obtain ⟨x, k1, k2⟩ := h3 j l hj
    exact ⟨b, o, x, h1, h2, k1, k2⟩
theorem CsIn.get {w : World} {a : Option Addr} {c j : Nat} {xs : List Int} {x : Int} (h : CsIn w a c xs) (hj : xs[j]? = some x) : ∃ b o, a = some ⟨b, o, none⟩ ∧ b < w.heap.size ∧ w.cell? ⟨b, o + j, none⟩ = some (.int .i64 x) := by
  rcases h.at_ with h1 | ⟨b, o, h1, h2, h3⟩
  · subst h1; simp at hj
  · exact ⟨b, o, h1, h2, h3 j x hj⟩
theorem MsIn.get {w : World} {a : Option Addr} {c j : Nat} {ms : List Ms} {m : Ms} (h : MsIn w a c ms) (hj : ms[j]? = some m) : ∃ b o x, a = some ⟨b, o, none⟩ ∧ b < w.heap.size ∧ w.cell? ⟨b, o + j * 2, none⟩ = some (.int .i64 m.dst) ∧ w.cell? ⟨b, o + j * 2 + 1, none⟩ = some x ∧ LIn w x m.files := by
  rcases h.at_ with h1 | ⟨b, o, h1, h2, h3⟩
  · subst h1; simp at hj
  · obtain ⟨x, k1, k2, k3⟩ := h3 j m hj
    exact ⟨b, o, x, h1, h2, k1, k2, k3⟩

/-- v is this world -/
structure WAt (w : World) (W : Wd) (a1 : Option Addr) (c1 : Nat) (a2 : Option Addr) (c2 : Nat) (a3 : Option Addr) (c3 : Nat) : Prop where
  ns : NsIn w a1 c1 W.nodes
  cs : CsIn w a2 c2 W.clock
  ms : MsIn w a3 c3 W.net
theorem WAt.below {w w' : World} {W : Wd} {a1 a2 a3 : Option Addr} {c1 c2 c3 : Nat} (h : WAt w W a1 c1 a2 c2 a3 c3) (hB : Below w.heap.size w w') : WAt w' W a1 c1 a2 c2 a3 c3 := ⟨h.ns.below hB, h.cs.below hB, h.ms.below hB⟩
def WIn (w : World) (v : Value) (W : Wd) : Prop := ∃ a1 c1 a2 c2 a3 c3, v = .agg #[.slice a1 W.nodes.length c1, .slice a2 W.clock.length c2, .slice a3 W.net.length c3] ∧ WAt w W a1 c1 a2 c2 a3 c3
theorem WIn.below {w w' : World} {v : Value} {W : Wd} (h : WIn w v W) (hB : Below w.heap.size w w') : WIn w' v W := by
  obtain ⟨a1, c1, a2, c2, a3, c3, rfl, h1⟩ := h
  exact ⟨a1, c1, a2, c2, a3, c3, rfl, h1.below hB⟩
theorem WIn.no (w : World) : WIn w (.agg #[.slice none 0 0, .slice none 0 0, .slice none 0 0]) noW := ⟨none, 0, none, 0, none, 0, rfl, NsIn.zero w, CsIn.zero w, MsIn.zero w⟩

/-- a message as it lies -/
structure Mv where
  m : Ms
  a : Option Addr
  c : Nat
def Mv.sl (x : Mv) : Value := .slice x.a x.m.files.length x.c
def Mv.cells (x : Mv) : List Value := [.int .i64 x.m.dst, x.sl]
def mcells (xs : List Mv) : List Value := xs.flatMap Mv.cells
def mss (xs : List Mv) : List Ms := xs.map Mv.m
theorem mcells_len (xs : List Mv) : (mcells xs).length = xs.length * 2 := by
  induction xs with
  | nil => rfl
  | cons x r ih =>
    have : mcells (x :: r) = x.cells ++ mcells r := rfl
    rw [this, List.length_append, ih, List.length_cons]
    show 2 + r.length * 2 = _
    omega
theorem mcells_app (xs ys : List Mv) : mcells (xs ++ ys) = mcells xs ++ mcells ys := by simp [mcells]
theorem mcells_one (y : Mv) : mcells [y] = y.cells := by simp [mcells]
theorem mcells_at : ∀ (xs : List Mv) (j : Nat) (x : Mv) (i : Nat), xs[j]? = some x → i < 2 → (mcells xs)[j * 2 + i]? = x.cells[i]?
  | [], j, x, i, h, _ => by simp at h
  | y :: r, 0, x, i, h, hi => by
    have : mcells (y :: r) = y.cells ++ mcells r := rfl
    simp at h
    subst h
    rw [this, Nat.zero_mul, Nat.zero_add, List.getElem?_append_left (show i < 2 from hi)]
  | y :: r, j + 1, x, i, h, hi => by
    have e : mcells (y :: r) = y.cells ++ mcells r := rfl
    have hl : y.cells.length = 2 := rfl
    have ih := mcells_at r j x i (by simpa using h) hi
    rw [e, List.getElem?_append_right (by rw [hl]; omega), hl, show (j + 1) * 2 + i - 2 = j * 2 + i by omega, ih]
theorem mcells_nf (xs : List Mv) : ∀ u ∈ mcells xs, nfv u = true ∧ u.oneCell' = true := by
  intro u hu
  unfold mcells at hu
  obtain ⟨x, _, hx⟩ := List.mem_flatMap.1 hu
  simp only [Mv.cells, Mv.sl, List.mem_cons, List.not_mem_nil, or_false] at hx
  rcases hx with rfl | rfl <;> exact ⟨rfl, rfl⟩
theorem iv_nf (xs : List Int) : ∀ u ∈ iv xs, nfv u = true ∧ u.oneCell' = true := by
  intro u hu
  obtain ⟨x, _, rfl⟩ := List.mem_map.1 hu
  exact ⟨rfl, rfl⟩

/-- a list of files as it lies -/
structure Lv where
  l : List Fl
  a : Option Addr
  c : Nat
def Lv.val (x : Lv) : Value := .slice x.a x.l.length x.c
def lvs (xs : List Lv) : List Value := xs.map Lv.val
def lss (xs : List Lv) : List (List Fl) := xs.map Lv.l
theorem lvs_nf (xs : List Lv) : ∀ u ∈ lvs xs, nfv u = true ∧ u.oneCell' = true := by
  intro u hu
  obtain ⟨x, _, rfl⟩ := List.mem_map.1 hu
  exact ⟨rfl, rfl⟩
theorem LIn.lv {w : World} {v : Value} {l : List Fl} (h : LIn w v l) : ∃ x : Lv, x.l = l ∧ x.val = v := by
  obtain ⟨a, c, rfl⟩ := h.shape
  exact ⟨⟨l, a, c⟩, rfl, rfl⟩

/-- a world in memory of the call's own, from block B on -/
structure OW (w : World) (B : Nat) (vn vc vm : Value) (ns : List Lv) (cs : List Int) (ms : List Mv) : Prop where
  n : TRow w B 46 1 vn ns.length (lvs ns)
  c : TRow w B 3 1 vc cs.length (iv cs)
  m : TRow w B 54 2 vm ms.length (mcells ms)
  la : ∀ x ∈ ns, LIn w x.val x.l
  ma : ∀ x ∈ ms, LIn w x.sl x.m.files
theorem OW.below {w w' : World} {B : Nat} {vn vc vm : Value} {ns : List Lv} {cs : List Int} {ms : List Mv} (h : OW w B vn vc vm ns cs ms) (hB : Below w.heap.size w w') : OW w' B vn vc vm ns cs ms :=
  ⟨h.n.below hB, h.c.below hB, h.m.below hB, fun x hx => (h.la x hx).below hB, fun x hx => (h.ma x hx).below hB⟩
theorem OW.nil (w : World) (B : Nat) : OW w B (.slice none 0 0) (.slice none 0 0) (.slice none 0 0) [] [] [] :=
  ⟨TRow.nil _ _ _ _, TRow.nil _ _ _ _, TRow.nil _ _ _ _, (fun x hx => by cases hx), (fun x hx => by cases hx)⟩
abbrev owd (ns : List Lv) (cs : List Int) (ms : List Mv) : Wd := ⟨lss ns, cs, mss ms⟩
theorem TRow.ns {w : World} {B : Nat} {v : Value} {ns : List Lv} (h : TRow w B 46 1 v ns.length (lvs ns)) (ha : ∀ x ∈ ns, LIn w x.val x.l) (hl : ns.length ≤ 5864062014805) : ∃ a c, v = .slice a (lss ns).length c ∧ NsIn w a c (lss ns) := by
  have e : (lss ns).length = ns.length := by simp [lss]
  rcases h.own.2 with ⟨h1, h2⟩ | ⟨g, cap, cur, h1, h2, h3, h4, h5, h6, h7⟩
  · have h0 : ns = [] := List.eq_nil_of_length_eq_zero h2
    subst h0
    exact ⟨none, 0, h1, NsIn.zero w⟩
  · refine ⟨_, _, by rw [e]; exact h1, by rw [e]; exact h4, by unfold maxLen at h5; omega, by omega, (fun e => by cases e), .inr ⟨g, 0, rfl, (h.lt (g := g) (by rw [h1]; rfl)).2, fun j l hj => ?_⟩⟩
    have hown := h.own
    rw [h1] at hown
    unfold lss at hj
    rw [List.getElem?_map] at hj
    obtain ⟨x, hx, rfl⟩ := Option.map_eq_some_iff.1 hj
    have hjl := (List.getElem?_eq_some_iff.1 hx).1
    refine ⟨x.val, ?_, ha x (List.mem_of_getElem? hx)⟩
    rw [Nat.zero_add, hown.cellAt _ (by omega)]
    unfold lvs
    rw [List.getElem?_map, hx]
    rfl
theorem TRow.cs {w : World} {B : Nat} {v : Value} {cs : List Int} (h : TRow w B 3 1 v cs.length (iv cs)) (hl : cs.length ≤ 17592186044416) : ∃ a c, v = .slice a cs.length c ∧ CsIn w a c cs := by
  rcases h.own.2 with ⟨h1, h2⟩ | ⟨g, cap, cur, h1, h2, h3, h4, h5, h6, h7⟩
  · have h0 : cs = [] := List.eq_nil_of_length_eq_zero h2
    subst h0
    exact ⟨none, 0, h1, CsIn.zero w⟩
  · refine ⟨_, _, h1, h4, by unfold maxLen at h5; omega, by omega, (fun e => by cases e), .inr ⟨g, 0, rfl, (h.lt (g := g) (by rw [h1]; rfl)).2, fun j x hx => ?_⟩⟩
    have hown := h.own
    rw [h1] at hown
    have hjl := (List.getElem?_eq_some_iff.1 hx).1
    rw [Nat.zero_add, hown.cellAt _ (by omega)]
    unfold iv
    rw [List.getElem?_map, hx]
    rfl
theorem TRow.ms {w : World} {B : Nat} {v : Value} {ms : List Mv} (h : TRow w B 54 2 v ms.length (mcells ms)) (ha : ∀ x ∈ ms, LIn w x.sl x.m.files) (hl : ms.length ≤ 4398046511104) : ∃ a c, v = .slice a (mss ms).length c ∧ MsIn w a c (mss ms) := by
  have e : (mss ms).length = ms.length := by simp [mss]
  rcases h.own.2 with ⟨h1, h2⟩ | ⟨g, cap, cur, h1, h2, h3, h4, h5, h6, h7⟩
  · have h0 : ms = [] := List.eq_nil_of_length_eq_zero h2
    subst h0
    exact ⟨none, 0, h1, MsIn.zero w⟩
  · refine ⟨_, _, by rw [e]; exact h1, by rw [e]; exact h4, by unfold maxLen at h5; omega, by omega, (fun e => by cases e), .inr ⟨g, 0, rfl, (h.lt (g := g) (by rw [h1]; rfl)).2, fun j l hj => ?_⟩⟩
    have hown := h.own
    rw [h1] at hown
    unfold mss at hj
    rw [List.getElem?_map] at hj
    obtain ⟨x, hx, rfl⟩ := Option.map_eq_some_iff.1 hj
    have hjl := (List.getElem?_eq_some_iff.1 hx).1
    have hc : ∀ i u, i < 2 → x.cells[i]? = some u → w.cell? ⟨g, 0 + j * 2 + i, none⟩ = some u := by
      intro i u hi hu
      rw [Nat.zero_add, hown.cellAt _ (by omega), mcells_at ms j x i hx hi, hu]
    exact ⟨x.sl, hc 0 _ (by decide) rfl, hc 1 _ (by decide) rfl, ha x (List.mem_of_getElem? hx)⟩
theorem OW.win {w : World} {B : Nat} {vn vc vm : Value} {ns : List Lv} {cs : List Int} {ms : List Mv} (h : OW w B vn vc vm ns cs ms) (h1 : ns.length ≤ 5864062014805) (h2 : cs.length ≤ 17592186044416) (h3 : ms.length ≤ 4398046511104) : WIn w (.agg #[vn, vc, vm]) (owd ns cs ms) := by
  obtain ⟨a1, c1, rfl, k1⟩ := h.n.ns h.la h1
  obtain ⟨a2, c2, rfl, k2⟩ := h.c.cs h2
  obtain ⟨a3, c3, rfl, k3⟩ := h.m.ms h.ma h3
  exact ⟨a1, c1, a2, c2, a3, c3, rfl, k1, k2, k3⟩

theorem info_lists : (Tryz.prog.info? 46).map (fun i => (i.zero, i.size, i.bytes)) = some (some (.slice none 0 0), 1, 24) := by kernel_rfl
theorem info_msg : (Tryz.prog.info? 54).map (fun i => (i.zero, i.size, i.bytes)) = some (some (.agg #[.int .i64 0, .slice none 0 0]), 2, 32) := by kernel_rfl
/-- a list of files behind the others -/
theorem app_n (w : World) (ty : TypeId) {B g : Nat} {v : Value} {ns : List Lv} {y : Lv} (h : TRow w B 46 1 v ns.length (lvs ns)) (hc : w.cell? ⟨g, 0, none⟩ = some y.val) (hl : ns.length ≤ 5864062014804) (hB : B ≤ w.heap.size) :
    ∃ v' w', (Builtin.append_ #[22, 22] ty #[v, .slice (some ⟨g, 0, none⟩) 1 1]).run Tryz.prog w = .ok v' w' ∧ TRow w' B 46 1 v' (ns ++ [y]).length (lvs (ns ++ [y])) ∧ w.grownBy w' v.ownBlock ∧ (v'.ownBlock = v.ownBlock ∨ v'.ownBlock = some w.heap.size) := by
  obtain ⟨i0, hi, hz0, hz1, hz2⟩ := info_parts info_lists
  have e : lvs (ns ++ [y]) = lvs ns ++ [y.val] := by simp [lvs]
  rw [e, List.length_append, List.length_singleton]
  exact run_append_T w B 22 ty 46 i0 _ 1 24 Tryz.underlying22 hi hz0 hz1 hz2 rfl (by decide) (fun u hu => by simp [Value.cells] at hu; subst hu; rfl) v _ _ h (some ⟨g, 0, none⟩) 1 1 [y.val] (fun e => by cases e) rfl (fun a ha j u hj => by cases ha; exact new_cell hc hj) (fun u hu => (lvs_nf [y] u (by simpa [lvs] using hu)).2) (fun u hu => (lvs_nf [y] u (by simpa [lvs] using hu)).1) (by omega) (by decide) hB
theorem msg_cell {w : World} {g : Nat} {y : Mv} (h0 : w.cell? ⟨g, 0, none⟩ = some (.int .i64 y.m.dst)) (h1 : w.cell? ⟨g, 1, none⟩ = some y.sl) : ∀ a, some (⟨g, 0, none⟩ : Addr) = some a → ∀ (j : Nat) (u : Value), y.cells[j]? = some u → w.cell? (a.add j) = some u := by
  intro a ha j u hj
  cases ha
  have e2 : (⟨g, 0, none⟩ : Addr).add j = ⟨g, j, none⟩ := by unfold Addr.add; split <;> simp_all
  rw [e2]
  match j, hj with
  | 0, hj => cases hj; exact h0
  | 1, hj => cases hj; exact h1
/-- a message behind the others -/
theorem app_m (w : World) (ty : TypeId) {B g : Nat} {v : Value} {ms : List Mv} {y : Mv} (h : TRow w B 54 2 v ms.length (mcells ms)) (hc0 : w.cell? ⟨g, 0, none⟩ = some (.int .i64 y.m.dst)) (hc1 : w.cell? ⟨g, 1, none⟩ = some y.sl) (hl : ms.length ≤ 4398046511103) (hB : B ≤ w.heap.size) :
    ∃ v' w', (Builtin.append_ #[24, 24] ty #[v, .slice (some ⟨g, 0, none⟩) 1 1]).run Tryz.prog w = .ok v' w' ∧ TRow w' B 54 2 v' (ms ++ [y]).length (mcells (ms ++ [y])) ∧ w.grownBy w' v.ownBlock ∧ (v'.ownBlock = v.ownBlock ∨ v'.ownBlock = some w.heap.size) := by
  obtain ⟨i0, hi, hz0, hz1, hz2⟩ := info_parts info_msg
  rw [mcells_app, mcells_one, List.length_append, List.length_singleton]
  exact run_append_T w B 24 ty 54 i0 _ 2 32 Tryz.underlying24 hi hz0 hz1 hz2 rfl (by decide) (fun u hu => by simp [Value.cells] at hu; rcases hu with rfl | rfl <;> rfl) v _ _ h (some ⟨g, 0, none⟩) 1 1 y.cells (fun e => by cases e) rfl (msg_cell hc0 hc1) (fun u hu => (mcells_nf [y] u (by rw [mcells_one]; exact hu)).2) (fun u hu => (mcells_nf [y] u (by rw [mcells_one]; exact hu)).1) (by omega) (by decide) hB
/-- clocks behind the others -/
theorem app_c (w : World) (ty : TypeId) {B m c : Nat} {v : Value} {xs ys : List Int} {ad : Option Addr} (h : TRow w B 3 1 v xs.length (iv xs)) (hy : CsIn w ad c ys) (hm : ys.length = m) (hl : xs.length + m ≤ 17592186044416) (hB : B ≤ w.heap.size) :
    ∃ v' w', (Builtin.append_ #[23, 23] ty #[v, .slice ad m c]).run Tryz.prog w = .ok v' w' ∧ TRow w' B 3 1 v' (xs ++ ys).length (iv (xs ++ ys)) ∧ w.grownBy w' v.ownBlock ∧ (v'.ownBlock = v.ownBlock ∨ v'.ownBlock = some w.heap.size) := by
  obtain ⟨i0, hi, hz0, hz1, hz2⟩ := info_parts info_int
  have e : iv (xs ++ ys) = iv xs ++ iv ys := by simp [iv]
  rw [e, List.length_append, hm]
  refine run_append_T w B 23 ty 3 i0 _ 1 8 Tryz.underlying23 hi hz0 hz1 hz2 rfl (by decide) (fun u hu => by simp [Value.cells] at hu; subst hu; rfl) v _ _ h ad m c (iv ys) (fun e => ?_) (by simp [iv, hm]) (fun a ha j u hj => ?_) (fun u hu => (iv_nf ys u hu).2) (fun u hu => (iv_nf ys u hu).1) (by omega) (by decide) hB
  · have h0 := hy.nil e
    have h1 := hy.cap
    exact ⟨by omega, h0⟩
  · subst ha
    unfold iv at hj
    rw [List.getElem?_map] at hj
    obtain ⟨x, hx, rfl⟩ := Option.map_eq_some_iff.1 hj
    obtain ⟨b, o, e, _, hcell⟩ := hy.get hx
    cases e
    have e2 : (⟨b, o, none⟩ : Addr).add j = ⟨b, o + j, none⟩ := by unfold Addr.add; split <;> simp_all
    rw [e2]
    exact hcell
end Go.Proofs.YtmgmganbamjnmaaGreatDoor

/-
  Package world: raised, isPlace, checkNode, Check.
-/
namespace Go.Proofs.YtmgmganbamjnmaaGreatDoor
open Go.RowKit
set_option linter.unusedVariables false
set_option linter.unusedSimpArgs false
set_option maxRecDepth 100000

theorem max_run (a b : Int) (w : World) : (Builtin.max_ #[3, 3] 3 #[.int .i64 a, .int .i64 b]).run Tryz.prog w = .ok (.int .i64 (max a b)) w := by
  simp [Builtin.max_, Builtin.max2]
  repeat' split
  all_goals omega
theorem rsd_step {xs : List Fv} {k : Nat} {x : Fv} (h : xs[k]? = some x) (c : Int) : rsd c (fls (xs.drop k)) = rsd (max c x.f.stamp) (fls (xs.drop (k + 1))) := by
  obtain ⟨hk, he⟩ := List.getElem?_eq_some_iff.1 h
  rw [List.drop_eq_getElem_cons hk, he]
  rfl
set_option maxHeartbeats 1000000 in
theorem raised_any (c : Int) (ad : Option Addr) (cp : Nat) (xs : List Fv) (w : World) (h : FsIn w ad cp xs) (n : Nat) (hn : xs.length = n) :
    Calls Tryz.prog 37 #[.int .i64 c, .slice ad n cp] w fun e w' => e = .returned (.int .i64 (rsd c (fls xs))) ∧ Below w.heap.size w w' := by
  have HI := hide h
  have HL := hide hn
  have hlim := h.lim
  rw [hn] at hlim
  have hmx := max_run
  obtain ⟨R, hR⟩ : ∃ R, rsd c (fls xs) = R := ⟨_, rfl⟩
  have HR := hide hR
  rw [hR]
  clear h hn hR
  go_enter Tryz.func37, Tryz.ntmps37
  go_wp2
  go_loopw [0, 9] (fun v0 j wr => ∃ (k : Nat) (d : Int), k ≤ n ∧ v0 = .int .i64 d ∧ j = .int .i64 (k : Int) ∧ Hid (rsd d (fls (xs.drop k)) = R) ∧ Hid (Below w.heap.size w wr)) (fun _ j _ => n - (intOf j).toNat)
  case atStart => exact ⟨0, c, Nat.zero_le _, rfl, rfl, HR, Below.refl _ _⟩
  case round =>
    obtain ⟨k, d, hk, rfl, rfl, HD, HB⟩ := hrel
    by_cases hlt : k < n
    · obtain ⟨x, hx, hxm⟩ := get_of (xs := xs) (k := k) (by rw [unhide HL]; exact hlt)
      obtain ⟨b, o, hA, hb, c0, c1, c2, c3, c4⟩ := (unhide HI).get (unhide HB) hx
      have HD2 := hide ((rsd_step hx d).symm.trans (unhide HD))
      have hxs : x.sl = .slice x.a x.f.bytes.length x.c := rfl
      rw [hxs] at c1
      clear hx hxm hxs
      subst hA
      generalize B x.f.name = t at *
      generalize x.f.bytes.length = n2 at *
      generalize x.f.stamp = s2 at *
      generalize x.f.node = d2 at *
      generalize x.f.gone = g2 at *
      have HB1 := hide (bel_al (unhide HB) (.cells #[.string t, .slice x.a n2 x.c, .int .i64 s2, .int .i64 d2, .bool g2] 49))
      go_wp2
      go_roundw
      case rel => exact ⟨k + 1, max d s2, by omega, rfl, by go_num, unhide HD2, unhide HB1⟩
      case measure => simp [intOf]; omega
    · obtain rfl : n = k := by omega
      have hr := unhide HD
      rw [List.drop_of_length_le (by rw [unhide HL]; exact Nat.le_refl _)] at hr
      have hr2 : d = R := hr
      subst hr2
      clear hr
      go_wp2
      go_ret
      exact ⟨rfl, unhide HB⟩
theorem raised_l {w : World} {v : Value} {l : List Fl} (c : Int) (h : LIn w v l) :
    Calls Tryz.prog 37 #[.int .i64 c, v] w fun e w' => e = .returned (.int .i64 (rsd c l)) ∧ Below w.heap.size w w' := by
  obtain ⟨ad, cp, xs, rfl, h2, h3⟩ := h
  have := raised_any c ad cp xs w h2 _ (fls_len h3)
  rw [h3] at this
  exact this
theorem isPlace_any (k : Int) (n : Nat) (w : World) : Calls Tryz.prog 26 #[.int .i64 k, .int .i64 (n : Int)] w fun e w' => e = .returned (.bool (isP k n)) ∧ w' = w := by
  unfold isP
  by_cases h1 : 0 ≤ k
  · by_cases h2 : k < (n : Int)
    · rw [decide_eq_true ⟨h1, h2⟩]
      go_enter Tryz.func26, Tryz.ntmps26
      go_wp2
      go_ret
      exact ⟨rfl, rfl⟩
    · rw [decide_eq_false (fun h => h2 h.2)]
      go_enter Tryz.func26, Tryz.ntmps26
      go_wp2
      go_ret
      exact ⟨rfl, rfl⟩
  · rw [decide_eq_false (fun h => h1 h.1)]
    go_enter Tryz.func26, Tryz.ntmps26
    go_wp2
    go_ret
    exact ⟨rfl, rfl⟩
set_option maxHeartbeats 1000000 in
theorem checkNode_l {w : World} {v : Value} {l : List Fl} (c : Int) (h : LIn w v l) :
    Calls Tryz.prog 24 #[v, .int .i64 c] w fun e w' => e = .returned (.int .i64 (errNd l c : Nat)) ∧ Below w.heap.size w w' := by
  have HC := hide (check_l h)
  have HR := hide (fun (W : World) (hW : Below w.heap.size w W) => raised_l c (h.below hW))
  obtain ⟨ad, cp, hv⟩ := h.shape
  obtain ⟨n, hn⟩ : ∃ n, l.length = n := ⟨_, rfl⟩
  rw [hn] at hv
  subst hv
  obtain ⟨E, hE⟩ : ∃ E, errM l = E := ⟨_, rfl⟩
  obtain ⟨R, hR⟩ : ∃ R, rsd c l = R := ⟨_, rfl⟩
  obtain ⟨F, hF⟩ : ∃ F, errNd l c = F := ⟨_, rfl⟩
  have hF2 := hF
  unfold errNd at hF2
  rw [hE, hR] at hF2
  rw [hE] at HC
  rw [hR] at HR
  rw [hF]
  clear h hn hE hR hF
  by_cases hE0 : E = 0
  · subst hE0
    simp only [ne_eq, not_true_eq_false, if_false] at hF2
    by_cases h1 : c < 0
    · rw [if_pos (.inl h1)] at hF2
      subst hF2
      go_enter Tryz.func24, Tryz.ntmps24
      go_wp2_with fail
      refine (unhide HC).mono ?_
      rintro e w1 ⟨rfl, hb⟩
      have HB := hide hb
      clear hb
      go_wp2_with fail
      go_ret
      exact ⟨rfl, unhide HB⟩
    · by_cases h2 : 1000000 < c
      · rw [if_pos (.inr (.inl h2))] at hF2
        subst hF2
        go_enter Tryz.func24, Tryz.ntmps24
        go_wp2_with fail
        refine (unhide HC).mono ?_
        rintro e w1 ⟨rfl, hb⟩
        have HB := hide hb
        clear hb
        go_wp2_with fail
        go_ret
        exact ⟨rfl, unhide HB⟩
      · by_cases h3 : c < R
        · rw [if_pos (.inr (.inr h3))] at hF2
          subst hF2
          go_enter Tryz.func24, Tryz.ntmps24
          go_wp2_with fail
          refine (unhide HC).mono ?_
          rintro e w1 ⟨rfl, hb⟩
          have HB := hide hb
          have HR1 := hide (unhide HR w1 hb)
          clear hb
          go_wp2_with fail
          refine (unhide HR1).mono ?_
          rintro e w2 ⟨rfl, hb⟩
          have HB2 := hide ((unhide HB).trans (hb.mono (unhide HB).size))
          clear hb
          go_wp2_with fail
          go_ret
          exact ⟨rfl, unhide HB2⟩
        · rw [if_neg (by omega)] at hF2
          subst hF2
          go_enter Tryz.func24, Tryz.ntmps24
          go_wp2_with fail
          refine (unhide HC).mono ?_
          rintro e w1 ⟨rfl, hb⟩
          have HB := hide hb
          have HR1 := hide (unhide HR w1 hb)
          clear hb
          go_wp2_with fail
          refine (unhide HR1).mono ?_
          rintro e w2 ⟨rfl, hb⟩
          have HB2 := hide ((unhide HB).trans (hb.mono (unhide HB).size))
          clear hb
          go_wp2_with fail
          go_ret
          exact ⟨rfl, unhide HB2⟩
  · rw [if_pos hE0] at hF2
    subst hF2
    have hEb : ((E : Int) == 0) = false := by rw [beq_eq_false_iff_ne]; omega
    have hEc : ((E : Int) != 0) = true := by rw [bne, hEb]; rfl
    clear hE0
    go_enter Tryz.func24, Tryz.ntmps24
    go_wp2_with fail
    refine (unhide HC).mono ?_
    rintro e w1 ⟨rfl, hb⟩
    have HB := hide hb
    clear hb
    go_wp2_with fail
    go_ret
    exact ⟨rfl, unhide HB⟩
end Go.Proofs.YtmgmganbamjnmaaGreatDoor
