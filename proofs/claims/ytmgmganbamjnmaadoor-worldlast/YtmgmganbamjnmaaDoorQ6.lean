/-
  Rows of numbers and of bytes in memory, rows of a call's own, appends to them.
-/
import Derived.Test.YtmgmganbamjnmaaDoorQ1
namespace Go.Proofs.YtmgmganbamjnmaaDoor
open Go.RowKit
set_option linter.unusedVariables false

/-- a row of bytes in memory -/
def Bytes (w : World) (b o : Nat) (xs : List Nat) : Prop := ∀ j, j < xs.length → w.cell? ⟨b, o + j, none⟩ = some (.int .u8 ((xs.getD j 0 : Nat) : Int))

/-- the bytes xs as values -/
abbrev u8s (xs : List Nat) : List Value := xs.map fun x : Nat => Value.int .u8 (x : Int)

theorem grown_refl (w : World) (r : Option Nat) : w.grownBy w r := ⟨rfl, rfl, rfl, Nat.le_refl _, fun _ _ _ => rfl⟩
theorem grown_trans {a b c : World} {r : Option Nat} (h : a.grownBy b r) (k : b.grownBy c r) : a.grownBy c r :=
  ⟨k.os.trans h.os, k.tape.trans h.tape, k.output.trans h.output, Nat.le_trans h.size k.size, fun i hi hr => (k.block i (Nat.lt_of_lt_of_le hi h.size) hr).trans (h.block i hi hr)⟩
theorem grown_setCell (w : World) (b j : Nat) (v : Value) : w.grownBy (w.setCell ⟨b, j, none⟩ v) (some b) := ⟨rfl, rfl, rfl, by simp, fun i hi hr => Below.heap_setCell w _ v i (fun e => hr (by rw [e]))⟩
theorem grown_drew {a b : World} {r : Option Nat} (h : a.grownBy b r) : a.grownBy b.drew r := ⟨h.os, h.tape, h.output, h.size, h.block⟩

theorem info_u8 : (Tryd.prog.info? 5).map (fun i => (i.zero, i.size, i.bytes)) = some (some (.int .u8 0), 1, 1) := by kernel_rfl
theorem info_int : (Tryd.prog.info? 3).map (fun i => (i.zero, i.size, i.bytes)) = some (some (.int .i64 0), 1, 8) := by kernel_rfl

theorem made_u8 (n : Nat) : (madeCells (Value.int .u8 0).cells (n * 1)).toList = u8s (List.replicate n 0) := by
  rw [Nat.mul_one]
  show (madeCells #[Value.int .u8 0] n).toList = _
  rw [toList_madeCells_one]
  simp [u8s]

theorem quo8 (t : Nat) : ((t : Int) + 7) / 8 = (((t + 7) / 8 : Nat) : Int) := by omega

theorem first_bad (p : Nat → Bool) : ∀ n, (∀ j, j < n → p j = true) ∨ ∃ j, j < n ∧ p j = false ∧ ∀ i, i < j → p i = true
  | 0 => .inl (fun j h => by omega)
  | n + 1 => by
    rcases first_bad p n with h | ⟨j, h1, h2, h3⟩
    · cases hp : p n with
      | true => exact .inl (fun j hj => by
          by_cases e : j = n
          · rw [e]; exact hp
          · exact h j (by omega))
      | false => exact .inr ⟨n, by omega, hp, h⟩
    · exact .inr ⟨j, by omega, h2, h3⟩

def RowIn (k : IntKind) (w : World) (a : Option Addr) (xs : List Int) : Prop := xs = [] ∨ ∃ b o, a = some ⟨b, o, none⟩ ∧ b < w.heap.size ∧ Row k w b o xs
def BytesIn (w : World) (a : Option Addr) (xs : List Nat) : Prop := xs = [] ∨ ∃ b o, a = some ⟨b, o, none⟩ ∧ b < w.heap.size ∧ Bytes w b o xs

theorem Bytes.below {w w' : World} {B b o : Nat} {xs : List Nat} (h : Bytes w b o xs) (hB : Below B w w') (hb : b < B) : Bytes w' b o xs := by
  intro j hj
  rw [hB.cell (p := ⟨b, o + j, none⟩) hb]; exact h j hj
theorem BytesIn.below {w w' : World} {B : Nat} {a : Option Addr} {xs : List Nat} (h : BytesIn w a xs) (hB : Below B w w') (hb : w.heap.size ≤ B) : BytesIn w' a xs := by
  rcases h with h | ⟨b, o, h1, h2, h3⟩
  · exact .inl h
  · exact .inr ⟨b, o, h1, Nat.lt_of_lt_of_le h2 hB.size, h3.below hB (by omega)⟩

/-- a row of the call's own is a row of bytes -/
theorem BytesIn.own {w : World} {B g n cap : Nat} {xs : List Nat} (h : w.ownsRow B 5 1 (.slice (some ⟨g, 0, none⟩) n cap) n (u8s xs)) : BytesIn w (some ⟨g, 0, none⟩) xs := by
  refine .inr ⟨g, 0, rfl, (h.lt g rfl).2, ?_⟩
  intro j hj
  have hn : xs.length = n := by have := h.1; simpa using this
  rw [Nat.zero_add, h.cellAt j (by omega)]
  simp [u8s, List.getD, hj]
/-- the numbers xs as values -/
abbrev i64s (xs : List Nat) : List Value := xs.map fun x : Nat => Value.int .i64 (x : Int)
theorem made_i64 (n : Nat) : (madeCells #[Value.int .i64 0] n).toList = i64s (List.replicate n 0) := by
  rw [toList_madeCells_one]
  simp [i64s]

theorem RowIn.own {w : World} {B g n cap : Nat} {xs : List Nat} (h : w.ownsRow B 3 1 (.slice (some ⟨g, 0, none⟩) n cap) n (i64s xs)) : RowIn .i64 w (some ⟨g, 0, none⟩) (xs.map fun x : Nat => (x : Int)) := by
  refine .inr ⟨g, 0, rfl, (h.lt g rfl).2, ?_⟩
  intro j hj
  have hn : xs.length = n := by have := h.1; simpa using this
  have hj' : j < xs.length := by simpa using hj
  rw [Nat.zero_add, h.cellAt j (by omega)]
  simp [i64s, List.getD, hj']
theorem BytesIn.new (w : World) (xs : List Nat) (t : TypeId) (A : Array Value) (b : Nat) (hb : b = w.heap.size) (hA : A = (u8s xs).toArray) : BytesIn (w.alloc (.cells A t)) (some ⟨b, 0, none⟩) xs := by
  refine .inr ⟨b, 0, rfl, by rw [hb]; simp, ?_⟩
  intro j hj
  rw [World.cell?_alloc_at _ _ _ _ hb, hA]
  simp [u8s, List.getD, hj]
theorem BytesIn.alloc {w : World} {a : Option Addr} {xs : List Nat} (h : BytesIn w a xs) (x : Obj) : BytesIn (w.alloc x) a xs :=
  h.below ((Below.refl w.heap.size w).alloc (Nat.le_refl _) x) (Nat.le_refl _)
theorem RowIn.new (k : IntKind) (w : World) (xs : List Int) (t : TypeId) (A : Array Value) (b : Nat) (hb : b = w.heap.size) (hA : A = (xs.map (Value.int k)).toArray) : RowIn k (w.alloc (.cells A t)) (some ⟨b, 0, none⟩) xs :=
  .inr ⟨b, 0, rfl, by rw [hb]; simp, Row.new k w xs t A b hb hA⟩
theorem RowIn.below {k : IntKind} {w w' : World} {B : Nat} {a : Option Addr} {xs : List Int} (h : RowIn k w a xs) (hB : Below B w w') (hb : w.heap.size ≤ B) : RowIn k w' a xs := by
  rcases h with h | ⟨b, o, h1, h2, h3⟩
  · exact .inl h
  · exact .inr ⟨b, o, h1, Nat.lt_of_lt_of_le h2 hB.size, h3.below hB (by omega)⟩
theorem RowIn.alloc {k : IntKind} {w : World} {a : Option Addr} {xs : List Int} (h : RowIn k w a xs) (x : Obj) : RowIn k (w.alloc x) a xs :=
  h.below ((Below.refl w.heap.size w).alloc (Nat.le_refl _) x) (Nat.le_refl _)

abbrev iv (xs : List Int) : List Value := xs.map (Value.int .i64)

theorem ga {a b : World} {r : Option Nat} (h : a.grownBy b r) (o : Obj) : a.grownBy (b.alloc o) r := grown_trans h (World.grownBy_alloc b o r)

theorem own_drew {w : World} {B e size n : Nat} {v : Value} {xs : List Value} (h : w.ownsRow B e size v n xs) : w.drew.ownsRow B e size v n xs := h

theorem own_kept {w w' : World} {B e size n : Nat} {v : Value} {xs : List Value} (h : w.ownsRow B e size v n xs) (hg : w.grownBy w' none) : w'.ownsRow B e size v n xs :=
  h.kept hg (by cases hv : v.ownBlock with
    | none => exact .inl rfl
    | some k => exact .inr (by simp))

theorem own_ne {w : World} {B e size n : Nat} {v : Value} {xs : List Value} (h : w.ownsRow B e size v n xs) {j : Nat} (hj : w.heap.size ≤ j) : some j ≠ v.ownBlock := by
  intro e
  have := (h.lt j e.symm).2
  omega
theorem below_none {B : Nat} {a w w' : World} (h : Below B a w) (hg : w.grownBy w' none) (hB : B ≤ w.heap.size) : Below B a w' := h.grown hg hB (fun k e => by cases e)
theorem below_own {B : Nat} {a w w' : World} {e size n : Nat} {v : Value} {xs : List Value} (h : Below B a w) (ho : w.ownsRow B e size v n xs) (hg : w.grownBy w' v.ownBlock) (hB : B ≤ w.heap.size) : Below B a w' := h.grown hg hB (fun k e => (ho.lt k e).1)
/-- two rows lie apart, also behind one of them was appended to -/
theorem apart_at {w : World} {B e size n : Nat} {v v' : Value} {xs : List Value} (h : w.ownsRow B e size v n xs) (ha : v.ownBlock = none ∨ v.ownBlock ≠ v'.ownBlock) {g H : Nat} (hat : v'.ownBlock = some g ∨ g = H) (hH : w.heap.size ≤ H) : some g ≠ v.ownBlock := by
  rcases hat with e | e
  · rcases ha with h1 | h1
    · rw [h1]; simp
    · rw [← e]; exact fun h => h1 h.symm
  · subst e; exact own_ne h hH
theorem grown_le {w w' : World} {r : Option Nat} (h : w.grownBy w' r) : w.heap.size ≤ w'.heap.size := h.size

theorem new_cell {W : World} {b : Nat} {x u : Value} {j : Nat} (h : W.cell? ⟨b, 0, none⟩ = some x) (hj : [x][j]? = some u) : W.cell? ((⟨b, 0, none⟩ : Addr).add j) = some u := by
  match j, hj with
  | 0, hj => simp at hj; subst hj; simpa [Addr.add] using h

theorem cell_last {w : World} {x : Value} {t : TypeId} {b : Nat} (hb : b = w.heap.size) : (w.alloc (.cells #[x] t)).cell? ⟨b, 0, none⟩ = some x := by
  rw [World.cell?_alloc_at _ _ _ _ hb]; rfl
theorem cell_prev {w : World} {x : Value} {t : TypeId} {o : Obj} {b : Nat} (hb : b = w.heap.size) : ((w.alloc (.cells #[x] t)).alloc o).cell? ⟨b, 0, none⟩ = some x := by
  rw [World.cell?_alloc_past _ _ _ (by rw [hb]; simp), World.cell?_alloc_at _ _ _ _ hb]; rfl
theorem cell_drew {w : World} {b : Nat} {v : Value} (h : w.cell? ⟨b, 0, none⟩ = some v) : w.drew.cell? ⟨b, 0, none⟩ = some v := h

theorem one_cell {x : Value} (h : x.oneCell' = true) : ∀ u ∈ [x], u.oneCell' = true := by
  intro u hu; simp at hu; subst hu; exact h

theorem RowIn.iv {w : World} {B g n cap : Nat} {xs : List Int} (h : w.ownsRow B 3 1 (.slice (some ⟨g, 0, none⟩) n cap) n (iv xs)) : RowIn .i64 w (some ⟨g, 0, none⟩) xs := by
  refine .inr ⟨g, 0, rfl, (h.lt g rfl).2, ?_⟩
  intro j hj
  have hn : xs.length = n := by have := h.1; simpa using this
  rw [Nat.zero_add, h.cellAt j (by omega)]
  simp [List.getD, hj]

end Go.Proofs.YtmgmganbamjnmaaDoor

/-
  What stays while others are worked upon; rows of a call's own as rows that are read.
-/
namespace Go.Proofs.YtmgmganbamjnmaaDoor
open Go.RowKit
set_option linter.unusedVariables false

theorem heap_row {w : World} {b i : Nat} {cs : Array Value} {t : TypeId} (h : w.heap[b]? = some (.cells cs t (0, 0))) : w.cell? ⟨b, i, none⟩ = cs[i]? := cell_of_row w b i _ _ _ h
/-- what must stay stays -/
def Kp (No : Nat → Prop) (w w' : World) : Prop := ∀ g, g < w.heap.size → No g → w'.heap[g]? = w.heap[g]?
theorem Kp.refl (No : Nat → Prop) (w : World) : Kp No w w := fun _ _ _ => rfl
theorem Kp.trans {No : Nat → Prop} {a b c : World} (h : Kp No a b) (k : Kp No b c) (hs : a.heap.size ≤ b.heap.size) : Kp No a c := fun g hg hn => (k g (by omega) hn).trans (h g hg hn)
theorem Kp.grown {No : Nat → Prop} {a w w' : World} {r : Option Nat} (h : Kp No a w) (hg : w.grownBy w' r) (hs : a.heap.size ≤ w.heap.size) (hr : ∀ j, r = some j → ¬ No j) : Kp No a w' := by
  intro g h1 h2
  rw [hg.block g (by omega) (fun e => hr g e.symm h2)]
  exact h g h1 h2
theorem Bytes.grown {w w' : World} {b o : Nat} {xs : List Nat} {r : Option Nat} (h : Bytes w b o xs) (hg : w.grownBy w' r) (hr : some b ≠ r) : Bytes w' b o xs := fun j hj => hg.cell (h j hj) hr
theorem Kp.weaken {No No' : Nat → Prop} {w w' : World} (h : Kp No' w w') (hn : ∀ g, No g → No' g) : Kp No w w' := fun g h1 h2 => h g h1 (hn g h2)
theorem own_kp {w w' : World} {B e size n : Nat} {v : Value} {xs : List Value} (h : w.ownsRow B e size v n xs) (hk : ∀ g, v.ownBlock = some g → w'.heap[g]? = w.heap[g]?) : w'.ownsRow B e size v n xs := by
  refine ⟨h.1, ?_⟩
  rcases h.2 with h1 | ⟨g, cap, cur, h1, h2, h3, h4⟩
  · exact .inl h1
  · exact .inr ⟨g, cap, cur, h1, h2, (hk g (by rw [h1]; rfl)).trans h3, h4⟩
theorem own_mono {w : World} {B B' e size n : Nat} {v : Value} {xs : List Value} (h : w.ownsRow B e size v n xs) (hB : B' ≤ B) : w.ownsRow B' e size v n xs := by
  refine ⟨h.1, ?_⟩
  rcases h.2 with h1 | ⟨g, cap, cur, h1, h2, h3⟩
  · exact .inl h1
  · exact .inr ⟨g, cap, cur, h1, Nat.le_trans hB h2, h3⟩
theorem own_shape {w : World} {B e size n : Nat} {v : Value} {xs : List Value} (h : w.ownsRow B e size v n xs) (hn : 0 < n) : ∃ g cap, v = .slice (some ⟨g, 0, none⟩) n cap ∧ B ≤ g ∧ g < w.heap.size := by
  rcases h.2 with ⟨h1, h2⟩ | ⟨g, cap, cur, h1, h2, h3⟩
  · omega
  · exact ⟨g, cap, h1, h2, (h.lt g (by rw [h1]; rfl)).2⟩
theorem u8_snoc (xs : List Nat) (y : Nat) : u8s (xs ++ [y]) = u8s xs ++ [.int .u8 (y : Int)] := by simp [u8s]

theorem bytesIn_some {w : World} {a : Option Addr} {bs : List Nat} (h : BytesIn w a bs) (hp : 0 < bs.length) : ∃ b o, a = some ⟨b, o, none⟩ ∧ b < w.heap.size ∧ Bytes w b o bs := by
  rcases h with rfl | h
  · simp at hp
  · exact h

theorem BytesIn.ofOwn {w : World} {B n : Nat} {v : Value} {xs : List Nat} (h : w.ownsRow B 5 1 v n (u8s xs)) : xs.length = n ∧ ∃ a c, v = .slice a n c ∧ BytesIn w a xs := by
  have hn : xs.length = n := by have := h.1; simpa using this
  refine ⟨hn, ?_⟩
  rcases h.2 with ⟨h1, h2⟩ | ⟨g, cap, cur, h1, _⟩
  · subst h2
    exact ⟨none, 0, h1, .inl (List.eq_nil_of_length_eq_zero hn)⟩
  · subst h1
    exact ⟨_, _, rfl, BytesIn.own h⟩

theorem own_slice' {w : World} {B e size n : Nat} {v : Value} {xs : List Value} (h : w.ownsRow B e size v n xs) : ∃ a c, v = .slice a n c := by
  rcases h.2 with ⟨h1, h2⟩ | ⟨g, cap, cur, h1, _⟩
  · subst h2; exact ⟨none, 0, h1⟩
  · exact ⟨_, _, h1⟩
end Go.Proofs.YtmgmganbamjnmaaDoor
