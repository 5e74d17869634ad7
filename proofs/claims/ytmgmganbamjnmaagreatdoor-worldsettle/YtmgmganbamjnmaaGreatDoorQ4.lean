/-
  Rows of numbers and of bytes in memory, rows of a call's own, appends to them.
-/
import Derived.Test.YtmgmganbamjnmaaGreatDoorQ1
import Derived.Maps.AppendAt
import Derived.Laws.AppendOwnNone
namespace Go.Proofs.YtmgmganbamjnmaaGreatDoor
open Go.RowKit
set_option linter.unusedVariables false

/-- a row of bytes in memory -/
def Bytes (w : World) (b o : Nat) (xs : List Nat) : Prop := ∀ j, j < xs.length → w.cell? ⟨b, o + j, none⟩ = some (.int .u8 ((xs.getD j 0 : Nat) : Int))

/-- the bytes xs as values -/
abbrev u8s (xs : List Nat) : List Value := xs.map fun x : Nat => Value.int .u8 (x : Int)

theorem grown_refl (w : World) (r : Option Nat) : w.grownBy w r := ⟨rfl, rfl, rfl, Nat.le_refl _, fun _ _ _ => rfl⟩
theorem grown_trans {a b c : World} {r : Option Nat} (h : a.grownBy b r) (k : b.grownBy c r) : a.grownBy c r :=
  ⟨k.os.trans h.os, k.tape.trans h.tape, k.output.trans h.output, Nat.le_trans h.size k.size, fun i hi hr => (k.block i (Nat.lt_of_lt_of_le hi h.size) hr).trans (h.block i hi hr)⟩
theorem grown_setCell (w : World) (b j : Nat) (v : Value) : w.grownBy (w.setCell ⟨b, j, none⟩ v) (some b) := ⟨rfl, rfl, rfl, by simp, fun i hi hr => Below.heap_setCell w _ v i (fun e => hr (by rw [e]))⟩
theorem grown_drew {a b : World} {r : Option Nat} (h : a.grownBy b r) : a.grownBy b.drew r := ⟨h.os, h.tape, h.output, h.size, h.block⟩

theorem info_u8 : (Tryz.prog.info? 5).map (fun i => (i.zero, i.size, i.bytes)) = some (some (.int .u8 0), 1, 1) := by kernel_rfl
theorem info_int : (Tryz.prog.info? 3).map (fun i => (i.zero, i.size, i.bytes)) = some (some (.int .i64 0), 1, 8) := by kernel_rfl

theorem made_u8 (n : Nat) : (madeCells (Value.int .u8 0).cells (n * 1)).toList = u8s (List.replicate n 0) := by
  rw [Nat.mul_one]
  show (madeCells #[Value.int .u8 0] n).toList = _
  rw [toList_madeCells_one]
  simp [u8s]

theorem quo8 (t : Nat) : ((t : Int) + 7) / 8 = (((t + 7) / 8 : Nat) : Int) := by omega

theorem first_bad (p : Nat → Bool) : ∀ n, (∀ j, j < n → p j = true) ∨ ∃ j, j < n ∧ p j = false ∧ ∀ i, i < j → p i = true
  | 0 => .inl (fun j h => by omega)
  | n + 1 => by
    rcases first_bad p n with h | ⟨j, h1, h2, h3⟩
    · cases hp : p n with
      | true => exact .inl (fun j hj => by
          by_cases e : j = n
          · rw [e]; exact hp
          · exact h j (by omega))
      | false => exact .inr ⟨n, by omega, hp, h⟩
    · exact .inr ⟨j, by omega, h2, h3⟩

def RowIn (k : IntKind) (w : World) (a : Option Addr) (xs : List Int) : Prop := xs = [] ∨ ∃ b o, a = some ⟨b, o, none⟩ ∧ b < w.heap.size ∧ Row k w b o xs
def BytesIn (w : World) (a : Option Addr) (xs : List Nat) : Prop := xs = [] ∨ ∃ b o, a = some ⟨b, o, none⟩ ∧ b < w.heap.size ∧ Bytes w b o xs

theorem Bytes.below {w w' : World} {B b o : Nat} {xs : List Nat} (h : Bytes w b o xs) (hB : Below B w w') (hb : b < B) : Bytes w' b o xs := by
  intro j hj
  rw [hB.cell (p := ⟨b, o + j, none⟩) hb]; exact h j hj
theorem BytesIn.below {w w' : World} {B : Nat} {a : Option Addr} {xs : List Nat} (h : BytesIn w a xs) (hB : Below B w w') (hb : w.heap.size ≤ B) : BytesIn w' a xs := by
  rcases h with h | ⟨b, o, h1, h2, h3⟩
  · exact .inl h
  · exact .inr ⟨b, o, h1, Nat.lt_of_lt_of_le h2 hB.size, h3.below hB (by omega)⟩

/-- a row of the call's own is a row of bytes -/
theorem BytesIn.own {w : World} {B g n cap : Nat} {xs : List Nat} (h : w.ownsRow B 5 1 (.slice (some ⟨g, 0, none⟩) n cap) n (u8s xs)) : BytesIn w (some ⟨g, 0, none⟩) xs := by
  refine .inr ⟨g, 0, rfl, (h.lt g rfl).2, ?_⟩
  intro j hj
  have hn : xs.length = n := by have := h.1; simpa using this
  rw [Nat.zero_add, h.cellAt j (by omega)]
  simp [u8s, List.getD, hj]
/-- the numbers xs as values -/
abbrev i64s (xs : List Nat) : List Value := xs.map fun x : Nat => Value.int .i64 (x : Int)
theorem made_i64 (n : Nat) : (madeCells #[Value.int .i64 0] n).toList = i64s (List.replicate n 0) := by
  rw [toList_madeCells_one]
  simp [i64s]

theorem RowIn.own {w : World} {B g n cap : Nat} {xs : List Nat} (h : w.ownsRow B 3 1 (.slice (some ⟨g, 0, none⟩) n cap) n (i64s xs)) : RowIn .i64 w (some ⟨g, 0, none⟩) (xs.map fun x : Nat => (x : Int)) := by
  refine .inr ⟨g, 0, rfl, (h.lt g rfl).2, ?_⟩
  intro j hj
  have hn : xs.length = n := by have := h.1; simpa using this
  have hj' : j < xs.length := by simpa using hj
  rw [Nat.zero_add, h.cellAt j (by omega)]
  simp [i64s, List.getD, hj']
theorem BytesIn.new (w : World) (xs : List Nat) (t : TypeId) (A : Array Value) (b : Nat) (hb : b = w.heap.size) (hA : A = (u8s xs).toArray) : BytesIn (w.alloc (.cells A t)) (some ⟨b, 0, none⟩) xs := by
  refine .inr ⟨b, 0, rfl, by rw [hb]; simp, ?_⟩
  intro j hj
  rw [World.cell?_alloc_at _ _ _ _ hb, hA]
  simp [u8s, List.getD, hj]
theorem BytesIn.alloc {w : World} {a : Option Addr} {xs : List Nat} (h : BytesIn w a xs) (x : Obj) : BytesIn (w.alloc x) a xs :=
  h.below ((Below.refl w.heap.size w).alloc (Nat.le_refl _) x) (Nat.le_refl _)
theorem RowIn.new (k : IntKind) (w : World) (xs : List Int) (t : TypeId) (A : Array Value) (b : Nat) (hb : b = w.heap.size) (hA : A = (xs.map (Value.int k)).toArray) : RowIn k (w.alloc (.cells A t)) (some ⟨b, 0, none⟩) xs :=
  .inr ⟨b, 0, rfl, by rw [hb]; simp, Row.new k w xs t A b hb hA⟩
theorem RowIn.below {k : IntKind} {w w' : World} {B : Nat} {a : Option Addr} {xs : List Int} (h : RowIn k w a xs) (hB : Below B w w') (hb : w.heap.size ≤ B) : RowIn k w' a xs := by
  rcases h with h | ⟨b, o, h1, h2, h3⟩
  · exact .inl h
  · exact .inr ⟨b, o, h1, Nat.lt_of_lt_of_le h2 hB.size, h3.below hB (by omega)⟩
theorem RowIn.alloc {k : IntKind} {w : World} {a : Option Addr} {xs : List Int} (h : RowIn k w a xs) (x : Obj) : RowIn k (w.alloc x) a xs :=
  h.below ((Below.refl w.heap.size w).alloc (Nat.le_refl _) x) (Nat.le_refl _)

abbrev iv (xs : List Int) : List Value := xs.map (Value.int .i64)

theorem ga {a b : World} {r : Option Nat} (h : a.grownBy b r) (o : Obj) : a.grownBy (b.alloc o) r := grown_trans h (World.grownBy_alloc b o r)

theorem own_drew {w : World} {B e size n : Nat} {v : Value} {xs : List Value} (h : w.ownsRow B e size v n xs) : w.drew.ownsRow B e size v n xs := h

theorem own_kept {w w' : World} {B e size n : Nat} {v : Value} {xs : List Value} (h : w.ownsRow B e size v n xs) (hg : w.grownBy w' none) : w'.ownsRow B e size v n xs :=
  h.kept hg (by cases hv : v.ownBlock with
    | none => exact .inl rfl
    | some k => exact .inr (by simp))

theorem own_ne {w : World} {B e size n : Nat} {v : Value} {xs : List Value} (h : w.ownsRow B e size v n xs) {j : Nat} (hj : w.heap.size ≤ j) : some j ≠ v.ownBlock := by
  intro e
  have := (h.lt j e.symm).2
  omega
theorem below_none {B : Nat} {a w w' : World} (h : Below B a w) (hg : w.grownBy w' none) (hB : B ≤ w.heap.size) : Below B a w' := h.grown hg hB (fun k e => by cases e)
theorem below_own {B : Nat} {a w w' : World} {e size n : Nat} {v : Value} {xs : List Value} (h : Below B a w) (ho : w.ownsRow B e size v n xs) (hg : w.grownBy w' v.ownBlock) (hB : B ≤ w.heap.size) : Below B a w' := h.grown hg hB (fun k e => (ho.lt k e).1)
/-- two rows lie apart, also behind one of them was appended to -/
theorem apart_at {w : World} {B e size n : Nat} {v v' : Value} {xs : List Value} (h : w.ownsRow B e size v n xs) (ha : v.ownBlock = none ∨ v.ownBlock ≠ v'.ownBlock) {g H : Nat} (hat : v'.ownBlock = some g ∨ g = H) (hH : w.heap.size ≤ H) : some g ≠ v.ownBlock := by
  rcases hat with e | e
  · rcases ha with h1 | h1
    · rw [h1]; simp
    · rw [← e]; exact fun h => h1 h.symm
  · subst e; exact own_ne h hH
theorem grown_le {w w' : World} {r : Option Nat} (h : w.grownBy w' r) : w.heap.size ≤ w'.heap.size := h.size

theorem new_cell {W : World} {b : Nat} {x u : Value} {j : Nat} (h : W.cell? ⟨b, 0, none⟩ = some x) (hj : [x][j]? = some u) : W.cell? ((⟨b, 0, none⟩ : Addr).add j) = some u := by
  match j, hj with
  | 0, hj => simp at hj; subst hj; simpa [Addr.add] using h

theorem cell_last {w : World} {x : Value} {t : TypeId} {b : Nat} (hb : b = w.heap.size) : (w.alloc (.cells #[x] t)).cell? ⟨b, 0, none⟩ = some x := by
  rw [World.cell?_alloc_at _ _ _ _ hb]; rfl
theorem cell_prev {w : World} {x : Value} {t : TypeId} {o : Obj} {b : Nat} (hb : b = w.heap.size) : ((w.alloc (.cells #[x] t)).alloc o).cell? ⟨b, 0, none⟩ = some x := by
  rw [World.cell?_alloc_past _ _ _ (by rw [hb]; simp), World.cell?_alloc_at _ _ _ _ hb]; rfl
theorem cell_drew {w : World} {b : Nat} {v : Value} (h : w.cell? ⟨b, 0, none⟩ = some v) : w.drew.cell? ⟨b, 0, none⟩ = some v := h

theorem one_cell {x : Value} (h : x.oneCell' = true) : ∀ u ∈ [x], u.oneCell' = true := by
  intro u hu; simp at hu; subst hu; exact h

theorem RowIn.iv {w : World} {B g n cap : Nat} {xs : List Int} (h : w.ownsRow B 3 1 (.slice (some ⟨g, 0, none⟩) n cap) n (iv xs)) : RowIn .i64 w (some ⟨g, 0, none⟩) xs := by
  refine .inr ⟨g, 0, rfl, (h.lt g rfl).2, ?_⟩
  intro j hj
  have hn : xs.length = n := by have := h.1; simpa using this
  rw [Nat.zero_add, h.cellAt j (by omega)]
  simp [List.getD, hj]

end Go.Proofs.YtmgmganbamjnmaaGreatDoor

/-
  What stays while others are worked upon; rows of a call's own as rows that are read.
-/
namespace Go.Proofs.YtmgmganbamjnmaaGreatDoor
open Go.RowKit
set_option linter.unusedVariables false

theorem heap_row {w : World} {b i : Nat} {cs : Array Value} {t : TypeId} (h : w.heap[b]? = some (.cells cs t (0, 0))) : w.cell? ⟨b, i, none⟩ = cs[i]? := cell_of_row w b i _ _ _ h
/-- what must stay stays -/
def Kp (No : Nat → Prop) (w w' : World) : Prop := ∀ g, g < w.heap.size → No g → w'.heap[g]? = w.heap[g]?
theorem Kp.refl (No : Nat → Prop) (w : World) : Kp No w w := fun _ _ _ => rfl
theorem Kp.trans {No : Nat → Prop} {a b c : World} (h : Kp No a b) (k : Kp No b c) (hs : a.heap.size ≤ b.heap.size) : Kp No a c := fun g hg hn => (k g (by omega) hn).trans (h g hg hn)
theorem Kp.grown {No : Nat → Prop} {a w w' : World} {r : Option Nat} (h : Kp No a w) (hg : w.grownBy w' r) (hs : a.heap.size ≤ w.heap.size) (hr : ∀ j, r = some j → ¬ No j) : Kp No a w' := by
  intro g h1 h2
  rw [hg.block g (by omega) (fun e => hr g e.symm h2)]
  exact h g h1 h2
theorem Bytes.grown {w w' : World} {b o : Nat} {xs : List Nat} {r : Option Nat} (h : Bytes w b o xs) (hg : w.grownBy w' r) (hr : some b ≠ r) : Bytes w' b o xs := fun j hj => hg.cell (h j hj) hr
theorem Kp.weaken {No No' : Nat → Prop} {w w' : World} (h : Kp No' w w') (hn : ∀ g, No g → No' g) : Kp No w w' := fun g h1 h2 => h g h1 (hn g h2)
theorem own_kp {w w' : World} {B e size n : Nat} {v : Value} {xs : List Value} (h : w.ownsRow B e size v n xs) (hk : ∀ g, v.ownBlock = some g → w'.heap[g]? = w.heap[g]?) : w'.ownsRow B e size v n xs := by
  refine ⟨h.1, ?_⟩
  rcases h.2 with h1 | ⟨g, cap, cur, h1, h2, h3, h4⟩
  · exact .inl h1
  · exact .inr ⟨g, cap, cur, h1, h2, (hk g (by rw [h1]; rfl)).trans h3, h4⟩
theorem own_mono {w : World} {B B' e size n : Nat} {v : Value} {xs : List Value} (h : w.ownsRow B e size v n xs) (hB : B' ≤ B) : w.ownsRow B' e size v n xs := by
  refine ⟨h.1, ?_⟩
  rcases h.2 with h1 | ⟨g, cap, cur, h1, h2, h3⟩
  · exact .inl h1
  · exact .inr ⟨g, cap, cur, h1, Nat.le_trans hB h2, h3⟩
theorem own_shape {w : World} {B e size n : Nat} {v : Value} {xs : List Value} (h : w.ownsRow B e size v n xs) (hn : 0 < n) : ∃ g cap, v = .slice (some ⟨g, 0, none⟩) n cap ∧ B ≤ g ∧ g < w.heap.size := by
  rcases h.2 with ⟨h1, h2⟩ | ⟨g, cap, cur, h1, h2, h3⟩
  · omega
  · exact ⟨g, cap, h1, h2, (h.lt g (by rw [h1]; rfl)).2⟩
theorem u8_snoc (xs : List Nat) (y : Nat) : u8s (xs ++ [y]) = u8s xs ++ [.int .u8 (y : Int)] := by simp [u8s]

theorem bytesIn_some {w : World} {a : Option Addr} {bs : List Nat} (h : BytesIn w a bs) (hp : 0 < bs.length) : ∃ b o, a = some ⟨b, o, none⟩ ∧ b < w.heap.size ∧ Bytes w b o bs := by
  rcases h with rfl | h
  · simp at hp
  · exact h

theorem BytesIn.ofOwn {w : World} {B n : Nat} {v : Value} {xs : List Nat} (h : w.ownsRow B 5 1 v n (u8s xs)) : xs.length = n ∧ ∃ a c, v = .slice a n c ∧ BytesIn w a xs := by
  have hn : xs.length = n := by have := h.1; simpa using this
  refine ⟨hn, ?_⟩
  rcases h.2 with ⟨h1, h2⟩ | ⟨g, cap, cur, h1, _⟩
  · subst h2
    exact ⟨none, 0, h1, .inl (List.eq_nil_of_length_eq_zero hn)⟩
  · subst h1
    exact ⟨_, _, rfl, BytesIn.own h⟩

theorem own_slice' {w : World} {B e size n : Nat} {v : Value} {xs : List Value} (h : w.ownsRow B e size v n xs) : ∃ a c, v = .slice a n c := by
  rcases h.2 with ⟨h1, h2⟩ | ⟨g, cap, cur, h1, _⟩
  · subst h2; exact ⟨none, 0, h1⟩
  · exact ⟨_, _, h1⟩
end Go.Proofs.YtmgmganbamjnmaaGreatDoor

/-
  Bytes behind a row of the call's own; a file's five cells.
-/
namespace Go.Proofs.YtmgmganbamjnmaaGreatDoor
open Go.RowKit
set_option linter.unusedVariables false
set_option maxRecDepth 100000
theorem info_u8b : (Tryz.prog.info? 5).map (fun i => (i.zero, i.size, i.bytes)) = some (some (.int .u8 0), 1, 1) := by kernel_rfl
abbrev u8v (bs : List UInt8) : List Value := bs.map fun x : UInt8 => Value.int .u8 ((x.toNat : Nat) : Int)
/-- a row of bytes of the call's own, read -/
theorem BsIn.own {w : World} {base n : Nat} {v : Value} {bs : List UInt8} (h : w.ownsRow base 5 1 v n (u8v bs)) : ∃ a c, v = .slice a bs.length c ∧ BsIn w a c bs ∧ ∀ b o, a = some ⟨b, o, none⟩ → base ≤ b ∧ b < w.heap.size := by
  have hn : bs.length = n := by have := h.1; simpa using this
  subst hn
  rcases h.2 with ⟨h1, h2⟩ | ⟨g, cap, cur, h1, h2, h3, h4, h5⟩
  · exact ⟨none, 0, by rw [h1, h2], .inl ⟨rfl, List.eq_nil_of_length_eq_zero h2, rfl⟩, fun b o e => by cases e⟩
  · subst h1
    have hlt := h.lt g rfl
    refine ⟨_, _, rfl, .inr (.inr ⟨g, 0, rfl, hlt.2, h4, ?_⟩), ?_⟩
    · intro j hj
      rw [Nat.zero_add, h.cellAt j (by omega)]
      simp [u8v, List.getD, hj]
    · intro b o e
      cases e
      exact hlt
/-- bytes behind a row of the call's own -/
theorem wpList_append_bs (w : World) {ops : Array Oper} {rest : List Oper} {o : Oper} {a : Act} {Q : Exit → Act → World → Prop} (hgd : o.guard = none) (s x : Operand)
    (ho : o.op = .call { callee := .builtin .append, args := #[s, x], argTypes := #[27, 27] }) (base : Nat) (v : Value) (n : Nat) (xs : List UInt8) (hs : a.eval s = v) (hown : w.ownsRow base 5 1 v n (u8v xs))
    (ad : Option Addr) (m c : Nat) (ys : List UInt8) (hx : a.eval x = .slice ad m c) (hm : ys.length = m) (hB : BsIn w ad c ys) (hsz : n + m ≤ 140737488355328) (hbase : base ≤ w.heap.size)
    (h : ∀ v' w', Hid (w'.ownsRow base 5 1 v' (n + m) (u8v (xs ++ ys))) → Hid (w.grownBy w' v.ownBlock) → wpList Tryz.prog ops Q rest (a.put o.dst v') w') : wpList Tryz.prog ops Q (o :: rest) a w := by
  obtain ⟨i0, hi, hz0, hz1, hz2⟩ := info_parts info_u8b
  have e : u8v (xs ++ ys) = u8v xs ++ u8v ys := by rw [u8v, u8v, u8v, List.map_append]
  rcases hB with ⟨rfl, rfl, rfl⟩ | ⟨rfl, ad, rfl⟩ | ⟨b, oo, rfl, h2, h3, h4⟩
  · have h0 : m = 0 := by simpa using hm.symm
    subst h0
    refine wpList_append_own_none hgd s x 27 ho base 5 i0 1 Tryz.underlying27 hi v n (u8v xs) hs hown hx ?_
    exact h v w (hide (by simpa using hown)) (hide ⟨rfl, rfl, rfl, Nat.le_refl _, fun _ _ _ => rfl⟩)
  · refine wpList_append_own_at w hgd s x 27 ho base 5 i0 (.int .u8 0) 1 1 Tryz.underlying27 hi hz0 hz1 hz2 rfl (by decide) v n (u8v xs) hs hown ad m c [] hx (by simpa using hm) (fun j u hj => by simp at hj) (fun u hu => by cases hu) (by unfold maxLen; omega) (by omega) hbase ?_
    intro v' w' h1 h2 _ _
    exact h v' w' (hide (by simpa using h1)) (hide h2)
  · refine wpList_append_own_at w hgd s x 27 ho base 5 i0 (.int .u8 0) 1 1 Tryz.underlying27 hi hz0 hz1 hz2 rfl (by decide) v n (u8v xs) hs hown ⟨b, oo, none⟩ m c (u8v ys) hx (by simp [u8v, hm]) ?_ (by intro u hu; obtain ⟨x, _, rfl⟩ := List.mem_map.1 hu; rfl) (by unfold maxLen; omega) (by omega) hbase ?_
    · intro j u hj
      have hj2 : j < ys.length := by
        by_cases c : j < ys.length
        · exact c
        · rw [List.getElem?_eq_none (by simp [u8v]; omega)] at hj; cases hj
      have e2 : (⟨b, oo, none⟩ : Addr).add j = ⟨b, oo + j, none⟩ := by unfold Addr.add; split <;> simp_all
      rw [e2, h4 j hj2]
      simp [u8v, hj2] at hj
      subst hj
      simp [List.getD, hj2]
    · intro v' w' h1 h2 _ _
      exact h v' w' (hide (by rw [e]; exact h1)) (hide h2)

/-- a file stored over another one -/
theorem put5 (W : World) (g : Nat) (t : TypeId) (o0 o1 o2 o3 o4 v0 v1 v2 v3 v4 : Value) (h : W.heap[g]? = some (.cells #[o0, o1, o2, o3, o4] t (0, 0))) :
    (((((W.setCell ⟨g, 0, none⟩ v0).setCell ⟨g, 1, none⟩ v1).setCell ⟨g, 2, none⟩ v2).setCell ⟨g, 3, none⟩ v3).setCell ⟨g, 4, none⟩ v4).heap[g]? = some (.cells #[v0, v1, v2, v3, v4] t (0, 0)) ∧ W.grownBy (((((W.setCell ⟨g, 0, none⟩ v0).setCell ⟨g, 1, none⟩ v1).setCell ⟨g, 2, none⟩ v2).setCell ⟨g, 3, none⟩ v3).setCell ⟨g, 4, none⟩ v4) (some g) := by
  have h0 := heap_setCell_same W g 0 _ _ v0 h
  have h1 := heap_setCell_same _ g 1 _ _ v1 h0
  have h2 := heap_setCell_same _ g 2 _ _ v2 h1
  have h3 := heap_setCell_same _ g 3 _ _ v3 h2
  have h4 := heap_setCell_same _ g 4 _ _ v4 h3
  exact ⟨h4, grown_trans (grown_trans (grown_trans (grown_trans (grown_setCell _ _ _ _) (grown_setCell _ _ _ _)) (grown_setCell _ _ _ _)) (grown_setCell _ _ _ _)) (grown_setCell _ _ _ _)⟩

end Go.Proofs.YtmgmganbamjnmaaGreatDoor

/-
  Package merge: a copy of a file; bytes behind a row of the call's own.
-/
namespace Go.Proofs.YtmgmganbamjnmaaGreatDoor
open Go.RowKit
set_option linter.unusedVariables false
set_option maxRecDepth 100000
set_option maxHeartbeats 2000000 in
/-- copyOf answers the same file, its bytes in a row of its own -/
theorem copyOf_any (x : Fv) (w : World) (h : FvIn w x) :
    Calls Tryz.prog 72 #[x.val] w fun e w' => ∃ a c, e = .returned (Fv.val ⟨x.f, a, c⟩) ∧ FvIn w' ⟨x.f, a, c⟩ ∧ Below w.heap.size w w' ∧ ∀ b o, a = some ⟨b, o, none⟩ → w.heap.size ≤ b ∧ b < w'.heap.size := by
  rw [val_is]
  obtain ⟨⟨nm, bs, st, nd, gn⟩, a, c⟩ := x
  simp only at *
  have hbs := h.bs
  have hbig := h.big
  have htxt := h.txt
  clear h
  simp only at hbs hbig htxt
  have HBS := hide (((hbs.below ((Below.refl w.heap.size w).alloc (Nat.le_refl _) (.cells #[.string (B nm), .slice a bs.length c, .int .i64 st, .int .i64 nd, .bool gn] 49)) (Nat.le_refl _))).below ((Below.refl (w.heap.size + 1) _).alloc (by simp) (.cells #[.string ⟨#[]⟩, .slice none 0 0, .int .i64 0, .int .i64 0, .bool false] 49)) (by simp))
  have hown : ∀ W : World, W.ownsRow W.heap.size 5 1 (.slice none 0 0) 0 (u8v []) := fun W => World.ownsRow_nil _ _ _ _
  have HT := hide htxt
  obtain ⟨n, hn⟩ : ∃ n, bs.length = n := ⟨_, rfl⟩
  have HN := hide hn
  have HV := hide (fun a c => val_is ⟨⟨nm, bs, st, nd, gn⟩, a, c⟩)
  simp only at HV
  rw [hn] at hbig HV HBS ⊢
  clear hbs hn htxt
  generalize B nm = t at *
  go_enter Tryz.func72, Tryz.ntmps72
  go_wp2_with (at_builtin; refine wpList_append_bs _ rfl _ _ rfl _ (.slice none 0 0) 0 [] rfl (hown _) a n c bs rfl (unhide HN) (unhide HBS) (by omega) (Nat.le_refl _) ?_)
  intro v' w1 hO hg
  obtain ⟨a', c', hv, hB', hloc⟩ := BsIn.own (unhide hO)
  rw [show bs.length = n from unhide HN] at hv
  subst hv
  have hg0 : ((w.alloc (.cells #[.string t, .slice a n c, .int .i64 st, .int .i64 nd, .bool gn] 49)).alloc (.cells #[.string ⟨#[]⟩, .slice none 0 0, .int .i64 0, .int .i64 0, .bool false] 49)).grownBy w1 none := unhide hg
  have hz := hg0.size
  simp only [World.size_alloc] at hz
  have h1 : w1.heap[w.heap.size]? = some (.cells #[.string t, .slice a n c, .int .i64 st, .int .i64 nd, .bool gn] 49 (0, 0)) := by
    rw [hg0.block _ (by simp; omega) (by simp), Below.heap_alloc _ _ _ (by simp), heap_alloc_new]
  have h2 : w1.heap[w.heap.size + 1]? = some (.cells #[.string ⟨#[]⟩, .slice none 0 0, .int .i64 0, .int .i64 0, .bool false] 49 (0, 0)) := by
    rw [hg0.block _ (by simp) (by simp)]
    have := heap_alloc_new (w.alloc (.cells #[.string t, .slice a n c, .int .i64 st, .int .i64 nd, .bool gn] 49)) (.cells #[.string ⟨#[]⟩, .slice none 0 0, .int .i64 0, .int .i64 0, .bool false] 49)
    simpa using this
  have HBel := hide (((Below.refl w.heap.size w).alloc (Nat.le_refl _) (.cells #[.string t, .slice a n c, .int .i64 st, .int .i64 nd, .bool gn] 49)).alloc (by simp) (.cells #[.string ⟨#[]⟩, .slice none 0 0, .int .i64 0, .int .i64 0, .bool false] 49))
  have HBel1 := hide ((unhide HBel).grown hg0 (by simp; omega) (fun k e => by cases e))
  have q0 : w1.cell? ⟨w.heap.size, 0, none⟩ = some (.string t) := heap_row h1
  have q1 : w1.cell? ⟨w.heap.size, 1, none⟩ = some (.slice a n c) := heap_row h1
  have q2 : w1.cell? ⟨w.heap.size, 2, none⟩ = some (.int .i64 st) := heap_row h1
  have q3 : w1.cell? ⟨w.heap.size, 3, none⟩ = some (.int .i64 nd) := heap_row h1
  have q4 : w1.cell? ⟨w.heap.size, 4, none⟩ = some (.bool gn) := heap_row h1
  have r0 : w1.cell? ⟨w.heap.size + 1, 0, none⟩ = some (.string ⟨#[]⟩) := heap_row h2
  have r1 : w1.cell? ⟨w.heap.size + 1, 1, none⟩ = some (.slice none 0 0) := heap_row h2
  have r2 : w1.cell? ⟨w.heap.size + 1, 2, none⟩ = some (.int .i64 0) := heap_row h2
  have r3 : w1.cell? ⟨w.heap.size + 1, 3, none⟩ = some (.int .i64 0) := heap_row h2
  have r4 : w1.cell? ⟨w.heap.size + 1, 4, none⟩ = some (.bool false) := heap_row h2
  have f1 := frozen_of_row w1 w.heap.size 1 _ _ h1
  have g0 := frozen_of_row w1 (w.heap.size + 1) 0 _ _ h2
  have g1 := frozen_of_row w1 (w.heap.size + 1) 1 _ _ h2
  have g2 := frozen_of_row w1 (w.heap.size + 1) 2 _ _ h2
  have g3 := frozen_of_row w1 (w.heap.size + 1) 3 _ _ h2
  have g4 := frozen_of_row w1 (w.heap.size + 1) 4 _ _ h2
  have k1 := grown_setCell w1 w.heap.size 1 (.slice a' n c')
  obtain ⟨p1, p2⟩ := put5 (w1.setCell ⟨w.heap.size, 1, none⟩ (.slice a' n c')) (w.heap.size + 1) 49 _ _ _ _ _ (.string t) (.slice a' n c') (.int .i64 st) (.int .i64 nd) (.bool gn) ((k1.block _ (by omega) (by simp)).trans h2)
  have hz1 := k1.size
  have hz2 := p2.size
  have HP1 := hide p1
  have HF := hide (((unhide HBel1).grown k1 (by omega) (fun k e => by cases e; exact Nat.le_refl _)).grown p2 (by omega) (fun k e => by cases e; omega))
  have HB' := hide ((hB'.grown k1 (fun b o e => by have := hloc b o e; simp; omega)).grown p2 (fun b o e => by have := hloc b o e; simp; omega))
  have HLoc : Hid (∀ b o, a' = some ⟨b, o, none⟩ → w.heap.size ≤ b ∧ b < ((((((w1.setCell ⟨w.heap.size, 1, none⟩ (.slice a' n c')).setCell ⟨w.heap.size + 1, 0, none⟩ (.string t)).setCell ⟨w.heap.size + 1, 1, none⟩ (.slice a' n c')).setCell ⟨w.heap.size + 1, 2, none⟩ (.int .i64 st)).setCell ⟨w.heap.size + 1, 3, none⟩ (.int .i64 nd)).setCell ⟨w.heap.size + 1, 4, none⟩ (.bool gn)).heap.size) := fun b o e => by
    have := hloc b o e
    omega
  clear h1 h2 hB' hloc hg hg0 hO k1 p1 p2 hz1 hz2
  go_wp2
  refine bodyPost_ret (v := .agg #[.string t, .slice a' n c', .int .i64 st, .int .i64 nd, .bool gn]) ?_ rfl ⟨a', c', by rw [unhide HV], ⟨unhide HB', by rw [unhide HN]; exact hbig, unhide HT⟩, unhide HF, unhide HLoc⟩
  exact results_cell_row rfl _ _ _ _ _ _ _ rfl (unhide HP1) Tryz.underlying49 rfl (by kernel_rfl)
end Go.Proofs.YtmgmganbamjnmaaGreatDoor
