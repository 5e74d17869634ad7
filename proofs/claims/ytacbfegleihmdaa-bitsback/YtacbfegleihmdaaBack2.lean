/-
  The walk of the law BitsBack where the numbers are packed.
-/
import Derived.Test.YtacbfegleihmdaaBack
import Derived.Test.YtacbfegleihmdaaBackNum
namespace Go.Proofs.Ytacbfegleihmdaa
open Go.RowKit
set_option linter.unusedVariables false

abbrev iv (xs : List Int) : List Value := xs.map (Value.int .i64)

theorem ga {a b : World} {r : Option Nat} (h : a.grownBy b r) (o : Obj) : a.grownBy (b.alloc o) r := grown_trans h (World.grownBy_alloc b o r)

theorem own_drew {w : World} {B e size n : Nat} {v : Value} {xs : List Value} (h : w.ownsRow B e size v n xs) : w.drew.ownsRow B e size v n xs := h

theorem own_kept {w w' : World} {B e size n : Nat} {v : Value} {xs : List Value} (h : w.ownsRow B e size v n xs) (hg : w.grownBy w' none) : w'.ownsRow B e size v n xs :=
  h.kept hg (by cases hv : v.ownBlock with
    | none => exact .inl rfl
    | some k => exact .inr (by simp))

theorem own_ne {w : World} {B e size n : Nat} {v : Value} {xs : List Value} (h : w.ownsRow B e size v n xs) {j : Nat} (hj : w.heap.size ≤ j) : some j ≠ v.ownBlock := by
  intro e
  have := (h.lt j e.symm).2
  omega
theorem below_none {B : Nat} {a w w' : World} (h : Below B a w) (hg : w.grownBy w' none) (hB : B ≤ w.heap.size) : Below B a w' := h.grown hg hB (fun k e => by cases e)
theorem below_own {B : Nat} {a w w' : World} {e size n : Nat} {v : Value} {xs : List Value} (h : Below B a w) (ho : w.ownsRow B e size v n xs) (hg : w.grownBy w' v.ownBlock) (hB : B ≤ w.heap.size) : Below B a w' := h.grown hg hB (fun k e => (ho.lt k e).1)
/-- two rows lie apart, also behind one of them was appended to -/
theorem apart_at {w : World} {B e size n : Nat} {v v' : Value} {xs : List Value} (h : w.ownsRow B e size v n xs) (ha : v.ownBlock = none ∨ v.ownBlock ≠ v'.ownBlock) {g H : Nat} (hat : v'.ownBlock = some g ∨ g = H) (hH : w.heap.size ≤ H) : some g ≠ v.ownBlock := by
  rcases hat with e | e
  · rcases ha with h1 | h1
    · rw [h1]; simp
    · rw [← e]; exact fun h => h1 h.symm
  · subst e; exact own_ne h hH
theorem grown_le {w w' : World} {r : Option Nat} (h : w.grownBy w' r) : w.heap.size ≤ w'.heap.size := h.size

theorem new_cell {W : World} {b : Nat} {x u : Value} {j : Nat} (h : W.cell? ⟨b, 0, none⟩ = some x) (hj : [x][j]? = some u) : W.cell? ((⟨b, 0, none⟩ : Addr).add j) = some u := by
  match j, hj with
  | 0, hj => simp at hj; subst hj; simpa [Addr.add] using h

theorem cell_last {w : World} {x : Value} {t : TypeId} {b : Nat} (hb : b = w.heap.size) : (w.alloc (.cells #[x] t)).cell? ⟨b, 0, none⟩ = some x := by
  rw [World.cell?_alloc_at _ _ _ _ hb]; rfl
theorem cell_prev {w : World} {x : Value} {t : TypeId} {o : Obj} {b : Nat} (hb : b = w.heap.size) : ((w.alloc (.cells #[x] t)).alloc o).cell? ⟨b, 0, none⟩ = some x := by
  rw [World.cell?_alloc_past _ _ _ (by rw [hb]; simp), World.cell?_alloc_at _ _ _ _ hb]; rfl
theorem cell_drew {w : World} {b : Nat} {v : Value} (h : w.cell? ⟨b, 0, none⟩ = some v) : w.drew.cell? ⟨b, 0, none⟩ = some v := h

theorem one_cell {x : Value} (h : x.oneCell' = true) : ∀ u ∈ [x], u.oneCell' = true := by
  intro u hu; simp at hu; subst hu; exact h

/-- what an append of one number leaves: of r the world ahead, W the world at the append, w' behind it -/
structure App (r W w' : World) (B : Nat) (v : Value) (k : Nat) (xs : List Value) (y : Int) (g cap : Nat) : Prop where
  own : w'.ownsRow B 3 1 (.slice (some ⟨g, 0, none⟩) (k + 1) cap) (k + 1) (xs ++ [.int .i64 y])
  grow : W.grownBy w' v.ownBlock
  spot : v.ownBlock = some g ∨ g = W.heap.size
  lt : g < w'.heap.size
  base : r.grownBy W none
  was : r.ownsRow B 3 1 v k xs

theorem step_app {ops : Array Oper} {o : Oper} {a : Act} {W : World} {K : Act → World → Prop} {Q : Exit → Act → World → Prop} {E : Prop} (hgd : o.guard = none) (s x : Operand)
    (ho : o.op = .call { callee := .builtin .append, args := #[s, x], argTypes := #[24, 24] })
    (r : World) (B : Nat) (v : Value) (k : Nat) (xs : List Value) (hs : a.eval s = v) (hown : r.ownsRow B 3 1 v k xs) (hk : k ≤ 3000) (hB : B ≤ r.heap.size)
    (blk : Nat) (hx : a.eval x = .slice (some ⟨blk, 0, none⟩) 1 1) (y : Int) (hW : r.grownBy W none) (hy : W.cell? ⟨blk, 0, none⟩ = some (.int .i64 y))
    (h : ∀ g cap w', App r W w' B v k xs y g cap → K (a.put o.dst (.slice (some ⟨g, 0, none⟩) (k + 1) cap)) w') :
    if Region.wanted o (yielded ops a.tmps) = true then Oper.wp Try.prog o a W K Q else E := by
  obtain ⟨i0, hi, hz0, hz1, hz2⟩ := info_parts info_int
  refine step_append_lies _ hgd s x 24 ho B 3 i0 (.int .i64 0) 1 8 Try.underlying24 hi hz0 hz1 hz2 rfl (by decide) v k xs hs (own_kept hown hW) ⟨blk, 0, none⟩ 1 1 [.int .i64 y] hx rfl (fun j u hj => new_cell hy hj) (one_cell rfl) (by omega) (by unfold maxLen; omega) (by omega) (Nat.le_trans hB hW.size) _ rfl ?_
  intro g cap w' h1 h2 h3 h4
  exact h g cap w' ⟨h1, h2, h3, h4, hW, hown⟩

theorem App.cell {r W w' : World} {B k g cap : Nat} {v : Value} {xs : List Value} {y : Int} (h : App r W w' B v k xs y g cap) {b i : Nat} {u : Value} (hb : ∀ j, v.ownBlock = some j → j ≠ b) (hc : W.cell? ⟨b, i, none⟩ = some u) : w'.cell? ⟨b, i, none⟩ = some u :=
  h.grow.cell hc (fun e => hb b e.symm rfl)
theorem App.size {r W w' : World} {B k g cap : Nat} {v : Value} {xs : List Value} {y : Int} (h : App r W w' B v k xs y g cap) : r.heap.size ≤ w'.heap.size := Nat.le_trans h.base.size h.grow.size
/-- a row that lies apart is as it was -/
theorem App.other {r W w' : World} {B k g cap : Nat} {v : Value} {xs : List Value} {y : Int} (h : App r W w' B v k xs y g cap) {n : Nat} {v2 : Value} {ys : List Value} (ho : r.ownsRow B 3 1 v2 n ys) (ha : v2.ownBlock = none ∨ v2.ownBlock ≠ v.ownBlock) : w'.ownsRow B 3 1 v2 n ys :=
  (own_kept ho h.base).kept h.grow ha
theorem App.apart {r W w' : World} {B k g cap : Nat} {v : Value} {xs : List Value} {y : Int} (h : App r W w' B v k xs y g cap) {n : Nat} {v2 : Value} {ys : List Value} (ho : r.ownsRow B 3 1 v2 n ys) (ha : v2.ownBlock = none ∨ v2.ownBlock ≠ v.ownBlock) : some g ≠ v2.ownBlock :=
  apart_at ho ha h.spot h.base.size
theorem App.below {r W w' : World} {B k g cap : Nat} {v : Value} {xs : List Value} {y : Int} (h : App r W w' B v k xs y g cap) {a : World} (hb : Below B a r) (hB : B ≤ r.heap.size) : Below B a w' :=
  below_own (below_none hb h.base hB) (own_kept h.was h.base) h.grow (Nat.le_trans hB h.base.size)

theorem RowIn.iv {w : World} {B g n cap : Nat} {xs : List Int} (h : w.ownsRow B 3 1 (.slice (some ⟨g, 0, none⟩) n cap) n (iv xs)) : RowIn .i64 w (some ⟨g, 0, none⟩) xs := by
  refine .inr ⟨g, 0, rfl, (h.lt g rfl).2, ?_⟩
  intro j hj
  have hn : xs.length = n := by have := h.1; simpa using this
  rw [Nat.zero_add, h.cellAt j (by omega)]
  simp [List.getD, hj]

theorem take_snd {ps : List (Int × Int)} {k : Nat} (hk : k < ps.length) {x y : Int} (h : ps.getD k (0, 0) = (x, y)) : iv ((ps.map (·.2)).take (k + 1)) = iv ((ps.map (·.2)).take k) ++ [.int .i64 y] ∧ iv ((ps.map (·.1)).take (k + 1)) = iv ((ps.map (·.1)).take k) ++ [.int .i64 x] := by
  have e : ps[k] = (x, y) := by simpa [List.getD, hk] using h
  constructor
  · rw [List.take_succ_eq_append_getElem (by simpa using hk)]; simp [iv, e]
  · rw [List.take_succ_eq_append_getElem (by simpa using hk)]; simp [iv, e]

/-- both appends behind one another -/
theorem both_app {r W w5 W2 w6 a : World} {B k g1 c1 g2 c2 : Nat} {vn vs : Value} {ns ss : List Value} {x y : Int} (h1 : App r W w5 B vn k ns x g1 c1) (h2 : App w5 W2 w6 B vs k ss y g2 c2) (hS : r.ownsRow B 3 1 vs k ss) (ha : vs.ownBlock = none ∨ vs.ownBlock ≠ vn.ownBlock) (hb : Below B a r) (hB : B ≤ r.heap.size) :
    w6.ownsRow B 3 1 (.slice (some ⟨g2, 0, none⟩) (k + 1) c2) (k + 1) (ss ++ [.int .i64 y]) ∧ w6.ownsRow B 3 1 (.slice (some ⟨g1, 0, none⟩) (k + 1) c1) (k + 1) (ns ++ [.int .i64 x]) ∧
      ((Value.slice (some ⟨g2, 0, none⟩) (k + 1) c2).ownBlock = none ∨ (Value.slice (some ⟨g2, 0, none⟩) (k + 1) c2).ownBlock ≠ (Value.slice (some ⟨g1, 0, none⟩) (k + 1) c1).ownBlock) ∧ Below B a w6 := by
  have hap := h1.apart hS ha
  refine ⟨h2.own, h2.other h1.own (.inr hap), .inr ?_, h2.below (h1.below hb hB) (Nat.le_trans hB h1.size)⟩
  have e : (some g2 : Option Nat) ≠ some g1 := by
    rcases h2.spot with e | e
    · rw [← e]; exact fun h => hap h.symm
    · have := h1.lt
      have := h2.base.size
      intro h
      have : g2 = g1 := by simpa using h
      omega
  exact e

set_option maxHeartbeats 800000 in
theorem back_yes (b o len cap : Nat) (ps : List (Int × Int)) (n s : Int) (w : World) (hl : ps.length = len) (hm : len ≤ 3000) (hpos : 0 < len) (hb : b < w.heap.size) (hP : Pairs w b o ps) (hf : AllFit ps) :
    Calls Try.prog 6 #[.slice (some ⟨b, o, none⟩) len cap, .int .i64 n, .int .i64 s] w fun e w' => e = .returned (.bool true) ∧ Below w.heap.size w w' := by
  obtain ⟨i0, hi, hz0, hz1, hz2⟩ := info_parts info_int
  have HP := hide hP
  have HF := hide hf
  have HL := hide hl
  go_enter Try.func6, Try.ntmps6
  go_wp2_with fail
  refine (pack_yes b o len cap ps _ hl hm hb hP hf).mono ?_
  rintro e w1 ⟨g, rfl, hO1, hB1, hg1⟩
  have HB1 := hide hB1
  have HO1 := hide hO1
  have hz1' := hB1.size
  have hgl := (hO1.lt g rfl).2
  clear hB1 hO1 hP hf hl
  go_wp2_with fail
  refine (turn_any _ _ _).mono ?_
  rintro e w2 ⟨m, f, rfl, rfl, hf⟩
  go_wp2_with fail
  refine (rowed_any _).mono ?_
  rintro e w3 ⟨rfl, hB3⟩
  have HB3 := hide hB3
  have hz3 := hB3.size
  clear hB3
  have HBB := hide ((unhide HB1).trans ((unhide HB3).mono hz1'))
  have hnn : (n != n) = false := by simp
  have hloop : True := trivial
  rcases hf with hf | ⟨hf, hT⟩
  rotate_left
  · go_wp2_with fail
    refine (unhide hT _).mono ?_
    rintro e w4 ⟨rfl, hw⟩
    obtain rfl := hw.symm
    clear hT hw
    go_wp2
    go_loopw [13, 14, 50] (fun vs vn i wr => ∃ k : Nat, k ≤ len ∧ i = .int .i64 k ∧ wr.ownsRow w3.heap.size 3 1 vs k (iv ((ps.map (·.2)).take k)) ∧ wr.ownsRow w3.heap.size 3 1 vn k (iv ((ps.map (·.1)).take k)) ∧
        (vs.ownBlock = none ∨ vs.ownBlock ≠ vn.ownBlock) ∧ Below w3.heap.size w3 wr) (fun _ _ i _ => len - (intOf i).toNat)
    case atStart => exact ⟨0, Nat.zero_le _, rfl, World.ownsRow_nil _ _ _ _, World.ownsRow_nil _ _ _ _, .inl rfl, Below.refl _ _⟩
    case round =>
      rename_i vs vn _
      obtain ⟨k, hk, rfl, hS, hN, hne, hB⟩ := hrel
      have HS := hide hS
      have HN := hide hN
      have HE := hide hne
      have HBr := hide hB
      have hzr := hB.size
      by_cases hlt : k < len
      · obtain ⟨c1, c2⟩ := (unhide HP) k (by rw [unhide HL]; exact hlt)
        have c1' := ((hB.cell (p := ⟨b, o + k * 2, none⟩) (by simp; omega)).trans ((unhide HBB).cell (p := ⟨b, o + k * 2, none⟩) hb)).trans c1
        have c2' := ((hB.cell (p := ⟨b, o + k * 2 + 1, none⟩) (by simp; omega)).trans ((unhide HBB).cell (p := ⟨b, o + k * 2 + 1, none⟩) hb)).trans c2
        clear c1 c2 hB hne hS hN
        generalize hx : ps.getD k (0, 0) = x at *
        obtain ⟨xn, xs⟩ := x
        have HX := hide hx
        clear hx
        simp only at *
        go_wp2
        have HN1 := hide ((unhide HN).alloc (Obj.cells #[Value.int .i64 xn, Value.int .i64 xs] 34))
        have HS1 := hide ((unhide HS).alloc (Obj.cells #[Value.int .i64 xn, Value.int .i64 xs] 34))
        have HB1r := hide ((unhide HBr).alloc hzr (Obj.cells #[Value.int .i64 xn, Value.int .i64 xs] 34))
        have q0 : (wr.alloc (Obj.cells #[Value.int .i64 xn, Value.int .i64 xs] 34)).cell? ⟨wr.heap.size, 0, none⟩ = some (.int .i64 xn) := by simp
        have q1 : (wr.alloc (Obj.cells #[Value.int .i64 xn, Value.int .i64 xs] 34)).cell? ⟨wr.heap.size, 1, none⟩ = some (.int .i64 xs) := by simp
        have hzr1 : w3.heap.size ≤ (wr.alloc (Obj.cells #[Value.int .i64 xn, Value.int .i64 xs] 34)).heap.size := by simp; omega
        have hzr2 : wr.heap.size < (wr.alloc (Obj.cells #[Value.int .i64 xn, Value.int .i64 xs] 34)).heap.size := by simp
        have NN := hide (fun j e => Nat.ne_of_lt ((unhide HN).lt j e).2)
        have NS := hide (fun j e => Nat.ne_of_lt ((unhide HS).lt j e).2)
        generalize wr.alloc (Obj.cells #[Value.int .i64 xn, Value.int .i64 xs] 34) = r at *
        have NM := hide (fun (b : Nat) (hb : r.heap.size ≤ b) j e => Nat.ne_of_lt (Nat.lt_of_lt_of_le ((unhide HN1).lt j e).2 hb))
        generalize wr.heap.size = bX at *
        have RX : Hid (∀ W, r.grownBy W none → W.cell? ⟨bX, 0, none⟩ = some (.int .i64 xn) ∧ W.cell? ⟨bX, 1, none⟩ = some (.int .i64 xs)) := fun W hW => ⟨hW.cell q0 (by simp), hW.cell q1 (by simp)⟩
        clear hi hz0 hz1 hz2 HS HN HBr HP HF
        go_region_held3 (fun w' => w'.cell? ⟨bX, 0, none⟩ = some (.int .i64 xn) ∧ w'.cell? ⟨bX, 1, none⟩ = some (.int .i64 xs)) (go_keep) (first | (refine step_app rfl (.tmp 54) (.tmp 57) rfl r w3.heap.size _ k _ rfl (unhide HN1) (by omega) (by omega) _ rfl xn (by repeat (first | with_reducible exact grown_refl _ _ | with_reducible refine grown_drew ?_ | with_reducible refine ga ?_ _)) (by repeat (first | with_reducible refine cell_drew ?_ | with_reducible exact cell_last (by simp) | with_reducible exact cell_prev (by simp))) ?_; intro g1 cap1 w5 A5; have k0 := A5.cell (unhide NN) (unhide RX _ A5.base).1; have k1 := A5.cell (unhide NN) (unhide RX _ A5.base).2) | (refine step_app rfl (.tmp 59) (.tmp 62) rfl w5 w3.heap.size _ k _ rfl (A5.other (unhide HS1) (unhide HE)) (by omega) (Nat.le_trans hzr1 A5.size) _ rfl xs (by repeat (first | with_reducible exact grown_refl _ _ | with_reducible refine grown_drew ?_ | with_reducible refine ga ?_ _)) (by repeat (first | with_reducible refine cell_drew ?_ | with_reducible exact cell_last (by simp) | (refine A5.cell (unhide NM _ (by simp)) ?_) | with_reducible exact cell_prev (by simp))) ?_; intro g2 cap2 w6 A6; have k0' := A6.cell (unhide NS) (A6.base.cell k0 (by simp)); have k1' := A6.cell (unhide NS) (A6.base.cell k1 (by simp))))
        all_goals
          go_wp2
          have R := both_app A5 A6 (unhide HS1) (unhide HE) (unhide HB1r) hzr1
          have T := take_snd (by rw [unhide HL]; exact hlt) (unhide HX)
          go_roundw
          case rel => exact ⟨k + 1, by omega, by go_num, by rw [T.1]; exact R.1, by rw [T.2]; exact R.2.1, R.2.2.1, R.2.2.2⟩
          case measure => simp [intOf]; omega
      · obtain rfl : k = len := by omega
        have hat := atL_le ps (unhide HF) k (by rw [unhide HL]; exact Nat.le_refl _)
        have hfull2 : (ps.map (·.2)).take k = ps.map (·.2) := List.take_of_length_le (by simp [unhide HL])
        have hfull1 : (ps.map (·.1)).take k = ps.map (·.1) := List.take_of_length_le (by simp [unhide HL])
        rw [hfull2] at hS
        rw [hfull1] at hN
        obtain ⟨gs, cs, rfl, hgs, hgs2⟩ := hS.form hpos
        obtain ⟨gn, cn, rfl, hgn, hgn2⟩ := hN.form hpos
        have HSf := hide hS
        have HNf := hide (RowIn.iv hN)
        have hXr := hide (((BytesIn.own (unhide HO1)).below (unhide HB3) (Nat.le_refl _)).below hB (Nat.le_refl _))
        have hRs : Hid (Row .i64 wr gs 0 (ps.map (·.2))) := by
          rcases RowIn.iv hS with e | ⟨b', o', e, _, h⟩
          · exfalso
            have := congrArg List.length e
            simp [unhide HL] at this
            omega
          · cases e; exact h
        clear hS hN hB hne HS HN HE hfull1 hfull2
        go_wp2_with fail
        refine (unpack_yes (some ⟨g, 0, none⟩) _ _ gs 0 k cs (rowL ps k) (ps.map (·.2)) wr (by omega) (by rw [rowL_length, unhide HL]) (rowL_lt ps k) (unhide hXr) (by simp [unhide HL]) hm hgs2 (unhide hRs) (allSize_of ps (unhide HF)) (by rw [sum_at]; omega)).mono ?_
        rintro e w5 ⟨g5, rfl, hO5, hB5, hg5⟩
        have hz5 := hB5.size
        have h1 := RowIn.own hO5
        rw [back_nums ps (unhide HF) k (unhide HL)] at h1
        have H1 := hide h1
        have H2 := hide ((unhide HNf).below hB5 (Nat.le_refl _))
        have H3 := hide ((unhide HBB).trans (((unhide HBr).mono (by omega)).trans (hB5.mono (by omega))))
        clear hO5 hB5 h1
        go_wp2_with fail
        refine (equal_in _ _ _ _ _ _ (ps.map (·.1)) (ps.map (·.1)) _ (by simp [unhide HL]) (by simp [unhide HL]) (by omega) (by omega) (unhide H1) (unhide H2)).mono ?_
        rintro e w6 ⟨rfl, q, rfl⟩
        have e1 : (ps.map (·.1) == ps.map (·.1)) = true := by simp
        rw [e1]
        go_wp2
        go_ret
        exact ⟨rfl, below_drewN (unhide H3) q⟩
  · go_wp2
    go_loopw [13, 14, 50] (fun vs vn i wr => ∃ k : Nat, k ≤ len ∧ i = .int .i64 k ∧ wr.ownsRow w3.heap.size 3 1 vs k (iv ((ps.map (·.2)).take k)) ∧ wr.ownsRow w3.heap.size 3 1 vn k (iv ((ps.map (·.1)).take k)) ∧
        (vs.ownBlock = none ∨ vs.ownBlock ≠ vn.ownBlock) ∧ Below w3.heap.size w3 wr) (fun _ _ i _ => len - (intOf i).toNat)
    case atStart => exact ⟨0, Nat.zero_le _, rfl, World.ownsRow_nil _ _ _ _, World.ownsRow_nil _ _ _ _, .inl rfl, Below.refl _ _⟩
    case round =>
      rename_i vs vn _
      obtain ⟨k, hk, rfl, hS, hN, hne, hB⟩ := hrel
      have HS := hide hS
      have HN := hide hN
      have HE := hide hne
      have HBr := hide hB
      have hzr := hB.size
      by_cases hlt : k < len
      · obtain ⟨c1, c2⟩ := (unhide HP) k (by rw [unhide HL]; exact hlt)
        have c1' := ((hB.cell (p := ⟨b, o + k * 2, none⟩) (by simp; omega)).trans ((unhide HBB).cell (p := ⟨b, o + k * 2, none⟩) hb)).trans c1
        have c2' := ((hB.cell (p := ⟨b, o + k * 2 + 1, none⟩) (by simp; omega)).trans ((unhide HBB).cell (p := ⟨b, o + k * 2 + 1, none⟩) hb)).trans c2
        clear c1 c2 hB hne hS hN
        generalize hx : ps.getD k (0, 0) = x at *
        obtain ⟨xn, xs⟩ := x
        have HX := hide hx
        clear hx
        simp only at *
        go_wp2
        have HN1 := hide ((unhide HN).alloc (Obj.cells #[Value.int .i64 xn, Value.int .i64 xs] 34))
        have HS1 := hide ((unhide HS).alloc (Obj.cells #[Value.int .i64 xn, Value.int .i64 xs] 34))
        have HB1r := hide ((unhide HBr).alloc hzr (Obj.cells #[Value.int .i64 xn, Value.int .i64 xs] 34))
        have q0 : (wr.alloc (Obj.cells #[Value.int .i64 xn, Value.int .i64 xs] 34)).cell? ⟨wr.heap.size, 0, none⟩ = some (.int .i64 xn) := by simp
        have q1 : (wr.alloc (Obj.cells #[Value.int .i64 xn, Value.int .i64 xs] 34)).cell? ⟨wr.heap.size, 1, none⟩ = some (.int .i64 xs) := by simp
        have hzr1 : w3.heap.size ≤ (wr.alloc (Obj.cells #[Value.int .i64 xn, Value.int .i64 xs] 34)).heap.size := by simp; omega
        have hzr2 : wr.heap.size < (wr.alloc (Obj.cells #[Value.int .i64 xn, Value.int .i64 xs] 34)).heap.size := by simp
        have NN := hide (fun j e => Nat.ne_of_lt ((unhide HN).lt j e).2)
        have NS := hide (fun j e => Nat.ne_of_lt ((unhide HS).lt j e).2)
        generalize wr.alloc (Obj.cells #[Value.int .i64 xn, Value.int .i64 xs] 34) = r at *
        have NM := hide (fun (b : Nat) (hb : r.heap.size ≤ b) j e => Nat.ne_of_lt (Nat.lt_of_lt_of_le ((unhide HN1).lt j e).2 hb))
        generalize wr.heap.size = bX at *
        have RX : Hid (∀ W, r.grownBy W none → W.cell? ⟨bX, 0, none⟩ = some (.int .i64 xn) ∧ W.cell? ⟨bX, 1, none⟩ = some (.int .i64 xs)) := fun W hW => ⟨hW.cell q0 (by simp), hW.cell q1 (by simp)⟩
        clear hi hz0 hz1 hz2 HS HN HBr HP HF
        go_region_held3 (fun w' => w'.cell? ⟨bX, 0, none⟩ = some (.int .i64 xn) ∧ w'.cell? ⟨bX, 1, none⟩ = some (.int .i64 xs)) (go_keep) (first | (refine step_app rfl (.tmp 54) (.tmp 57) rfl r w3.heap.size _ k _ rfl (unhide HN1) (by omega) (by omega) _ rfl xn (by repeat (first | with_reducible exact grown_refl _ _ | with_reducible refine grown_drew ?_ | with_reducible refine ga ?_ _)) (by repeat (first | with_reducible refine cell_drew ?_ | with_reducible exact cell_last (by simp) | with_reducible exact cell_prev (by simp))) ?_; intro g1 cap1 w5 A5; have k0 := A5.cell (unhide NN) (unhide RX _ A5.base).1; have k1 := A5.cell (unhide NN) (unhide RX _ A5.base).2) | (refine step_app rfl (.tmp 59) (.tmp 62) rfl w5 w3.heap.size _ k _ rfl (A5.other (unhide HS1) (unhide HE)) (by omega) (Nat.le_trans hzr1 A5.size) _ rfl xs (by repeat (first | with_reducible exact grown_refl _ _ | with_reducible refine grown_drew ?_ | with_reducible refine ga ?_ _)) (by repeat (first | with_reducible refine cell_drew ?_ | with_reducible exact cell_last (by simp) | (refine A5.cell (unhide NM _ (by simp)) ?_) | with_reducible exact cell_prev (by simp))) ?_; intro g2 cap2 w6 A6; have k0' := A6.cell (unhide NS) (A6.base.cell k0 (by simp)); have k1' := A6.cell (unhide NS) (A6.base.cell k1 (by simp))))
        all_goals
          go_wp2
          have R := both_app A5 A6 (unhide HS1) (unhide HE) (unhide HB1r) hzr1
          have T := take_snd (by rw [unhide HL]; exact hlt) (unhide HX)
          go_roundw
          case rel => exact ⟨k + 1, by omega, by go_num, by rw [T.1]; exact R.1, by rw [T.2]; exact R.2.1, R.2.2.1, R.2.2.2⟩
          case measure => simp [intOf]; omega
      · obtain rfl : k = len := by omega
        have hat := atL_le ps (unhide HF) k (by rw [unhide HL]; exact Nat.le_refl _)
        have hfull2 : (ps.map (·.2)).take k = ps.map (·.2) := List.take_of_length_le (by simp [unhide HL])
        have hfull1 : (ps.map (·.1)).take k = ps.map (·.1) := List.take_of_length_le (by simp [unhide HL])
        rw [hfull2] at hS
        rw [hfull1] at hN
        obtain ⟨gs, cs, rfl, hgs, hgs2⟩ := hS.form hpos
        obtain ⟨gn, cn, rfl, hgn, hgn2⟩ := hN.form hpos
        have HSf := hide hS
        have HNf := hide (RowIn.iv hN)
        have hXr := hide (((BytesIn.own (unhide HO1)).below (unhide HB3) (Nat.le_refl _)).below hB (Nat.le_refl _))
        have hRs : Hid (Row .i64 wr gs 0 (ps.map (·.2))) := by
          rcases RowIn.iv hS with e | ⟨b', o', e, _, h⟩
          · exfalso
            have := congrArg List.length e
            simp [unhide HL] at this
            omega
          · cases e; exact h
        clear hS hN hB hne HS HN HE hfull1 hfull2
        go_wp2_with fail
        refine (unpack_yes (some ⟨g, 0, none⟩) _ _ gs 0 k cs (rowL ps k) (ps.map (·.2)) wr (by omega) (by rw [rowL_length, unhide HL]) (rowL_lt ps k) (unhide hXr) (by simp [unhide HL]) hm hgs2 (unhide hRs) (allSize_of ps (unhide HF)) (by rw [sum_at]; omega)).mono ?_
        rintro e w5 ⟨g5, rfl, hO5, hB5, hg5⟩
        have hz5 := hB5.size
        have h1 := RowIn.own hO5
        rw [back_nums ps (unhide HF) k (unhide HL)] at h1
        have H1 := hide h1
        have H2 := hide ((unhide HNf).below hB5 (Nat.le_refl _))
        have H3 := hide ((unhide HBB).trans (((unhide HBr).mono (by omega)).trans (hB5.mono (by omega))))
        clear hO5 hB5 h1
        go_wp2_with fail
        refine (equal_in _ _ _ _ _ _ (ps.map (·.1)) (ps.map (·.1)) _ (by simp [unhide HL]) (by simp [unhide HL]) (by omega) (by omega) (unhide H1) (unhide H2)).mono ?_
        rintro e w6 ⟨rfl, q, rfl⟩
        have e1 : (ps.map (·.1) == ps.map (·.1)) = true := by simp
        rw [e1]
        go_wp2
        go_ret
        exact ⟨rfl, below_drewN (unhide H3) q⟩
end Go.Proofs.Ytacbfegleihmdaa
