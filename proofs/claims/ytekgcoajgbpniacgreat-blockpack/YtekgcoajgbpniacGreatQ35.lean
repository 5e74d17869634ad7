/-
  The document's own reader in memory; wrong, get.
-/
import Derived.Test.YtekgcoajgbpniacGreatQ2
import Derived.Test.YtekgcoajgbpniacGreatQ4
import Derived.Test.YtekgcoajgbpniacGreatQ34
import Derived.Test.YtekgcoajgbpniacGreatQ0
import Derived.Lib.ReflectliteSwap
import Derived.Laws.IdiomCopy
namespace Go.Proofs.YtekgcoajgbpniacGreat
open Go.RowKit
set_option linter.unusedVariables false
set_option maxRecDepth 100000

def ucells (row : List Bool) (u : US) (ov kv : Value) : Array Value := #[.string (text row), .int .i64 (u.p : Int), ov, kv, .int .i64 u.e]
/-- block b holds the reader u; its rows lie behind it; No: what must stay -/
structure UIs (No : Nat → Prop) (B : Nat) (w : World) (b : Nat) (row : List Bool) (u : US) : Prop where
  base : B ≤ b
  no : ¬ No b
  ex : ∃ ov kv, w.heap[b]? = some (.cells (ucells row u ov kv) 44 (0, 0)) ∧ w.ownsRow (b + 1) 5 1 ov u.out.length (u8s u.out) ∧ w.ownsRow (b + 1) 3 1 kv u.ks.length (i64s u.ks) ∧ (ov.ownBlock = none ∨ ov.ownBlock ≠ kv.ownBlock) ∧ (∀ g, ov.ownBlock = some g → ¬ No g) ∧ (∀ g, kv.ownBlock = some g → ¬ No g)
structure UUp (No : Nat → Prop) (B : Nat) (w : World) (b : Nat) (row : List Bool) (u : US) (w' : World) : Prop where
  is : UIs No B w' b row u
  below : Below B w w'
  kp : Kp No w w'
theorem UIs.lt {No : Nat → Prop} {B b : Nat} {w : World} {row : List Bool} {u : US} (h : UIs No B w b row u) : b < w.heap.size := by
  obtain ⟨ov, kv, h1, _⟩ := h.ex
  exact (Array.getElem?_eq_some_iff.1 h1).1
theorem UIs.cell {No : Nat → Prop} {B b : Nat} {w : World} {row : List Bool} {u : US} (h : UIs No B w b row u) : w.cell? ⟨b, 0, none⟩ = some (.string (text row)) ∧ w.cell? ⟨b, 1, none⟩ = some (.int .i64 (u.p : Int)) ∧ w.cell? ⟨b, 4, none⟩ = some (.int .i64 u.e) ∧ ∀ j, w.frozen? ⟨b, j, none⟩ = false := by
  obtain ⟨ov, kv, h1, _⟩ := h.ex
  exact ⟨heap_row h1, heap_row h1, heap_row h1, fun j => frozen_of_row w b j _ _ h1⟩
theorem UUp.refl {No : Nat → Prop} {B b : Nat} {w : World} {row : List Bool} {u : US} (h : UIs No B w b row u) : UUp No B w b row u w := ⟨h, Below.refl _ _, Kp.refl _ _⟩
theorem UUp.trans {No : Nat → Prop} {B b : Nat} {w w1 w2 : World} {row : List Bool} {u v : US} (h : UUp No B w b row u w1) (k : UUp No B w1 b row v w2) : UUp No B w b row v w2 := ⟨k.is, h.below.trans k.below, h.kp.trans k.kp h.below.size⟩
theorem UIs.grown {No : Nat → Prop} {B b : Nat} {w w' : World} {row : List Bool} {u : US} (h : UIs No B w b row u) (hg : w.grownBy w' none) : UIs No B w' b row u := by
  obtain ⟨ov, kv, h1, h2, h3, h4⟩ := h.ex
  exact ⟨h.base, h.no, ov, kv, (hg.block b h.lt (by simp)).trans h1, own_kept h2 hg, own_kept h3 hg, h4⟩
theorem UUp.drewN {No : Nat → Prop} {B b : Nat} {w w' : World} {row : List Bool} {u : US} (h : UUp No B w b row u w') (q : Nat) : UUp No B w b row u (w'.drewN q) :=
  ⟨h.is.grown ⟨rfl, rfl, rfl, Nat.le_refl _, fun _ _ _ => rfl⟩, below_drewN h.below q, h.kp⟩
/-- one of the reader's own cells is written -/
theorem UIs.set {No : Nat → Prop} {B b : Nat} {w : World} {row : List Bool} {u : US} (h : UIs No B w b row u) (i : Nat) (v : Value) (u' : US) (ho : u'.out = u.out) (hk : u'.ks = u.ks) (hc : ∀ ov kv, (ucells row u ov kv).setIfInBounds i v = ucells row u' ov kv) : UUp No B w b row u' (w.setCell ⟨b, i, none⟩ v) := by
  obtain ⟨ov, kv, h1, h2, h3, h4, h5, h6⟩ := h.ex
  have hg := grown_setCell w b i v
  have hne : ∀ {e size n : Nat} {x : Value} {xs : List Value}, w.ownsRow (b + 1) e size x n xs → x.ownBlock = none ∨ x.ownBlock ≠ some b := fun {e size n x xs} ho => by
    cases hx : x.ownBlock with
    | none => exact .inl rfl
    | some g =>
      refine .inr (fun e => ?_)
      have := (ho.lt g hx).1
      cases e
      omega
  refine ⟨⟨h.base, h.no, ov, kv, ?_, by rw [ho]; exact h2.kept hg (hne h2), by rw [hk]; exact h3.kept hg (hne h3), h4, h5, h6⟩, ?_, ?_⟩
  · rw [heap_setCell_same w b i _ _ _ h1, hc]
  · exact (Below.refl B w).grown hg (Nat.le_trans h.base (Nat.le_of_lt h.lt)) (fun g e => by cases e; exact h.base)
  · exact (Kp.refl No w).grown hg (Nat.le_refl _) (fun g e => by cases e; exact h.no)
theorem UIs.setE {No : Nat → Prop} {B b : Nat} {w : World} {row : List Bool} {u : US} (h : UIs No B w b row u) (x : Int) : UUp No B w b row { u with e := x } (w.setCell ⟨b, 4, none⟩ (.int .i64 x)) := h.set 4 _ _ rfl rfl (fun _ _ => rfl)
theorem UIs.setP {No : Nat → Prop} {B b : Nat} {w : World} {row : List Bool} {u : US} (h : UIs No B w b row u) (q : Nat) : UUp No B w b row { u with p := q } (w.setCell ⟨b, 1, none⟩ (.int .i64 (q : Int))) := h.set 1 _ _ rfl rfl (fun _ _ => rfl)

theorem wrong_any (No : Nat → Prop) (B b : Nat) (row : List Bool) (u : US) (x : Int) (w : World) (h : UIs No B w b row u) :
    Calls Tryz.prog 22 #[.pointer (some ⟨b, 0, none⟩), .int .i64 x] w fun e w' => e = .returned (.tuple #[]) ∧ UUp No B w b row (uwrong x u) w' := by
  obtain ⟨c0, c1, c4, fr⟩ := h.cell
  have H := hide h
  clear h
  by_cases h0 : u.e = 0
  · have HU : Hid (uwrong x u = { u with e := x }) := hide (by unfold uwrong; rw [if_pos h0])
    rw [h0] at c4
    clear h0
    go_enter Tryz.func22, Tryz.ntmps22
    go_wp2
    go_end0
    exact ⟨rfl, by rw [unhide HU]; exact (unhide H).setE x⟩
  · have HU : Hid (uwrong x u = u) := hide (by unfold uwrong; rw [if_neg h0])
    have hb : (u.e == 0) = false := by rw [beq_eq_false_iff_ne]; exact h0
    generalize u.e = e0 at c4 hb
    clear h0
    go_enter Tryz.func22, Tryz.ntmps22
    go_wp2
    go_end0
    exact ⟨rfl, by rw [unhide HU]; exact UUp.refl (unhide H)⟩

theorem text_part (row : List Bool) (p n : Nat) : (text row).extract p (p + n) = text ((row.drop p).take n) := by
  apply ByteArray.ext
  simp [text, List.map_take, List.map_drop]

set_option maxHeartbeats 1000000 in
theorem get_any (No : Nat → Prop) (B b n : Nat) (row : List Bool) (u : US) (w : World) (h : UIs No B w b row u) (hn : n ≤ 16) (hrow : row.length ≤ 200000) (hp : u.p ≤ row.length) :
    Calls Tryz.prog 21 #[.pointer (some ⟨b, 0, none⟩), .int .i64 (n : Int)] w fun e w' => e = .returned (.int .i64 ((uget row n u).1 : Int)) ∧ UUp No B w b row (uget row n u).2 w' := by
  obtain ⟨c0, c1, c4, fr⟩ := h.cell
  have H := hide h
  obtain ⟨N, hN⟩ : ∃ N, row.length = N := ⟨_, rfl⟩
  have hsz : (text row).size = N := by rw [text_size, hN]
  rw [hN] at hrow hp
  clear h
  by_cases h0 : u.e = 0
  · by_cases hl : N < u.p + n
    · have HU : Hid (uget row n u = (0, { u with e := 7 })) := hide (by unfold uget; rw [if_pos h0, if_pos (by rw [hN]; exact hl)])
      rw [unhide HU]
      rw [h0] at c4
      have HT := hide (text_part row)
      clear h0 HU
      generalize text row = T at *
      obtain ⟨p, out, ks, e⟩ := u
      simp only at *
      have hd : decide ((N : Int) < (p : Int) + (n : Int)) = true := decide_eq_true (by omega)
      go_enter Tryz.func21, Tryz.ntmps21
      go_wp2
      go_quiet (fail)
      go_wp2
      go_ret
      exact ⟨rfl, ((UUp.refl (unhide H)).drewN nq).trans (((UUp.refl (unhide H)).drewN nq).is.setE 7)⟩
    · have HU : Hid (uget row n u = (numOf ((row.drop u.p).take n), { u with p := u.p + n })) := hide (by unfold uget; rw [if_pos h0, if_neg (by rw [hN]; exact hl)])
      rw [unhide HU]
      rw [h0] at c4
      have hx := text_part row u.p n
      have HO := hide (fun W => ofNumber_any ((row.drop u.p).take n) W (by simp; omega))
      generalize numOf ((row.drop u.p).take n) = x at *
      generalize text ((row.drop u.p).take n) = S at *
      clear h0 HU
      generalize text row = T at *
      obtain ⟨p, out, ks, e⟩ := u
      simp only at *
      have hd : decide ((N : Int) < (p : Int) + (n : Int)) = false := decide_eq_false (by omega)
      go_enter Tryz.func21, Tryz.ntmps21
      go_wp2
      go_quiet (fail)
      go_wp2
      go_quiet ((go_at_call 41; refine Calls.quiet_of_same (unhide HO _)))
      go_wp2
      go_ret
      exact ⟨rfl, (((UUp.refl (unhide H)).drewN _).trans (((UUp.refl (unhide H)).drewN _).is.setP (p + n))).drewN _⟩
  · have HU : Hid (uget row n u = (0, u)) := hide (by unfold uget; rw [if_neg h0])
    rw [unhide HU]
    have hb : (u.e == 0) = false := by rw [beq_eq_false_iff_ne]; exact h0
    have hb2 : (u.e != 0) = true := by rw [bne_iff_ne]; exact h0
    generalize u.e = e0 at c4 hb hb2
    clear h0 HU
    go_enter Tryz.func21, Tryz.ntmps21
    go_wp2
    go_quiet (fail)
    go_wp2
    go_ret
    exact ⟨rfl, (UUp.refl (unhide H)).drewN nq⟩
end Go.Proofs.YtekgcoajgbpniacGreat

/-
  The closure by which the document's own CodesOf sorts, and the exchange of two elements by the library.
-/
namespace Go.Proofs.YtekgcoajgbpniacGreat
open Go.RowKit
set_option linter.unusedVariables false

/-- the pairs that stand at places 0 to N - 1 of block bp -/
def PS (N bp : Nat) (d : Nat → Int × Int) (W : World) : Prop :=
  ∀ k, k < N → (W.cell? ⟨bp, k * 2, none⟩ = some (.int .i64 (d k).1) ∧ W.frozen? ⟨bp, k * 2, none⟩ = false) ∧ (W.cell? ⟨bp, k * 2 + 1, none⟩ = some (.int .i64 (d k).2) ∧ W.frozen? ⟨bp, k * 2 + 1, none⟩ = false)

set_option maxHeartbeats 1000000 in
theorem less_any (N bp bx cap : Nat) (d : Nat → Int × Int) (W : World) (i j : Nat) (hi : i < N) (hj : j < N) (hN : N ≤ 288) (hP : PS N bp d W) (hb : W.cell? ⟨bx, 0, none⟩ = some (.slice (some ⟨bp, 0, none⟩) N cap)) :
    Calls Tryz.prog 59 #[.int .i64 i, .int .i64 j, .pointer (some ⟨bx, 0, none⟩)] W fun e w' => e = .returned (.bool (decide ((d i).1 < (d j).1))) ∧ ∃ q, w' = W.drewN q := by
  have c1 := (hP i hi).1.1
  have c2 := (hP j hj).1.1
  generalize (d i).1 = x at *
  generalize (d j).1 = y at *
  have hiI : (i : Int) < (N : Int) := by omega
  have hjI : (j : Int) < (N : Int) := by omega
  clear hP
  go_enter Tryz.func59, Tryz.ntmps59
  go_wp2
  go_quiet (fail)
  go_wp2
  go_ret
  exact ⟨rfl, _, rfl⟩

/-- two of a row's pairs exchanged in memory -/
def swW (W : World) (bp : Nat) (d : Nat → Int × Int) (i j : Nat) : World :=
  (W.setCells bp (0 + i * 2) [.int .i64 (d j).1, .int .i64 (d j).2]).setCells bp (0 + j * 2) [.int .i64 (d i).1, .int .i64 (d i).2]

theorem infoP : (Tryz.prog.info? 125).map (·.size) = some 2 := by kernel_rfl
theorem aggP (w : World) : (isAgg 125).run Tryz.prog w = .ok true w := by kernel_rfl

theorem swap_run (N bp cap : Nat) (d : Nat → Int × Int) (W : World) (i j : Nat) (hi : i < N) (hj : j < N) (hP : PS N bp d W) :
    (callFunc 105 #[.int .i64 i, .int .i64 j, .slice (some ⟨bp, 0, none⟩) N cap, typeHandle Tryz.prog 125]).run Tryz.prog W = .ok (.value (.tuple #[])) (swW W bp d i j) := by
  obtain ⟨ie, hie, hs⟩ := Option.map_eq_some_iff.1 infoP
  have h := Lib.run_swap_cells (P := Tryz.prog) false 125 ie hie aggP bp 0 N cap i j hi hj [.int .i64 (d i).1, .int .i64 (d i).2] [.int .i64 (d j).1, .int .i64 (d j).2] (by rw [hs]; rfl) (by rw [hs]; rfl)
    (by intro v hv; simp at hv; rcases hv with rfl | rfl <;> rfl) (by intro v hv; simp at hv; rcases hv with rfl | rfl <;> rfl) W
    (by intro k v hk; rw [hs]; match k, hk with
      | 0, hk => simp at hk; subst hk; simpa using (hP i hi).1.1
      | 1, hk => simp at hk; subst hk; simpa using (hP i hi).2.1)
    (by intro k v hk; rw [hs]; match k, hk with
      | 0, hk => simp at hk; subst hk; simpa using (hP j hj).1.1
      | 1, hk => simp at hk; subst hk; simpa using (hP j hj).2.1)
    (by rw [hs]; intro k hk; match k, hk with
      | 0, _ => simpa using (hP i hi).1.2
      | 1, _ => simpa using (hP i hi).2.2)
    (by rw [hs]; intro k hk; match k, hk with
      | 0, _ => simpa using (hP j hj).1.2
      | 1, _ => simpa using (hP j hj).2.2)
  rw [run_callFunc_extern Tryz.func105 (by kernel_rfl) (by kernel_rfl) (by kernel_rfl) (e := Extern.ReflectliteSwapper.swap false) (by kernel_rfl), h, hs]
  rfl

theorem grown_refl' (w : World) (r : Option Nat) : w.grownBy w r := ⟨rfl, rfl, rfl, Nat.le_refl _, fun _ _ _ => rfl⟩
theorem grown_trans' {a b c : World} {r : Option Nat} (h : a.grownBy b r) (k : b.grownBy c r) : a.grownBy c r :=
  ⟨k.os.trans h.os, k.tape.trans h.tape, k.output.trans h.output, Nat.le_trans h.size k.size, fun i hi hr => (k.block i (Nat.lt_of_lt_of_le hi h.size) hr).trans (h.block i hi hr)⟩
theorem grown_drewN' {a b : World} {r : Option Nat} (h : a.grownBy b r) (n : Nat) : a.grownBy (b.drewN n) r := ⟨h.os, h.tape, h.output, h.size, h.block⟩
theorem grown_alloc' {a b : World} {r : Option Nat} (h : a.grownBy b r) (o : Obj) : a.grownBy (b.alloc o) r := grown_trans' h (World.grownBy_alloc b o r)
theorem grown_set' (w : World) (b i : Nat) (v : Value) : w.grownBy (w.setCell ⟨b, i, none⟩ v) (some b) :=
  ⟨rfl, rfl, rfl, by simp, fun k _ hk => heap_setCell_other w ⟨b, i, none⟩ k v (fun e => hk (by simp [e]))⟩
theorem grown_cells' (b : Nat) : ∀ (vs : List Value) (o : Nat) (w : World), w.grownBy (w.setCells b o vs) (some b)
  | [], o, w => grown_refl' _ _
  | v :: vs, o, w => grown_trans' (grown_set' w b o v) (grown_cells' b vs (o + 1) _)
theorem grown_sw (W : World) (bp : Nat) (d : Nat → Int × Int) (i j : Nat) : W.grownBy (swW W bp d i j) (some bp) := grown_trans' (grown_cells' bp _ _ W) (grown_cells' bp _ _ _)

theorem two_in {W : World} {bp o : Nat} {x y : Value} (h0 : (W.cell? ⟨bp, o, none⟩).isSome = true) (h1 : (W.cell? ⟨bp, o + 1, none⟩).isSome = true) : (W.setCells bp o [x, y]).cell? ⟨bp, o, none⟩ = some x ∧ (W.setCells bp o [x, y]).cell? ⟨bp, o + 1, none⟩ = some y := by
  have hs : ∀ j, j < [x, y].length → (W.cell? ⟨bp, o + j, none⟩).isSome = true := by
    intro j hj
    match j, hj with
    | 0, _ => exact h0
    | 1, _ => exact h1
  exact ⟨World.cell?_setCells_in bp [x, y] o W hs 0 (by simp), World.cell?_setCells_in bp [x, y] o W hs 1 (by simp)⟩
theorem two_out {W : World} {bp o k : Nat} {x y : Value} (h : k < o ∨ o + 2 ≤ k) : (W.setCells bp o [x, y]).cell? ⟨bp, k, none⟩ = W.cell? ⟨bp, k, none⟩ :=
  World.cell?_setCells_out bp [x, y] o W ⟨bp, k, none⟩ (fun _ _ => by simpa using h)

theorem PS.sw {N bp : Nat} {d : Nat → Int × Int} {W : World} (hP : PS N bp d W) (i j : Nat) (hi : i < N) (hj : j < N) : PS N bp (Stab.swp d i j) (swW W bp d i j) := by
  intro k hk
  obtain ⟨⟨c0, f0⟩, c1, f1⟩ := hP k hk
  unfold swW
  simp only [Nat.zero_add, World.frozen?_setCells, f0, f1, and_true]
  have some1 : ∀ q, q < N → (W.cell? ⟨bp, q * 2, none⟩).isSome = true ∧ (W.cell? ⟨bp, q * 2 + 1, none⟩).isSome = true := fun q hq => ⟨by rw [(hP q hq).1.1]; rfl, by rw [(hP q hq).2.1]; rfl⟩
  have some2 : ∀ q, q < N → ((W.setCells bp (i * 2) [.int .i64 (d j).1, .int .i64 (d j).2]).cell? ⟨bp, q * 2, none⟩).isSome = true ∧ ((W.setCells bp (i * 2) [.int .i64 (d j).1, .int .i64 (d j).2]).cell? ⟨bp, q * 2 + 1, none⟩).isSome = true := by
    intro q hq
    by_cases e : q = i
    · subst e
      have := two_in (x := .int .i64 (d j).1) (y := .int .i64 (d j).2) (some1 q hq).1 (some1 q hq).2
      exact ⟨by rw [this.1]; rfl, by rw [this.2]; rfl⟩
    · rw [two_out (o := i * 2) (k := q * 2) (by omega), two_out (o := i * 2) (k := q * 2 + 1) (by omega)]; exact some1 q hq
  unfold Stab.swp
  by_cases e2 : k = j
  · subst e2
    have := two_in (x := .int .i64 (d i).1) (y := .int .i64 (d i).2) (some2 k hk).1 (some2 k hk).2
    by_cases e1 : k = i
    · subst e1; rw [if_pos rfl]; exact this
    · rw [if_neg e1, if_pos rfl]; exact this
  · rw [two_out (o := j * 2) (k := k * 2) (by omega), two_out (o := j * 2) (k := k * 2 + 1) (by omega)]
    by_cases e1 : k = i
    · subst e1
      rw [if_pos rfl]
      exact two_in (x := .int .i64 (d j).1) (y := .int .i64 (d j).2) (some1 k hk).1 (some1 k hk).2
    · rw [if_neg e1, if_neg e2, two_out (o := i * 2) (k := k * 2) (by omega), two_out (o := i * 2) (k := k * 2 + 1) (by omega)]
      exact ⟨c0, c1⟩
theorem PS.kept {N bp : Nat} {d : Nat → Int × Int} {W W' : World} (hP : PS N bp d W) (hg : W.grownBy W' none) (hb : bp < W.heap.size) : PS N bp d W' := by
  intro k hk
  obtain ⟨⟨c0, f0⟩, c1, f1⟩ := hP k hk
  have e := hg.block bp hb (by simp)
  exact ⟨⟨by rw [World.cell?_of_block (w := W) (a := ⟨bp, k * 2, none⟩) e]; exact c0, by rw [World.frozen?_of_block (w := W) (a := ⟨bp, k * 2, none⟩) e]; exact f0⟩, by rw [World.cell?_of_block (w := W) (a := ⟨bp, k * 2 + 1, none⟩) e]; exact c1, by rw [World.frozen?_of_block (w := W) (a := ⟨bp, k * 2 + 1, none⟩) e]; exact f1⟩
theorem PS.drewN {N bp : Nat} {d : Nat → Int × Int} {W : World} (hP : PS N bp d W) (n : Nat) : PS N bp d (W.drewN n) := hP
theorem PS.alloc {N bp : Nat} {d : Nat → Int × Int} {W : World} (hP : PS N bp d W) (hb : bp < W.heap.size) (o : Obj) : PS N bp d (W.alloc o) := hP.kept (World.grownBy_alloc W o none) hb

/-- the two functions that the library's sort is handed -/
abbrev LF (bx : Nat) : Value := .func (.func 59) #[] #[.pointer (some ⟨bx, 0, none⟩)]
abbrev SF (h : Value) (N bp cap : Nat) : Value := .func (.func 105) #[] #[.slice (some ⟨bp, 0, none⟩) N cap, h]

set_option maxHeartbeats 1000000 in
theorem swapRange_any (h : Value) (hh : Hid (h = typeHandle Tryz.prog 125)) (N bp bx cap : Nat) (d : Nat → Int × Int) (a b n : Nat) (w : World) (hN : N ≤ 288) (ha : a + n ≤ N) (hb : b + n ≤ N) (hbp : bp < w.heap.size) (hP : PS N bp d w) :
    Calls Tryz.prog 121 #[.agg #[LF bx, SF h N bp cap], .int .i64 a, .int .i64 b, .int .i64 n] w fun e w' => e = .returned (.tuple #[]) ∧ PS N bp (Stab.swr d a b n) w' ∧ w.grownBy w' (some bp) := by
  have HP := hide hP
  clear hP
  go_enter Tryz.func121, Tryz.ntmps121
  go_wp2
  go_loopw [8] (fun vi wr => ∃ i : Nat, i ≤ n ∧ vi = .int .i64 i ∧ PS N bp (Stab.swr d a b i) wr ∧ w.grownBy wr (some bp) ∧ wr.cell? ⟨w.heap.size, 1, none⟩ = some (SF h N bp cap) ∧ w.heap.size < wr.heap.size) (fun vi _ => n - (intOf vi).toNat)
  case atStart => exact ⟨0, Nat.zero_le _, rfl, (unhide HP).alloc hbp _, grown_alloc' (grown_refl' _ _) _, by simp, by simp⟩
  case round =>
    obtain ⟨i, hi, rfl, hPi, hg, hc, hz⟩ := hrel
    have HPi := hide hPi
    have HG := hide hg
    have HS : Hid (Stab.swr d a b (i + 1) = Stab.swp (Stab.swr d a b i) (a + i) (b + i)) := rfl
    clear hPi hg
    by_cases hlt : i < n
    · generalize Stab.swr d a b i = di at *
      have hrun := swap_run N bp cap di wr (a + i) (b + i) (by omega) (by omega) (unhide HPi)
      rw [← unhide hh] at hrun
      push_cast at hrun
      have HSW := hide ((unhide HPi).sw (a + i) (b + i) (by omega) (by omega))
      have hgs := grown_sw wr bp di (a + i) (b + i)
      have HGS := hide (grown_trans' (unhide HG) hgs)
      have hc2 := hgs.cell hc (by simp; omega)
      have hz2 := Nat.lt_of_lt_of_le hz hgs.size
      clear hgs
      generalize swW wr bp di (a + i) (b + i) = w2 at *
      go_wp2
      go_roundw
      case rel => exact ⟨i + 1, by omega, by go_num, by rw [unhide HS]; exact unhide HSW, unhide HGS, hc2, hz2⟩
      case measure => simp [intOf]; omega
    · obtain rfl : i = n := by omega
      go_wp2
      go_end0
      exact ⟨rfl, unhide HPi, unhide HG⟩

set_option maxHeartbeats 2000000 in
theorem rotate_any (h : Value) (hh : Hid (h = typeHandle Tryz.prog 125)) (N bp bx cap : Nat) (d : Nat → Int × Int) (a m b : Nat) (w : World) (hN : N ≤ 288) (ha : a < m) (hm : m < b) (hb : b ≤ N) (hbp : bp < w.heap.size) (hP : PS N bp d w) :
    Calls Tryz.prog 117 #[.agg #[LF bx, SF h N bp cap], .int .i64 a, .int .i64 m, .int .i64 b] w fun e w' => e = .returned (.tuple #[]) ∧ PS N bp (Stab.rot d a m b) w' ∧ w.grownBy w' (some bp) := by
  have HP := hide hP
  have HR : Hid (Stab.rot d (m - (m - a)) m (m + (b - m)) = Stab.rot d a m b) := by rw [show m - (m - a) = a by omega, show m + (b - m) = b by omega]; exact rfl
  clear hP
  go_enter Tryz.func117, Tryz.ntmps117
  go_wp2
  go_loopw [8, 9] (fun vi vj wr => ∃ (i j : Nat) (dk : Nat → Int × Int), 0 < i ∧ 0 < j ∧ i ≤ m - a ∧ j ≤ b - m ∧ vi = .int .i64 i ∧ vj = .int .i64 j ∧ Stab.rot dk (m - i) m (m + j) = Stab.rot d a m b ∧ PS N bp dk wr ∧ w.grownBy wr (some bp) ∧
      (wr.cell? ⟨w.heap.size, 0, none⟩ = some (LF bx) ∧ wr.cell? ⟨w.heap.size, 1, none⟩ = some (SF h N bp cap)) ∧ w.heap.size < wr.heap.size) (fun vi vj _ => (intOf vi).toNat + (intOf vj).toNat)
  case atStart => exact ⟨m - a, b - m, d, by omega, by omega, Nat.le_refl _, Nat.le_refl _, by go_num, by go_num, unhide HR, (unhide HP).alloc hbp _, grown_alloc' (grown_refl' _ _) _, ⟨by simp, by simp⟩, by simp⟩
  case round =>
    obtain ⟨i, j, dk, hi0, hj0, hi, hj, rfl, rfl, hrot, hPk, hg, ⟨hc0, hc1⟩, hz⟩ := hrel
    have HPk := hide hPk
    have HG := hide hg
    have HRot := hide hrot
    have hbw := Nat.lt_of_lt_of_le hbp hg.size
    clear hPk hg hrot
    rcases Nat.lt_trichotomy i j with hij | hij | hij
    · have hne : ((i : Int) != (j : Int)) = true := by rw [bne_iff_ne]; omega
      have hle : ¬ (j : Int) < (i : Int) := by omega
      have e1 : (m : Int) - (i : Int) = ((m - i : Nat) : Int) := by omega
      have e2 : (m : Int) + (j : Int) - (i : Int) = ((m + j - i : Nat) : Int) := by omega
      have E1 := hide e1
      have E2 := hide e2
      clear e1 e2
      go_wp2_with fail
      rw [unhide E1, unhide E2]
      refine (swapRange_any h hh N bp bx cap dk _ _ _ _ hN (by omega) (by omega) hbw (unhide HPk)).mono ?_
      rintro e w2 ⟨rfl, hP2, hg2⟩
      have HP2 := hide hP2
      have HG2 := hide (grown_trans' (unhide HG) hg2)
      have c0 := hg2.cell hc0 (by simp; omega)
      have c1 := hg2.cell hc1 (by simp; omega)
      have hz2 := Nat.lt_of_lt_of_le hz hg2.size
      have HR2 := hide ((Stab.rot_lt dk m i j hij (by omega)).trans (unhide HRot))
      clear hP2 hg2
      go_wp2
      go_roundw
      case rel => exact ⟨i, j - i, _, hi0, by omega, hi, by omega, rfl, by go_num, unhide HR2, unhide HP2, unhide HG2, ⟨c0, c1⟩, hz2⟩
      case measure => simp [intOf]; omega
    · subst hij
      have hne : ((i : Int) != (i : Int)) = false := by simp
      have E1 : Hid ((m : Int) - (i : Int) = ((m - i : Nat) : Int)) := by unfold Hid; omega
      go_wp2_with fail
      rw [unhide E1]
      refine (swapRange_any h hh N bp bx cap dk _ _ _ _ hN (by omega) (by omega) hbw (unhide HPk)).mono ?_
      rintro e w2 ⟨rfl, hP2, hg2⟩
      rw [Stab.rot_eq dk m i (by omega), unhide HRot] at hP2
      have HP2 := hide hP2
      have HG2 := hide (grown_trans' (unhide HG) hg2)
      clear hP2 hg2
      go_wp2
      go_end0
      exact ⟨rfl, unhide HP2, unhide HG2⟩
    · have hne : ((i : Int) != (j : Int)) = true := by rw [bne_iff_ne]; omega
      have hle : (j : Int) < (i : Int) := by omega
      have E1 : Hid ((m : Int) - (i : Int) = ((m - i : Nat) : Int)) := by unfold Hid; omega
      go_wp2_with fail
      rw [unhide E1]
      refine (swapRange_any h hh N bp bx cap dk _ _ _ _ hN (by omega) (by omega) hbw (unhide HPk)).mono ?_
      rintro e w2 ⟨rfl, hP2, hg2⟩
      have HP2 := hide hP2
      have HG2 := hide (grown_trans' (unhide HG) hg2)
      have c0 := hg2.cell hc0 (by simp; omega)
      have c1 := hg2.cell hc1 (by simp; omega)
      have hz2 := Nat.lt_of_lt_of_le hz hg2.size
      have HR2 := hide ((Stab.rot_gt dk m i j hij (by omega)).trans (unhide HRot))
      clear hP2 hg2
      go_wp2
      go_roundw
      case rel => exact ⟨i - j, j, _, by omega, hj0, by omega, hj, by go_num, rfl, unhide HR2, unhide HP2, unhide HG2, ⟨c0, c1⟩, hz2⟩
      case measure => simp [intOf]; omega
end Go.Proofs.YtekgcoajgbpniacGreat
