/-
  Rows of files whose bytes lie elsewhere; the library's slices.IndexFunc, asked for a name.
-/
import Derived.Test.YtfojmdbpjkkpbaeDoorMg9
import Derived.Test.YtfojmdbpjkkpbaeDoorMg12
namespace Go.Proofs.YtfojmdbpjkkpbaeDoor
open Go.RowKit
set_option linter.unusedVariables false
set_option maxRecDepth 100000

/-- v is a row of the call's own, from block B on, that holds these files; their bytes, where there are any, lie below it -/
structure GRow (w : World) (B : Nat) (v : Value) (xs : List Fv) : Prop where
  own : w.ownsRow B 40 5 v xs.length (fcells xs)
  all : ∀ x ∈ xs, FvIn w x
  apart : ∀ x ∈ xs, x.f.bytes ≠ [] → ∀ b o, x.a = some ⟨b, o, none⟩ → b < B
theorem GRow.nil (w : World) (B : Nat) : GRow w B (.slice none 0 0) [] := ⟨World.ownsRow_nil _ _ _ _, (fun x hx => absurd hx List.not_mem_nil), (fun x hx => absurd hx List.not_mem_nil)⟩
theorem GRow.lt {w : World} {B : Nat} {v : Value} {xs : List Fv} (h : GRow w B v xs) {g : Nat} (e : v.ownBlock = some g) : B ≤ g ∧ g < w.heap.size := h.own.lt g e
theorem BsIn.grown2 {w w' : World} {r : Option Nat} {a : Option Addr} {c : Nat} {bs : List UInt8} (h : BsIn w a c bs) (hg : w.grownBy w' r) (hr : bs ≠ [] → ∀ b o, a = some ⟨b, o, none⟩ → some b ≠ r) : BsIn w' a c bs := by
  by_cases h0 : bs = []
  · subst h0
    rcases h with h | h | ⟨b, o, h1, _⟩
    · exact .inl h
    · exact .inr (.inl h)
    · exact .inr (.inl ⟨rfl, _, h1⟩)
  · exact h.grown hg (hr h0)
theorem GRow.grown {w w' : World} {B : Nat} {v : Value} {xs : List Fv} {r : Option Nat} (h : GRow w B v xs) (hg : w.grownBy w' r) (hr : ∀ g, r = some g → B ≤ g) (hv : v.ownBlock = none ∨ v.ownBlock ≠ r) : GRow w' B v xs := by
  refine ⟨h.own.kept hg hv, fun x hx => ?_, h.apart⟩
  have hf := h.all x hx
  refine ⟨hf.bs.grown2 hg (fun hne b o e e2 => ?_), hf.big, hf.txt⟩
  have := h.apart x hx hne b o e
  have := hr b e2.symm
  omega
theorem GRow.below {w w' : World} {B : Nat} {v : Value} {xs : List Fv} (h : GRow w B v xs) (hB : Below w.heap.size w w') : GRow w' B v xs :=
  h.grown (below_grown hB) (fun g e => by cases e) (by cases hv : v.ownBlock with
    | none => exact .inl rfl
    | some k => exact .inr (by simp))
theorem GRow.files {w : World} {B : Nat} {v : Value} {xs : List Fv} (h : GRow w B v xs) (hl : xs.length ≤ 2199023255552) : ∃ ad c, v = .slice ad xs.length c ∧ FsIn w ad c xs := by
  rcases h.own.2 with ⟨h1, h2⟩ | ⟨g, cap, cur, h1, h2, h3, h4, h5, h6, h7⟩
  · have hx : xs = [] := List.eq_nil_of_length_eq_zero h2
    subst hx
    exact ⟨none, 0, h1, FsIn.nil w⟩
  · refine ⟨_, _, h1, ⟨.inr ⟨g, 0, rfl, (h.lt (g := g) (by rw [h1]; rfl)).2, ?_⟩, h4, by unfold maxLen at h5; omega, hl, h.all⟩⟩
    intro j x hj
    have hlt : j < xs.length := by
      rcases Nat.lt_or_ge j xs.length with h' | h'
      · exact h'
      · rw [List.getElem?_eq_none h'] at hj; cases hj
    have hc : ∀ i u, i < 5 → x.cells[i]? = some u → w.cell? ⟨g, 0 + j * 5 + i, none⟩ = some u := by
      intro i u hi hu
      have e := fcells_at xs j x i hj hi
      have hown := h.own
      rw [h1] at hown
      rw [Nat.zero_add, hown.cellAt _ (by omega)]
      rw [e, hu]
    exact ⟨hc 0 _ (by decide) rfl, hc 1 _ (by decide) rfl, hc 2 _ (by decide) rfl, hc 3 _ (by decide) rfl, hc 4 _ (by decide) rfl⟩
theorem GRow.lin {w : World} {B : Nat} {v : Value} {xs : List Fv} (h : GRow w B v xs) (hl : xs.length ≤ 2199023255552) : LIn w v (fls xs) := by
  obtain ⟨ad, c, rfl, h2⟩ := h.files hl
  exact lin_of h2 rfl
/-- a file behind such a row -/
theorem wpList_append_fileG (w : World) {ops : Array Oper} {rest : List Oper} {o : Oper} {a : Act} {Q : Exit → Act → World → Prop} (hgd : o.guard = none) (s x : Operand)
    (ho : o.op = .call { callee := .builtin .append, args := #[s, x], argTypes := #[37, 37] }) (base : Nat) (v : Value) (xs : List Fv) (hs : a.eval s = v) (hown : GRow w base v xs)
    (g : Nat) (y : Fv) (hx : a.eval x = .slice (some ⟨g, 0, none⟩) 1 1) (hc : ∀ j u, y.cells[j]? = some u → w.cell? ⟨g, j, none⟩ = some u) (hy : FvIn w y) (hyb : y.f.bytes ≠ [] → ∀ b o, y.a = some ⟨b, o, none⟩ → b < base) (hsz : xs.length + 1 ≤ 2199023255552) (hbase : base ≤ w.heap.size)
    (h : ∀ v' w', Hid (GRow w' base v' (xs ++ [y])) → Hid (w.grownBy w' v.ownBlock ∧ (v'.ownBlock = v.ownBlock ∨ v'.ownBlock = some w.heap.size)) → wpList Tryd.prog ops Q rest (a.put o.dst v') w') : wpList Tryd.prog ops Q (o :: rest) a w := by
  obtain ⟨i0, hi, hz0, hz1, hz2⟩ := info_parts info_file
  refine wpList_append_own_at w hgd s x 37 ho base 40 i0 _ 5 64 Tryd.underlying37 hi hz0 hz1 hz2 rfl (by decide) v xs.length (fcells xs) hs hown.own ⟨g, 0, none⟩ 1 1 y.cells hx rfl ?_ (cells_one y) (by unfold maxLen; omega) (by omega) hbase ?_
  · intro j u hj
    have e2 : (⟨g, 0, none⟩ : Addr).add j = ⟨g, j, none⟩ := by unfold Addr.add; split <;> simp_all
    rw [e2]
    exact hc j u hj
  · intro v' w' h1 h2 _ h4
    have hm : ∀ z, z ∈ xs ++ [y] → z ∈ xs ∨ z = y := by intro z hz; simpa using hz
    have hne : ∀ z, z ∈ xs ++ [y] → z.f.bytes ≠ [] → ∀ b o, z.a = some ⟨b, o, none⟩ → b < base := by
      intro z hz hn b o e
      rcases hm z hz with hz | rfl
      · exact hown.apart z hz hn b o e
      · exact hyb hn b o e
    refine h v' w' (hide ⟨?_, ?_, hne⟩) (hide ⟨h2, h4⟩)
    · rw [fcells_app, fcells_one, List.length_append]
      exact h1
    · intro z hz
      have hf : FvIn w z := by
        rcases hm z hz with hz | rfl
        · exact hown.all z hz
        · exact hy
      refine ⟨hf.bs.grown2 h2 (fun hn b o e e2 => ?_), hf.big, hf.txt⟩
      have := hne z hz hn b o e
      have := (hown.own.lt b e2.symm).1
      omega

theorem nameIs_any (y : Fv) (g : Nat) (nx : List UInt8) (w : World) (hg : w.cell? ⟨g, 0, none⟩ = some (.string (B nx))) (hgl : g < w.heap.size) :
    Calls Tryd.prog 33 #[y.val, .pointer (some ⟨g, 0, none⟩)] w fun e w' => e = .returned (.bool (decide (y.f.name = nx))) ∧ Below w.heap.size w w' := by
  have he : ((B y.f.name).toList == (B nx).toList) = decide (y.f.name = nx) := by rw [toList_B, toList_B, Bool.eq_iff_iff, beq_iff_eq, decide_eq_true_iff]
  rw [val_is]
  have hg2 := fun o => cell_al (o := o) hg
  clear hg
  generalize decide (y.f.name = nx) = r at *
  generalize B y.f.name = t at *
  generalize B nx = t2 at *
  generalize y.f.bytes.length = n at *
  go_enter Tryd.func33, Tryd.ntmps33
  go_wp2
  go_ret
  exact ⟨rfl, bel_al (Below.refl _ _) _⟩

theorem look_take {nx : List UInt8} {l : List Fl} {k : Nat} {y : Fl} (h : lookF nx (l.take k) = none) (hy : l[k]? = some y) : (y.name = nx → lookF nx l = some y) ∧ (y.name ≠ nx → lookF nx (l.take (k + 1)) = none) := by
  obtain ⟨hk, he⟩ := List.getElem?_eq_some_iff.1 hy
  constructor
  · intro e
    have hl : l = l.take k ++ y :: l.drop (k + 1) := by
      have := List.take_append_drop k l
      rw [List.drop_eq_getElem_cons hk, he] at this
      exact this.symm
    unfold lookF at h ⊢
    rw [hl, List.find?_append, h]
    simp [e]
  · intro e
    rw [List.take_add_one, hy]
    unfold lookF at h ⊢
    rw [List.find?_append, h]
    simp [e]

set_option maxHeartbeats 2000000 in
theorem indexName_any (bd : Option Addr) (d : Nat) (ys : List Fv) (g : Nat) (nx : List UInt8) (w : World) (k : FsIn w bd d ys) (m : Nat) (hm : ys.length = m) (hg : w.cell? ⟨g, 0, none⟩ = some (.string (B nx))) (hgl : g < w.heap.size) :
    Calls Tryd.prog 32 #[.slice bd m d, .func (.func 33) #[] #[.pointer (some ⟨g, 0, none⟩)]] w fun e w' => ∃ r : Int, e = .returned (.int .i64 r) ∧ ((r = -1 ∧ lookF nx (fls ys) = none) ∨ ∃ (i : Nat) (y : Fv), r = (i : Int) ∧ i < m ∧ ys[i]? = some y ∧ lookF nx (fls ys) = some y.f) ∧ Below w.heap.size w w' := by
  have HK := hide k
  have HM := hide hm
  have hlim := k.lim
  rw [hm] at hlim
  have HP := hide (fun (y : Fv) (W : World) (hW : Below w.heap.size w W) => nameIs_any y g nx W ((hW.cell (p := ⟨g, 0, none⟩) hgl).trans hg) (Nat.lt_of_lt_of_le hgl hW.size))
  have hfl : (fls ys).length = m := by simp [fls, hm]
  have HFL := hide hfl
  clear k hm hg hfl
  go_enter Tryd.func32, Tryd.ntmps32
  go_wp2
  go_loopw [5, 8] (fun _ i wr => ∃ k : Nat, k ≤ m ∧ i = .int .i64 (k : Int) ∧ Hid (lookF nx ((fls ys).take k) = none) ∧ Hid (Below w.heap.size w wr)) (fun _ i _ => m - (intOf i).toNat)
  case atStart => exact ⟨0, Nat.zero_le _, rfl, hide rfl, Below.refl _ _⟩
  case round =>
    obtain ⟨k, hk, rfl, HL, HB⟩ := hrel
    by_cases hlt : k < m
    · obtain ⟨y, hy, hym⟩ := get_of (xs := ys) (k := k) (by rw [unhide HM]; exact hlt)
      obtain ⟨b, o, hA, hb, c0, c1, c2, c3, c4⟩ := (unhide HK).get (unhide HB) hy
      have hyf : (fls ys)[k]? = some y.f := by simp [fls, hy]
      have HLT := hide (look_take (unhide HL) hyf)
      have HY := hide hy
      have HPY := hide (unhide HP y wr (unhide HB))
      rw [val_is] at HPY
      have hys : y.sl = .slice y.a y.f.bytes.length y.c := rfl
      rw [hys] at c1
      obtain ⟨q, hq⟩ : ∃ q, decide (y.f.name = nx) = q := ⟨_, rfl⟩
      rw [hq] at HPY
      have HQ := hide hq
      clear hyf hys hq hy hym
      subst hA
      generalize B y.f.name = t at *
      generalize y.f.bytes.length = n2 at *
      generalize y.f.stamp = s2 at *
      generalize y.f.node = d2 at *
      generalize y.f.gone = g2 at *
      go_wp2_with fail
      refine (unhide HPY).mono ?_
      rintro e w1 ⟨rfl, hb1⟩
      have HB1 := hide ((unhide HB).trans (hb1.mono (unhide HB).size))
      clear hb1
      cases q with
      | true =>
        have he : y.f.name = nx := of_decide_eq_true (unhide HQ)
        have HL2 := hide ((unhide HLT).1 he)
        clear he
        go_wp2
        go_ret
        exact ⟨k, rfl, .inr ⟨k, y, rfl, hlt, unhide HY, unhide HL2⟩, unhide HB1⟩
      | false =>
        have he : y.f.name ≠ nx := of_decide_eq_false (unhide HQ)
        have HL2 := hide ((unhide HLT).2 he)
        clear he
        go_wp2
        go_roundw
        case rel => exact ⟨k + 1, by omega, by go_num, unhide HL2, unhide HB1⟩
        case measure => simp [intOf]; omega
    · obtain rfl : m = k := by omega
      have hl2 := unhide HL
      rw [List.take_of_length_le (by rw [unhide HFL]; exact Nat.le_refl _)] at hl2
      have HL2 := hide hl2
      clear hl2
      go_wp2
      go_ret
      exact ⟨-1, rfl, .inl ⟨rfl, unhide HL2⟩, unhide HB⟩
end Go.Proofs.YtfojmdbpjkkpbaeDoor
