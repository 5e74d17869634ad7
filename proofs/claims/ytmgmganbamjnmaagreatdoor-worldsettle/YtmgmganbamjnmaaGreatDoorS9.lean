/-
  Rows of a call's own that hold neither texts nor bytes: what lies elsewhere stays.
-/
import Derived.Test.YtmgmganbamjnmaaGreatDoorS8
import Derived.Test.YtmgmganbamjnmaaGreatDoorQ6
import Derived.Maps.AppendAt
import Derived.Laws.AppendOwnNone
namespace Go.Proofs.YtmgmganbamjnmaaGreatDoor
open Go.RowKit
set_option linter.unusedVariables false
set_option linter.unusedSimpArgs false
set_option maxRecDepth 100000

/-- no text, no byte -/
def nfv : Value → Bool
  | .string _ => false
  | .int .u8 _ => false
  | _ => true
/-- block g holds neither texts nor bytes -/
def NFb (w : World) (g : Nat) : Prop := ∀ o u, w.cell? ⟨g, o, none⟩ = some u → nfv u = true
theorem NFb.row {w : World} {g : Nat} {cs : Array Value} {t : TypeId} (h : w.heap[g]? = some (.cells cs t (0, 0))) (hc : ∀ u ∈ cs.toList, nfv u = true) : NFb w g := by
  intro o u hu
  rw [heap_row h] at hu
  exact hc u (List.mem_of_getElem? (by simpa using hu))
theorem NFb.same {w w' : World} {g : Nat} (h : NFb w g) (e : w'.heap[g]? = w.heap[g]?) : NFb w' g := by
  intro o u hu
  rw [World.cell?_of_block (w := w) (w' := w') (a := ⟨g, o, none⟩) e] at hu
  exact h o u hu
theorem BsIn.offN {w w' : World} {r : Option Nat} {c : Nat} {a : Option Addr} {bs : List UInt8} (h : BsIn w a c bs) (hg : w.grownBy w' r) (hs : ∀ g, r = some g → NFb w g) : BsIn w' a c bs := by
  rcases h with h | h | ⟨b, o, h1, h2, h3, h4⟩
  · exact .inl h
  · exact .inr (.inl h)
  · by_cases h0 : bs = []
    · exact .inr (.inl ⟨h0, _, h1⟩)
    · refine .inr (.inr ⟨b, o, h1, Nat.lt_of_lt_of_le h2 hg.size, h3, fun j hj => hg.cell (h4 j hj) (fun e => ?_)⟩)
      have := hs b e.symm _ _ (h4 j hj)
      cases this
theorem FvIn.offN {w w' : World} {r : Option Nat} {x : Fv} (h : FvIn w x) (hg : w.grownBy w' r) (hs : ∀ g, r = some g → NFb w g) : FvIn w' x := ⟨h.bs.offN hg hs, h.big, h.txt⟩
theorem LIn.offN {w w' : World} {r : Option Nat} {v : Value} {l : List Fl} (h : LIn w v l) (hg : w.grownBy w' r) (hs : ∀ g, r = some g → NFb w g) : LIn w' v l := by
  obtain ⟨ad, c, out, h1, h2, h3⟩ := h
  refine ⟨ad, c, out, h1, ⟨?_, h2.cap, h2.capm, h2.lim, fun x hx => (h2.all x hx).offN hg hs⟩, h3⟩
  rcases h2.at_ with k | ⟨b, o, k1, k2, k3⟩
  · exact .inl k
  · by_cases h0 : out = []
    · exact .inl h0
    · refine .inr ⟨b, o, k1, Nat.lt_of_lt_of_le k2 hg.size, fun j x hj => ?_⟩
      have hbg : some b ≠ r := by
        intro e
        obtain ⟨y, q, rfl⟩ : ∃ y q, out = y :: q := by cases out with | nil => exact absurd rfl h0 | cons y q => exact ⟨y, q, rfl⟩
        have := hs b e.symm _ _ (k3 0 y rfl).1
        cases this
      obtain ⟨q0, q1, q2, q3, q4⟩ := k3 j x hj
      exact ⟨hg.cell q0 hbg, hg.cell q1 hbg, hg.cell q2 hbg, hg.cell q3 hbg, hg.cell q4 hbg⟩
theorem own_ty {w : World} {B e size n g : Nat} {v : Value} {xs : List Value} (h : w.ownsRow B e size v n xs) (hg : v.ownBlock = some g) : ∃ cs, w.heap[g]? = some (.cells cs e (0, 0)) := by
  rcases h.2 with ⟨h1, _⟩ | ⟨g', cap, cur, h1, h2, h3, _⟩
  · subst h1; cases hg
  · subst h1
    cases hg
    exact ⟨_, h3⟩
/-- a row of the call's own, in a block that holds neither texts nor bytes -/
structure TRow (w : World) (B : Nat) (T : TypeId) (k : Nat) (v : Value) (n : Nat) (cs : List Value) : Prop where
  own : w.ownsRow B T k v n cs
  nf : ∀ g, v.ownBlock = some g → NFb w g
theorem TRow.nil (w : World) (B : Nat) (T : TypeId) (k : Nat) : TRow w B T k (.slice none 0 0) 0 [] := ⟨World.ownsRow_nil _ _ _ _, fun g e => by cases e⟩
theorem TRow.kept {w w' : World} {B T k n : Nat} {v : Value} {cs : List Value} {r : Option Nat} (h : TRow w B T k v n cs) (hg : w.grownBy w' r) (hne : v.ownBlock = none ∨ v.ownBlock ≠ r) : TRow w' B T k v n cs := by
  refine ⟨h.own.kept hg hne, fun g e => (h.nf g e).same (hg.block g (h.own.lt g e).2 ?_)⟩
  rcases hne with h1 | h1
  · rw [h1] at e; cases e
  · rw [← e]; exact h1
theorem TRow.below {w w' : World} {B T k n : Nat} {v : Value} {cs : List Value} (h : TRow w B T k v n cs) (hB : Below w.heap.size w w') : TRow w' B T k v n cs :=
  h.kept (below_grown hB) (by cases hv : v.ownBlock with
    | none => exact .inl rfl
    | some k => exact .inr (by simp))
theorem TRow.ne {w : World} {B T k n B' T' k' n' : Nat} {v u : Value} {cs ds : List Value} (h : TRow w B T k v n cs) (h' : TRow w B' T' k' u n' ds) (hT : T ≠ T') : v.ownBlock = none ∨ v.ownBlock ≠ u.ownBlock := by
  cases hv : v.ownBlock with
  | none => exact .inl rfl
  | some g =>
    refine .inr (fun e => ?_)
    obtain ⟨c1, h1⟩ := own_ty h.own hv
    obtain ⟨c2, h2⟩ := own_ty h'.own e.symm
    rw [h1] at h2
    cases h2
    exact hT rfl
theorem TRow.neb {w : World} {B T k n g : Nat} {v : Value} {cs : List Value} {A : Array Value} {T' : TypeId} (h : TRow w B T k v n cs) (hg : w.heap[g]? = some (.cells A T' (0, 0))) (hT : T ≠ T') : v.ownBlock ≠ some g := by
  intro e
  obtain ⟨c1, h1⟩ := own_ty h.own e
  rw [h1] at hg
  cases hg
  exact hT rfl
theorem TRow.lt {w : World} {B T k n : Nat} {v : Value} {cs : List Value} (h : TRow w B T k v n cs) {g : Nat} (e : v.ownBlock = some g) : B ≤ g ∧ g < w.heap.size := h.own.lt g e

theorem nf_zero {z : Array Value} {n : Nat} (h : ∀ u ∈ z.toList, nfv u = true) (hz : 0 < z.size) : ∀ u ∈ (Builtin.zeroCells z n).toList, nfv u = true := by
  intro u hu
  unfold Builtin.zeroCells at hu
  simp at hu
  obtain ⟨i, hi, e⟩ := hu
  have hlt : i % z.size < z.size := Nat.mod_lt _ hz
  rw [← e]
  apply h
  rw [getElem!_pos z (i % z.size) hlt]
  simp

/-- an append to such a row -/
theorem run_append_T (w : World) (base : Nat) (t ty e : TypeId) (i : TypeInfo) (z : Value) (size bytes : Nat) (ht : Tryz.prog.underlying t = some (.slice e)) (hi : Tryz.prog.info? e = some i) (hz : i.zero = some z)
    (hsize : i.size = size) (hby : i.bytes = bytes) (hzs : z.cells.size = size) (hsz : 0 < size) (hzn : ∀ u ∈ z.cells.toList, nfv u = true)
    (v : Value) (n : Nat) (xs : List Value) (hown : TRow w base e size v n xs)
    (ad : Option Addr) (m c : Nat) (news : List Value) (hnil : ad = none → m = 0 ∧ c = 0) (hl : news.length = m * size) (hnews : ∀ a, ad = some a → ∀ j u, news[j]? = some u → w.cell? (a.add j) = some u) (h1 : ∀ u ∈ news, u.oneCell' = true) (hnn : ∀ u ∈ news, nfv u = true)
    (hbytes : (n + m) * bytes ≤ 140737488355328) (hbp : 0 < bytes) (hbase : base ≤ w.heap.size) :
    ∃ v' w', (Builtin.append_ #[t, t] ty #[v, .slice ad m c]).run Tryz.prog w = .ok v' w' ∧ TRow w' base e size v' (n + m) (xs ++ news) ∧ w.grownBy w' v.ownBlock ∧ (v'.ownBlock = v.ownBlock ∨ v'.ownBlock = some w.heap.size) := by
  have hle : n + m ≤ 140737488355328 := Nat.le_trans (Nat.le_mul_of_pos_right _ hbp) hbytes
  cases ad with
  | none =>
    obtain ⟨rfl, rfl⟩ := hnil rfl
    have hn0 : news = [] := List.eq_nil_of_length_eq_zero (by simpa using hl)
    subst hn0
    refine ⟨v, w, ?_, by simpa using hown, ⟨rfl, rfl, rfl, Nat.le_refl _, fun _ _ _ => rfl⟩, .inl rfl⟩
    exact run_append_owned_none (P := Tryz.prog) (w := w) base t ty e i size ht hi v n xs hown.own
  | some a =>
    obtain ⟨v', w', hr, h2, h3, _, h5⟩ := run_append_own_at (P := Tryz.prog) w base t ty e i z size bytes ht hi hz hsize hby hzs hsz v n xs hown.own a m c news hl (hnews a rfl) h1 (by unfold maxLen; omega) hbytes hbase
    refine ⟨v', w', hr, ⟨h2, ?_⟩, h3, h5⟩
    intro g hg
    subst hsize hby
    have hgrow : ∀ (old : Nat) (ys : List Value), (∀ u ∈ ys, nfv u = true) → NFb (w.drew.alloc (.cells (ys.toArray ++ news.toArray ++ Builtin.zeroCells z.cells old) e)) w.heap.size := by
      intro old ys hys
      refine NFb.row (heap_alloc_new w.drew _) ?_
      intro u hu
      simp only [Array.toList_append, List.mem_append] at hu
      rcases hu with (hu | hu) | hu
      · exact hys u hu
      · exact hnn u hu
      · exact nf_zero hzn (by omega) u hu
    rcases hown.own.2 with ⟨rfl, rfl⟩ | ⟨g0, cap, cur, rfl, hbg, hg0, hnc, hcm, hcs, htake⟩
    · by_cases hm : m = 0
      · subst hm
        have hn : news = [] := List.eq_nil_of_length_eq_zero (by simpa using hl)
        subst hn
        have e1 : (Builtin.append_ #[t, t] ty #[.slice none 0 0, .slice (some a) 0 c]).run Tryz.prog w = .ok (.slice none 0 0) w := by
          simp [Builtin.append_, run_underlying ht, sizeOf, typeInfo, hi, Builtin.lenOf, Builtin.firstCells, loadCells, loadCellsFrom]
        rw [e1] at hr
        cases hr
        cases hg
      · have e1 := run_append_nil (P := Tryz.prog) w t ty e i z ht hi hz a m c news hl (hnews a rfl) (by omega) (by omega) (by have hb := hbytes; simp only [Nat.zero_add] at hb; omega)
        rw [e1] at hr
        cases hr
        cases hg
        have := hgrow (grownCap w m 0 e - m) [] (fun u hu => by cases hu)
        simpa using this
    · have hold : ∀ u ∈ cur.toList, nfv u = true := by
        intro u hu
        obtain ⟨j, hj⟩ := List.getElem?_of_mem hu
        refine hown.nf g0 rfl j u ?_
        rw [heap_row hg0]
        simpa using hj
      by_cases hroom : n + m ≤ cap
      · have hfit : n * i.size + news.length ≤ cur.size := by rw [hl, hcs, ← Nat.add_mul]; exact Nat.mul_le_mul_right _ hroom
        have e1 := run_append_room (P := Tryz.prog) w t ty e i ht hi g0 n cap cur hg0 a m c news hl (hnews a rfl) h1 hroom hfit
        rw [e1] at hr
        cases hr
        cases hg
        refine NFb.row (setRow_heap w g0 cur _ e _ hg0) ?_
        intro u hu
        simp only [List.mem_append] at hu
        rcases hu with (hu | hu) | hu
        · exact hold u (List.mem_of_mem_take hu)
        · exact hnn u hu
        · exact hold u (List.mem_of_mem_drop hu)
      · have holds : ∀ j u, xs[j]? = some u → w.cell? ((⟨g0, 0, none⟩ : Addr).add j) = some u := hown.own.cells (g := g0) rfl
        have e1 := run_append_grow (P := Tryz.prog) w t ty e i z ht hi hz ⟨g0, 0, none⟩ n cap xs hown.own.1 holds a m c news hl (hnews a rfl) (by omega) (by omega) (growslice_fits (by omega) hbytes)
        rw [e1] at hr
        cases hr
        cases hg
        exact hgrow _ xs (fun u hu => hold u (by rw [← htake] at hu; exact List.mem_of_mem_take hu))
end Go.Proofs.YtmgmganbamjnmaaGreatDoor
