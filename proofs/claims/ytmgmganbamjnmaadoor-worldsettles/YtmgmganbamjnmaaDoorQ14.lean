/-
  A slice of these files; Check of it.
-/
import Derived.Test.YtmgmganbamjnmaaDoorQ13
import Derived.Test.YtmgmganbamjnmaaDoorQ10
namespace Go.Proofs.YtmgmganbamjnmaaDoor
open Go.RowKit
set_option linter.unusedVariables false
set_option maxRecDepth 100000
theorem FsIn.new (w : World) (xs : List Fv) (t : TypeId) (A : Array Value) (n : Nat) (hA : A = (fcells xs).toArray) (hn : xs.length = n) (h : ∀ x ∈ xs, FvIn w x) (hl : xs.length ≤ 2199023255552) : FsIn (w.alloc (.cells A t)) (some ⟨w.heap.size, 0, none⟩) n xs := by
  subst hn
  refine ⟨.inr ⟨w.heap.size, 0, rfl, by simp, ?_⟩, Nat.le_refl _, by omega, hl, fun x hx => (h x hx).alloc _⟩
  intro j x hj
  have hc : ∀ i u, i < 5 → x.cells[i]? = some u → (w.alloc (.cells A t)).cell? ⟨w.heap.size, 0 + j * 5 + i, none⟩ = some u := by
    intro i u hi hu
    rw [World.cell?_alloc_at _ _ _ _ rfl, hA]
    have e := fcells_at xs j x i hj hi
    rw [Nat.zero_add]
    simpa using e.trans hu
  exact ⟨hc 0 _ (by decide) rfl, hc 1 _ (by decide) rfl, hc 2 _ (by decide) rfl, hc 3 _ (by decide) rfl, hc 4 _ (by decide) rfl⟩
/-- a file without bytes -/
theorem FvIn.bare (w : World) (f : Fl) (hb : f.bytes = []) (hn : f.name.length ≤ 140737488355328) : FvIn w ⟨f, none, 0⟩ := ⟨.inl ⟨rfl, hb, rfl⟩, by rw [hb]; simp, hn⟩

theorem ans_two {w w' : World} {v : Value} {f g : Fl} (h : Ans w w' v [f, g]) : ∃ b o c x y, v = .slice (some ⟨b, o, none⟩) 2 c ∧ FsIn w' (some ⟨b, o, none⟩) c [x, y] ∧ x.f = f ∧ y.f = g := by
  obtain ⟨ad, c, out, h1, h2, h3⟩ := h.ex
  match out, h3 with
  | [x, y], h3 =>
    simp [fls] at h3
    rcases h2.at_ with k | ⟨b, o, rfl, _⟩
    · cases k
    · exact ⟨b, o, c, x, y, h1, h2, h3.1, h3.2⟩
theorem ans_one {w w' : World} {v : Value} {f : Fl} (h : Ans w w' v [f]) : ∃ b o c x, v = .slice (some ⟨b, o, none⟩) 1 c ∧ FsIn w' (some ⟨b, o, none⟩) c [x] ∧ x.f = f := by
  obtain ⟨ad, c, out, h1, h2, h3⟩ := h.ex
  match out, h3 with
  | [x], h3 =>
    simp [fls] at h3
    rcases h2.at_ with k | ⟨b, o, rfl, _⟩
    · cases k
    · exact ⟨b, o, c, x, h1, h2, h3⟩

/-- v is a slice of these files -/
def LIn (w : World) (v : Value) (l : List Fl) : Prop := ∃ ad c out, v = .slice ad l.length c ∧ FsIn w ad c out ∧ fls out = l
theorem Ans.lin {w w' : World} {v : Value} {l : List Fl} (h : Ans w w' v l) : LIn w' v l := h.ex
theorem LIn.below {w w' : World} {v : Value} {l : List Fl} (h : LIn w v l) (hB : Below w.heap.size w w') : LIn w' v l := by
  obtain ⟨ad, c, out, h1, h2, h3⟩ := h
  exact ⟨ad, c, out, h1, h2.below hB (Nat.le_refl _), h3⟩
theorem LIn.shape {w : World} {v : Value} {l : List Fl} (h : LIn w v l) : ∃ ad c, v = .slice ad l.length c := by
  obtain ⟨ad, c, out, h1, _⟩ := h
  exact ⟨ad, c, h1⟩
theorem fls_len {out : List Fv} {l : List Fl} (h : fls out = l) : out.length = l.length := by rw [← h]; simp [fls]
theorem lin_of {w : World} {ad : Option Addr} {c n : Nat} {xs : List Fv} (h : FsIn w ad c xs) (hn : xs.length = n) : LIn w (.slice ad n c) (fls xs) := ⟨ad, c, xs, by rw [← hn]; simp [fls], h, rfl⟩
theorem check_l {w : World} {v : Value} {a : List Fl} (h : LIn w v a) :
    Calls Tryd.prog 35 #[v] w fun e w' => e = .returned (.int .i64 (errM a : Nat)) ∧ Below w.heap.size w w' := by
  obtain ⟨ad, c, out, rfl, h2, h3⟩ := h
  refine (check_files ad c out w h2 _ (fls_len h3)).mono ?_
  rintro e w' ⟨rfl, ha⟩
  rw [h3]
  exact ⟨rfl, ha⟩
end Go.Proofs.YtmgmganbamjnmaaDoor
