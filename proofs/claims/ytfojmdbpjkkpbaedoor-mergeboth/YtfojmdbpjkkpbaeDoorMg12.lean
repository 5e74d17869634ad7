/-
  New rows of files; the law's closed fact.
-/
import Derived.Test.YtfojmdbpjkkpbaeDoorMgQ
namespace Go.Proofs.YtfojmdbpjkkpbaeDoor
open Go.RowKit
set_option linter.unusedVariables false
set_option maxRecDepth 100000

theorem FsIn.new (w : World) (xs : List Fv) (t : TypeId) (A : Array Value) (n : Nat) (hA : A = (fcells xs).toArray) (hn : xs.length = n) (h : ∀ x ∈ xs, FvIn w x) (hl : xs.length ≤ 2199023255552) : FsIn (w.alloc (.cells A t)) (some ⟨w.heap.size, 0, none⟩) n xs := by
  subst hn
  refine ⟨.inr ⟨w.heap.size, 0, rfl, by simp, ?_⟩, Nat.le_refl _, by omega, hl, fun x hx => (h x hx).alloc _⟩
  intro j x hj
  have hc : ∀ i u, i < 5 → x.cells[i]? = some u → (w.alloc (.cells A t)).cell? ⟨w.heap.size, 0 + j * 5 + i, none⟩ = some u := by
    intro i u hi hu
    rw [World.cell?_alloc_at _ _ _ _ rfl, hA]
    have e := fcells_at xs j x i hj hi
    rw [Nat.zero_add]
    simpa using e.trans hu
  exact ⟨hc 0 _ (by decide) rfl, hc 1 _ (by decide) rfl, hc 2 _ (by decide) rfl, hc 3 _ (by decide) rfl, hc 4 _ (by decide) rfl⟩
/-- a file without bytes -/
theorem FvIn.bare (w : World) (f : Fl) (hb : f.bytes = []) (hn : f.name.length ≤ 140737488355328) : FvIn w ⟨f, none, 0⟩ := ⟨.inl ⟨rfl, hb, rfl⟩, by rw [hb]; simp, hn⟩

def mgA : List Fv := [⟨⟨[97], [], 1, 0, false⟩, none, 0⟩, ⟨⟨[98], [], 2, 1, false⟩, none, 0⟩]
def mgB : List Fv := [⟨⟨[98], [], 2, 2, true⟩, none, 0⟩]
theorem mg_tog : tog (fls mgA) (fls mgB) = [⟨[97], [], 1, 0, false⟩, ⟨[98], [], 2, 2, true⟩] := by
  show tog [⟨[97], [], 1, 0, false⟩, ⟨[98], [], 2, 1, false⟩] [⟨[98], [], 2, 2, true⟩] = _
  rw [tog_lt (by decide), tog_eq (by decide), tog_nil]
  decide
theorem mg_both : bothE (fls mgA) (fls mgB) = 0 ∧ bothL (fls mgA) (fls mgB) = [⟨[97], [], 1, 0, false⟩, ⟨[98], [], 2, 2, true⟩] := by
  have e : bothE (fls mgA) (fls mgB) = 0 := bothE_ok (by decide) (by rw [mg_tog]; decide)
  exact ⟨e, by rw [bothL_ok e, mg_tog]⟩

theorem ans_two {w w' : World} {v : Value} {f g : Fl} (h : Ans w w' v [f, g]) : ∃ b o c x y, v = .slice (some ⟨b, o, none⟩) 2 c ∧ FsIn w' (some ⟨b, o, none⟩) c [x, y] ∧ x.f = f ∧ y.f = g := by
  obtain ⟨ad, c, out, h1, h2, h3⟩ := h.ex
  match out, h3 with
  | [x, y], h3 =>
    simp [fls] at h3
    rcases h2.at_ with k | ⟨b, o, rfl, _⟩
    · cases k
    · exact ⟨b, o, c, x, y, h1, h2, h3.1, h3.2⟩
theorem ans_one {w w' : World} {v : Value} {f : Fl} (h : Ans w w' v [f]) : ∃ b o c x, v = .slice (some ⟨b, o, none⟩) 1 c ∧ FsIn w' (some ⟨b, o, none⟩) c [x] ∧ x.f = f := by
  obtain ⟨ad, c, out, h1, h2, h3⟩ := h.ex
  match out, h3 with
  | [x], h3 =>
    simp [fls] at h3
    rcases h2.at_ with k | ⟨b, o, rfl, _⟩
    · cases k
    · exact ⟨b, o, c, x, h1, h2, h3⟩

set_option maxHeartbeats 2000000 in
theorem merged_any (w : World) : Calls Tryd.prog 22 #[] w fun e w' => e = .returned (.bool true) ∧ Below w.heap.size w w' := by
  have hA : ∀ x ∈ mgA, FvIn w x := by
    intro x hx
    simp only [mgA, List.mem_cons, List.not_mem_nil, or_false] at hx
    rcases hx with rfl | rfl
    · exact FvIn.bare w _ rfl (by decide)
    · exact FvIn.bare w _ rfl (by decide)
  have hB : ∀ (W : World), ∀ x ∈ mgB, FvIn W x := by
    intro W x hx
    simp only [mgB, List.mem_cons, List.not_mem_nil, or_false] at hx
    subst hx
    exact FvIn.bare W _ rfl (by decide)
  have h1 := FsIn.new w mgA 40 #[.string ⟨#[97]⟩, .slice none 0 0, .int .i64 1, .int .i64 0, .bool false, .string ⟨#[98]⟩, .slice none 0 0, .int .i64 2, .int .i64 1, .bool false] 2 rfl rfl hA (by decide)
  have h2 := FsIn.new (w.alloc (.cells #[.string ⟨#[97]⟩, .slice none 0 0, .int .i64 1, .int .i64 0, .bool false, .string ⟨#[98]⟩, .slice none 0 0, .int .i64 2, .int .i64 1, .bool false] 40)) mgB 40 #[.string ⟨#[98]⟩, .slice none 0 0, .int .i64 2, .int .i64 2, .bool true] 1 rfl rfl (hB _) (by decide)
  have h1' := h1.alloc (.cells #[.string ⟨#[98]⟩, .slice none 0 0, .int .i64 2, .int .i64 2, .bool true] 40)
  have HBo := hide (both_any _ _ _ _ mgA mgB _ h1' h2 2 1 rfl rfl)
  rw [mg_both.1, mg_both.2] at HBo
  have HB0 := hide (bel_al (bel_al (Below.refl w.heap.size w) (.cells #[.string ⟨#[97]⟩, .slice none 0 0, .int .i64 1, .int .i64 0, .bool false, .string ⟨#[98]⟩, .slice none 0 0, .int .i64 2, .int .i64 1, .bool false] 40)) (.cells #[.string ⟨#[98]⟩, .slice none 0 0, .int .i64 2, .int .i64 2, .bool true] 40))
  simp only [World.size_alloc] at HBo
  clear h1 h1' h2 hA hB
  go_enter Tryd.func22, Tryd.ntmps22
  go_wp2_with fail
  refine (unhide HBo).mono ?_
  rintro e w1 ⟨v, rfl, ha⟩
  obtain ⟨b, o, c, x, y, rfl, hf, hxf, hyf⟩ := ans_two ha
  have HB1 := hide ((unhide HB0).trans (ha.bel.mono (unhide HB0).size))
  have HS := hide (shown_any _ _ _ w1 hf 2 rfl)
  have hfl : fls [x, y] = [⟨[97], [], 1, 0, false⟩, ⟨[98], [], 2, 2, true⟩] := by simp [fls, hxf, hyf]
  have he : errM [(⟨[97], [], 1, 0, false⟩ : Fl), ⟨[98], [], 2, 2, true⟩] = 0 := by decide
  have hs : shownL [(⟨[97], [], 1, 0, false⟩ : Fl), ⟨[98], [], 2, 2, true⟩] = [⟨[97], [], 1, 0, false⟩] := by unfold shownL; rw [if_pos he]; rfl
  rw [hfl, he, hs] at HS
  have HF := hide hf
  have HYF := hide hyf
  clear ha hf hfl he hs hxf hyf
  go_wp2_with fail
  refine (unhide HS).mono ?_
  rintro e w2 ⟨v, rfl, ha⟩
  obtain ⟨b', o', c', z, rfl, hz, hzf⟩ := ans_one ha
  obtain ⟨p, q, hpq, _, _, _, _, _, k4⟩ := (unhide HF).get (k := 1) (x := y) ha.bel rfl
  cases hpq
  obtain ⟨p', q', hpq', _, d0, _⟩ := hz.get (k := 0) (x := z) (Below.refl _ _) rfl
  cases hpq'
  rw [unhide HYF] at k4
  rw [hzf] at d0
  have HB2 := hide ((unhide HB1).trans (ha.bel.mono (unhide HB1).size))
  simp only [Nat.zero_mul, Nat.add_zero, Nat.one_mul] at k4 d0
  have hs97 : ((B [97]).toList == [97]) = true := by rw [toList_B]; rfl
  clear ha hz hzf HF HYF
  go_wp2
  go_ret
  exact ⟨rfl, unhide HB2⟩

/-- v is a slice of these files -/
def LIn (w : World) (v : Value) (l : List Fl) : Prop := ∃ ad c out, v = .slice ad l.length c ∧ FsIn w ad c out ∧ fls out = l
theorem Ans.lin {w w' : World} {v : Value} {l : List Fl} (h : Ans w w' v l) : LIn w' v l := h.ex
theorem LIn.below {w w' : World} {v : Value} {l : List Fl} (h : LIn w v l) (hB : Below w.heap.size w w') : LIn w' v l := by
  obtain ⟨ad, c, out, h1, h2, h3⟩ := h
  exact ⟨ad, c, out, h1, h2.below hB (Nat.le_refl _), h3⟩
theorem LIn.shape {w : World} {v : Value} {l : List Fl} (h : LIn w v l) : ∃ ad c, v = .slice ad l.length c := by
  obtain ⟨ad, c, out, h1, _⟩ := h
  exact ⟨ad, c, h1⟩
theorem fls_len {out : List Fv} {l : List Fl} (h : fls out = l) : out.length = l.length := by rw [← h]; simp [fls]
theorem lin_of {w : World} {ad : Option Addr} {c n : Nat} {xs : List Fv} (h : FsIn w ad c xs) (hn : xs.length = n) : LIn w (.slice ad n c) (fls xs) := ⟨ad, c, xs, by rw [← hn]; simp [fls], h, rfl⟩
theorem both_l {w : World} {v u : Value} {a b : List Fl} (h : LIn w v a) (k : LIn w u b) :
    Calls Tryd.prog 20 #[v, u] w fun e w' => ∃ x, e = .returned (.tuple #[x, .int .i64 (bothE a b : Nat)]) ∧ LIn w' x (bothL a b) ∧ Below w.heap.size w w' := by
  obtain ⟨ad, c, out, rfl, h2, h3⟩ := h
  obtain ⟨bd, d, out', rfl, k2, k3⟩ := k
  refine (both_any ad bd c d out out' w h2 k2 _ _ (fls_len h3) (fls_len k3)).mono ?_
  rintro e w' ⟨x, rfl, ha⟩
  rw [h3, k3] at ha ⊢
  exact ⟨x, rfl, ha.lin, ha.bel⟩
theorem less_l {w : World} {v u : Value} {a b : List Fl} (h : LIn w v a) (k : LIn w u b) :
    Calls Tryd.prog 31 #[v, u] w fun e w' => ∃ x, e = .returned (.tuple #[x, .int .i64 (errE a b : Nat)]) ∧ LIn w' x (lessL a b) ∧ Below w.heap.size w w' := by
  obtain ⟨ad, c, out, rfl, h2, h3⟩ := h
  obtain ⟨bd, d, out', rfl, k2, k3⟩ := k
  refine (less_any ad bd c d out out' w h2 k2 _ _ (fls_len h3) (fls_len k3)).mono ?_
  rintro e w' ⟨x, rfl, ha⟩
  rw [h3, k3] at ha ⊢
  exact ⟨x, rfl, ha.lin, ha.bel⟩
theorem shown_l {w : World} {v : Value} {a : List Fl} (h : LIn w v a) :
    Calls Tryd.prog 30 #[v] w fun e w' => ∃ x, e = .returned (.tuple #[x, .int .i64 (errM a : Nat)]) ∧ LIn w' x (shownL a) ∧ Below w.heap.size w w' := by
  obtain ⟨ad, c, out, rfl, h2, h3⟩ := h
  refine (shown_any ad c out w h2 _ (fls_len h3)).mono ?_
  rintro e w' ⟨x, rfl, ha⟩
  rw [h3] at ha ⊢
  exact ⟨x, rfl, ha.lin, ha.bel⟩
theorem check_l {w : World} {v : Value} {a : List Fl} (h : LIn w v a) :
    Calls Tryd.prog 23 #[v] w fun e w' => e = .returned (.int .i64 (errM a : Nat)) ∧ Below w.heap.size w w' := by
  obtain ⟨ad, c, out, rfl, h2, h3⟩ := h
  refine (check_files ad c out w h2 _ (fls_len h3)).mono ?_
  rintro e w' ⟨rfl, ha⟩
  rw [h3]
  exact ⟨rfl, ha⟩
end Go.Proofs.YtfojmdbpjkkpbaeDoor
