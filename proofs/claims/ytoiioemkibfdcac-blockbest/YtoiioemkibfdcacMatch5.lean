/-
  Tokens in memory; bytesOf, checkToken, newPast, token.
-/
import Derived.Test.YtoiioemkibfdcacJLong
import Derived.Laws.ResultCell
namespace Go.Proofs.Ytoiioemkibfdcac
open Go.RowKit
set_option linter.unusedVariables false
set_option maxRecDepth 100000

def tcs (t : Tk) : List Value := [.int .u8 (t.1 : Int), .int .i64 t.2.1, .int .i64 t.2.2]
def tvs (l : List Tk) : List Value := l.flatMap tcs
def Toks (w : World) (b o : Nat) (l : List Tk) : Prop := ∀ j, j < l.length → w.cell? ⟨b, o + j * 3, none⟩ = some (.int .u8 ((l.getD j (0, 0, 0)).1 : Int)) ∧ w.cell? ⟨b, o + j * 3 + 1, none⟩ = some (.int .i64 (l.getD j (0, 0, 0)).2.1) ∧ w.cell? ⟨b, o + j * 3 + 2, none⟩ = some (.int .i64 (l.getD j (0, 0, 0)).2.2)
def TokIn (w : World) (a : Option Addr) (l : List Tk) : Prop := l = [] ∨ ∃ b o, a = some ⟨b, o, none⟩ ∧ b < w.heap.size ∧ Toks w b o l
theorem tvs_length (l : List Tk) : (tvs l).length = l.length * 3 := by
  induction l with
  | nil => rfl
  | cons t r ih =>
    have : tvs (t :: r) = tcs t ++ tvs r := rfl
    rw [this, List.length_append, ih, List.length_cons]
    show 3 + r.length * 3 = _
    omega
theorem tvs_append (l r : List Tk) : tvs (l ++ r) = tvs l ++ tvs r := by simp [tvs]
theorem tvs_at (l : List Tk) (j : Nat) (hj : j < l.length) : (tvs l)[j * 3]? = some (.int .u8 ((l.getD j (0, 0, 0)).1 : Int)) ∧ (tvs l)[j * 3 + 1]? = some (.int .i64 (l.getD j (0, 0, 0)).2.1) ∧ (tvs l)[j * 3 + 2]? = some (.int .i64 (l.getD j (0, 0, 0)).2.2) := by
  induction l generalizing j with
  | nil => simp at hj
  | cons t r ih =>
    have e : tvs (t :: r) = tcs t ++ tvs r := rfl
    match j with
    | 0 => rw [e]; exact ⟨rfl, rfl, rfl⟩
    | j + 1 =>
      have hj' : j < r.length := by simpa using hj
      obtain ⟨h1, h2, h3⟩ := ih j hj'
      have hl : (tcs t).length = 3 := rfl
      refine ⟨?_, ?_, ?_⟩
      · rw [e, List.getElem?_append_right (by rw [hl]; omega), hl, show (j + 1) * 3 - 3 = j * 3 by omega, h1]; rfl
      · rw [e, List.getElem?_append_right (by rw [hl]; omega), hl, show (j + 1) * 3 + 1 - 3 = j * 3 + 1 by omega, h2]; rfl
      · rw [e, List.getElem?_append_right (by rw [hl]; omega), hl, show (j + 1) * 3 + 2 - 3 = j * 3 + 2 by omega, h3]; rfl
theorem TokIn.own {w : World} {B g n cap : Nat} {l : List Tk} (h : w.ownsRow B 45 3 (.slice (some ⟨g, 0, none⟩) n cap) n (tvs l)) : TokIn w (some ⟨g, 0, none⟩) l := by
  refine .inr ⟨g, 0, rfl, (h.lt g rfl).2, ?_⟩
  intro j hj
  have hn : l.length = n := by have := h.1; rw [tvs_length] at this; omega
  obtain ⟨h1, h2, h3⟩ := tvs_at l j hj
  refine ⟨?_, ?_, ?_⟩
  · rw [Nat.zero_add, h.cellAt _ (by omega)]; simp [List.getD, h1]
  · rw [Nat.zero_add, h.cellAt _ (by omega)]; simp [List.getD, h2]
  · rw [Nat.zero_add, h.cellAt _ (by omega)]; simp [List.getD, h3]
theorem Toks.below {w w' : World} {B b o : Nat} {l : List Tk} (h : Toks w b o l) (hB : Below B w w') (hb : b < B) : Toks w' b o l := by
  intro j hj
  obtain ⟨h1, h2, h3⟩ := h j hj
  exact ⟨(hB.cell (p := ⟨b, _, none⟩) hb).trans h1, (hB.cell (p := ⟨b, _, none⟩) hb).trans h2, (hB.cell (p := ⟨b, _, none⟩) hb).trans h3⟩
theorem Toks.grown {w w' : World} {b o : Nat} {l : List Tk} {r : Option Nat} (h : Toks w b o l) (hg : w.grownBy w' r) (hr : some b ≠ r) : Toks w' b o l := by
  intro j hj
  obtain ⟨h1, h2, h3⟩ := h j hj
  exact ⟨hg.cell h1 hr, hg.cell h2 hr, hg.cell h3 hr⟩
theorem TokIn.below {w w' : World} {B : Nat} {a : Option Addr} {l : List Tk} (h : TokIn w a l) (hB : Below B w w') (hb : w.heap.size ≤ B) : TokIn w' a l := by
  rcases h with h | ⟨b, o, h1, h2, h3⟩
  · exact .inl h
  · exact .inr ⟨b, o, h1, Nat.lt_of_lt_of_le h2 hB.size, h3.below hB (by omega)⟩
theorem TokIn.alloc {w : World} {a : Option Addr} {l : List Tk} (h : TokIn w a l) (x : Obj) : TokIn (w.alloc x) a l :=
  h.below ((Below.refl w.heap.size w).alloc (Nat.le_refl _) x) (Nat.le_refl _)
theorem TokIn.grown {w w' : World} {a : Option Addr} {l : List Tk} (h : TokIn w a l) (hg : w.grownBy w' none) : TokIn w' a l := by
  rcases h with h | ⟨b, o, h1, h2, h3⟩
  · exact .inl h
  · exact .inr ⟨b, o, h1, Nat.lt_of_lt_of_le h2 hg.size, h3.grown hg (by simp)⟩
theorem info_tok : (Try.prog.info? 45).map (fun i => (i.zero, i.size, i.bytes)) = some (some (.agg #[.int .u8 0, .int .i64 0, .int .i64 0]), 3, 24) := by kernel_rfl

theorem bytesOf_any (b : Nat) (s f : Int) (w : World) (m : Nat) (hm : max s 1 = (m : Int)) :
    Calls Try.prog 22 #[.agg #[.int .u8 (b : Int), .int .i64 s, .int .i64 f]] w fun e w' => e = .returned (.int .i64 (m : Int)) ∧ w.grownBy w' none := by
  have hm' : (if 1 < s then s else 1) = (m : Int) := by split <;> omega
  have hm2 : (if s < 1 then 1 else s) = (m : Int) := by split <;> omega
  go_enter Try.func22, Try.ntmps22
  go_wp2
  go_ret
  exact ⟨rfl, World.grownBy_alloc w _ none⟩

theorem newPast_any (a : Option Addr) (n cap : Nat) (w : World) :
    Calls Try.prog 20 #[.slice a n cap] w fun e w' => e = .returned (.pointer (some ⟨w.heap.size + 1, 0, none⟩)) ∧ w' = (w.alloc (.map #[] 0)).alloc (.cells #[.slice a n cap, .map (some w.heap.size), .int .i64 0] 70) := by
  have hmm := @run_makeMap Try.prog
  go_enter Try.func20, Try.ntmps20
  go_wp2
  go_ret
  exact ⟨rfl, rfl⟩
theorem tok_at {w w' : World} {a : Option Addr} {l : List Tk} {k : Nat} (h : TokIn w a l) (hg : ∀ b, b < w.heap.size → w'.heap[b]? = w.heap[b]?) (hk : k < l.length) {tb : Nat} {ts tf : Int} (e : l.getD k (0, 0, 0) = (tb, ts, tf)) :
    ∃ b o, a = some ⟨b, o, none⟩ ∧ b < w.heap.size ∧ w'.cell? ⟨b, o + k * 3, none⟩ = some (.int .u8 (tb : Int)) ∧ w'.cell? ⟨b, o + k * 3 + 1, none⟩ = some (.int .i64 ts) ∧ w'.cell? ⟨b, o + k * 3 + 2, none⟩ = some (.int .i64 tf) := by
  rcases h with rfl | ⟨b, o, h1, h2, h3⟩
  · simp at hk
  · obtain ⟨c1, c2, c3⟩ := h3 k hk
    rw [e] at c1 c2 c3
    refine ⟨b, o, h1, h2, ?_, ?_, ?_⟩
    · unfold World.cell? at c1 ⊢; rw [hg b h2]; exact c1
    · unfold World.cell? at c2 ⊢; rw [hg b h2]; exact c2
    · unfold World.cell? at c3 ⊢; rw [hg b h2]; exact c3
end Go.Proofs.Ytoiioemkibfdcac
