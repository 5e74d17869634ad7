/-
  How the arguments of a law lie in memory: a slice of pairs, of numbers, of bytes is nil, or empty, or leads to a row that holds them.
-/
import Derived.Test.YtmafecagcglaoaaUnpack
import Derived.Test.YtmafecagcglaoaaOpenIn
import Derived.Deep.Slices
namespace Go.Proofs.Ytmafecagcglaoaa
open Go.RowKit Go.ChangeShapes Go.WideShapes Go.ChangeAt Go.Deep
set_option linter.unusedVariables false
set_option maxRecDepth 100000

def PairsIn (w : World) (a : Option Addr) (ps : List (Int × Int)) : Prop := ps = [] ∨ ∃ b o, a = some ⟨b, o, none⟩ ∧ b < w.heap.size ∧ Pairs w b o ps

theorem cells34 : Try.prog.cellsOf 34 = 2 := by kernel_rfl
theorem open_pairs {H : Type} {enc : TypeId × Value → H} {w : World} {fuel : Nat} {a0 : Option Addr} {l0 c0 : Nat} {x : DataW H × List MemPlace}
    (h : DataW.trod enc Try.prog w 0 (fun _ => true) true fuel 27 [.slice a0 l0 c0] = some x) : l0 ≤ maxLen ∧ ∃ ps, ps.length = l0 ∧ PairsIn w a0 ps := by
  rcases open_slice Try.underlying27 h with ⟨hcs, _⟩ | ⟨a, len, cap, m, n, D, Pl, hcs, _, hl, hm, hmm, _, hx⟩
  · simp at hcs
    obtain ⟨rfl, rfl, rfl⟩ := hcs
    exact ⟨Nat.zero_le _, [], rfl, .inl rfl⟩
  · simp at hcs
    obtain ⟨rfl, rfl, rfl⟩ := hcs
    simp only [if_true] at hmm
    subst hmm
    refine ⟨Nat.le_trans hl hm, ?_⟩
    have each : ∀ i, i < l0 → ∃ q : Int × Int, w.cell? (a.add (i * 2)) = some (.int .i64 q.1) ∧ w.cell? (a.add (i * 2 + 1)) = some (.int .i64 q.2) := by
      intro i hi
      obtain ⟨cs', h1, h2⟩ := hx i (by omega)
      rw [cells34] at h1
      obtain ⟨_, hlen, hcell⟩ := World.cells?_some h1
      obtain ⟨xs, k, hk, hxy, _, hxl, hf⟩ := DataW.trod_array Try.underlying34 h2
      match cs', hlen with
      | [v0, v1], _ =>
        have g0 := hf 0 (by omega)
        have g1 := hf 1 (by omega)
        simp only [cells3] at g0 g1
        match xs, hxl with
        | [y0, y1], _ =>
          simp at g0 g1
          obtain ⟨n0, e0, _, _⟩ := DataW.trod_int Try.underlying3 g0
          obtain ⟨n1, e1, _, _⟩ := DataW.trod_int Try.underlying3 g1
          simp at e0 e1
          have c0 := hcell 0 (by omega)
          have c1 := hcell 1 (by omega)
          rw [add_add] at c0 c1
          simp only [e0, e1] at c0 c1
          exact ⟨(n0, n1), by simpa using c0, by simpa using c1⟩
    obtain ⟨f, hf⟩ := choose_lt each
    refine ⟨(List.range l0).map f, by simp, ?_⟩
    by_cases h0 : l0 = 0
    · subst h0
      exact .inl rfl
    · obtain ⟨b, o, spot⟩ := a
      have hc := (hf 0 (by omega)).1
      have hspot : spot = none := by simpa [Addr.add] using World.cell?_spot hc
      subst hspot
      refine .inr ⟨b, o, rfl, ?_, ?_⟩
      · have := World.block_lt_of_cell? _ _ hc
        simpa [Addr.add] using this
      · intro j hj
        have hj' : j < l0 := by simpa using hj
        obtain ⟨q1, q2⟩ := hf j hj'
        have e : ((List.range l0).map f).getD j (0, 0) = f j := by simp [List.getD, hj']
        rw [e]
        rw [add_plain] at q1 q2
        exact ⟨q1, by rw [Nat.add_assoc]; exact q2⟩

end Go.Proofs.Ytmafecagcglaoaa
