/-
  How a slice of tokens that was handed in lies in memory.
-/
import Derived.Test.YtmafecagcglaoabOpenIn
import Derived.Test.YtmafecagcglaoabMatch5
import Derived.Deep.Slices
import Derived.Deep.Strs
namespace Go.Proofs.Ytmafecagcglaoab
open Go.RowKit Go.ChangeShapes Go.WideShapes Go.ChangeAt Go.Deep
set_option linter.unusedVariables false
set_option maxRecDepth 100000

theorem cellsTok : Try.prog.cellsOf 59 = 3 := by kernel_rfl

theorem open_toks {H : Type} {enc : TypeId × Value → H} {w : World} {fuel : Nat} {a0 : Option Addr} {l0 c0 : Nat} {x : DataW H × List MemPlace}
    (h : DataW.trod enc Try.prog w 0 (fun _ => true) true fuel 46 [.slice a0 l0 c0] = some x) : ∃ l, l.length = l0 ∧ TokIn w a0 l := by
  rcases open_slice Try.underlying46 h with ⟨hcs, _⟩ | ⟨a, len, cap, m, n, D, Pl, hcs, _, hl, hm, hmm, _, hx⟩
  · simp at hcs
    obtain ⟨rfl, rfl, rfl⟩ := hcs
    exact ⟨[], rfl, .inl rfl⟩
  · simp at hcs
    obtain ⟨rfl, rfl, rfl⟩ := hcs
    simp only [if_true] at hmm
    subst hmm
    have each : ∀ i, i < l0 → ∃ q : Tk, w.cell? (a.add (i * 3)) = some (.int .u8 (q.1 : Int)) ∧ w.cell? (a.add (i * 3 + 1)) = some (.int .i64 q.2.1) ∧ w.cell? (a.add (i * 3 + 2)) = some (.int .i64 q.2.2) := by
      intro i hi
      obtain ⟨cs', h1, h2⟩ := hx i (by omega)
      rw [cellsTok] at h1
      obtain ⟨_, hlen, hcell⟩ := World.cells?_some h1
      obtain ⟨y0, y1, y2, k, _, _, g0, g1, g2⟩ := trod_struct3 Try.underlying59 h2
      match cs', hlen with
      | [v0, v1, v2], _ =>
        simp only [cells3, cells5] at g0 g1 g2
        simp at g0 g1 g2
        obtain ⟨n0, e0, _, hw0⟩ := DataW.trod_int Try.underlying5 g0
        obtain ⟨n1, e1, _, _⟩ := DataW.trod_int Try.underlying3 g1
        obtain ⟨n2, e2, _, _⟩ := DataW.trod_int Try.underlying3 g2
        simp at e0 e1 e2
        have q0 := hcell 0 (by omega)
        have q1 := hcell 1 (by omega)
        have q2 := hcell 2 (by omega)
        rw [add_add] at q0 q1 q2
        simp only [e0, e1, e2] at q0 q1 q2
        have hn0 : 0 ≤ n0 := by
          have : (Lit.int .u8 n0).wf = true := hw0
          have := (show 0 ≤ n0 ∧ n0 ≤ 255 by simpa [Lit.wf, IntKind.min, IntKind.max, IntKind.signed, IntKind.bits] using this)
          exact this.1
        refine ⟨(n0.toNat, n1, n2), ?_, by simpa using q1, by simpa using q2⟩
        rw [show ((((n0.toNat, n1, n2) : Tk).1 : Nat) : Int) = n0 from Int.toNat_of_nonneg hn0]
        simpa using q0
    obtain ⟨f, hf⟩ := choose_lt each
    refine ⟨(List.range l0).map f, by simp, ?_⟩
    by_cases h0 : l0 = 0
    · subst h0
      exact .inl rfl
    · obtain ⟨b, o, spot⟩ := a
      have hc := (hf 0 (by omega)).1
      have hspot : spot = none := by simpa [Addr.add] using World.cell?_spot hc
      subst hspot
      refine .inr ⟨b, o, rfl, ?_, ?_⟩
      · have := World.block_lt_of_cell? _ _ hc
        simpa [Addr.add] using this
      · intro j hj
        have hj' : j < l0 := by simpa using hj
        obtain ⟨q1, q2, q3⟩ := hf j hj'
        have e : ((List.range l0).map f).getD j (0, 0, 0) = f j := by simp [List.getD, hj']
        rw [e]
        rw [add_plain] at q1 q2 q3
        exact ⟨q1, by rw [Nat.add_assoc]; exact q2, by rw [Nat.add_assoc]; exact q3⟩
end Go.Proofs.Ytmafecagcglaoab
