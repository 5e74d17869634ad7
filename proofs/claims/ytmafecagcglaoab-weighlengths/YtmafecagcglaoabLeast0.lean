/-
  Plain facts for the document's own Least; appending nothing.
-/
import Derived.Test.YtmafecagcglaoabSortInts
import Derived.Test.YtmafecagcglaoabWeighTurn
import Derived.Test.YtmafecagcglaoabApp
import Derived.Maps.AppendAt
import Derived.Deep.Upon
namespace Go.Proofs.Ytmafecagcglaoab
open Go.RowKit
set_option linter.unusedVariables false

/-- how often each wanted one is wanted, in the list's own order -/
abbrev pos (l : List Int) : List Int := l.filter fun x => decide (0 < x)
theorem srt_is {l : List Int} {P : List Nat} (h : RiseOf l P) : srt (pos l) = P.map fun p => l.getD p 0 :=
  up_eq ((srt_perm _).trans h.filt.symm) (srt_up _) h.up
theorem row_zero (W : List Int) (hW : Up W) : srt W = (rowAt W 0).map Prod.fst := by
  refine up_eq ((srt_perm _).trans ?_) (srt_up _) (rowAt_up W hW 0)
  have h := mrg_take W [] (mrg W []).length
  rw [rowAt]
  have ha : alone (mrg W []) (mrg W []).length = W.length := by unfold alone; rw [List.take_length, mrg_true]
  rw [ha, List.take_length, mrg_length] at h
  simpa [List.take_of_length_le] using h.symm
theorem row_next (W : List Int) (hW : Up W) (k : Nat) : srt (W ++ prs ((rowAt W k).map Prod.fst)) = (rowAt W (k + 1)).map Prod.fst := by
  refine up_eq ((srt_perm _).trans ?_) (srt_up _) (rowAt_up W hW (k + 1))
  have h := mrg_take W (prs ((rowAt W k).map Prod.fst)) (mrg W (prs ((rowAt W k).map Prod.fst))).length
  rw [rowAt]
  have ha : alone (mrg W (prs ((rowAt W k).map Prod.fst))) (mrg W (prs ((rowAt W k).map Prod.fst))).length = W.length := by unfold alone; rw [List.take_length, mrg_true]
  rw [ha, List.take_length, mrg_length] at h
  have h2 : W.take W.length ++ (prs ((rowAt W k).map Prod.fst)).take (W.length + (prs ((rowAt W k).map Prod.fst)).length - W.length) = W ++ prs ((rowAt W k).map Prod.fst) := by
    rw [List.take_length, Nat.add_sub_cancel_left, List.take_length]
  rw [h2] at h
  exact h.symm
/-- the row that comes of k + 1 rounds -/
def rowF (W : List Int) (k : Nat) : List Int := (rowAt W k).map Prod.fst
theorem rowF_length (W : List Int) (k : Nat) : (rowF W k).length ≤ 2 * W.length := by rw [rowF, List.length_map]; exact rowAt_length W k

theorem wpList_append_nothing {W : World} {ops : Array Oper} {rest : List Oper} {o : Oper} {a : Act} {Q : Exit → Act → World → Prop} (hgd : o.guard = none) (s x : Operand)
    (ho : o.op = .call { callee := .builtin .append, args := #[s, x], argTypes := #[22, 22] }) (b : Option Addr) (n c : Nat) (hs : a.eval s = .slice b n c) (hle : n ≤ c) (hx : a.eval x = .slice none 0 0)
    (h : wpList Try.prog ops Q rest (a.put o.dst (.slice b n c)) W) : wpList Try.prog ops Q (o :: rest) a W := by
  obtain ⟨i0, hi, hz0, hz1, hz2⟩ := info_parts info_int
  refine wpList_plain hgd fun K hK => ?_
  have hr := Go.run_append_nothing (P := Try.prog) W 22 22 o.type 3 i0 Try.underlying22 hi b n c hle (.slice none 0 0) (Src.ofNil W Try.underlying22 0)
  unfold Oper.wp execOp
  simp only [ho, resolve, invoke, builtin, Sem.run_bind, Sem.run_pure, Result.andThen_ok, List.map_toArray, List.map_cons, List.map_nil, hs, hx, hr]
  exact hK _ _ h
end Go.Proofs.Ytmafecagcglaoab
