/-
  Worlds, of lists alone: the law's closed fact.
-/
import Derived.Test.YtmgmganbamjnmaaDoorQ30
namespace Go.Proofs.YtmgmganbamjnmaaDoor
open Go.RowKit
set_option linter.unusedVariables false
set_option linter.unusedSimpArgs false

def tF : Fl := ⟨[97], [120], 1, 0, false⟩
def tX : List Hp := [⟨1, 0, 0, [97], [120]⟩, ⟨3, 0, 1, [], []⟩, ⟨4, 0, 0, [], []⟩, ⟨4, 0, 0, [], []⟩]
theorem both_tF : bothE [] [tF] = 0 ∧ bothL [] [tF] = [tF] := by
  have e : tog [] [tF] = [tF] := tog_nil _
  have h : bothE [] [tF] = 0 := bothE_ok (by decide) (by rw [e]; decide)
  exact ⟨h, by rw [bothL_ok h, e]⟩
theorem newW_2 : newW 2 = ⟨[[], []], [0, 0], []⟩ := by decide
theorem t1 : doE ⟨[[], []], [0, 0], []⟩ ⟨1, 0, 0, [97], [120]⟩ = 0 ∧ doW ⟨[[], []], [0, 0], []⟩ ⟨1, 0, 0, [97], [120]⟩ = ⟨[[tF], []], [1, 0], []⟩ := by
  have hE : doE ⟨[[], []], [0, 0], []⟩ ⟨1, 0, 0, [97], [120]⟩ = 0 := by
    have h0 : errWd ⟨[[], []], [0, 0], []⟩ = 0 := by decide
    unfold doE
    rw [if_neg (by simp [h0])]
    exact both_tF.1
  refine ⟨hE, ?_⟩
  unfold doW
  rw [if_pos hE]
  show keepW 0 (bothL [] [tF]) ⟨[[], []], [0, 0], []⟩ = _
  rw [both_tF.2]
  decide
theorem t2 : doE ⟨[[tF], []], [1, 0], []⟩ ⟨3, 0, 1, [], []⟩ = 0 ∧ doW ⟨[[tF], []], [1, 0], []⟩ ⟨3, 0, 1, [], []⟩ = ⟨[[tF], []], [1, 0], [⟨1, [tF]⟩]⟩ := by decide
theorem t3 : doE ⟨[[tF], []], [1, 0], [⟨1, [tF]⟩]⟩ ⟨4, 0, 0, [], []⟩ = 0 ∧ doW ⟨[[tF], []], [1, 0], [⟨1, [tF]⟩]⟩ ⟨4, 0, 0, [], []⟩ = ⟨[[tF], [tF]], [1, 1], []⟩ := by
  have hE : doE ⟨[[tF], []], [1, 0], [⟨1, [tF]⟩]⟩ ⟨4, 0, 0, [], []⟩ = 0 := by
    have h0 : errWd ⟨[[tF], []], [1, 0], [⟨1, [tF]⟩]⟩ = 0 := by decide
    unfold doE
    rw [if_neg (by simp [h0])]
    exact both_tF.1
  refine ⟨hE, ?_⟩
  unfold doW
  rw [if_pos hE]
  show dropW 0 (keepW 1 (bothL [] [tF]) ⟨[[tF], []], [1, 0], [⟨1, [tF]⟩]⟩) = _
  rw [both_tF.2]
  decide
theorem t4 : doE ⟨[[tF], [tF]], [1, 1], []⟩ ⟨4, 0, 0, [], []⟩ = 5 := by decide
theorem told_run : runW (newW 2) tX = ⟨[[tF], [tF]], [1, 1], []⟩ ∧ runS (newW 2) tX = [0, 0, 0, 5] := by
  rw [newW_2]
  unfold tX
  simp only [runW, runS, t1.1, t1.2, if_true, t2.1, t2.2, t3.1, t3.2, t4]
  simp
end Go.Proofs.YtmgmganbamjnmaaDoor
