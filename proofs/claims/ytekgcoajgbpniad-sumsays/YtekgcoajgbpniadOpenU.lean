/-
  A number of 32 bits as an argument.
-/
import Derived.Test.YtekgcoajgbpniadOpenB
namespace Go.Proofs.Ytekgcoajgbpniad
theorem wf_u32 {n : Int} (h : (Lit.int .u32 n).wf = true) : 0 ≤ n ∧ n < 4294967296 := by
  simp only [Lit.wf, IntKind.min, IntKind.max, IntKind.signed, IntKind.bits, Bool.and_eq_true, decide_eq_true_eq, Bool.false_eq_true, if_false] at h
  omega
end Go.Proofs.Ytekgcoajgbpniad
