/-
  No cell of these rows narrows 'for every input' (looked for: loops, veiled, ifaces, maps, wideKeys, modest, calm, conditions, laid).
  DERIVED. THE GIVEN ROWS OF THIS SEAT. 5 by the template 'for every input the law returns true; each argument reads behind the call as it read before'; 0 by the template 'total and deterministic' (their statements: YtfoaaamcpknjnahTotals.lean).
  GIVEN WITH THE SEED: the statements are not yours to turn. If you find one false, say at which input.
  Laid BY PROGRAM, IN A SANDBOX (cutbox-rows.mjs): the forced cells as the released guide's own fill.sh prints them over the translation 2408f60f85fe3fcd… (all of the seat's roots in one cut). By AI agents, Wed Nov 11 2026. No macro, syntax, notation, axiom, sorry.
-/
import Derived.Test.YtfoaaamcpknjnahChecked
import GoSem.Claim
import GoSem.ClaimJoined
import GoSem.ClaimMapViews
import Derived.JoinedTies
import Derived.KernelRfl
namespace Go.Proofs.Ytfoaaamcpknjnah
/- THE CELL 'sum', in the pinned program and in every row, IS THE sha256 OF THE DUMP (.gsa) THAT YtfoaaamcpknjnahProg.lean LOADS. Nothing in Lean hashes anything: it is a label: what it is worth is what the hold of that sum in a sandbox is worth. -/
noncomputable def Try.pinned : Pinned := { name := "ytfoaaamcpknjnah", sum := "2408f60f85fe3fcda703ffbbd12d515a58ad9378cd0e4c318ab836663e2d497a", checked := Try.checked }
namespace Rows
def none {H : Type} : Left H := { results := [], args := [] }

/-- 'reliquarylaw.CodeAlways': WHATEVER THE INPUT: true; the input reads as it did. -/
def codeAlwaysSpec : ChangeSpec := { name := "codeAlways", fn := fun _ => fun
  | [d1, d2, d3] => { results := [.lit (.bool true)], args := [d1, d2, d3] }
  | _ => none }
def codeAlwaysRow : OpenClaim := { program := "ytfoaaamcpknjnah", sum := "2408f60f85fe3fcda703ffbbd12d515a58ad9378cd0e4c318ab836663e2d497a", func := "reliquary/reliquarylaw.CodeAlways", spec := "codeAlways", plainKeys := false, apart := false }
def CodeAlwaysSaid : Prop := codeAlwaysRow.holds Try.pinned (OpenSpec.ofChange codeAlwaysSpec)

/-- ITS FALSE NEIGHBOUR: 'it returns false'. Refute it at one input. -/
def codeAlwaysWrong : ChangeSpec := { name := "codeAlways", fn := fun _ => fun
  | [d1, d2, d3] => { results := [.lit (.bool false)], args := [d1, d2, d3] }
  | _ => none }
def CodeAlwaysWrongFalsely : Prop := codeAlwaysRow.holds Try.pinned (OpenSpec.ofChange codeAlwaysWrong)

/-- 'reliquarylaw.WeighTurned': WHATEVER THE INPUT: true; the input reads as it did. -/
def weighTurnedSpec : ChangeSpec := { name := "weighTurned", fn := fun _ => fun
  | [d1, d2, d3] => { results := [.lit (.bool true)], args := [d1, d2, d3] }
  | _ => none }
def weighTurnedRow : OpenClaim := { program := "ytfoaaamcpknjnah", sum := "2408f60f85fe3fcda703ffbbd12d515a58ad9378cd0e4c318ab836663e2d497a", func := "reliquary/reliquarylaw.WeighTurned", spec := "weighTurned", unfollowed := true, recurses := true, plainKeys := false, apart := false }
def WeighTurnedSaid : Prop := weighTurnedRow.holds Try.pinned (OpenSpec.ofChange weighTurnedSpec)

/-- ITS FALSE NEIGHBOUR: 'it returns false'. Refute it at one input. -/
def weighTurnedWrong : ChangeSpec := { name := "weighTurned", fn := fun _ => fun
  | [d1, d2, d3] => { results := [.lit (.bool false)], args := [d1, d2, d3] }
  | _ => none }
def WeighTurnedWrongFalsely : Prop := weighTurnedRow.holds Try.pinned (OpenSpec.ofChange weighTurnedWrong)

/-- 'reliquarylaw.MatchNear': WHATEVER THE INPUT: true; the input reads as it did. -/
def matchNearSpec : ChangeSpec := { name := "matchNear", fn := fun _ => fun
  | [d] => { results := [.lit (.bool true)], args := [d] }
  | _ => none }
def matchNearRow : OpenClaim := { program := "ytfoaaamcpknjnah", sum := "2408f60f85fe3fcda703ffbbd12d515a58ad9378cd0e4c318ab836663e2d497a", func := "reliquary/reliquarylaw.MatchNear", spec := "matchNear", plainKeys := false, apart := false }
def MatchNearSaid : Prop := matchNearRow.holds Try.pinned (OpenSpec.ofChange matchNearSpec)

/-- ITS FALSE NEIGHBOUR: 'it returns false'. Refute it at one input. -/
def matchNearWrong : ChangeSpec := { name := "matchNear", fn := fun _ => fun
  | [d] => { results := [.lit (.bool false)], args := [d] }
  | _ => none }
def MatchNearWrongFalsely : Prop := matchNearRow.holds Try.pinned (OpenSpec.ofChange matchNearWrong)

/-- 'reliquarylaw.InflateStored': WHATEVER THE INPUT: true; the input reads as it did. -/
def inflateStoredSpec : ChangeSpec := { name := "inflateStored", fn := fun _ => fun
  | [d] => { results := [.lit (.bool true)], args := [d] }
  | _ => none }
def inflateStoredRow : OpenClaim := { program := "ytfoaaamcpknjnah", sum := "2408f60f85fe3fcda703ffbbd12d515a58ad9378cd0e4c318ab836663e2d497a", func := "reliquary/reliquarylaw.InflateStored", spec := "inflateStored", unfollowed := true, recurses := true, plainKeys := false, apart := false }
def InflateStoredSaid : Prop := inflateStoredRow.holds Try.pinned (OpenSpec.ofChange inflateStoredSpec)

/-- ITS FALSE NEIGHBOUR: 'it returns false'. Refute it at one input. -/
def inflateStoredWrong : ChangeSpec := { name := "inflateStored", fn := fun _ => fun
  | [d] => { results := [.lit (.bool false)], args := [d] }
  | _ => none }
def InflateStoredWrongFalsely : Prop := inflateStoredRow.holds Try.pinned (OpenSpec.ofChange inflateStoredWrong)

/-- 'reliquarylaw.SumXor': WHATEVER THE INPUT: true; the input reads as it did. -/
def sumXorSpec : ChangeSpec := { name := "sumXor", fn := fun _ => fun
  | [d1, d2, d3] => { results := [.lit (.bool true)], args := [d1, d2, d3] }
  | _ => none }
def sumXorRow : OpenClaim := { program := "ytfoaaamcpknjnah", sum := "2408f60f85fe3fcda703ffbbd12d515a58ad9378cd0e4c318ab836663e2d497a", func := "reliquary/reliquarylaw.SumXor", spec := "sumXor", plainKeys := false, apart := false }
def SumXorSaid : Prop := sumXorRow.holds Try.pinned (OpenSpec.ofChange sumXorSpec)

/-- ITS FALSE NEIGHBOUR: 'it returns false'. Refute it at one input. -/
def sumXorWrong : ChangeSpec := { name := "sumXor", fn := fun _ => fun
  | [d1, d2, d3] => { results := [.lit (.bool false)], args := [d1, d2, d3] }
  | _ => none }
def SumXorWrongFalsely : Prop := sumXorRow.holds Try.pinned (OpenSpec.ofChange sumXorWrong)

/- THE SECOND FORM. 'bulk': how many values and letters a reading holds, each counted each time it is reached (what is shared counts as often as it is met; a slice's spare places count too). A statement '..UptoSaid' is the law's where the arguments, and the package variables that the reading takes, are together of bulk at most 1048576: NARROWER than '..Said'. Prove '..Said' where nothing that the law and all that it calls make is longer than what came in: it says more and counts as full. Else prove '..UptoSaid'. A law counts once. -/
mutual
def uptoBulk {H : Type} : DataW H → Nat
  | .lit (.string bytes) => bytes.length + 1
  | .lit _ => 1
  | .nil => 1
  | .ptr d => uptoBulk d + 1
  | .slice elems spare => uptoBulkAll elems + uptoBulkAll spare + 1
  | .agg parts => uptoBulkAll parts + 1
  | .iface _ d => uptoBulk d + 1
  | .map entries => uptoBulkEntries entries + 1
  | .held _ => 1
def uptoBulkAll {H : Type} : List (DataW H) → Nat
  | [] => 0
  | d :: r => uptoBulk d + uptoBulkAll r
def uptoBulkEntries {H : Type} : List (Lit × DataW H) → Nat
  | [] => 0
  | x :: r => uptoBulkEntry x + uptoBulkEntries r
def uptoBulkEntry {H : Type} : Lit × DataW H → Nat
  | (.string bytes, d) => bytes.length + uptoBulk d + 1
  | (_, d) => uptoBulk d + 1
 end
def uptoSmall : (H : Type) → List (DataW H) → Bool := fun _ ds => decide (uptoBulkAll ds ≤ 1048576)
def OpenSpec.upto (s : _root_.Go.ChangeSpec) : _root_.Go.OpenSpec := { _root_.Go.OpenSpec.ofChange s with cond := some uptoSmall }

/-- 'reliquarylaw.CodeAlways', WHERE WHAT IT READS IS OF BULK AT MOST 1048576: true; the input reads as it did. -/
def codeAlwaysUptoRow : OpenClaim := { program := "ytfoaaamcpknjnah", sum := "2408f60f85fe3fcda703ffbbd12d515a58ad9378cd0e4c318ab836663e2d497a", func := "reliquary/reliquarylaw.CodeAlways", spec := "codeAlways", plainKeys := false, apart := false, narrowed := true }
def CodeAlwaysUptoSaid : Prop := codeAlwaysUptoRow.holds Try.pinned (OpenSpec.upto codeAlwaysSpec)

/-- 'reliquarylaw.WeighTurned', WHERE WHAT IT READS IS OF BULK AT MOST 1048576: true; the input reads as it did. -/
def weighTurnedUptoRow : OpenClaim := { program := "ytfoaaamcpknjnah", sum := "2408f60f85fe3fcda703ffbbd12d515a58ad9378cd0e4c318ab836663e2d497a", func := "reliquary/reliquarylaw.WeighTurned", spec := "weighTurned", unfollowed := true, recurses := true, plainKeys := false, apart := false, narrowed := true }
def WeighTurnedUptoSaid : Prop := weighTurnedUptoRow.holds Try.pinned (OpenSpec.upto weighTurnedSpec)

/-- 'reliquarylaw.MatchNear', WHERE WHAT IT READS IS OF BULK AT MOST 1048576: true; the input reads as it did. -/
def matchNearUptoRow : OpenClaim := { program := "ytfoaaamcpknjnah", sum := "2408f60f85fe3fcda703ffbbd12d515a58ad9378cd0e4c318ab836663e2d497a", func := "reliquary/reliquarylaw.MatchNear", spec := "matchNear", plainKeys := false, apart := false, narrowed := true }
def MatchNearUptoSaid : Prop := matchNearUptoRow.holds Try.pinned (OpenSpec.upto matchNearSpec)

/-- 'reliquarylaw.InflateStored', WHERE WHAT IT READS IS OF BULK AT MOST 1048576: true; the input reads as it did. -/
def inflateStoredUptoRow : OpenClaim := { program := "ytfoaaamcpknjnah", sum := "2408f60f85fe3fcda703ffbbd12d515a58ad9378cd0e4c318ab836663e2d497a", func := "reliquary/reliquarylaw.InflateStored", spec := "inflateStored", unfollowed := true, recurses := true, plainKeys := false, apart := false, narrowed := true }
def InflateStoredUptoSaid : Prop := inflateStoredUptoRow.holds Try.pinned (OpenSpec.upto inflateStoredSpec)

/-- 'reliquarylaw.SumXor', WHERE WHAT IT READS IS OF BULK AT MOST 1048576: true; the input reads as it did. -/
def sumXorUptoRow : OpenClaim := { program := "ytfoaaamcpknjnah", sum := "2408f60f85fe3fcda703ffbbd12d515a58ad9378cd0e4c318ab836663e2d497a", func := "reliquary/reliquarylaw.SumXor", spec := "sumXor", plainKeys := false, apart := false, narrowed := true }
def SumXorUptoSaid : Prop := sumXorUptoRow.holds Try.pinned (OpenSpec.upto sumXorSpec)

end Rows
end Go.Proofs.Ytfoaaamcpknjnah
