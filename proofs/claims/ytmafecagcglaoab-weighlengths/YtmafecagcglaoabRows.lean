/-
  No cell of these rows narrows 'for every input' (looked for: loops, veiled, ifaces, maps, wideKeys, modest, calm, conditions, laid).
  DERIVED. THE GIVEN ROWS OF THIS SEAT. 6 by the template 'for every input the law returns true; each argument reads behind the call as it read before'; 0 by the template 'total and deterministic' (their statements: YtmafecagcglaoabTotals.lean).
  GIVEN WITH THE SEED: the statements are not yours to turn. If you find one false, say at which input.
  Laid BY PROGRAM, IN A SANDBOX (cutbox-rows.mjs): the forced cells as the released guide's own fill.sh prints them over the translation 6a40ca5a263e2e5b… (all of the seat's roots in one cut). By AI agents, Wed Nov 11 2026. No macro, syntax, notation, axiom, sorry.
-/
import Derived.Test.YtmafecagcglaoabChecked
import GoSem.Claim
import GoSem.ClaimJoined
import GoSem.ClaimMapViews
import Derived.JoinedTies
import Derived.KernelRfl
namespace Go.Proofs.Ytmafecagcglaoab
/- THE CELL 'sum', in the pinned program and in every row, IS THE sha256 OF THE DUMP (.gsa) THAT YtmafecagcglaoabProg.lean LOADS. Nothing in Lean hashes anything: it is a label: what it is worth is what the hold of that sum in a sandbox is worth. -/
noncomputable def Try.pinned : Pinned := { name := "ytmafecagcglaoab", sum := "6a40ca5a263e2e5b3166c2a02eab5bb5ae65e0d762afe4df63defbcfcc64673d", checked := Try.checked }
namespace Rows
def none {H : Type} : Left H := { results := [], args := [] }

/-- 'reliquarylaw.CodeRead': WHATEVER THE INPUT: true; the input reads as it did. -/
def codeReadSpec : ChangeSpec := { name := "codeRead", fn := fun _ => fun
  | [d1, d2, d3] => { results := [.lit (.bool true)], args := [d1, d2, d3] }
  | _ => none }
def codeReadRow : OpenClaim := { program := "ytmafecagcglaoab", sum := "6a40ca5a263e2e5b3166c2a02eab5bb5ae65e0d762afe4df63defbcfcc64673d", func := "reliquary/reliquarylaw.CodeRead", spec := "codeRead", inPlace := ["internal/reflectlite.ValueOf", "internal/reflectlite.Swapper", "(internal/reflectlite.Value).Len", "internal/abi.NoEscape", "internal/bytealg.MakeNoZero"], unfollowed := true, recurses := true, plainKeys := false, apart := false }
def CodeReadSaid : Prop := codeReadRow.holds Try.pinned (OpenSpec.ofChange codeReadSpec)

/-- ITS FALSE NEIGHBOUR: 'it returns false'. Refute it at one input. -/
def codeReadWrong : ChangeSpec := { name := "codeRead", fn := fun _ => fun
  | [d1, d2, d3] => { results := [.lit (.bool false)], args := [d1, d2, d3] }
  | _ => none }
def CodeReadWrongFalsely : Prop := codeReadRow.holds Try.pinned (OpenSpec.ofChange codeReadWrong)

/-- 'reliquarylaw.CodeBack': WHATEVER THE INPUT: true; the input reads as it did. -/
def codeBackSpec : ChangeSpec := { name := "codeBack", fn := fun _ => fun
  | [d1, d2] => { results := [.lit (.bool true)], args := [d1, d2] }
  | _ => none }
def codeBackRow : OpenClaim := { program := "ytmafecagcglaoab", sum := "6a40ca5a263e2e5b3166c2a02eab5bb5ae65e0d762afe4df63defbcfcc64673d", func := "reliquary/reliquarylaw.CodeBack", spec := "codeBack", plainKeys := false, apart := false }
def CodeBackSaid : Prop := codeBackRow.holds Try.pinned (OpenSpec.ofChange codeBackSpec)

/-- ITS FALSE NEIGHBOUR: 'it returns false'. Refute it at one input. -/
def codeBackWrong : ChangeSpec := { name := "codeBack", fn := fun _ => fun
  | [d1, d2] => { results := [.lit (.bool false)], args := [d1, d2] }
  | _ => none }
def CodeBackWrongFalsely : Prop := codeBackRow.holds Try.pinned (OpenSpec.ofChange codeBackWrong)

/-- 'reliquarylaw.WeighLengths': WHATEVER THE INPUT: true; the input reads as it did. -/
def weighLengthsSpec : ChangeSpec := { name := "weighLengths", fn := fun _ => fun
  | [d1, d2, d3] => { results := [.lit (.bool true)], args := [d1, d2, d3] }
  | _ => none }
def weighLengthsRow : OpenClaim := { program := "ytmafecagcglaoab", sum := "6a40ca5a263e2e5b3166c2a02eab5bb5ae65e0d762afe4df63defbcfcc64673d", func := "reliquary/reliquarylaw.WeighLengths", spec := "weighLengths", unfollowed := true, recurses := true, plainKeys := false, apart := false }
def WeighLengthsSaid : Prop := weighLengthsRow.holds Try.pinned (OpenSpec.ofChange weighLengthsSpec)

/-- ITS FALSE NEIGHBOUR: 'it returns false'. Refute it at one input. -/
def weighLengthsWrong : ChangeSpec := { name := "weighLengths", fn := fun _ => fun
  | [d1, d2, d3] => { results := [.lit (.bool false)], args := [d1, d2, d3] }
  | _ => none }
def WeighLengthsWrongFalsely : Prop := weighLengthsRow.holds Try.pinned (OpenSpec.ofChange weighLengthsWrong)

/-- 'reliquarylaw.WeighLess': WHATEVER THE INPUT: true; the input reads as it did. -/
def weighLessSpec : ChangeSpec := { name := "weighLess", fn := fun _ => fun
  | [d1, d2, d3] => { results := [.lit (.bool true)], args := [d1, d2, d3] }
  | _ => none }
def weighLessRow : OpenClaim := { program := "ytmafecagcglaoab", sum := "6a40ca5a263e2e5b3166c2a02eab5bb5ae65e0d762afe4df63defbcfcc64673d", func := "reliquary/reliquarylaw.WeighLess", spec := "weighLess", unfollowed := true, recurses := true, plainKeys := false, apart := false }
def WeighLessSaid : Prop := weighLessRow.holds Try.pinned (OpenSpec.ofChange weighLessSpec)

/-- ITS FALSE NEIGHBOUR: 'it returns false'. Refute it at one input. -/
def weighLessWrong : ChangeSpec := { name := "weighLess", fn := fun _ => fun
  | [d1, d2, d3] => { results := [.lit (.bool false)], args := [d1, d2, d3] }
  | _ => none }
def WeighLessWrongFalsely : Prop := weighLessRow.holds Try.pinned (OpenSpec.ofChange weighLessWrong)

/-- 'reliquarylaw.MatchExpand': WHATEVER THE INPUT: true; the input reads as it did. -/
def matchExpandSpec : ChangeSpec := { name := "matchExpand", fn := fun _ => fun
  | [d] => { results := [.lit (.bool true)], args := [d] }
  | _ => none }
def matchExpandRow : OpenClaim := { program := "ytmafecagcglaoab", sum := "6a40ca5a263e2e5b3166c2a02eab5bb5ae65e0d762afe4df63defbcfcc64673d", func := "reliquary/reliquarylaw.MatchExpand", spec := "matchExpand", plainKeys := false, apart := false }
def MatchExpandSaid : Prop := matchExpandRow.holds Try.pinned (OpenSpec.ofChange matchExpandSpec)

/-- ITS FALSE NEIGHBOUR: 'it returns false'. Refute it at one input. -/
def matchExpandWrong : ChangeSpec := { name := "matchExpand", fn := fun _ => fun
  | [d] => { results := [.lit (.bool false)], args := [d] }
  | _ => none }
def MatchExpandWrongFalsely : Prop := matchExpandRow.holds Try.pinned (OpenSpec.ofChange matchExpandWrong)

/-- 'reliquarylaw.MatchTokens': WHATEVER THE INPUT: true; the input reads as it did. -/
def matchTokensSpec : ChangeSpec := { name := "matchTokens", fn := fun _ => fun
  | [d1, d2] => { results := [.lit (.bool true)], args := [d1, d2] }
  | _ => none }
def matchTokensRow : OpenClaim := { program := "ytmafecagcglaoab", sum := "6a40ca5a263e2e5b3166c2a02eab5bb5ae65e0d762afe4df63defbcfcc64673d", func := "reliquary/reliquarylaw.MatchTokens", spec := "matchTokens", plainKeys := false, apart := false }
def MatchTokensSaid : Prop := matchTokensRow.holds Try.pinned (OpenSpec.ofChange matchTokensSpec)

/-- ITS FALSE NEIGHBOUR: 'it returns false'. Refute it at one input. -/
def matchTokensWrong : ChangeSpec := { name := "matchTokens", fn := fun _ => fun
  | [d1, d2] => { results := [.lit (.bool false)], args := [d1, d2] }
  | _ => none }
def MatchTokensWrongFalsely : Prop := matchTokensRow.holds Try.pinned (OpenSpec.ofChange matchTokensWrong)

/- THE SECOND FORM. 'bulk': how many values and letters a reading holds, each counted each time it is reached (what is shared counts as often as it is met; a slice's spare places count too). A statement '..UptoSaid' is the law's where the arguments, and the package variables that the reading takes, are together of bulk at most 1048576: NARROWER than '..Said'. Prove '..Said' where nothing that the law and all that it calls make is longer than what came in: it says more and counts as full. Else prove '..UptoSaid'. A law counts once. -/
mutual
def uptoBulk {H : Type} : DataW H → Nat
  | .lit (.string bytes) => bytes.length + 1
  | .lit _ => 1
  | .nil => 1
  | .ptr d => uptoBulk d + 1
  | .slice elems spare => uptoBulkAll elems + uptoBulkAll spare + 1
  | .agg parts => uptoBulkAll parts + 1
  | .iface _ d => uptoBulk d + 1
  | .map entries => uptoBulkEntries entries + 1
  | .held _ => 1
def uptoBulkAll {H : Type} : List (DataW H) → Nat
  | [] => 0
  | d :: r => uptoBulk d + uptoBulkAll r
def uptoBulkEntries {H : Type} : List (Lit × DataW H) → Nat
  | [] => 0
  | x :: r => uptoBulkEntry x + uptoBulkEntries r
def uptoBulkEntry {H : Type} : Lit × DataW H → Nat
  | (.string bytes, d) => bytes.length + uptoBulk d + 1
  | (_, d) => uptoBulk d + 1
 end
def uptoSmall : (H : Type) → List (DataW H) → Bool := fun _ ds => decide (uptoBulkAll ds ≤ 1048576)
def OpenSpec.upto (s : _root_.Go.ChangeSpec) : _root_.Go.OpenSpec := { _root_.Go.OpenSpec.ofChange s with cond := some uptoSmall }

/-- 'reliquarylaw.CodeRead', WHERE WHAT IT READS IS OF BULK AT MOST 1048576: true; the input reads as it did. -/
def codeReadUptoRow : OpenClaim := { program := "ytmafecagcglaoab", sum := "6a40ca5a263e2e5b3166c2a02eab5bb5ae65e0d762afe4df63defbcfcc64673d", func := "reliquary/reliquarylaw.CodeRead", spec := "codeRead", inPlace := ["internal/reflectlite.ValueOf", "internal/reflectlite.Swapper", "(internal/reflectlite.Value).Len", "internal/abi.NoEscape", "internal/bytealg.MakeNoZero"], unfollowed := true, recurses := true, plainKeys := false, apart := false, narrowed := true }
def CodeReadUptoSaid : Prop := codeReadUptoRow.holds Try.pinned (OpenSpec.upto codeReadSpec)

/-- 'reliquarylaw.CodeBack', WHERE WHAT IT READS IS OF BULK AT MOST 1048576: true; the input reads as it did. -/
def codeBackUptoRow : OpenClaim := { program := "ytmafecagcglaoab", sum := "6a40ca5a263e2e5b3166c2a02eab5bb5ae65e0d762afe4df63defbcfcc64673d", func := "reliquary/reliquarylaw.CodeBack", spec := "codeBack", plainKeys := false, apart := false, narrowed := true }
def CodeBackUptoSaid : Prop := codeBackUptoRow.holds Try.pinned (OpenSpec.upto codeBackSpec)

/-- 'reliquarylaw.WeighLengths', WHERE WHAT IT READS IS OF BULK AT MOST 1048576: true; the input reads as it did. -/
def weighLengthsUptoRow : OpenClaim := { program := "ytmafecagcglaoab", sum := "6a40ca5a263e2e5b3166c2a02eab5bb5ae65e0d762afe4df63defbcfcc64673d", func := "reliquary/reliquarylaw.WeighLengths", spec := "weighLengths", unfollowed := true, recurses := true, plainKeys := false, apart := false, narrowed := true }
def WeighLengthsUptoSaid : Prop := weighLengthsUptoRow.holds Try.pinned (OpenSpec.upto weighLengthsSpec)

/-- 'reliquarylaw.WeighLess', WHERE WHAT IT READS IS OF BULK AT MOST 1048576: true; the input reads as it did. -/
def weighLessUptoRow : OpenClaim := { program := "ytmafecagcglaoab", sum := "6a40ca5a263e2e5b3166c2a02eab5bb5ae65e0d762afe4df63defbcfcc64673d", func := "reliquary/reliquarylaw.WeighLess", spec := "weighLess", unfollowed := true, recurses := true, plainKeys := false, apart := false, narrowed := true }
def WeighLessUptoSaid : Prop := weighLessUptoRow.holds Try.pinned (OpenSpec.upto weighLessSpec)

/-- 'reliquarylaw.MatchExpand', WHERE WHAT IT READS IS OF BULK AT MOST 1048576: true; the input reads as it did. -/
def matchExpandUptoRow : OpenClaim := { program := "ytmafecagcglaoab", sum := "6a40ca5a263e2e5b3166c2a02eab5bb5ae65e0d762afe4df63defbcfcc64673d", func := "reliquary/reliquarylaw.MatchExpand", spec := "matchExpand", plainKeys := false, apart := false, narrowed := true }
def MatchExpandUptoSaid : Prop := matchExpandUptoRow.holds Try.pinned (OpenSpec.upto matchExpandSpec)

/-- 'reliquarylaw.MatchTokens', WHERE WHAT IT READS IS OF BULK AT MOST 1048576: true; the input reads as it did. -/
def matchTokensUptoRow : OpenClaim := { program := "ytmafecagcglaoab", sum := "6a40ca5a263e2e5b3166c2a02eab5bb5ae65e0d762afe4df63defbcfcc64673d", func := "reliquary/reliquarylaw.MatchTokens", spec := "matchTokens", plainKeys := false, apart := false, narrowed := true }
def MatchTokensUptoSaid : Prop := matchTokensUptoRow.holds Try.pinned (OpenSpec.upto matchTokensSpec)

end Rows
end Go.Proofs.Ytmafecagcglaoab
