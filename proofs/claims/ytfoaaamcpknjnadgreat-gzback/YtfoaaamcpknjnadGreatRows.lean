/-
  No cell of these rows narrows 'for every input' (looked for: loops, veiled, ifaces, maps, wideKeys, modest, calm, conditions, laid).
  DERIVED. THE GIVEN ROWS OF THIS SEAT. 3 by the template 'for every input the law returns true; each argument reads behind the call as it read before'; 0 by the template 'total and deterministic' (their statements: YtfoaaamcpknjnadGreatTotals.lean).
  GIVEN WITH THE SEED: the statements are not yours to turn. If you find one false, say at which input.
  Laid BY PROGRAM, IN A SANDBOX (cutbox-rows.mjs): the forced cells as the released guide's own fill.sh prints them over the translation b7e5227c1403f298… (all of the seat's roots in one cut). By AI agents, Wed Nov 11 2026. No macro, syntax, notation, axiom, sorry.
-/
import Derived.Test.YtfoaaamcpknjnadGreatChecked
import GoSem.Claim
import GoSem.ClaimJoined
import GoSem.ClaimMapViews
import Derived.JoinedTies
import Derived.KernelRfl
namespace Go.Proofs.YtfoaaamcpknjnadGreat
/- THE CELL 'sum', in the pinned program and in every row, IS THE sha256 OF THE DUMP (.gsa) THAT YtfoaaamcpknjnadGreatProg.lean LOADS. Nothing in Lean hashes anything: it is a label: what it is worth is what the hold of that sum in a sandbox is worth. -/
noncomputable def Tryz.pinned : Pinned := { name := "ytfoaaamcpknjnadgreat", sum := "b7e5227c1403f298b6df256a763bc1ee2db627ab31d739438b29213d1e245aa7", checked := Tryz.checked }
namespace Rows
def none {H : Type} : Left H := { results := [], args := [] }

/-- 'reliquarylaw.GzPack': WHATEVER THE INPUT: true; the input reads as it did. -/
def gzPackSpec : ChangeSpec := { name := "gzPack", fn := fun _ => fun
  | [d] => { results := [.lit (.bool true)], args := [d] }
  | _ => none }
def gzPackRow : OpenClaim := { program := "ytfoaaamcpknjnadgreat", sum := "b7e5227c1403f298b6df256a763bc1ee2db627ab31d739438b29213d1e245aa7", func := "reliquary/reliquarylaw.GzPack", spec := "gzPack", unfollowed := true, recurses := true, plainKeys := false, apart := false }
def GzPackSaid : Prop := gzPackRow.holds Tryz.pinned (OpenSpec.ofChange gzPackSpec)

/-- ITS FALSE NEIGHBOUR: 'it returns false'. Refute it at one input. -/
def gzPackWrong : ChangeSpec := { name := "gzPack", fn := fun _ => fun
  | [d] => { results := [.lit (.bool false)], args := [d] }
  | _ => none }
def GzPackWrongFalsely : Prop := gzPackRow.holds Tryz.pinned (OpenSpec.ofChange gzPackWrong)

/-- 'reliquarylaw.GzUnpack': WHATEVER THE INPUT: true; the input reads as it did. -/
def gzUnpackSpec : ChangeSpec := { name := "gzUnpack", fn := fun _ => fun
  | [d] => { results := [.lit (.bool true)], args := [d] }
  | _ => none }
def gzUnpackRow : OpenClaim := { program := "ytfoaaamcpknjnadgreat", sum := "b7e5227c1403f298b6df256a763bc1ee2db627ab31d739438b29213d1e245aa7", func := "reliquary/reliquarylaw.GzUnpack", spec := "gzUnpack", inPlace := ["internal/abi.NoEscape", "internal/reflectlite.ValueOf", "internal/reflectlite.Swapper", "(internal/reflectlite.Value).Len", "internal/bytealg.MakeNoZero"], unfollowed := true, recurses := true, plainKeys := false, apart := false }
def GzUnpackSaid : Prop := gzUnpackRow.holds Tryz.pinned (OpenSpec.ofChange gzUnpackSpec)

/-- ITS FALSE NEIGHBOUR: 'it returns false'. Refute it at one input. -/
def gzUnpackWrong : ChangeSpec := { name := "gzUnpack", fn := fun _ => fun
  | [d] => { results := [.lit (.bool false)], args := [d] }
  | _ => none }
def GzUnpackWrongFalsely : Prop := gzUnpackRow.holds Tryz.pinned (OpenSpec.ofChange gzUnpackWrong)

/-- 'reliquarylaw.GzBack': WHATEVER THE INPUT: true; the input reads as it did. -/
def gzBackSpec : ChangeSpec := { name := "gzBack", fn := fun _ => fun
  | [d1, d2] => { results := [.lit (.bool true)], args := [d1, d2] }
  | _ => none }
def gzBackRow : OpenClaim := { program := "ytfoaaamcpknjnadgreat", sum := "b7e5227c1403f298b6df256a763bc1ee2db627ab31d739438b29213d1e245aa7", func := "reliquary/reliquarylaw.GzBack", spec := "gzBack", unfollowed := true, recurses := true, plainKeys := false, apart := false }
def GzBackSaid : Prop := gzBackRow.holds Tryz.pinned (OpenSpec.ofChange gzBackSpec)

/-- ITS FALSE NEIGHBOUR: 'it returns false'. Refute it at one input. -/
def gzBackWrong : ChangeSpec := { name := "gzBack", fn := fun _ => fun
  | [d1, d2] => { results := [.lit (.bool false)], args := [d1, d2] }
  | _ => none }
def GzBackWrongFalsely : Prop := gzBackRow.holds Tryz.pinned (OpenSpec.ofChange gzBackWrong)

/- THE SECOND FORM. 'bulk': how many values and letters a reading holds, each counted each time it is reached (what is shared counts as often as it is met; a slice's spare places count too). A statement '..UptoSaid' is the law's where the arguments, and the package variables that the reading takes, are together of bulk at most 1048576: NARROWER than '..Said'. Prove '..Said' where nothing that the law and all that it calls make is longer than what came in: it says more and counts as full. Else prove '..UptoSaid'. A law counts once. -/
mutual
def uptoBulk {H : Type} : DataW H → Nat
  | .lit (.string bytes) => bytes.length + 1
  | .lit _ => 1
  | .nil => 1
  | .ptr d => uptoBulk d + 1
  | .slice elems spare => uptoBulkAll elems + uptoBulkAll spare + 1
  | .agg parts => uptoBulkAll parts + 1
  | .iface _ d => uptoBulk d + 1
  | .map entries => uptoBulkEntries entries + 1
  | .held _ => 1
def uptoBulkAll {H : Type} : List (DataW H) → Nat
  | [] => 0
  | d :: r => uptoBulk d + uptoBulkAll r
def uptoBulkEntries {H : Type} : List (Lit × DataW H) → Nat
  | [] => 0
  | x :: r => uptoBulkEntry x + uptoBulkEntries r
def uptoBulkEntry {H : Type} : Lit × DataW H → Nat
  | (.string bytes, d) => bytes.length + uptoBulk d + 1
  | (_, d) => uptoBulk d + 1
 end
def uptoSmall : (H : Type) → List (DataW H) → Bool := fun _ ds => decide (uptoBulkAll ds ≤ 1048576)
def OpenSpec.upto (s : _root_.Go.ChangeSpec) : _root_.Go.OpenSpec := { _root_.Go.OpenSpec.ofChange s with cond := some uptoSmall }

/-- 'reliquarylaw.GzPack', WHERE WHAT IT READS IS OF BULK AT MOST 1048576: true; the input reads as it did. -/
def gzPackUptoRow : OpenClaim := { program := "ytfoaaamcpknjnadgreat", sum := "b7e5227c1403f298b6df256a763bc1ee2db627ab31d739438b29213d1e245aa7", func := "reliquary/reliquarylaw.GzPack", spec := "gzPack", unfollowed := true, recurses := true, plainKeys := false, apart := false, narrowed := true }
def GzPackUptoSaid : Prop := gzPackUptoRow.holds Tryz.pinned (OpenSpec.upto gzPackSpec)

/-- 'reliquarylaw.GzUnpack', WHERE WHAT IT READS IS OF BULK AT MOST 1048576: true; the input reads as it did. -/
def gzUnpackUptoRow : OpenClaim := { program := "ytfoaaamcpknjnadgreat", sum := "b7e5227c1403f298b6df256a763bc1ee2db627ab31d739438b29213d1e245aa7", func := "reliquary/reliquarylaw.GzUnpack", spec := "gzUnpack", inPlace := ["internal/abi.NoEscape", "internal/reflectlite.ValueOf", "internal/reflectlite.Swapper", "(internal/reflectlite.Value).Len", "internal/bytealg.MakeNoZero"], unfollowed := true, recurses := true, plainKeys := false, apart := false, narrowed := true }
def GzUnpackUptoSaid : Prop := gzUnpackUptoRow.holds Tryz.pinned (OpenSpec.upto gzUnpackSpec)

/-- 'reliquarylaw.GzBack', WHERE WHAT IT READS IS OF BULK AT MOST 1048576: true; the input reads as it did. -/
def gzBackUptoRow : OpenClaim := { program := "ytfoaaamcpknjnadgreat", sum := "b7e5227c1403f298b6df256a763bc1ee2db627ab31d739438b29213d1e245aa7", func := "reliquary/reliquarylaw.GzBack", spec := "gzBack", unfollowed := true, recurses := true, plainKeys := false, apart := false, narrowed := true }
def GzBackUptoSaid : Prop := gzBackUptoRow.holds Tryz.pinned (OpenSpec.upto gzBackSpec)

end Rows
end Go.Proofs.YtfoaaamcpknjnadGreat
