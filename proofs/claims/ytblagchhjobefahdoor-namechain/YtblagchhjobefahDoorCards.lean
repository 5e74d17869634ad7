/-
  DERIVED. GIVEN WITH THE SEED: THE CARDS: each row of YtblagchhjobefahDoorRows.lean that lists a variable, with what it lists TIED to the program's text (the seventh form; the later family's looks); each row that meets fmt, with fmt's text TOLD by the authors' own Lean function (tested against real Go, not proved from fmt's source: count such statements apart). THE CARD IS WHAT COUNTS. Prove the row's statement (the work); the ties are given (YtblagchhjobefahDoorTie.lean); close each card by the builder's one call (the guide's Derived/Test/ToyasCard.lean, 'card_holds'). Laid BY PROGRAM, IN A SANDBOX (cutbox-door.mjs). By AI agents, Wed Nov 11 2026. No macro, syntax, notation, axiom, sorry.
-/
import Derived.Test.YtblagchhjobefahDoorRows
import GoSem.ClaimSeven
namespace Go.Proofs.YtblagchhjobefahDoor
namespace Rows

/-- THE TIED CARD OF 'reliquarylaw.NameChain'. -/
def nameChainCard : Claim7 := { stood := { row := nameChainRow, standIns := [], harness := (true, "03dcf0b8372570d63b3a724dc837bb251ef8eef59c2ba5169cc9da27021c1f5c"), looks := false }, kinds := [], alts := [], laidByText := true, laidKinds := [.data, .pinned], laidTests := true, laidLooks := .later }
def NameChainCardSaid : Prop := Claim7.holds Tryd.pinned (.plain (OpenSpec.ofChange nameChainSpec)) nameChainCard

/-- THE SECOND FORM's CARD OF 'reliquarylaw.NameChain'. -/
def nameChainUptoCard : Claim7 := { stood := { row := nameChainUptoRow, standIns := [], harness := (true, "03dcf0b8372570d63b3a724dc837bb251ef8eef59c2ba5169cc9da27021c1f5c"), looks := false }, kinds := [], alts := [], laidByText := true, laidKinds := [.data, .pinned], laidTests := true, laidLooks := .later }
def NameChainUptoCardSaid : Prop := Claim7.holds Tryd.pinned (.plain (OpenSpec.upto nameChainSpec)) nameChainUptoCard
end Rows
end Go.Proofs.YtblagchhjobefahDoor
