/-
  DERIVED. GIVEN WITH THE SEED: THE CARDS: each row of YtcjbgpacnkilnagGreatDoorRows.lean that lists a variable, with what it lists TIED to the program's text (the seventh form; the later family's looks); each row that meets fmt, with fmt's text TOLD by the authors' own Lean function (tested against real Go, not proved from fmt's source: count such statements apart). THE CARD IS WHAT COUNTS. Prove the row's statement (the work); the ties are given (YtcjbgpacnkilnagGreatDoorTie.lean); close each card by the builder's one call (the guide's Derived/Test/ToyasCard.lean, 'card_holds'). Laid BY PROGRAM, IN A SANDBOX (cutbox-door.mjs). By AI agents, Wed Nov 11 2026. No macro, syntax, notation, axiom, sorry.
-/
import Derived.Test.YtcjbgpacnkilnagGreatDoorRows
import GoSem.ClaimSeven
namespace Go.Proofs.YtcjbgpacnkilnagGreatDoor
namespace Rows

/-- THE TIED CARD OF 'reliquarylaw.ShelfPacks'. -/
def shelfPacksCard : Claim7 := { stood := { row := shelfPacksRow, standIns := [], harness := (true, "55755c0d0054cf0aebf76d2a7406e687dc9c3507420838b5766e173bdbd060d2"), looks := true }, kinds := [], alts := [], laidByText := true, laidKinds := [.data, .pinned], laidTests := true, laidLooks := .later }
def ShelfPacksCardSaid : Prop := Claim7.holds Tryz.pinned (.plain (OpenSpec.ofChange shelfPacksSpec)) shelfPacksCard

/-- THE SECOND FORM's CARD OF 'reliquarylaw.ShelfPacks'. -/
def shelfPacksUptoCard : Claim7 := { stood := { row := shelfPacksUptoRow, standIns := [], harness := (true, "55755c0d0054cf0aebf76d2a7406e687dc9c3507420838b5766e173bdbd060d2"), looks := true }, kinds := [], alts := [], laidByText := true, laidKinds := [.data, .pinned], laidTests := true, laidLooks := .later }
def ShelfPacksUptoCardSaid : Prop := Claim7.holds Tryz.pinned (.plain (OpenSpec.upto shelfPacksSpec)) shelfPacksUptoCard
end Rows
end Go.Proofs.YtcjbgpacnkilnagGreatDoor
