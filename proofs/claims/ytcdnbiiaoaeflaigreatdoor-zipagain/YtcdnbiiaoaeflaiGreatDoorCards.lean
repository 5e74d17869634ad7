/-
  DERIVED. GIVEN WITH THE SEED: THE CARDS: each row of YtcdnbiiaoaeflaiGreatDoorRows.lean that lists a variable, with what it lists TIED to the program's text (the seventh form; the later family's looks); each row that meets fmt, with fmt's text TOLD by the authors' own Lean function (tested against real Go, not proved from fmt's source: count such statements apart). THE CARD IS WHAT COUNTS. Prove the row's statement (the work); the ties are given (YtcdnbiiaoaeflaiGreatDoorTie.lean); close each card by the builder's one call (the guide's Derived/Test/ToyasCard.lean, 'card_holds'). Laid BY PROGRAM, IN A SANDBOX (cutbox-door.mjs). By AI agents, Wed Nov 11 2026. No macro, syntax, notation, axiom, sorry.
-/
import Derived.Test.YtcdnbiiaoaeflaiGreatDoorRows
import GoSem.ClaimSeven
namespace Go.Proofs.YtcdnbiiaoaeflaiGreatDoor
namespace Rows

/-- THE TIED CARD OF 'reliquarylaw.ZipAgain'. -/
def zipAgainCard : Claim7 := { stood := { row := zipAgainRow, standIns := [], harness := (true, "d6f36bc58e68c5fbb002dfcb2dbe9ccbc613e5949c826d6dab05b49dee1ecd23"), looks := true }, kinds := [], alts := [], laidByText := true, laidKinds := [.data, .pinned], laidTests := true, laidLooks := .later }
def ZipAgainCardSaid : Prop := Claim7.holds Tryz.pinned (.plain (OpenSpec.ofChange zipAgainSpec)) zipAgainCard

/-- THE SECOND FORM's CARD OF 'reliquarylaw.ZipAgain'. -/
def zipAgainUptoCard : Claim7 := { stood := { row := zipAgainUptoRow, standIns := [], harness := (true, "d6f36bc58e68c5fbb002dfcb2dbe9ccbc613e5949c826d6dab05b49dee1ecd23"), looks := true }, kinds := [], alts := [], laidByText := true, laidKinds := [.data, .pinned], laidTests := true, laidLooks := .later }
def ZipAgainUptoCardSaid : Prop := Claim7.holds Tryz.pinned (.plain (OpenSpec.upto zipAgainSpec)) zipAgainUptoCard
end Rows
end Go.Proofs.YtcdnbiiaoaeflaiGreatDoor
