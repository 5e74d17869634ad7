/-
  DERIVED. GIVEN WITH THE SEED: THE CARDS: each row of YtcjbgpacnkilnaiGreatDoorRows.lean that lists a variable, with what it lists TIED to the program's text (the seventh form; the later family's looks); each row that meets fmt, with fmt's text TOLD by the authors' own Lean function (tested against real Go, not proved from fmt's source: count such statements apart). THE CARD IS WHAT COUNTS. Prove the row's statement (the work); the ties are given (YtcjbgpacnkilnaiGreatDoorTie.lean); close each card by the builder's one call (the guide's Derived/Test/ToyasCard.lean, 'card_holds'). Laid BY PROGRAM, IN A SANDBOX (cutbox-door.mjs). By AI agents, Wed Nov 11 2026. No macro, syntax, notation, axiom, sorry.
-/
import Derived.Test.YtcjbgpacnkilnaiGreatDoorRows
import GoSem.ClaimSeven
namespace Go.Proofs.YtcjbgpacnkilnaiGreatDoor
namespace Rows

/-- THE TIED CARD OF 'reliquarylaw.ZipAgain'. -/
def zipAgainCard : Claim7 := { stood := { row := zipAgainRow, standIns := [], harness := (true, "4186eda775ce790134e5ee0941cdccca12eff8bd3339494a3429110eb9943701"), looks := true }, kinds := [], alts := [], laidByText := true, laidKinds := [.data, .pinned], laidTests := true, laidLooks := .later }
def ZipAgainCardSaid : Prop := Claim7.holds Tryz.pinned (.plain (OpenSpec.ofChange zipAgainSpec)) zipAgainCard

/-- THE TIED CARD OF 'reliquarylaw.ShelfBegins'. -/
def shelfBeginsCard : Claim7 := { stood := { row := shelfBeginsRow, standIns := [], harness := (true, "4186eda775ce790134e5ee0941cdccca12eff8bd3339494a3429110eb9943701"), looks := true }, kinds := [], alts := [], laidByText := true, laidKinds := [.data, .pinned], laidTests := true, laidLooks := .later }
def ShelfBeginsCardSaid : Prop := Claim7.holds Tryz.pinned (.plain (OpenSpec.ofChange shelfBeginsSpec)) shelfBeginsCard

/-- THE SECOND FORM's CARD OF 'reliquarylaw.ZipAgain'. -/
def zipAgainUptoCard : Claim7 := { stood := { row := zipAgainUptoRow, standIns := [], harness := (true, "4186eda775ce790134e5ee0941cdccca12eff8bd3339494a3429110eb9943701"), looks := true }, kinds := [], alts := [], laidByText := true, laidKinds := [.data, .pinned], laidTests := true, laidLooks := .later }
def ZipAgainUptoCardSaid : Prop := Claim7.holds Tryz.pinned (.plain (OpenSpec.upto zipAgainSpec)) zipAgainUptoCard

/-- THE SECOND FORM's CARD OF 'reliquarylaw.ShelfBegins'. -/
def shelfBeginsUptoCard : Claim7 := { stood := { row := shelfBeginsUptoRow, standIns := [], harness := (true, "4186eda775ce790134e5ee0941cdccca12eff8bd3339494a3429110eb9943701"), looks := true }, kinds := [], alts := [], laidByText := true, laidKinds := [.data, .pinned], laidTests := true, laidLooks := .later }
def ShelfBeginsUptoCardSaid : Prop := Claim7.holds Tryz.pinned (.plain (OpenSpec.upto shelfBeginsSpec)) shelfBeginsUptoCard
end Rows
end Go.Proofs.YtcjbgpacnkilnaiGreatDoor
