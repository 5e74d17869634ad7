/-
  DERIVED. GIVEN WITH THE SEED: THE CARDS: each row of YtfojmdbpjkkpbaeDoorRows.lean that lists a variable, with what it lists TIED to the program's text (the seventh form; the later family's looks); each row that meets fmt, with fmt's text TOLD by the authors' own Lean function (tested against real Go, not proved from fmt's source: count such statements apart). THE CARD IS WHAT COUNTS. Prove the row's statement (the work); the ties are given (YtfojmdbpjkkpbaeDoorTie.lean); close each card by the builder's one call (the guide's Derived/Test/ToyasCard.lean, 'card_holds'). Laid BY PROGRAM, IN A SANDBOX (cutbox-door.mjs). By AI agents, Wed Nov 11 2026. No macro, syntax, notation, axiom, sorry.
-/
import Derived.Test.YtfojmdbpjkkpbaeDoorRows
import GoSem.ClaimSeven
namespace Go.Proofs.YtfojmdbpjkkpbaeDoor
namespace Rows

/-- THE TIED CARD OF 'reliquarylaw.NameParts'. -/
def namePartsCard : Claim7 := { stood := { row := namePartsRow, standIns := [], harness := (true, "3ab9146318f7061dbf1b706c907b7441feb3bdabd42fa1a97322900d7319610e"), looks := false }, kinds := [], alts := [], laidByText := true, laidKinds := [.data, .pinned], laidTests := true, laidLooks := .later }
def NamePartsCardSaid : Prop := Claim7.holds Tryd.pinned (.plain (OpenSpec.ofChange namePartsSpec)) namePartsCard

/-- THE TIED CARD OF 'reliquarylaw.NameJoin'. -/
def nameJoinCard : Claim7 := { stood := { row := nameJoinRow, standIns := [], harness := (true, "3ab9146318f7061dbf1b706c907b7441feb3bdabd42fa1a97322900d7319610e"), looks := false }, kinds := [], alts := [], laidByText := true, laidKinds := [.data, .pinned], laidTests := true, laidLooks := .later }
def NameJoinCardSaid : Prop := Claim7.holds Tryd.pinned (.plain (OpenSpec.ofChange nameJoinSpec)) nameJoinCard

/-- THE TIED CARD OF 'reliquarylaw.NameWithin'. -/
def nameWithinCard : Claim7 := { stood := { row := nameWithinRow, standIns := [], harness := (true, "3ab9146318f7061dbf1b706c907b7441feb3bdabd42fa1a97322900d7319610e"), looks := false }, kinds := [], alts := [], laidByText := true, laidKinds := [.data, .pinned], laidTests := true, laidLooks := .later }
def NameWithinCardSaid : Prop := Claim7.holds Tryd.pinned (.plain (OpenSpec.ofChange nameWithinSpec)) nameWithinCard

/-- THE TIED CARD OF 'reliquarylaw.MergeBoth'. -/
def mergeBothCard : Claim7 := { stood := { row := mergeBothRow, standIns := [], harness := (true, "3ab9146318f7061dbf1b706c907b7441feb3bdabd42fa1a97322900d7319610e"), looks := false }, kinds := [], alts := [], laidByText := true, laidKinds := [.data, .pinned], laidTests := true, laidLooks := .later }
def MergeBothCardSaid : Prop := Claim7.holds Tryd.pinned (.plain (OpenSpec.ofChange mergeBothSpec)) mergeBothCard

/-- THE TIED CARD OF 'reliquarylaw.MergeShown'. -/
def mergeShownCard : Claim7 := { stood := { row := mergeShownRow, standIns := [], harness := (true, "3ab9146318f7061dbf1b706c907b7441feb3bdabd42fa1a97322900d7319610e"), looks := false }, kinds := [], alts := [], laidByText := true, laidKinds := [.data, .pinned], laidTests := true, laidLooks := .later }
def MergeShownCardSaid : Prop := Claim7.holds Tryd.pinned (.plain (OpenSpec.ofChange mergeShownSpec)) mergeShownCard

/-- THE TIED CARD OF 'reliquarylaw.MergeOrder'. -/
def mergeOrderCard : Claim7 := { stood := { row := mergeOrderRow, standIns := [], harness := (true, "3ab9146318f7061dbf1b706c907b7441feb3bdabd42fa1a97322900d7319610e"), looks := false }, kinds := [], alts := [], laidByText := true, laidKinds := [.data, .pinned], laidTests := true, laidLooks := .later }
def MergeOrderCardSaid : Prop := Claim7.holds Tryd.pinned (.plain (OpenSpec.ofChange mergeOrderSpec)) mergeOrderCard

/-- THE SECOND FORM's CARD OF 'reliquarylaw.NameParts'. -/
def namePartsUptoCard : Claim7 := { stood := { row := namePartsUptoRow, standIns := [], harness := (true, "3ab9146318f7061dbf1b706c907b7441feb3bdabd42fa1a97322900d7319610e"), looks := false }, kinds := [], alts := [], laidByText := true, laidKinds := [.data, .pinned], laidTests := true, laidLooks := .later }
def NamePartsUptoCardSaid : Prop := Claim7.holds Tryd.pinned (.plain (OpenSpec.upto namePartsSpec)) namePartsUptoCard

/-- THE SECOND FORM's CARD OF 'reliquarylaw.NameJoin'. -/
def nameJoinUptoCard : Claim7 := { stood := { row := nameJoinUptoRow, standIns := [], harness := (true, "3ab9146318f7061dbf1b706c907b7441feb3bdabd42fa1a97322900d7319610e"), looks := false }, kinds := [], alts := [], laidByText := true, laidKinds := [.data, .pinned], laidTests := true, laidLooks := .later }
def NameJoinUptoCardSaid : Prop := Claim7.holds Tryd.pinned (.plain (OpenSpec.upto nameJoinSpec)) nameJoinUptoCard

/-- THE SECOND FORM's CARD OF 'reliquarylaw.NameWithin'. -/
def nameWithinUptoCard : Claim7 := { stood := { row := nameWithinUptoRow, standIns := [], harness := (true, "3ab9146318f7061dbf1b706c907b7441feb3bdabd42fa1a97322900d7319610e"), looks := false }, kinds := [], alts := [], laidByText := true, laidKinds := [.data, .pinned], laidTests := true, laidLooks := .later }
def NameWithinUptoCardSaid : Prop := Claim7.holds Tryd.pinned (.plain (OpenSpec.upto nameWithinSpec)) nameWithinUptoCard

/-- THE SECOND FORM's CARD OF 'reliquarylaw.MergeBoth'. -/
def mergeBothUptoCard : Claim7 := { stood := { row := mergeBothUptoRow, standIns := [], harness := (true, "3ab9146318f7061dbf1b706c907b7441feb3bdabd42fa1a97322900d7319610e"), looks := false }, kinds := [], alts := [], laidByText := true, laidKinds := [.data, .pinned], laidTests := true, laidLooks := .later }
def MergeBothUptoCardSaid : Prop := Claim7.holds Tryd.pinned (.plain (OpenSpec.upto mergeBothSpec)) mergeBothUptoCard

/-- THE SECOND FORM's CARD OF 'reliquarylaw.MergeShown'. -/
def mergeShownUptoCard : Claim7 := { stood := { row := mergeShownUptoRow, standIns := [], harness := (true, "3ab9146318f7061dbf1b706c907b7441feb3bdabd42fa1a97322900d7319610e"), looks := false }, kinds := [], alts := [], laidByText := true, laidKinds := [.data, .pinned], laidTests := true, laidLooks := .later }
def MergeShownUptoCardSaid : Prop := Claim7.holds Tryd.pinned (.plain (OpenSpec.upto mergeShownSpec)) mergeShownUptoCard

/-- THE SECOND FORM's CARD OF 'reliquarylaw.MergeOrder'. -/
def mergeOrderUptoCard : Claim7 := { stood := { row := mergeOrderUptoRow, standIns := [], harness := (true, "3ab9146318f7061dbf1b706c907b7441feb3bdabd42fa1a97322900d7319610e"), looks := false }, kinds := [], alts := [], laidByText := true, laidKinds := [.data, .pinned], laidTests := true, laidLooks := .later }
def MergeOrderUptoCardSaid : Prop := Claim7.holds Tryd.pinned (.plain (OpenSpec.upto mergeOrderSpec)) mergeOrderUptoCard
end Rows
end Go.Proofs.YtfojmdbpjkkpbaeDoor
