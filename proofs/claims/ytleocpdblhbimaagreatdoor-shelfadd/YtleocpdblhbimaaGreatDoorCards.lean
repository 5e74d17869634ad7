/-
  DERIVED. GIVEN WITH THE SEED: THE CARDS: each row of YtleocpdblhbimaaGreatDoorRows.lean that lists a variable, with what it lists TIED to the program's text (the seventh form; the later family's looks); each row that meets fmt, with fmt's text TOLD by the authors' own Lean function (tested against real Go, not proved from fmt's source: count such statements apart). THE CARD IS WHAT COUNTS. Prove the row's statement (the work); the ties are given (YtleocpdblhbimaaGreatDoorTie.lean); close each card by the builder's one call (the guide's Derived/Test/ToyasCard.lean, 'card_holds'). Laid BY PROGRAM, IN A SANDBOX (cutbox-door.mjs). By AI agents, Wed Nov 11 2026. No macro, syntax, notation, axiom, sorry.
-/
import Derived.Test.YtleocpdblhbimaaGreatDoorRows
import GoSem.ClaimSeven
namespace Go.Proofs.YtleocpdblhbimaaGreatDoor
namespace Rows

/-- THE TIED CARD OF 'reliquarylaw.ZipWrite'. -/
def zipWriteCard : Claim7 := { stood := { row := zipWriteRow, standIns := [], harness := (true, "8660b4df74c4e33a6e893c7ccb6567c020d9294e521240955d4523975f70d56a"), looks := true }, kinds := [], alts := [], laidByText := true, laidKinds := [.data, .pinned], laidTests := true, laidLooks := .later }
def ZipWriteCardSaid : Prop := Claim7.holds Tryz.pinned (.plain (OpenSpec.ofChange zipWriteSpec)) zipWriteCard

/-- THE TIED CARD OF 'reliquarylaw.ZipRead'. -/
def zipReadCard : Claim7 := { stood := { row := zipReadRow, standIns := [], harness := (true, "8660b4df74c4e33a6e893c7ccb6567c020d9294e521240955d4523975f70d56a"), looks := true }, kinds := [], alts := [], laidByText := true, laidKinds := [.data, .pinned], laidTests := true, laidLooks := .later }
def ZipReadCardSaid : Prop := Claim7.holds Tryz.pinned (.plain (OpenSpec.ofChange zipReadSpec)) zipReadCard

/-- THE TIED CARD OF 'reliquarylaw.ShelfCut'. -/
def shelfCutCard : Claim7 := { stood := { row := shelfCutRow, standIns := [], harness := (true, "8660b4df74c4e33a6e893c7ccb6567c020d9294e521240955d4523975f70d56a"), looks := true }, kinds := [], alts := [], laidByText := true, laidKinds := [.data, .pinned], laidTests := true, laidLooks := .later }
def ShelfCutCardSaid : Prop := Claim7.holds Tryz.pinned (.plain (OpenSpec.ofChange shelfCutSpec)) shelfCutCard

/-- THE TIED CARD OF 'reliquarylaw.ShelfAdd'. -/
def shelfAddCard : Claim7 := { stood := { row := shelfAddRow, standIns := [], harness := (true, "8660b4df74c4e33a6e893c7ccb6567c020d9294e521240955d4523975f70d56a"), looks := true }, kinds := [], alts := [], laidByText := true, laidKinds := [.data, .pinned], laidTests := true, laidLooks := .later }
def ShelfAddCardSaid : Prop := Claim7.holds Tryz.pinned (.plain (OpenSpec.ofChange shelfAddSpec)) shelfAddCard

/-- THE SECOND FORM's CARD OF 'reliquarylaw.ZipWrite'. -/
def zipWriteUptoCard : Claim7 := { stood := { row := zipWriteUptoRow, standIns := [], harness := (true, "8660b4df74c4e33a6e893c7ccb6567c020d9294e521240955d4523975f70d56a"), looks := true }, kinds := [], alts := [], laidByText := true, laidKinds := [.data, .pinned], laidTests := true, laidLooks := .later }
def ZipWriteUptoCardSaid : Prop := Claim7.holds Tryz.pinned (.plain (OpenSpec.upto zipWriteSpec)) zipWriteUptoCard

/-- THE SECOND FORM's CARD OF 'reliquarylaw.ZipRead'. -/
def zipReadUptoCard : Claim7 := { stood := { row := zipReadUptoRow, standIns := [], harness := (true, "8660b4df74c4e33a6e893c7ccb6567c020d9294e521240955d4523975f70d56a"), looks := true }, kinds := [], alts := [], laidByText := true, laidKinds := [.data, .pinned], laidTests := true, laidLooks := .later }
def ZipReadUptoCardSaid : Prop := Claim7.holds Tryz.pinned (.plain (OpenSpec.upto zipReadSpec)) zipReadUptoCard

/-- THE SECOND FORM's CARD OF 'reliquarylaw.ShelfCut'. -/
def shelfCutUptoCard : Claim7 := { stood := { row := shelfCutUptoRow, standIns := [], harness := (true, "8660b4df74c4e33a6e893c7ccb6567c020d9294e521240955d4523975f70d56a"), looks := true }, kinds := [], alts := [], laidByText := true, laidKinds := [.data, .pinned], laidTests := true, laidLooks := .later }
def ShelfCutUptoCardSaid : Prop := Claim7.holds Tryz.pinned (.plain (OpenSpec.upto shelfCutSpec)) shelfCutUptoCard

/-- THE SECOND FORM's CARD OF 'reliquarylaw.ShelfAdd'. -/
def shelfAddUptoCard : Claim7 := { stood := { row := shelfAddUptoRow, standIns := [], harness := (true, "8660b4df74c4e33a6e893c7ccb6567c020d9294e521240955d4523975f70d56a"), looks := true }, kinds := [], alts := [], laidByText := true, laidKinds := [.data, .pinned], laidTests := true, laidLooks := .later }
def ShelfAddUptoCardSaid : Prop := Claim7.holds Tryz.pinned (.plain (OpenSpec.upto shelfAddSpec)) shelfAddUptoCard
end Rows
end Go.Proofs.YtleocpdblhbimaaGreatDoor
