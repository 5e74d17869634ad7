/-
  DERIVED. GIVEN WITH THE SEED: THE CARDS: each row of YtieianhejdcgdaaGreatDoorRows.lean that lists a variable, with what it lists TIED to the program's text (the seventh form; the later family's looks); each row that meets fmt, with fmt's text TOLD by the authors' own Lean function (tested against real Go, not proved from fmt's source: count such statements apart). THE CARD IS WHAT COUNTS. Prove the row's statement (the work); the ties are given (YtieianhejdcgdaaGreatDoorTie.lean); close each card by the builder's one call (the guide's Derived/Test/ToyasCard.lean, 'card_holds'). Laid BY PROGRAM, IN A SANDBOX (cutbox-door.mjs). By AI agents, Wed Nov 11 2026. No macro, syntax, notation, axiom, sorry.
-/
import Derived.Test.YtieianhejdcgdaaGreatDoorRows
import GoSem.ClaimSeven
namespace Go.Proofs.YtieianhejdcgdaaGreatDoor
namespace Rows

/-- THE TIED CARD OF 'reliquarylaw.ZipWrite'. -/
def zipWriteCard : Claim7 := { stood := { row := zipWriteRow, standIns := [], harness := (true, "2ec7ec87d68b76766c67806bc626900fe92ed6518d5390d4da13e6d5fb82ba57"), looks := true }, kinds := [], alts := [], laidByText := true, laidKinds := [.data, .pinned], laidTests := true, laidLooks := .later }
def ZipWriteCardSaid : Prop := Claim7.holds Tryz.pinned (.plain (OpenSpec.ofChange zipWriteSpec)) zipWriteCard

/-- THE TIED CARD OF 'reliquarylaw.ZipRead'. -/
def zipReadCard : Claim7 := { stood := { row := zipReadRow, standIns := [], harness := (true, "2ec7ec87d68b76766c67806bc626900fe92ed6518d5390d4da13e6d5fb82ba57"), looks := true }, kinds := [], alts := [], laidByText := true, laidKinds := [.data, .pinned], laidTests := true, laidLooks := .later }
def ZipReadCardSaid : Prop := Claim7.holds Tryz.pinned (.plain (OpenSpec.ofChange zipReadSpec)) zipReadCard

/-- THE TIED CARD OF 'reliquarylaw.ZipBack'. -/
def zipBackCard : Claim7 := { stood := { row := zipBackRow, standIns := [], harness := (true, "2ec7ec87d68b76766c67806bc626900fe92ed6518d5390d4da13e6d5fb82ba57"), looks := true }, kinds := [], alts := [], laidByText := true, laidKinds := [.data, .pinned], laidTests := true, laidLooks := .later }
def ZipBackCardSaid : Prop := Claim7.holds Tryz.pinned (.plain (OpenSpec.ofChange zipBackSpec)) zipBackCard

/-- THE TIED CARD OF 'reliquarylaw.ShelfCut'. -/
def shelfCutCard : Claim7 := { stood := { row := shelfCutRow, standIns := [], harness := (true, "2ec7ec87d68b76766c67806bc626900fe92ed6518d5390d4da13e6d5fb82ba57"), looks := true }, kinds := [], alts := [], laidByText := true, laidKinds := [.data, .pinned], laidTests := true, laidLooks := .later }
def ShelfCutCardSaid : Prop := Claim7.holds Tryz.pinned (.plain (OpenSpec.ofChange shelfCutSpec)) shelfCutCard

/-- THE TIED CARD OF 'reliquarylaw.ShelfAdd'. -/
def shelfAddCard : Claim7 := { stood := { row := shelfAddRow, standIns := [], harness := (true, "2ec7ec87d68b76766c67806bc626900fe92ed6518d5390d4da13e6d5fb82ba57"), looks := true }, kinds := [], alts := [], laidByText := true, laidKinds := [.data, .pinned], laidTests := true, laidLooks := .later }
def ShelfAddCardSaid : Prop := Claim7.holds Tryz.pinned (.plain (OpenSpec.ofChange shelfAddSpec)) shelfAddCard

/-- THE TIED CARD OF 'reliquarylaw.ShelfKeeps'. -/
def shelfKeepsCard : Claim7 := { stood := { row := shelfKeepsRow, standIns := [], harness := (true, "2ec7ec87d68b76766c67806bc626900fe92ed6518d5390d4da13e6d5fb82ba57"), looks := true }, kinds := [], alts := [], laidByText := true, laidKinds := [.data, .pinned], laidTests := true, laidLooks := .later }
def ShelfKeepsCardSaid : Prop := Claim7.holds Tryz.pinned (.plain (OpenSpec.ofChange shelfKeepsSpec)) shelfKeepsCard

/-- THE SECOND FORM's CARD OF 'reliquarylaw.ZipWrite'. -/
def zipWriteUptoCard : Claim7 := { stood := { row := zipWriteUptoRow, standIns := [], harness := (true, "2ec7ec87d68b76766c67806bc626900fe92ed6518d5390d4da13e6d5fb82ba57"), looks := true }, kinds := [], alts := [], laidByText := true, laidKinds := [.data, .pinned], laidTests := true, laidLooks := .later }
def ZipWriteUptoCardSaid : Prop := Claim7.holds Tryz.pinned (.plain (OpenSpec.upto zipWriteSpec)) zipWriteUptoCard

/-- THE SECOND FORM's CARD OF 'reliquarylaw.ZipRead'. -/
def zipReadUptoCard : Claim7 := { stood := { row := zipReadUptoRow, standIns := [], harness := (true, "2ec7ec87d68b76766c67806bc626900fe92ed6518d5390d4da13e6d5fb82ba57"), looks := true }, kinds := [], alts := [], laidByText := true, laidKinds := [.data, .pinned], laidTests := true, laidLooks := .later }
def ZipReadUptoCardSaid : Prop := Claim7.holds Tryz.pinned (.plain (OpenSpec.upto zipReadSpec)) zipReadUptoCard

/-- THE SECOND FORM's CARD OF 'reliquarylaw.ZipBack'. -/
def zipBackUptoCard : Claim7 := { stood := { row := zipBackUptoRow, standIns := [], harness := (true, "2ec7ec87d68b76766c67806bc626900fe92ed6518d5390d4da13e6d5fb82ba57"), looks := true }, kinds := [], alts := [], laidByText := true, laidKinds := [.data, .pinned], laidTests := true, laidLooks := .later }
def ZipBackUptoCardSaid : Prop := Claim7.holds Tryz.pinned (.plain (OpenSpec.upto zipBackSpec)) zipBackUptoCard

/-- THE SECOND FORM's CARD OF 'reliquarylaw.ShelfCut'. -/
def shelfCutUptoCard : Claim7 := { stood := { row := shelfCutUptoRow, standIns := [], harness := (true, "2ec7ec87d68b76766c67806bc626900fe92ed6518d5390d4da13e6d5fb82ba57"), looks := true }, kinds := [], alts := [], laidByText := true, laidKinds := [.data, .pinned], laidTests := true, laidLooks := .later }
def ShelfCutUptoCardSaid : Prop := Claim7.holds Tryz.pinned (.plain (OpenSpec.upto shelfCutSpec)) shelfCutUptoCard

/-- THE SECOND FORM's CARD OF 'reliquarylaw.ShelfAdd'. -/
def shelfAddUptoCard : Claim7 := { stood := { row := shelfAddUptoRow, standIns := [], harness := (true, "2ec7ec87d68b76766c67806bc626900fe92ed6518d5390d4da13e6d5fb82ba57"), looks := true }, kinds := [], alts := [], laidByText := true, laidKinds := [.data, .pinned], laidTests := true, laidLooks := .later }
def ShelfAddUptoCardSaid : Prop := Claim7.holds Tryz.pinned (.plain (OpenSpec.upto shelfAddSpec)) shelfAddUptoCard

/-- THE SECOND FORM's CARD OF 'reliquarylaw.ShelfKeeps'. -/
def shelfKeepsUptoCard : Claim7 := { stood := { row := shelfKeepsUptoRow, standIns := [], harness := (true, "2ec7ec87d68b76766c67806bc626900fe92ed6518d5390d4da13e6d5fb82ba57"), looks := true }, kinds := [], alts := [], laidByText := true, laidKinds := [.data, .pinned], laidTests := true, laidLooks := .later }
def ShelfKeepsUptoCardSaid : Prop := Claim7.holds Tryz.pinned (.plain (OpenSpec.upto shelfKeepsSpec)) shelfKeepsUptoCard
end Rows
end Go.Proofs.YtieianhejdcgdaaGreatDoor
