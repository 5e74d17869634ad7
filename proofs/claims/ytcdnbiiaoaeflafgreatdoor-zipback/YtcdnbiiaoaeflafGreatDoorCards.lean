/-
  DERIVED. GIVEN WITH THE SEED: THE CARDS: each row of YtcdnbiiaoaeflafGreatDoorRows.lean that lists a variable, with what it lists TIED to the program's text (the seventh form; the later family's looks); each row that meets fmt, with fmt's text TOLD by the authors' own Lean function (tested against real Go, not proved from fmt's source: count such statements apart). THE CARD IS WHAT COUNTS. Prove the row's statement (the work); the ties are given (YtcdnbiiaoaeflafGreatDoorTie.lean); close each card by the builder's one call (the guide's Derived/Test/ToyasCard.lean, 'card_holds'). Laid BY PROGRAM, IN A SANDBOX (cutbox-door.mjs). By AI agents, Wed Nov 11 2026. No macro, syntax, notation, axiom, sorry.
-/
import Derived.Test.YtcdnbiiaoaeflafGreatDoorRows
import GoSem.ClaimSeven
namespace Go.Proofs.YtcdnbiiaoaeflafGreatDoor
namespace Rows

/-- THE TIED CARD OF 'reliquarylaw.ZipWrite'. -/
def zipWriteCard : Claim7 := { stood := { row := zipWriteRow, standIns := [], harness := (true, "6c8998e99a14cb509f9f2fa13f5b44b49a242157cdd57e2d7ec2bea43ef193d8"), looks := true }, kinds := [], alts := [], laidByText := true, laidKinds := [.data, .pinned], laidTests := true, laidLooks := .later }
def ZipWriteCardSaid : Prop := Claim7.holds Tryz.pinned (.plain (OpenSpec.ofChange zipWriteSpec)) zipWriteCard

/-- THE TIED CARD OF 'reliquarylaw.ZipRead'. -/
def zipReadCard : Claim7 := { stood := { row := zipReadRow, standIns := [], harness := (true, "6c8998e99a14cb509f9f2fa13f5b44b49a242157cdd57e2d7ec2bea43ef193d8"), looks := true }, kinds := [], alts := [], laidByText := true, laidKinds := [.data, .pinned], laidTests := true, laidLooks := .later }
def ZipReadCardSaid : Prop := Claim7.holds Tryz.pinned (.plain (OpenSpec.ofChange zipReadSpec)) zipReadCard

/-- THE TIED CARD OF 'reliquarylaw.ZipBack'. -/
def zipBackCard : Claim7 := { stood := { row := zipBackRow, standIns := [], harness := (true, "6c8998e99a14cb509f9f2fa13f5b44b49a242157cdd57e2d7ec2bea43ef193d8"), looks := true }, kinds := [], alts := [], laidByText := true, laidKinds := [.data, .pinned], laidTests := true, laidLooks := .later }
def ZipBackCardSaid : Prop := Claim7.holds Tryz.pinned (.plain (OpenSpec.ofChange zipBackSpec)) zipBackCard

/-- THE SECOND FORM's CARD OF 'reliquarylaw.ZipWrite'. -/
def zipWriteUptoCard : Claim7 := { stood := { row := zipWriteUptoRow, standIns := [], harness := (true, "6c8998e99a14cb509f9f2fa13f5b44b49a242157cdd57e2d7ec2bea43ef193d8"), looks := true }, kinds := [], alts := [], laidByText := true, laidKinds := [.data, .pinned], laidTests := true, laidLooks := .later }
def ZipWriteUptoCardSaid : Prop := Claim7.holds Tryz.pinned (.plain (OpenSpec.upto zipWriteSpec)) zipWriteUptoCard

/-- THE SECOND FORM's CARD OF 'reliquarylaw.ZipRead'. -/
def zipReadUptoCard : Claim7 := { stood := { row := zipReadUptoRow, standIns := [], harness := (true, "6c8998e99a14cb509f9f2fa13f5b44b49a242157cdd57e2d7ec2bea43ef193d8"), looks := true }, kinds := [], alts := [], laidByText := true, laidKinds := [.data, .pinned], laidTests := true, laidLooks := .later }
def ZipReadUptoCardSaid : Prop := Claim7.holds Tryz.pinned (.plain (OpenSpec.upto zipReadSpec)) zipReadUptoCard

/-- THE SECOND FORM's CARD OF 'reliquarylaw.ZipBack'. -/
def zipBackUptoCard : Claim7 := { stood := { row := zipBackUptoRow, standIns := [], harness := (true, "6c8998e99a14cb509f9f2fa13f5b44b49a242157cdd57e2d7ec2bea43ef193d8"), looks := true }, kinds := [], alts := [], laidByText := true, laidKinds := [.data, .pinned], laidTests := true, laidLooks := .later }
def ZipBackUptoCardSaid : Prop := Claim7.holds Tryz.pinned (.plain (OpenSpec.upto zipBackSpec)) zipBackUptoCard
end Rows
end Go.Proofs.YtcdnbiiaoaeflafGreatDoor
