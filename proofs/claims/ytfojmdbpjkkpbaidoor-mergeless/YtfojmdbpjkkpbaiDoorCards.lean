/-
  DERIVED. GIVEN WITH THE SEED: THE CARDS: each row of YtfojmdbpjkkpbaiDoorRows.lean that lists a variable, with what it lists TIED to the program's text (the seventh form; the later family's looks); each row that meets fmt, with fmt's text TOLD by the authors' own Lean function (tested against real Go, not proved from fmt's source: count such statements apart). THE CARD IS WHAT COUNTS. Prove the row's statement (the work); the ties are given (YtfojmdbpjkkpbaiDoorTie.lean); close each card by the builder's one call (the guide's Derived/Test/ToyasCard.lean, 'card_holds'). Laid BY PROGRAM, IN A SANDBOX (cutbox-door.mjs). By AI agents, Wed Nov 11 2026. No macro, syntax, notation, axiom, sorry.
-/
import Derived.Test.YtfojmdbpjkkpbaiDoorRows
import GoSem.ClaimSeven
namespace Go.Proofs.YtfojmdbpjkkpbaiDoor
namespace Rows

/-- THE TIED CARD OF 'reliquarylaw.MergeLess'. -/
def mergeLessCard : Claim7 := { stood := { row := mergeLessRow, standIns := [], harness := (true, "d5ce3429abdc72df2aa29a222e637951f9129cdfad291b2a7c2ae718c4c29100"), looks := false }, kinds := [], alts := [], laidByText := true, laidKinds := [.data, .pinned], laidTests := true, laidLooks := .later }
def MergeLessCardSaid : Prop := Claim7.holds Tryd.pinned (.plain (OpenSpec.ofChange mergeLessSpec)) mergeLessCard

/-- THE SECOND FORM's CARD OF 'reliquarylaw.MergeLess'. -/
def mergeLessUptoCard : Claim7 := { stood := { row := mergeLessUptoRow, standIns := [], harness := (true, "d5ce3429abdc72df2aa29a222e637951f9129cdfad291b2a7c2ae718c4c29100"), looks := false }, kinds := [], alts := [], laidByText := true, laidKinds := [.data, .pinned], laidTests := true, laidLooks := .later }
def MergeLessUptoCardSaid : Prop := Claim7.holds Tryd.pinned (.plain (OpenSpec.upto mergeLessSpec)) mergeLessUptoCard
end Rows
end Go.Proofs.YtfojmdbpjkkpbaiDoor
