/-
  DERIVED. GIVEN WITH THE SEED: THE CARDS: each row of YtnhddmganijilaiDoorRows.lean that lists a variable, with what it lists TIED to the program's text (the seventh form; the later family's looks); each row that meets fmt, with fmt's text TOLD by the authors' own Lean function (tested against real Go, not proved from fmt's source: count such statements apart). THE CARD IS WHAT COUNTS. Prove the row's statement (the work); the ties are given (YtnhddmganijilaiDoorTie.lean); close each card by the builder's one call (the guide's Derived/Test/ToyasCard.lean, 'card_holds'). Laid BY PROGRAM, IN A SANDBOX (cutbox-door.mjs). By AI agents, Wed Nov 11 2026. No macro, syntax, notation, axiom, sorry.
-/
import Derived.Test.YtnhddmganijilaiDoorRows
import GoSem.ClaimSeven
namespace Go.Proofs.YtnhddmganijilaiDoor
namespace Rows

/-- THE TIED CARD OF 'reliquarylaw.MergeLess'. -/
def mergeLessCard : Claim7 := { stood := { row := mergeLessRow, standIns := [], harness := (true, "cae6f2272ade9d77f70ec77e2fe76f60230af79b72b2df8fe806f05fdbf78ce4"), looks := false }, kinds := [], alts := [], laidByText := true, laidKinds := [.data, .pinned], laidTests := true, laidLooks := .later }
def MergeLessCardSaid : Prop := Claim7.holds Tryd.pinned (.plain (OpenSpec.ofChange mergeLessSpec)) mergeLessCard

/-- THE TIED CARD OF 'reliquarylaw.WorldGrows'. -/
def worldGrowsCard : Claim7 := { stood := { row := worldGrowsRow, standIns := [], harness := (true, "cae6f2272ade9d77f70ec77e2fe76f60230af79b72b2df8fe806f05fdbf78ce4"), looks := false }, kinds := [], alts := [], laidByText := true, laidKinds := [.data, .pinned], laidTests := true, laidLooks := .later }
def WorldGrowsCardSaid : Prop := Claim7.holds Tryd.pinned (.plain (OpenSpec.ofChange worldGrowsSpec)) worldGrowsCard

/-- THE TIED CARD OF 'reliquarylaw.WorldOrder'. -/
def worldOrderCard : Claim7 := { stood := { row := worldOrderRow, standIns := [], harness := (true, "cae6f2272ade9d77f70ec77e2fe76f60230af79b72b2df8fe806f05fdbf78ce4"), looks := false }, kinds := [], alts := [], laidByText := true, laidKinds := [.data, .pinned], laidTests := true, laidLooks := .later }
def WorldOrderCardSaid : Prop := Claim7.holds Tryd.pinned (.plain (OpenSpec.ofChange worldOrderSpec)) worldOrderCard

/-- THE TIED CARD OF 'reliquarylaw.WorldNet'. -/
def worldNetCard : Claim7 := { stood := { row := worldNetRow, standIns := [], harness := (true, "cae6f2272ade9d77f70ec77e2fe76f60230af79b72b2df8fe806f05fdbf78ce4"), looks := false }, kinds := [], alts := [], laidByText := true, laidKinds := [.data, .pinned], laidTests := true, laidLooks := .later }
def WorldNetCardSaid : Prop := Claim7.holds Tryd.pinned (.plain (OpenSpec.ofChange worldNetSpec)) worldNetCard

/-- THE SECOND FORM's CARD OF 'reliquarylaw.MergeLess'. -/
def mergeLessUptoCard : Claim7 := { stood := { row := mergeLessUptoRow, standIns := [], harness := (true, "cae6f2272ade9d77f70ec77e2fe76f60230af79b72b2df8fe806f05fdbf78ce4"), looks := false }, kinds := [], alts := [], laidByText := true, laidKinds := [.data, .pinned], laidTests := true, laidLooks := .later }
def MergeLessUptoCardSaid : Prop := Claim7.holds Tryd.pinned (.plain (OpenSpec.upto mergeLessSpec)) mergeLessUptoCard

/-- THE SECOND FORM's CARD OF 'reliquarylaw.WorldGrows'. -/
def worldGrowsUptoCard : Claim7 := { stood := { row := worldGrowsUptoRow, standIns := [], harness := (true, "cae6f2272ade9d77f70ec77e2fe76f60230af79b72b2df8fe806f05fdbf78ce4"), looks := false }, kinds := [], alts := [], laidByText := true, laidKinds := [.data, .pinned], laidTests := true, laidLooks := .later }
def WorldGrowsUptoCardSaid : Prop := Claim7.holds Tryd.pinned (.plain (OpenSpec.upto worldGrowsSpec)) worldGrowsUptoCard

/-- THE SECOND FORM's CARD OF 'reliquarylaw.WorldOrder'. -/
def worldOrderUptoCard : Claim7 := { stood := { row := worldOrderUptoRow, standIns := [], harness := (true, "cae6f2272ade9d77f70ec77e2fe76f60230af79b72b2df8fe806f05fdbf78ce4"), looks := false }, kinds := [], alts := [], laidByText := true, laidKinds := [.data, .pinned], laidTests := true, laidLooks := .later }
def WorldOrderUptoCardSaid : Prop := Claim7.holds Tryd.pinned (.plain (OpenSpec.upto worldOrderSpec)) worldOrderUptoCard

/-- THE SECOND FORM's CARD OF 'reliquarylaw.WorldNet'. -/
def worldNetUptoCard : Claim7 := { stood := { row := worldNetUptoRow, standIns := [], harness := (true, "cae6f2272ade9d77f70ec77e2fe76f60230af79b72b2df8fe806f05fdbf78ce4"), looks := false }, kinds := [], alts := [], laidByText := true, laidKinds := [.data, .pinned], laidTests := true, laidLooks := .later }
def WorldNetUptoCardSaid : Prop := Claim7.holds Tryd.pinned (.plain (OpenSpec.upto worldNetSpec)) worldNetUptoCard
end Rows
end Go.Proofs.YtnhddmganijilaiDoor
