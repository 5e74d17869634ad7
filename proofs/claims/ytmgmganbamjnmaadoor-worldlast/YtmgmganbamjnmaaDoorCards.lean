/-
  DERIVED. GIVEN WITH THE SEED: THE CARDS: each row of YtmgmganbamjnmaaDoorRows.lean that lists a variable, with what it lists TIED to the program's text (the seventh form; the later family's looks); each row that meets fmt, with fmt's text TOLD by the authors' own Lean function (tested against real Go, not proved from fmt's source: count such statements apart). THE CARD IS WHAT COUNTS. Prove the row's statement (the work); the ties are given (YtmgmganbamjnmaaDoorTie.lean); close each card by the builder's one call (the guide's Derived/Test/ToyasCard.lean, 'card_holds'). Laid BY PROGRAM, IN A SANDBOX (cutbox-door.mjs). By AI agents, Wed Nov 11 2026. No macro, syntax, notation, axiom, sorry.
-/
import Derived.Test.YtmgmganbamjnmaaDoorRows
import GoSem.ClaimSeven
namespace Go.Proofs.YtmgmganbamjnmaaDoor
namespace Rows

/-- THE TIED CARD OF 'reliquarylaw.WorldSettles'. -/
def worldSettlesCard : Claim7 := { stood := { row := worldSettlesRow, standIns := [], harness := (true, "7f46d3925ec50f80351bd73c8465c42a67db23c0a89586c228f46d9933c2924b"), looks := false }, kinds := [], alts := [], laidByText := true, laidKinds := [.data, .pinned], laidTests := true, laidLooks := .later }
def WorldSettlesCardSaid : Prop := Claim7.holds Tryd.pinned (.plain (OpenSpec.ofChange worldSettlesSpec)) worldSettlesCard

/-- THE TIED CARD OF 'reliquarylaw.WorldLast'. -/
def worldLastCard : Claim7 := { stood := { row := worldLastRow, standIns := [], harness := (true, "7f46d3925ec50f80351bd73c8465c42a67db23c0a89586c228f46d9933c2924b"), looks := false }, kinds := [], alts := [], laidByText := true, laidKinds := [.data, .pinned], laidTests := true, laidLooks := .later }
def WorldLastCardSaid : Prop := Claim7.holds Tryd.pinned (.plain (OpenSpec.ofChange worldLastSpec)) worldLastCard

/-- THE SECOND FORM's CARD OF 'reliquarylaw.WorldSettles'. -/
def worldSettlesUptoCard : Claim7 := { stood := { row := worldSettlesUptoRow, standIns := [], harness := (true, "7f46d3925ec50f80351bd73c8465c42a67db23c0a89586c228f46d9933c2924b"), looks := false }, kinds := [], alts := [], laidByText := true, laidKinds := [.data, .pinned], laidTests := true, laidLooks := .later }
def WorldSettlesUptoCardSaid : Prop := Claim7.holds Tryd.pinned (.plain (OpenSpec.upto worldSettlesSpec)) worldSettlesUptoCard

/-- THE SECOND FORM's CARD OF 'reliquarylaw.WorldLast'. -/
def worldLastUptoCard : Claim7 := { stood := { row := worldLastUptoRow, standIns := [], harness := (true, "7f46d3925ec50f80351bd73c8465c42a67db23c0a89586c228f46d9933c2924b"), looks := false }, kinds := [], alts := [], laidByText := true, laidKinds := [.data, .pinned], laidTests := true, laidLooks := .later }
def WorldLastUptoCardSaid : Prop := Claim7.holds Tryd.pinned (.plain (OpenSpec.upto worldLastSpec)) worldLastUptoCard
end Rows
end Go.Proofs.YtmgmganbamjnmaaDoor
