/-
  For any bytes the law ZipAgain answers true: what is read of any archive, however it was packed, is written and read again. No condition is asked; the listed tables of Go's library (the law does not read them) are tied to the program's text as given.
-/
import Derived.Test.YtcdnbiiaoaeflaiGreatDoorQ48
import Derived.Test.YtcdnbiiaoaeflaiGreatDoorTie
import Derived.Test.YtcdnbiiaoaeflaiGreatDoorCards
import Derived.ChangeMaps5
import Derived.SizedLaws
import Derived.LaidMore
import Derived.Lay
import Derived.SevenTiedAt
import Derived.Stop.Joined
namespace Go.Proofs.YtcdnbiiaoaeflaiGreatDoor.zipAgain
open Go.ChangeShapes Go.WideShapes Go.ChangeAt Go.RowKit Go.ChangeMaps Go.Deep
set_option linter.unusedVariables false
set_option maxRecDepth 100000
end Go.Proofs.YtcdnbiiaoaeflaiGreatDoor.zipAgain
namespace Go.Proofs.YtcdnbiiaoaeflaiGreatDoor
theorem zipAgain_holds : Rows.ZipAgainCardSaid := zipAgain.card
end Go.Proofs.YtcdnbiiaoaeflaiGreatDoor
