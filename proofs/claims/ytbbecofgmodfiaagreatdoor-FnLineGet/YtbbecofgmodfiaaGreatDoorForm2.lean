/- ProgForm of the program; the specification's, called by its name. -/
import Derived.Test.YtbbecofgmodfiaaGreatDoorForm
namespace Go.Proofs.YtbbecofgmodfiaaGreatDoor
open Go.RowKit
set_option linter.unusedSimpArgs false

end Go.Proofs.YtbbecofgmodfiaaGreatDoor
