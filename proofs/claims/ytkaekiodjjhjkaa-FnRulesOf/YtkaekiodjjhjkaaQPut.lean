/- Contracts of InsPut. -/
import Derived.Test.YtkaekiodjjhjkaaQOk2
import Derived.WalkKit
import Derived.WalkSpells
import Derived.WalkLawsBesides
import Derived.Laws.BitsAllLaws
import Derived.Laws.BytesArg
import Derived.Deep.RegionHeld3
namespace Go.Proofs.Ytkaekiodjjhjkaa
open Go.RowKit
set_option linter.unusedSimpArgs false
set_option linter.unusedSimpArgs false

def fourN (n : Int) : List Int := [n % 256, n / 256 % 256, n / 65536 % 256, n / 16777216 % 256]
def headN (o d s f z : Int) : List Int := [o % 256, (d * 16 + s + 1) % 256, f % 256, z % 256]

def putS (o d s f i z : Int) : ByteArray := strOfNums (headN o d s f z ++ fourN i)
end Go.Proofs.Ytkaekiodjjhjkaa
