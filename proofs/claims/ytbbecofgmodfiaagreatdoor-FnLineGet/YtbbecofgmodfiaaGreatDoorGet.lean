/- Contracts of InsGet. -/
import Derived.Test.YtbbecofgmodfiaaGreatDoorPut
import Derived.Deep.RegionHeld3
namespace Go.Proofs.YtbbecofgmodfiaaGreatDoor
open Go.RowKit
set_option linter.unusedSimpArgs false

def immO (b4 b5 b6 b7 : UInt8) : Int := bits BinOp.or IntKind.i64 (bits BinOp.or IntKind.i64 (bits BinOp.or IntKind.i64 (b4.toNat : Int) ((b5.toNat : Int) * 256)) ((b6.toNat : Int) * 65536)) ((b7.toNat : Int) * 16777216)
def offV (b : UInt8) : Int := if 127 < (b.toNat : Int) then (b.toNat : Int) - 256 else (b.toNat : Int)

end Go.Proofs.YtbbecofgmodfiaaGreatDoor
