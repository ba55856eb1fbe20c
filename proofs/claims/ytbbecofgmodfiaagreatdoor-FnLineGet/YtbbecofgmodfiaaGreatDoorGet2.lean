/- Contracts of InsGet of the program. -/
import Derived.Test.YtbbecofgmodfiaaGreatDoorGet
namespace Go.Proofs.YtbbecofgmodfiaaGreatDoor
open Go.RowKit
set_option linter.unusedSimpArgs false

theorem src_eq (b : UInt8) : wrap64 (wrap64 ((b.toNat : Int) % 16) - 1) = (b.toNat : Int) % 16 - 1 := by
  unfold wrap64; omega
theorem wrap_i8 (n : Int) : IntKind.i8.wrap n = (n + 128) % 256 - 128 := by
  simp [IntKind.wrap, IntKind.bits, IntKind.signed]
  split <;> omega
theorem off_eq (b : UInt8) : wrap64 (IntKind.i8.wrap (b.toNat : Int)) = offV b := by
  have := b.toNat_lt
  unfold wrap64 offV
  rw [wrap_i8]
  split <;> omega
theorem imm_eq (b4 b5 b6 b7 : UInt8) : bits BinOp.or IntKind.i64 (bits BinOp.or IntKind.i64 (bits BinOp.or IntKind.i64 (b4.toNat : Int) ((b5.toNat : Int) * 256)) ((b6.toNat : Int) * 65536)) ((b7.toNat : Int) * 16777216) = immO b4 b5 b6 b7 := rfl

end Go.Proofs.YtbbecofgmodfiaaGreatDoor
