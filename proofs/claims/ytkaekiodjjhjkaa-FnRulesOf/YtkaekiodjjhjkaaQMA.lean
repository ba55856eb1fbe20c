/- Plain mathematics of ranges: bits of numbers, the least number of a range, tidy ranges. -/
import Derived.WalkKit
import Derived.WalkSpells
import Derived.WalkLawsBesides
import Derived.Laws.BitsAllLaws
import Derived.Laws.MathBits
namespace Go.Proofs.Ytkaekiodjjhjkaa
open Go.RowKit
set_option linter.unusedVariables false
set_option linter.unusedSimpArgs false

theorem hid {p : Prop} (h : p) : Hid p := h
theorem ofInt64 (n : Int) : (BitVec.ofInt 64 n).toNat = (n % 18446744073709551616).toNat := by
  rw [BitVec.toNat_ofInt]; rfl

theorem xor_i64 (a b : Nat) (ha : a < 9223372036854775808) (hb : b < 9223372036854775808) : bits .xor .i64 (a : Int) (b : Int) = ((a ^^^ b : Nat) : Int) := by
  have hx : a ^^^ b < 2 ^ 63 := Nat.xor_lt_two_pow (by omega) (by omega)
  show IntKind.i64.wrap ((BitVec.ofInt 64 (a : Int) ^^^ BitVec.ofInt 64 (b : Int)).toNat : Int) = _
  rw [BitVec.toNat_xor, ofInt64, ofInt64, IntKind.wrap_i64]
  rw [show ((a : Int) % 18446744073709551616).toNat = a from by omega, show ((b : Int) % 18446744073709551616).toNat = b from by omega]
  omega

def top : Nat := 4294967295
/-- All bits of a number of 32 bits turned round. -/
def notB (o : Nat) : Nat := top ^^^ o
/-- The number that is above 'lo' first at bit 'j', and no more than must be below. -/
def cand (lo b j : Nat) : Nat := (lo &&& notB (2 ^ j - 1)) ||| 2 ^ j ||| (b &&& (2 ^ j - 1))
def val (lo b : Nat) : Nat → Nat
  | 0 => lo
  | j + 1 => cand lo b j
end Go.Proofs.Ytkaekiodjjhjkaa
