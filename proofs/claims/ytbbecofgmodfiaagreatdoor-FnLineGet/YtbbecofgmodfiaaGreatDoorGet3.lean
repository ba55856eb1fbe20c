/- InsGet of the specification; eqIns; the walk of the law FnExactInsGet. -/
import Derived.Test.YtbbecofgmodfiaaGreatDoorGet2
namespace Go.Proofs.YtbbecofgmodfiaaGreatDoor
open Go.RowKit
set_option linter.unusedSimpArgs false

theorem or_low (a b k m : Nat) (hm : m = 2 ^ k) (ha : a < m) : a ||| b * m = a + b * m := by
  subst hm
  have := Nat.two_pow_add_eq_or_of_lt ha b
  rw [Nat.or_comm, Nat.mul_comm b, ← this]; omega
theorem imm_sum (b4 b5 b6 b7 : UInt8) : immO b4 b5 b6 b7 = (b4.toNat : Int) + b5.toNat * 256 + b6.toNat * 65536 + b7.toNat * 16777216 := by
  have h4 := b4.toNat_lt
  have h5 := b5.toNat_lt
  have h6 := b6.toNat_lt
  have h7 := b7.toNat_lt
  unfold immO
  rw [show ((b5.toNat : Int) * 256) = ((b5.toNat * 256 : Nat) : Int) from by omega, b_or_i64 _ _ (by omega) (by omega), or_low _ _ 8 256 (by decide) (by omega),
    show ((b6.toNat : Int) * 65536) = ((b6.toNat * 65536 : Nat) : Int) from by omega, b_or_i64 _ _ (by omega) (by omega), or_low _ _ 16 65536 (by decide) (by omega),
    show ((b7.toNat : Int) * 16777216) = ((b7.toNat * 16777216 : Nat) : Int) from by omega, b_or_i64 _ _ (by omega) (by omega), or_low _ _ 24 16777216 (by decide) (by omega)]
  omega
theorem byte_of (b : UInt8) (n : Int) (h : n = (b.toNat : Int)) : UInt8.ofNat n.toNat = b := by
  subst h; simp
theorem put_get (b0 b1 b2 b3 b4 b5 b6 b7 : UInt8) : putS (b0.toNat : Int) ((b1.toNat : Int) / 16) ((b1.toNat : Int) % 16 - 1) (offV b2) (immO b4 b5 b6 b7) (b3.toNat : Int) = ⟨#[b0, b1, b2, b3, b4, b5, b6, b7]⟩ := by
  have h0 := b0.toNat_lt
  have h1 := b1.toNat_lt
  have h2 := b2.toNat_lt
  have h3 := b3.toNat_lt
  have h4 := b4.toNat_lt
  have h5 := b5.toNat_lt
  have h6 := b6.toNat_lt
  have h7 := b7.toNat_lt
  unfold putS headN fourN strOfNums
  rw [imm_sum]
  simp only [List.cons_append, List.nil_append, List.map_cons, List.map_nil]
  rw [byte_of b0 _ (by omega), byte_of b1 _ (by omega), byte_of b2 _ (by unfold offV; split <;> omega), byte_of b3 _ (by omega), byte_of b4 _ (by omega), byte_of b5 _ (by omega), byte_of b6 _ (by omega), byte_of b7 _ (by omega)]

end Go.Proofs.YtbbecofgmodfiaaGreatDoor
