/- A text cut at a byte. -/
import Derived.Test.YtkaekiodjjhjkaaDoorSV
namespace Go.Proofs.YtkaekiodjjhjkaaDoor
open Go.RowKit
set_option linter.unusedVariables false
set_option linter.unusedSimpArgs false
/-- A text cut at a byte: what is left, from where, what there is already. -/
def cutN (s : ByteArray) (c most : Nat) : Nat → Nat → Nat → List ByteArray → List ByteArray
  | 0, i, fr, out => out ++ [s.extract fr s.size]
  | k + 1, i, fr, out => if out.length < most then (if byteAt s i = c then cutN s c most k (i + 1) (i + 1) (out ++ [s.extract fr i]) else cutN s c most k (i + 1) fr out) else out ++ [s.extract fr s.size]
def cutM (s : ByteArray) (c most : Nat) : List ByteArray := cutN s c most s.size 0 0 []
theorem cutN_hit {s : ByteArray} {c most i fr : Nat} {out R : List ByteArray} (hi : i < s.size) (hm : out.length < most) (hb : byteAt s i = c) (h : cutN s c most (s.size - i) i fr out = R) : cutN s c most (s.size - (i + 1)) (i + 1) (i + 1) (out ++ [s.extract fr i]) = R := by
  rw [show s.size - i = (s.size - (i + 1)) + 1 by omega, cutN, if_pos hm, if_pos hb] at h; exact h
theorem cutN_miss {s : ByteArray} {c most i fr : Nat} {out R : List ByteArray} (hi : i < s.size) (hm : out.length < most) (hb : ¬ byteAt s i = c) (h : cutN s c most (s.size - i) i fr out = R) : cutN s c most (s.size - (i + 1)) (i + 1) fr out = R := by
  rw [show s.size - i = (s.size - (i + 1)) + 1 by omega, cutN, if_pos hm, if_neg hb] at h; exact h
theorem cutN_end {s : ByteArray} {c most i fr : Nat} {out R : List ByteArray} (h0 : ¬ i < s.size ∨ ¬ out.length < most) (h : cutN s c most (s.size - i) i fr out = R) : R = out ++ [s.extract fr s.size] := by
  rcases Nat.lt_or_ge i s.size with hi | hi
  · rw [show s.size - i = (s.size - (i + 1)) + 1 by omega, cutN, if_neg (by omega)] at h; exact h.symm
  · rw [show s.size - i = 0 by omega, cutN] at h; exact h.symm
end Go.Proofs.YtkaekiodjjhjkaaDoor
