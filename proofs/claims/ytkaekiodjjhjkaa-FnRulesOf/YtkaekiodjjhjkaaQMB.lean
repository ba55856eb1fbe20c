/- Plain mathematics of ranges: ok, some, tidy, meet, join, within. -/
import Derived.Test.YtkaekiodjjhjkaaQMA
namespace Go.Proofs.Ytkaekiodjjhjkaa
open Go.RowKit
set_option linter.unusedVariables false
set_option linter.unusedSimpArgs false

structure OkN (l u x y : Nat) : Prop where
  le : l ≤ u
  hi : u ≤ 4294967295
  b : x ≤ 4294967295
  o : y ≤ 4294967295
  d : x &&& y = 0
theorem OkN.lo {lo hi b o : Nat} (h : OkN lo hi b o) : lo ≤ 4294967295 := Nat.le_trans h.le h.hi

/-! Join -/
/-! Meet -/
/-! Within -/
end Go.Proofs.Ytkaekiodjjhjkaa
