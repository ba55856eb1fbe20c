/- What the laws of rules share. -/
import Derived.Test.YtkaekiodjjhjkaaDoorWJ
import Derived.Test.YtkaekiodjjhjkaaDoorWO
namespace Go.Proofs.YtkaekiodjjhjkaaDoor
open Go.RowKit
set_option linter.unusedVariables false
set_option linter.unusedSimpArgs false
def szN (n : Nat) : Int := if decide ((1048576 - ((n : Nat) : Int)) < 0) then -1 else (1048576 - ((n : Nat) : Int))
theorem szN_ge {n : Nat} (h : ¬ szN n < 0) : n ≤ 1048576 := by
  unfold szN at h; split at h <;> simp at h <;> omega
theorem eqRus_same (f : Nat → Ru) (n : Nat) : eqRus f f n n = true := eqRus_yes rfl fun i hi => eqRu_iff.2 rfl
end Go.Proofs.YtkaekiodjjhjkaaDoor
