/- Contracts: what jumps ask (RangeHolds) of both, and the walk of its law. -/
import Derived.Test.YtnebjocnbfoafaaDM
namespace Go.Proofs.Ytnebjocnbfoafaa
open Go.RowKit Go.MapKept
set_option linter.unusedVariables false
set_option linter.unusedSimpArgs false

abbrev fnV (k : Nat) : Value := .func (.func k) #[] #[]
def holdsB (op a b : Int) : Bool := if op = 12 then a == b else if op = 13 then a != b else if op = 14 then decide (a < b) else decide (b < a)
def holdsI (op a b : Int) : Bool := inB op 12 15 && inB a 0 4294967295 && inB b 0 4294967295 && holdsB op a b

end Go.Proofs.Ytnebjocnbfoafaa
