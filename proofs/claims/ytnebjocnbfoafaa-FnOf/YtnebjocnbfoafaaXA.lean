/- What is used by the laws that draw, of every kind. -/
import Derived.Test.YtnebjocnbfoafaaPN
import Derived.Test.YtnebjocnbfoafaaRX
namespace Go.Proofs.Ytnebjocnbfoafaa
open Go.RowKit
set_option linter.unusedVariables false
set_option linter.unusedSimpArgs false
theorem _root_.Go.RowKit.Below.to {w w1 w2 : World} (h : Below w.heap.size w w1) (h2 : Below w1.heap.size w1 w2) : Below w.heap.size w w2 := h.trans (h2.mono h.size)
end Go.Proofs.Ytnebjocnbfoafaa
