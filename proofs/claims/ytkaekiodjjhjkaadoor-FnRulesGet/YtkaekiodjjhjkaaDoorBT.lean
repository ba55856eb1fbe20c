/- A keep-relation handed on. -/
import Derived.Below
import Derived.WalkKit
namespace Go.Proofs.YtkaekiodjjhjkaaDoor
open Go.RowKit
theorem _root_.Go.RowKit.Below.to {w w1 w2 : World} (h : Below w.heap.size w w1) (h2 : Below w1.heap.size w1 w2) : Below w.heap.size w w2 := h.trans (h2.mono h.size)
end Go.Proofs.YtkaekiodjjhjkaaDoor
