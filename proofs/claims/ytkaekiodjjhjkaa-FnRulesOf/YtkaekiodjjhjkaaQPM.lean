/- Contracts of the draws: the constants. -/
import Derived.Test.YtkaekiodjjhjkaaQPL
namespace Go.Proofs.Ytkaekiodjjhjkaa
open Go.RowKit
set_option linter.unusedVariables false
set_option linter.unusedSimpArgs false

/-- The cells of a list of ints that was just made. -/
theorem fresh_ints (w : World) (l : List Int) (t : TypeId) (i : Nat) (hi : i < l.length) :
    (w.alloc (.cells (l.map fun v => Value.int .i64 v).toArray t (0, 0))).cell? ⟨w.heap.size, i, none⟩ = some (.int .i64 (l.getD i 0)) := by
  have hb : (w.alloc (.cells (l.map fun v => Value.int .i64 v).toArray t (0, 0))).heap[w.heap.size]? = some (.cells (l.map fun v => Value.int .i64 v).toArray t (0, 0)) := by
    show (w.heap.push _)[w.heap.size]? = _
    simp
  simp only [World.cell?, hb]
  simp [hi]

end Go.Proofs.Ytkaekiodjjhjkaa
