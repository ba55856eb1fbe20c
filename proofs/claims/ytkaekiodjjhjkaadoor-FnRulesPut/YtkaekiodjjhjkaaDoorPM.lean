/- Contracts of the draws: the constants. -/
import Derived.Test.YtkaekiodjjhjkaaDoorPL
namespace Go.Proofs.YtkaekiodjjhjkaaDoor
open Go.RowKit
set_option linter.unusedVariables false
set_option linter.unusedSimpArgs false

/-- The cells of a list of ints that was just made. -/
theorem fresh_ints (w : World) (l : List Int) (t : TypeId) (i : Nat) (hi : i < l.length) :
    (w.alloc (.cells (l.map fun v => Value.int .i64 v).toArray t (0, 0))).cell? ⟨w.heap.size, i, none⟩ = some (.int .i64 (l.getD i 0)) := by
  have hb : (w.alloc (.cells (l.map fun v => Value.int .i64 v).toArray t (0, 0))).heap[w.heap.size]? = some (.cells (l.map fun v => Value.int .i64 v).toArray t (0, 0)) := by
    show (w.heap.push _)[w.heap.size]? = _
    simp
  simp only [World.cell?, hb]
  simp [hi]

set_option maxRecDepth 100000 in
set_option maxHeartbeats 2000000 in
/-- One of a list that was just made: the value is in the list. -/
theorem one_of {w0 w : World} {B : Nat} {a : Option Addr} {len cap p : Nat} (h : RS w0 w B a len cap p) (hp : p ≤ 1000000) (l : List Int) (t : TypeId) (m0 : 0 < l.length) (m1 : l.length ≤ 1000) :
    Calls Tryd.prog 27 #[.pointer (some ⟨B, 0, none⟩), .slice (some ⟨w.heap.size, 0, none⟩) l.length l.length] (w.alloc (.cells (l.map fun v => Value.int .i64 v).toArray t (0, 0)))
      fun e w' => ∃ v : Int, v ∈ l ∧ e = .returned (.int .i64 v) ∧ RS w0 w' B a len cap (p + 1) := by
  refine (one_s (h.alloc _) hp w.heap.size l.length (fun i => l.getD i 0) (by have := h.lt; omega) m0 m1 (fun i hi => fresh_ints w l t i hi)).mono ?_
  rintro e w' ⟨i, hi, rfl, h1, -, -⟩
  refine ⟨l.getD i 0, ?_, rfl, h1⟩
  simp [hi]

end Go.Proofs.YtkaekiodjjhjkaaDoor
