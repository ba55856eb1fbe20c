/- Contracts: the specification's join of two ranges. -/
import Derived.Test.YtcopcajleonndaaQEQ
namespace Go.Proofs.Ytcopcajleonndaa
open Go.RowKit
set_option linter.unusedVariables false
set_option linter.unusedSimpArgs false

abbrev cellsR4 (x y z u : Int) : Obj := .cells #[.int .i64 x, .int .i64 y, .int .i64 z, .int .i64 u] 54
/-- The world in which a function of two ranges, whose answer is one, begins. -/
abbrev two (w : World) (a b c d e f g h : Int) : World := ((w.alloc (cellsR4 a b c d)).alloc (cellsR4 e f g h)).alloc (cellsR4 0 0 0 0)
theorem twoA (w : World) (a b c d e f g h : Int) : RBox (two w a b c d e f g h) w.heap.size a b c d := ((RBox.new w a b c d).alloc _).alloc _
theorem twoB (w : World) (a b c d e f g h : Int) : RBox (two w a b c d e f g h) (w.heap.size + 1) e f g h := by
  have h0 := (RBox.new (w.alloc (cellsR4 a b c d)) e f g h).alloc (cellsR4 0 0 0 0)
  simp only [World.size_alloc] at h0
  exact h0
theorem twoQ (w : World) (a b c d e f g h : Int) : RBox (two w a b c d e f g h) (w.heap.size + 2) 0 0 0 0 := by
  have h0 := RBox.new ((w.alloc (cellsR4 a b c d)).alloc (cellsR4 e f g h)) 0 0 0 0
  simp only [World.size_alloc] at h0
  exact h0
theorem twoW (w : World) (a b c d e f g h : Int) : Below w.heap.size w (two w a b c d e f g h) := (newB w _ _).alloc (by simp; omega) _

end Go.Proofs.Ytcopcajleonndaa
