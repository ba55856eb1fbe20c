/- Rows of ops: made, compared, marked. -/
import Derived.Test.YtcopcajleonndaaQG0
import Derived.Test.YtcopcajleonndaaQWP
namespace Go.Proofs.Ytcopcajleonndaa
open Go.RowKit
set_option linter.unusedVariables false
set_option linter.unusedSimpArgs false
/-- An op. -/
structure Iv where
  op : Int
  dst : Int
  src : Int
  off : Int
  imm : Int
  size : Int
def Iv.arr (r : Iv) : Array Value := #[.int .i64 r.op, .int .i64 r.dst, .int .i64 r.src, .int .i64 r.off, .int .i64 r.imm, .int .i64 r.size]
theorem Iv.one (r : Iv) : r.arr.all (·.oneCell') = true := by kernel_rfl
theorem Iv.sz (r : Iv) : r.arr.size = 6 := rfl
theorem Ru.sz (r : Ru) : r.arr.size = 5 := rfl
/-- The first k of a row of ops. -/
def IvRow (cur : Array Value) (f : Nat → Iv) (k : Nat) : Prop := ∀ i, i < k → ∀ j, j < 6 → cur[0 + i * 6 + j]? = (f i).arr[j]?
theorem IvRow.at {w : World} {b n : Nat} {T : TypeId} {cur : Array Value} {f : Nat → Iv} (h : IvRow cur f n) (hx : BX w b T cur) : RowAt w b 0 n 6 fun i => (f i).arr :=
  ⟨hx.lt, fun i hi j hj => ⟨by rw [hx.cell]; exact h i hi j hj, hj⟩⟩
end Go.Proofs.Ytcopcajleonndaa
