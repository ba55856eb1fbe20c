/- The law of rules' programs: its walk. -/
import Derived.Test.YtcopcajleonndaaQIVW
import Derived.Test.YtcopcajleonndaaQRA2
import Derived.Test.YtcopcajleonndaaQRLW
namespace Go.Proofs.Ytcopcajleonndaa
open Go.RowKit
set_option linter.unusedVariables false
set_option linter.unusedSimpArgs false
theorem Rw.fit {cur : Array Value} {n cap sz : Nat} {xs : List Value} (h : Rw cur n cap sz xs) : n * sz ≤ cur.size := by
  rw [h.room]; exact Nat.mul_le_mul_right _ h.le
theorem RuRow.fit {cur : Array Value} {f : Nat → Ru} {n : Nat} (h : RuRow cur f n) : n * 5 ≤ cur.size := by
  rcases Nat.eq_zero_or_pos n with rfl | hp
  · omega
  · have h1 := h (n - 1) (by omega) 4 (by omega)
    have : cur[0 + (n - 1) * 5 + 4]? = some (.int .i64 (f (n - 1)).key) := h1
    have := (Array.getElem?_eq_some_iff.1 this).1
    omega
end Go.Proofs.Ytcopcajleonndaa
