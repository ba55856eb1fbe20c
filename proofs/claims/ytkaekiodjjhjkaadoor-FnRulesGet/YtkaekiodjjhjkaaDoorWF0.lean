/- A text looked for among others. -/
import Derived.Test.YtkaekiodjjhjkaaDoorSV
namespace Go.Proofs.YtkaekiodjjhjkaaDoor
open Go.RowKit
set_option linter.unusedVariables false
set_option linter.unusedSimpArgs false
/-- The first of n texts that is s; -1, if there is none. -/
def findM (f : Nat → ByteArray) (n : Nat) (s : ByteArray) : Int := match (List.range n).find? fun i => (f i).toList == s.toList with
  | some i => (i : Int)
  | none => -1
theorem find_first {p : Nat → Bool} : ∀ {n i : Nat}, i < n → p i = true → (∀ j, j < i → p j = false) → (List.range n).find? p = some i
  | 0, i, h, _, _ => by omega
  | n + 1, i, h, hp, ha => by
    rw [List.range_succ, List.find?_append]
    rcases Nat.lt_or_ge i n with h1 | h1
    · rw [find_first h1 hp ha]; rfl
    · obtain rfl : i = n := by omega
      rw [List.find?_eq_none.2 fun j hj => by rw [ha j (List.mem_range.1 hj)]; decide]
      simp [hp]
theorem findM_hit {f : Nat → ByteArray} {n i : Nat} {s : ByteArray} (hi : i < n) (h : ((f i).toList == s.toList) = true) (ha : ∀ j, j < i → ((f j).toList == s.toList) = false) : findM f n s = (i : Int) := by
  rw [findM, find_first hi h ha]
theorem findM_none {f : Nat → ByteArray} {n : Nat} {s : ByteArray} (ha : ∀ j, j < n → ((f j).toList == s.toList) = false) : findM f n s = -1 := by
  rw [findM, List.find?_eq_none.2 fun j hj => by rw [ha j (List.mem_range.1 hj)]; decide]
end Go.Proofs.YtkaekiodjjhjkaaDoor
