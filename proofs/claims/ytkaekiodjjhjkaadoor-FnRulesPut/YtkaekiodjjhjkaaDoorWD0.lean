/- Decimals. -/
import Derived.Test.YtkaekiodjjhjkaaDoorSV
import Derived.Laws.BytesArg
namespace Go.Proofs.YtkaekiodjjhjkaaDoor
open Go.RowKit
set_option linter.unusedVariables false
set_option linter.unusedSimpArgs false
/-- A number in decimals. -/
def decS (n : Nat) : ByteArray := if h : n < 10 then strOfNums [48 + (n : Int)] else decS (n / 10) ++ strOfNums [48 + ((n % 10 : Nat) : Int)]
theorem decS_lt {n : Nat} (h : n < 10) : decS n = strOfNums [48 + (n : Int)] := by rw [decS, dif_pos h]
theorem decS_ge {n : Nat} (h : ¬ n < 10) : decS n = decS (n / 10) ++ strOfNums [48 + ((n % 10 : Nat) : Int)] := by rw [decS, dif_neg h]
theorem decS_size : ∀ (k n : Nat), n < 10 ^ (k + 1) → (decS n).size ≤ k + 1
  | 0, n, h => by rw [decS_lt (by simpa using h)]; simp [strOfNums, ByteArray.size]
  | k + 1, n, h => by
    by_cases h1 : n < 10
    · rw [decS_lt h1]; simp [strOfNums, ByteArray.size]
    · rw [decS_ge h1]
      have := decS_size k (n / 10) (by rw [Nat.pow_succ] at h; omega)
      have e : (strOfNums [48 + ((n % 10 : Nat) : Int)]).size = 1 := by simp [strOfNums, ByteArray.size]
      rw [ByteArray.size_append, e]
      omega

end Go.Proofs.YtkaekiodjjhjkaaDoor
