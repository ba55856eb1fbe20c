/- A box behind an allocation. -/
import Derived.Test.YtnebjocnbfoafaaRL
namespace Go.Proofs.Ytnebjocnbfoafaa
open Go.RowKit
theorem Box4.alloc {k : Nat} {lo hi b o : Int} {w1 : World} (h : Box4 k lo hi b o w1) (hk : k < w1.heap.size) (obj : Obj) : Box4 k lo hi b o (w1.alloc obj) :=
  h.below ((Below.refl _ _).alloc (Nat.le_refl _) _) hk
end Go.Proofs.Ytnebjocnbfoafaa
