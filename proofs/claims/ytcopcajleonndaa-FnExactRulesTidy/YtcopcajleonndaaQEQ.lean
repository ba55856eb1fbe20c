/- Equal ranges; a box behind an allocation. -/
import Derived.Test.YtcopcajleonndaaQRK
namespace Go.Proofs.Ytcopcajleonndaa
open Go.RowKit
set_option linter.unusedVariables false
set_option linter.unusedSimpArgs false

theorem Box4.alloc {k : Nat} {lo hi b o : Int} {w1 : World} (h : Box4 k lo hi b o w1) (hk : k < w1.heap.size) (obj : Obj) : Box4 k lo hi b o (w1.alloc obj) :=
  h.below ((Below.refl _ _).alloc (Nat.le_refl _) _) hk

end Go.Proofs.Ytcopcajleonndaa
