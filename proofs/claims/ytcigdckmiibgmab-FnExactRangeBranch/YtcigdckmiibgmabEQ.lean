/- Equal ranges; a box behind an allocation. -/
import Derived.Test.YtcigdckmiibgmabRK
namespace Go.Proofs.Ytcigdckmiibgmab
open Go.RowKit
set_option linter.unusedVariables false
set_option linter.unusedSimpArgs false

theorem Box4.alloc {k : Nat} {lo hi b o : Int} {w1 : World} (h : Box4 k lo hi b o w1) (hk : k < w1.heap.size) (obj : Obj) : Box4 k lo hi b o (w1.alloc obj) :=
  h.below ((Below.refl _ _).alloc (Nat.le_refl _) _) hk

set_option maxRecDepth 100000 in
set_option maxHeartbeats 1000000 in
theorem c_eqRange (lo hi b o : Int) (w : World) :
    Calls Try.prog 16 #[rv lo hi b o, rv lo hi b o] w fun e w' => e = .returned (.bool true) ∧ Below w.heap.size w w' := by
  go_enter Try.func16, Try.ntmps16
  go_wp2
  go_ret
  exact ⟨rfl, newB w _ _⟩
end Go.Proofs.Ytcigdckmiibgmab
