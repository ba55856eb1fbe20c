/- markInsS, heldInsS, and the walk of the law FnExactProgGet. -/
import Derived.Test.YtbbecofgmodfiaaGreatDoorPGet2
namespace Go.Proofs.YtbbecofgmodfiaaGreatDoor
open Go.RowKit
set_option linter.unusedSimpArgs false

def mk6 (c : Int) : I6 := ⟨c, c + 1, c + 1 + 1, c + 1 + 1 + 1, c + 1 + 1 + 1 + 1, c + 1 + 1 + 1 + 1 + 1⟩
/-- The marks that markInsS lays. -/
def Marked (w : World) (g n : Nat) : Prop := ∀ k, k < n → InsAt w g (k * 6) (mk6 (1 + 6 * k))
theorem Marked.below {w w' : World} {g n B : Nat} (h : Marked w g n) (hb : Below B w w') (hB : g < B) : Marked w' g n := fun k hk => (h k hk).below hb hB

end Go.Proofs.YtbbecofgmodfiaaGreatDoor
