/- szInsS, eqInsS; the walk of the law FnExactProgForm. -/
import Derived.Test.YtbbecofgmodfiaaGreatDoorToS
import Derived.Deep.RegionHeld3
namespace Go.Proofs.YtbbecofgmodfiaaGreatDoor
open Go.RowKit
set_option linter.unusedSimpArgs false

/-- An argument of type []Ins: empty, or a row of ops. -/
def ArgRow (w : World) (a : Option Addr) (xs : List I6) : Prop := xs = [] ∨ ∃ b p, a = some ⟨b, p, none⟩ ∧ b < w.heap.size ∧ InsRow w b p xs
theorem ArgRow.below {w w' : World} {a : Option Addr} {xs : List I6} {B : Nat} (h : ArgRow w a xs) (hb : Below B w w') (hB : w.heap.size ≤ B) : ArgRow w' a xs := by
  rcases h with h | ⟨b, p, rfl, hlt, hr⟩
  · exact .inl h
  · exact .inr ⟨b, p, rfl, by have := hb.size; omega, hr.below hb (by omega)⟩

end Go.Proofs.YtbbecofgmodfiaaGreatDoor
