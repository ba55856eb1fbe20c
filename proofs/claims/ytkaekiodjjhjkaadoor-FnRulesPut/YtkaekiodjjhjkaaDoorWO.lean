/- Opening an argument of type []Rule. -/
import Derived.Test.YtkaekiodjjhjkaaDoorWJ
import Derived.WalkKit
import Derived.ProofKit
import Derived.OpenShut
import Derived.ShutString
import Derived.ChangeOld
import Derived.Below
import Derived.Deep.Slices
namespace Go.Proofs.YtkaekiodjjhjkaaDoor
open Go.ChangeShapes Go.WideShapes Go.ChangeAt Go.RowKit Go.Deep
set_option linter.unusedVariables false
theorem own : ownKnob Tryd.prog.godebug = none := by kernel_rfl
theorem laidOut : laidOutB Tryd.prog = true := by kernel_rfl
theorem list5 {α : Type} {cs : List α} (h : cs.length = 5) : ∃ a b c d e, cs = [a, b, c, d, e] := by
  match cs, h with
  | [a, b, c, d, e], _ => exact ⟨a, b, c, d, e, rfl⟩
/-- What a law is handed: rules, in a row that was there, or none. -/
def ArgRu (w : World) (a : Option Addr) (n : Nat) (f : Nat → Ru) : Prop := n = 0 ∨ ∃ b p, a = some ⟨b, p, none⟩ ∧ RowAt w b p n 5 fun i => (f i).arr
end Go.Proofs.YtkaekiodjjhjkaaDoor
