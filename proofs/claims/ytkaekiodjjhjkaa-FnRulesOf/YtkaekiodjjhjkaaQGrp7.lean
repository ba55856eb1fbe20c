/- TableOk of the program. -/
import Derived.Test.YtkaekiodjjhjkaaQTD
import Derived.RangeFuncNested
import Derived.RangeFuncBound
import Derived.RangeFuncCalls
import Derived.RangeFuncLeaves
import Derived.RangeFuncBox
import Derived.Shelf.Abstract
import Derived.WalkKit
import Derived.OwnWalkIn
import Derived.TacticsInMore
import Derived.LoopNIn
import Derived.LoopIn
namespace Go.Proofs.Ytkaekiodjjhjkaa.G
open Go.RowKit
set_option linter.unusedSimpArgs false

/-- The call answered a bool that says whether P holds. -/
def Ans (e : Ending) (P : Prop) : Prop := ∃ q : Bool, e = .returned (.bool q) ∧ (q = true ↔ P)
theorem Ans.no {P : Prop} (h : ¬ P) : Ans (.returned (.bool false)) P := ⟨false, rfl, by simp, fun hp => absurd hp h⟩
end Go.Proofs.Ytkaekiodjjhjkaa.G
namespace Go.Proofs.Ytkaekiodjjhjkaa.G
open Go.RowKit Go.Shelf
set_option linter.unusedSimpArgs false
attribute [local go_sem] Oper.semAt_some

abbrev Pr := Int × ByteArray
def PairAt (w : World) (b p : Nat) (x : Pr) : Prop := w.cell? ⟨b, p, none⟩ = some (.int .i64 x.1) ∧ w.cell? ⟨b, p + 1, none⟩ = some (.string x.2)
def PairRow (w : World) (b p : Nat) (ps : List Pr) : Prop := ∀ k (h : k < ps.length), PairAt w b (p + k * 2) ps[k]
/-- A value of the type pairs, below block n₀. -/
def ArgP (n₀ : Nat) (w : World) (a : Option Addr) (ps : List Pr) : Prop := ps = [] ∨ ∃ b p, a = some ⟨b, p, none⟩ ∧ b < n₀ ∧ PairRow w b p ps
theorem ArgP.below {n₀ : Nat} {w w' : World} {a : Option Addr} {ps : List Pr} (h : ArgP n₀ w a ps) (hb : Below n₀ w w') : ArgP n₀ w' a ps := by
  rcases h with h | ⟨b, p, rfl, hlt, hr⟩
  · exact .inl h
  · exact .inr ⟨b, p, rfl, hlt, fun k hk => ⟨(hb.cell hlt).trans (hr k hk).1, (hb.cell hlt).trans (hr k hk).2⟩⟩
end Go.Proofs.Ytkaekiodjjhjkaa.G
