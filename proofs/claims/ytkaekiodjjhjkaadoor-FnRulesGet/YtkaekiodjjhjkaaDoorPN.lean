/- Contracts of the draws: a reader opened; the draws of numbers. -/
import Derived.Test.YtkaekiodjjhjkaaDoorPM
namespace Go.Proofs.YtkaekiodjjhjkaaDoor
open Go.RowKit
set_option linter.unusedVariables false
set_option linter.unusedSimpArgs false

/-- The bytes of an argument. -/
def Src (w : World) (a : Option Addr) (len : Nat) : Prop :=
  len = 0 ∨ ∃ g off, a = some ⟨g, off, none⟩ ∧ g < w.heap.size ∧ ∀ j, j < len → ∃ v : Nat, v < 256 ∧ w.cell? ⟨g, off + j, none⟩ = some (.int .u8 v)

theorem RS.new (w : World) (a : Option Addr) (len cap n : Nat) (hs : Src w a len) (hn : n ≤ len) (h2 : n ≤ 2000) :
    RS w (w.alloc (.cells #[.slice a n cap, .int .i64 0] 52 (0, 0))) w.heap.size a n cap 0 := by
  refine ⟨?_, Nat.le_refl _, (Below.refl _ _).alloc (Nat.le_refl _) _, ?_, h2⟩
  · show (w.heap.push _)[w.heap.size]? = _
    simp
  · rcases hs with h0 | ⟨g, off, ha, hg, hc⟩
    · exact .inl (by omega)
    · exact .inr ⟨g, off, ha, hg, fun j hj => hc j (by omega)⟩

set_option maxRecDepth 100000 in
set_option maxHeartbeats 2000000 in
theorem open_s (w : World) (a : Option Addr) (len cap : Nat) (hc : len ≤ cap) (hs : Src w a len) (hl : cap < 2 ^ 63) :
    Calls Tryd.prog 15 #[.slice a len cap] w fun e w' => ∃ (n : Nat), e = .returned (.pointer (some ⟨w.heap.size, 0, none⟩)) ∧ RS w w' w.heap.size a n cap 0 := by
  have HS := hid hs
  clear hs
  go_enter Tryd.func15, Tryd.ntmps15
  go_wp2_with fail
  · go_ret
    exact ⟨2000, rfl, RS.new w a len cap 2000 HS.out (by omega) (by omega)⟩
  · go_ret
    exact ⟨len, rfl, RS.new w a len cap len HS.out (by omega) (by omega)⟩

end Go.Proofs.YtkaekiodjjhjkaaDoor
