/- Contracts of the draws: any range; a range and a number. -/
import Derived.Test.YtnebjocnbfoafaaPS
namespace Go.Proofs.Ytnebjocnbfoafaa
open Go.RowKit
set_option linter.unusedVariables false
set_option linter.unusedSimpArgs false

theorem open_k (w : World) (a : Option Addr) (len cap : Nat) (hc : len ≤ cap) (hs : Src w a len) (hl : cap < 2 ^ 63) :
    Calls Try.prog 14 #[.slice a len cap] w fun e w' => ∃ (n : Nat), e = .returned (.pointer (some ⟨w.heap.size, 0, none⟩)) ∧ RS w w' w.heap.size a n cap 0 := open_s w a len cap hc hs hl

theorem Src.alloc {w : World} {a : Option Addr} {len : Nat} (h : Src w a len) (o : Obj) : Src (w.alloc o) a len := by
  rcases h with h0 | ⟨g, off, ha, hg, hc⟩
  · exact .inl h0
  · refine .inr ⟨g, off, ha, by simp; omega, fun j hj => ?_⟩
    obtain ⟨v, hv, hcv⟩ := hc j hj
    exact ⟨v, hv, (World.cell?_of_block (w := w) (Below.heap_alloc w o g hg)).trans hcv⟩
theorem Src.below {w w' : World} {a : Option Addr} {len : Nat} (h : Src w a len) (hb : Below w.heap.size w w') : Src w' a len := by
  rcases h with h0 | ⟨g, off, ha, hg, hc⟩
  · exact .inl h0
  · refine .inr ⟨g, off, ha, Nat.lt_of_lt_of_le hg hb.size, fun j hj => ?_⟩
    obtain ⟨v, hv, hcv⟩ := hc j hj
    exact ⟨v, hv, (hb.cell (p := ⟨g, off + j, none⟩) hg).trans hcv⟩

end Go.Proofs.Ytnebjocnbfoafaa
