/- Opening an argument of type []byte. -/
import Derived.Test.YtkaekiodjjhjkaaDoorRows
import Derived.Test.YtkaekiodjjhjkaaDoorPN
import Derived.WalkKit
import Derived.ProofKit
import Derived.OpenShut
import Derived.ChangeSlices
import Derived.ChangeOld
import Derived.Below
namespace Go.Proofs.YtkaekiodjjhjkaaDoor
open Go.ChangeShapes Go.WideShapes Go.ChangeAt Go.RowKit

theorem own : ownKnob Tryd.prog.godebug = none := by kernel_rfl
theorem laidOut : laidOutB Tryd.prog = true := by kernel_rfl
theorem cellsB : Tryd.prog.cellsOf 5 = 1 := by kernel_rfl

set_option maxRecDepth 100000 in
theorem open_bytes {H : Type} {enc : TypeId × Value → H} {w : World} {r : Reach} {b0 base : Nat} {spare : Nat → Bool} {held : Bool} {v : Value} {d0 : DataW H} {p : List MemPlace}
    (hv : Value.okWide Tryd.prog w r b0 22 v) (h : DataW.Trod enc Tryd.prog w base spare held 22 v d0 p) :
    ∃ (a : Option Addr) (len cap : Nat), v = .slice a len cap ∧ len ≤ cap ∧ cap < 2 ^ 63 ∧ Src w a len := by
  obtain ⟨a, len, cap, rfl⟩ := okWide_slice Tryd.underlying22 hv
  obtain ⟨fuel, hf⟩ := h
  rcases Go.ChangeShapes.open_ints Tryd.underlying22 Tryd.underlying5 cellsB hf with ⟨hcs, _⟩ | ⟨x, len', cap', zs, hcs, _, hl, hm, hz, _, hc, hw⟩
  · simp [Value.cells] at hcs
    obtain ⟨rfl, rfl, rfl⟩ := hcs
    exact ⟨none, 0, 0, rfl, Nat.le_refl _, by decide, .inl rfl⟩
  · simp [Value.cells] at hcs
    obtain ⟨rfl, rfl, rfl⟩ := hcs
    refine ⟨_, _, _, rfl, hl, Nat.lt_of_le_of_lt hm (by decide), ?_⟩
    have hlz : len ≤ zs.length := by rw [hz]; split <;> omega
    by_cases h0 : len = 0
    · exact .inl h0
    have c0 := hc 0 (by omega)
    obtain ⟨b, off, spot⟩ := x
    have hspot : spot = none := by
      have := World.cell?_spot c0
      simpa [Addr.add] using this
    subst hspot
    refine .inr ⟨b, off, rfl, ?_, fun j hj => ?_⟩
    · have := World.block_lt_of_cell? w _ c0
      simpa [Addr.add] using this
    · have c := hc j (by omega)
      have hj2 : j < zs.length := by omega
      have hmem : zs.getD j 0 ∈ zs := by simp [hj2]
      have wf := hw _ hmem
      rw [Addr.add_lit] at c
      have k : 0 ≤ zs.getD j 0 ∧ zs.getD j 0 < 256 := by
        simp only [Lit.wf, Bool.and_eq_true] at wf
        have l1 : (0 : Int) ≤ zs.getD j 0 := of_decide_eq_true wf.1
        have l2 : zs.getD j 0 ≤ (255 : Int) := of_decide_eq_true wf.2
        omega
      refine ⟨(zs.getD j 0).toNat, by omega, ?_⟩
      rw [c, Int.toNat_of_nonneg k.1]
end Go.Proofs.YtkaekiodjjhjkaaDoor
