/- Contracts: RangeJoin of both. -/
import Derived.Test.YtcopcajleonndaaQRQ
namespace Go.Proofs.Ytcopcajleonndaa
open Go.RowKit
set_option linter.unusedVariables false
set_option linter.unusedSimpArgs false

/-- There is a number of the range, whatever it is. -/
def someI (lo hi b o : Int) : Bool := okB lo hi b o && someN lo.toNat hi.toNat b.toNat o.toNat
theorem someI_nat {L H B O : Nat} (h : OkN L H B O) : someI L H B O = someN L H B O := by
  rw [someI, okB_of h]; simp
theorem someI_bad {lo hi b o : Int} (h : okB lo hi b o = false) : someI lo hi b o = false := by simp [someI, h]
theorem someI_yes {lo hi b o : Int} (h : someI lo hi b o = true) : ∃ L H B O : Nat, lo = L ∧ hi = H ∧ b = B ∧ o = O ∧ OkN L H B O ∧ someN L H B O = true := by
  simp [someI] at h
  obtain ⟨L, H, B, O, rfl, rfl, rfl, rfl, k⟩ := ok_nat h.1
  exact ⟨L, H, B, O, rfl, rfl, rfl, rfl, k, by simpa using h.2⟩
theorem c_RangeSomeI (lo hi b o : Int) (w : World) :
    Calls Try.prog 53 #[rv lo hi b o] w fun e w' => e = .returned (.bool (someI lo hi b o)) ∧ Below w.heap.size w w' := by
  cases hok : okB lo hi b o
  · rw [someI_bad hok]; exact c_RangeSome_bad lo hi b o w hok
  · obtain ⟨L, H, B, O, rfl, rfl, rfl, rfl, h⟩ := ok_nat hok
    rw [someI_nat h]; exact c_RangeSome L H B O w h

end Go.Proofs.Ytcopcajleonndaa
