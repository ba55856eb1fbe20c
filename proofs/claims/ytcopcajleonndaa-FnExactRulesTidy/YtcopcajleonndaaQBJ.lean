/- Branches: both part alike, whatever is asked. -/
import Derived.Test.YtcopcajleonndaaQBI
namespace Go.Proofs.Ytcopcajleonndaa
open Go.RowKit
set_option linter.unusedVariables false
set_option linter.unusedSimpArgs false

abbrev someP (p : Int × Int × Int × Int) : Bool := someI p.1 p.2.1 p.2.2.1 p.2.2.2
abbrev noP : Int × Int × Int × Int := (1, 0, 0, 0)
theorem low0 (a b c d e f g h : Int) : lowQ a b c d e f g h 0 = (someI a (min b f) c d && someI (max e a) f g h) := by
  rw [lowQ, Int.sub_zero, Int.add_zero]

/-! the same, another one -/
def meetP (a b c d e f g h : Nat) : Int × Int × Int × Int := (((tLo (max a e) (min b f) (c ||| g) : Nat) : Int), ((tHi (max a e) (min b f) (c ||| g) (d &&& h) : Nat) : Int), ((tB (max a e) (min b f) (c ||| g) : Nat) : Int), ((tO (max a e) (min b f) (d &&& h) : Nat) : Int))
theorem someP_meet {a b c d e f g h : Nat} (A : OkN a b c d) (B : OkN e f g h) (hm : meetB a b c d e f g h = true) : someP (meetP a b c d e f g h) = true := by
  obtain ⟨hc, J, hs⟩ := meet_yes A B hm
  obtain ⟨n, _, hn⟩ := of_some J hs
  show someI _ _ _ _ = true
  rw [meetP]
  dsimp only
  rw [someI_nat (tidy_ok J hn)]
  exact some_of (tidy_ok J hn) (tidy_of J hn)
theorem impl_meet_no (a b c d e f g h : Nat) (A : OkN a b c d) (B : OkN e f g h) (hm : meetB a b c d e f g h = false) (w : World) :
    Calls Try.prog 66 #[rv a b c d, rv e f g h] w fun ee w' => ee = .returned (.tuple #[rv 1 0 0 0, .bool false]) ∧ Below w.heap.size w w' := by
  by_cases hc : clashN c d g h = 0
  · refine c_Meet_no4 a b c d e f g h w A B hc (fun w => ?_)
    by_cases hle : max a e ≤ min b f
    · have J := meet_ok A B hle
      have e1 : decide (max a e ≤ min b f) = true := by simpa using hle
      have e2 : (clashN c d g h == 0) = true := by simpa using hc
      rw [meetB, e2, e1] at hm
      have := c_RangeSome (max a e) (min b f) (c ||| g) (d &&& h) w J
      rw [show someN (max a e) (min b f) (c ||| g) (d &&& h) = false by simpa using hm, show ((max a e : Nat) : Int) = max (a : Int) e by omega, show ((min b f : Nat) : Int) = min (b : Int) f by omega] at this
      exact this
    · exact c_RangeSome_bad _ _ _ _ w (by simp [okB, inB]; omega)
  · exact c_Meet_no3 a b c d e f g h w A B hc
theorem impl_meet_yes (a b c d e f g h : Nat) (A : OkN a b c d) (B : OkN e f g h) (hm : meetB a b c d e f g h = true) (w : World) :
    Calls Try.prog 66 #[rv a b c d, rv e f g h] w fun ee w' => ee = .returned (.tuple #[rvP (meetP a b c d e f g h), .bool true]) ∧ Below w.heap.size w w' := by
  obtain ⟨hc, J, hs⟩ := meet_yes A B hm
  exact c_Meet_yes a b c d e f g h w A B hc J hs

end Go.Proofs.Ytcopcajleonndaa
