/- Contracts: RangeHas, RangeOne, RangeOk of both. -/
import Derived.Test.YtnebjocnbfoafaaRM
namespace Go.Proofs.Ytnebjocnbfoafaa
open Go.RowKit
set_option linter.unusedVariables false
set_option linter.unusedSimpArgs false

def hasI (lo hi b o n : Int) : Bool := okB lo hi b o && decide (lo ≤ n) && decide (n ≤ hi) && hasN b.toNat o.toNat n.toNat

set_option maxRecDepth 100000 in
set_option maxHeartbeats 1000000 in
theorem c_RangeHas_bad (lo hi b o n : Int) (w : World) (h : okB lo hi b o = false) :
    Calls Try.prog 10 #[rv lo hi b o, .int .i64 n] w fun e w' => e = .returned (.bool false) ∧ Below w.heap.size w w' := by
  go_enter Try.func10, Try.ntmps10
  go_wp2_with fail
  refine (c_RangeOk lo hi b o _).mono ?_
  rintro e w1 ⟨rfl, hb1⟩
  rw [h]
  go_wp2_with fail
  go_ret
  exact ⟨rfl, ((Below.refl _ _).alloc (Nat.le_refl _) _).trans (hb1.mono (by simp))⟩

set_option maxRecDepth 100000 in
set_option maxHeartbeats 1000000 in
theorem c_RangeHas_out (lo hi b o : Nat) (n : Int) (w : World) (h : OkN lo hi b o) (hn : n < lo ∨ hi < n) :
    Calls Try.prog 10 #[rv lo hi b o, .int .i64 n] w fun e w' => e = .returned (.bool false) ∧ Below w.heap.size w w' := by
  have Hok := hid (okB_of h)
  clear h
  rcases hn with hn | hn
  all_goals
    go_enter Try.func10, Try.ntmps10
    go_wp2_with fail
    refine (c_RangeOk lo hi b o _).mono ?_
    rintro e w1 ⟨rfl, hb1⟩
    have b1 := (Box4.new w lo hi b o 24).below hb1 (by simp)
    obtain ⟨c0, c1, c2, c3⟩ := b1
    rw [Hok.out]
    go_wp2
    all_goals (go_ret; exact ⟨rfl, ((Below.refl _ _).alloc (Nat.le_refl _) _).trans (hb1.mono (by simp))⟩)

set_option maxRecDepth 100000 in
set_option maxHeartbeats 1000000 in
theorem c_RangeHas_in (lo hi b o n : Nat) (w : World) (h : OkN lo hi b o) (h1 : lo ≤ n) (h2 : n ≤ hi) :
    Calls Try.prog 10 #[rv lo hi b o, .int .i64 n] w fun e w' => e = .returned (.bool (hasN b o n)) ∧ Below w.heap.size w w' := by
  have Hok := hid (okB_of h)
  have Hn := hid h
  have g1 : (lo : Int) ≤ n := by omega
  have g2 : (n : Int) ≤ hi := by omega
  clear h
  go_enter Try.func10, Try.ntmps10
  go_wp2_with fail
  refine (c_RangeOk lo hi b o _).mono ?_
  rintro e w1 ⟨rfl, hb1⟩
  have b1 := (Box4.new w lo hi b o 24).below hb1 (by simp)
  have bel1 : Below w.heap.size w w1 := ((Below.refl _ _).alloc (Nat.le_refl _) _).trans (hb1.mono (by simp))
  obtain ⟨c0, c1, c2, c3⟩ := b1
  rw [Hok.out]
  go_wp2_with fail
  refine (c_hasBits _ _ b o n _ Hn.out.b Hn.out.o (Nat.le_trans h2 Hn.out.hi)).mono ?_
  rintro e w2 ⟨rfl, hb2⟩
  go_wp2_with fail
  go_ret
  exact ⟨rfl, bel1.trans (hb2.mono bel1.size)⟩

theorem has_in {lo hi b o n : Nat} (h : OkN lo hi b o) : hasI lo hi b o n = (decide (lo ≤ n) && decide (n ≤ hi) && hasN b o n) := by
  rw [hasI, okB_of h]
  simp

theorem c_RangeHas (lo hi b o n : Int) (w : World) :
    Calls Try.prog 10 #[rv lo hi b o, .int .i64 n] w fun e w' => e = .returned (.bool (hasI lo hi b o n)) ∧ Below w.heap.size w w' := by
  cases hok : okB lo hi b o
  · rw [show hasI lo hi b o n = false by simp [hasI, hok]]
    exact c_RangeHas_bad lo hi b o n w hok
  · obtain ⟨L, H, B, O, rfl, rfl, rfl, rfl, h⟩ := ok_nat hok
    by_cases g : n < L ∨ (H : Int) < n
    · rw [show hasI L H B O n = false by simp [hasI]; omega]
      exact c_RangeHas_out L H B O n w h g
    · obtain ⟨N, rfl⟩ := Int.eq_ofNat_of_zero_le (show 0 ≤ n by omega)
      rw [has_in h, show (decide (L ≤ N) && decide (N ≤ H)) = true by simp; omega, Bool.true_and]
      exact c_RangeHas_in L H B O N w h (by omega) (by omega)

end Go.Proofs.Ytnebjocnbfoafaa
