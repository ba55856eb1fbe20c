/- Contracts: RangeHas, RangeOne, RangeOk of both. -/
import Derived.Test.YteiglpijjffneaaRM
namespace Go.Proofs.Yteiglpijjffneaa
open Go.RowKit
set_option linter.unusedVariables false
set_option linter.unusedSimpArgs false

def hasI (lo hi b o n : Int) : Bool := okB lo hi b o && decide (lo ≤ n) && decide (n ≤ hi) && hasN b.toNat o.toNat n.toNat

set_option maxRecDepth 100000 in
set_option maxHeartbeats 1000000 in
theorem c_RangeHas_bad (lo hi b o n : Int) (w : World) (h : okB lo hi b o = false) :
    Calls Try.prog 19 #[rv lo hi b o, .int .i64 n] w fun e w' => e = .returned (.bool false) ∧ Below w.heap.size w w' := by
  go_enter Try.func19, Try.ntmps19
  go_wp2_with fail
  refine (c_RangeOk lo hi b o _).mono ?_
  rintro e w1 ⟨rfl, hb1⟩
  rw [h]
  go_wp2_with fail
  go_ret
  exact ⟨rfl, ((Below.refl _ _).alloc (Nat.le_refl _) _).trans (hb1.mono (by simp))⟩

set_option maxRecDepth 100000 in
set_option maxHeartbeats 1000000 in
theorem c_RangeHas_out (lo hi b o : Nat) (n : Int) (w : World) (h : OkN lo hi b o) (hn : n < lo ∨ hi < n) :
    Calls Try.prog 19 #[rv lo hi b o, .int .i64 n] w fun e w' => e = .returned (.bool false) ∧ Below w.heap.size w w' := by
  have Hok := hid (okB_of h)
  clear h
  rcases hn with hn | hn
  all_goals
    go_enter Try.func19, Try.ntmps19
    go_wp2_with fail
    refine (c_RangeOk lo hi b o _).mono ?_
    rintro e w1 ⟨rfl, hb1⟩
    have b1 := (Box4.new w lo hi b o 29).below hb1 (by simp)
    obtain ⟨c0, c1, c2, c3⟩ := b1
    rw [Hok.out]
    go_wp2
    all_goals (go_ret; exact ⟨rfl, ((Below.refl _ _).alloc (Nat.le_refl _) _).trans (hb1.mono (by simp))⟩)

set_option maxRecDepth 100000 in
set_option maxHeartbeats 1000000 in
theorem c_RangeHas_in (lo hi b o n : Nat) (w : World) (h : OkN lo hi b o) (h1 : lo ≤ n) (h2 : n ≤ hi) :
    Calls Try.prog 19 #[rv lo hi b o, .int .i64 n] w fun e w' => e = .returned (.bool (hasN b o n)) ∧ Below w.heap.size w w' := by
  have Hok := hid (okB_of h)
  have Hn := hid h
  have g1 : (lo : Int) ≤ n := by omega
  have g2 : (n : Int) ≤ hi := by omega
  clear h
  go_enter Try.func19, Try.ntmps19
  go_wp2_with fail
  refine (c_RangeOk lo hi b o _).mono ?_
  rintro e w1 ⟨rfl, hb1⟩
  have b1 := (Box4.new w lo hi b o 29).below hb1 (by simp)
  have bel1 : Below w.heap.size w w1 := ((Below.refl _ _).alloc (Nat.le_refl _) _).trans (hb1.mono (by simp))
  obtain ⟨c0, c1, c2, c3⟩ := b1
  rw [Hok.out]
  go_wp2_with fail
  refine (c_hasBits _ _ b o n _ Hn.out.b Hn.out.o (Nat.le_trans h2 Hn.out.hi)).mono ?_
  rintro e w2 ⟨rfl, hb2⟩
  go_wp2_with fail
  go_ret
  exact ⟨rfl, bel1.trans (hb2.mono bel1.size)⟩

set_option maxRecDepth 100000 in
set_option maxHeartbeats 1000000 in
theorem c_specHas_bad (lo hi b o n : Int) (w : World) (h : okB lo hi b o = false) :
    Calls Try.prog 23 #[rv lo hi b o, .int .i64 n] w fun e w' => e = .returned (.bool false) ∧ Below w.heap.size w w' := by
  go_enter Try.func23, Try.ntmps23
  go_wp2_with fail
  refine (c_l2Ok lo hi b o _).mono ?_
  rintro e w1 ⟨rfl, hb1⟩
  rw [h]
  go_wp2_with fail
  go_ret
  exact ⟨rfl, ((Below.refl _ _).alloc (Nat.le_refl _) _).trans (hb1.mono (by simp))⟩

set_option maxRecDepth 100000 in
set_option maxHeartbeats 1000000 in
theorem c_specHas_no (lo hi b o : Nat) (n : Int) (w : World) (h : OkN lo hi b o) (hn : inB n 0 4294967295 = false) :
    Calls Try.prog 23 #[rv lo hi b o, .int .i64 n] w fun e w' => e = .returned (.bool false) ∧ Below w.heap.size w w' := by
  have Hok := hid (okB_of h)
  clear h
  go_enter Try.func23, Try.ntmps23
  go_wp2_with fail
  refine (c_l2Ok lo hi b o _).mono ?_
  rintro e w1 ⟨rfl, hb1⟩
  rw [Hok.out]
  go_wp2_with (first | (go_at_call 49; refine (c_l2Top _).mono ?_; rintro e w' ⟨rfl, rfl⟩) | (go_at_call 48; refine (c_l1In _ _ _ _).mono ?_; rintro e w' ⟨rfl, rfl⟩))
  go_ret
  exact ⟨rfl, ((Below.refl _ _).alloc (Nat.le_refl _) _).trans (hb1.mono (by simp))⟩

set_option maxRecDepth 100000 in
set_option maxHeartbeats 1000000 in
theorem c_l2Has (lo hi b o n : Nat) (w : World) (hb : b ≤ 4294967295) (ho : o ≤ 4294967295) (hn : n ≤ 4294967295) :
    Calls Try.prog 61 #[rv lo hi b o, .int .i64 n] w fun e w' => e = .returned (.bool (decide (lo ≤ n) && decide (n ≤ hi) && hasN b o n)) ∧ Below w.heap.size w w' := by
  have e1 := xor_top o ho
  have l1 := not_le ho
  have e2 := and_i64 n (notB o) (by omega) (by omega)
  have Hh : Hid (hasN b o n = (((n &&& notB o : Nat) : Int) == (b : Int))) := by
    rw [Bool.eq_iff_iff, hasN, beq_iff_eq, beq_iff_eq]
    exact ⟨fun h => by rw [h], fun h => Int.ofNat.inj h⟩
  generalize n &&& notB o = N1 at *
  generalize notB o = O1 at *
  by_cases g1 : (lo : Int) ≤ n
  · by_cases g2 : (n : Int) ≤ hi
    · have k1 : (decide (lo ≤ n) && decide (n ≤ hi)) = true := by simp; omega
      rw [k1, Bool.true_and]
      clear k1
      go_enter Try.func61, Try.ntmps61
      go_wp2_with fail
      go_quiet ((go_at_call 49; exact Calls.quiet_of_same (c_l2Top _)))
      go_wp2
      go_ret
      exact ⟨ret_bool Hh.out.symm, drewN_below ((Below.refl _ _).alloc (Nat.le_refl _) _) _⟩
    · have g2' : decide ((n : Int) ≤ hi) = false := by simpa using g2
      have g2n : decide (n ≤ hi) = false := by simp; omega
      have g2l : hi < n := by omega
      have k1 : (decide (lo ≤ n) && decide (n ≤ hi)) = false := by simp; omega
      rw [k1, Bool.false_and]
      clear k1
      go_enter Try.func61, Try.ntmps61
      go_wp2_with fail
      go_quiet ((go_at_call 49; exact Calls.quiet_of_same (c_l2Top _)))
      go_wp2
      go_ret
      exact ⟨rfl, drewN_below ((Below.refl _ _).alloc (Nat.le_refl _) _) _⟩
  · have g1' : decide ((lo : Int) ≤ n) = false := by simpa using g1
    have g1n : decide (lo ≤ n) = false := by simp; omega
    have g1l : n < lo := by omega
    have k1 : (decide (lo ≤ n) && decide (n ≤ hi)) = false := by simp; omega
    rw [k1, Bool.false_and]
    clear k1
    go_enter Try.func61, Try.ntmps61
    go_wp2_with fail
    go_quiet ((go_at_call 49; exact Calls.quiet_of_same (c_l2Top _)))
    go_wp2
    go_ret
    exact ⟨rfl, drewN_below ((Below.refl _ _).alloc (Nat.le_refl _) _) _⟩

set_option maxRecDepth 100000 in
set_option maxHeartbeats 1000000 in
theorem c_specHas_num (lo hi b o n : Nat) (w : World) (h : OkN lo hi b o) (hn : n ≤ 4294967295) :
    Calls Try.prog 23 #[rv lo hi b o, .int .i64 n] w fun e w' => e = .returned (.bool (decide (lo ≤ n) && decide (n ≤ hi) && hasN b o n)) ∧ Below w.heap.size w w' := by
  have Hok := hid (okB_of h)
  have Hn := hid h
  have hi1 : inB n 0 4294967295 = true := by simp [inB]; omega
  clear h
  go_enter Try.func23, Try.ntmps23
  go_wp2_with fail
  refine (c_l2Ok lo hi b o _).mono ?_
  rintro e w1 ⟨rfl, hb1⟩
  have b1 := (Box4.new w lo hi b o 29).below hb1 (by simp)
  have bel1 : Below w.heap.size w w1 := ((Below.refl _ _).alloc (Nat.le_refl _) _).trans (hb1.mono (by simp))
  obtain ⟨c0, c1, c2, c3⟩ := b1
  rw [Hok.out]
  go_wp2_with (first | (go_at_call 49; refine (c_l2Top _).mono ?_; rintro e w' ⟨rfl, rfl⟩) | (go_at_call 48; refine (c_l1In _ _ _ _).mono ?_; rintro e w' ⟨rfl, rfl⟩))
  refine (c_l2Has lo hi b o n _ Hn.out.b Hn.out.o hn).mono ?_
  rintro e w2 ⟨rfl, hb2⟩
  go_wp2_with fail
  go_ret
  exact ⟨rfl, bel1.trans (hb2.mono bel1.size)⟩

theorem has_in {lo hi b o n : Nat} (h : OkN lo hi b o) : hasI lo hi b o n = (decide (lo ≤ n) && decide (n ≤ hi) && hasN b o n) := by
  rw [hasI, okB_of h]
  simp

theorem c_RangeHas (lo hi b o n : Int) (w : World) :
    Calls Try.prog 19 #[rv lo hi b o, .int .i64 n] w fun e w' => e = .returned (.bool (hasI lo hi b o n)) ∧ Below w.heap.size w w' := by
  cases hok : okB lo hi b o
  · rw [show hasI lo hi b o n = false by simp [hasI, hok]]
    exact c_RangeHas_bad lo hi b o n w hok
  · obtain ⟨L, H, B, O, rfl, rfl, rfl, rfl, h⟩ := ok_nat hok
    by_cases g : n < L ∨ (H : Int) < n
    · rw [show hasI L H B O n = false by simp [hasI]; omega]
      exact c_RangeHas_out L H B O n w h g
    · obtain ⟨N, rfl⟩ := Int.eq_ofNat_of_zero_le (show 0 ≤ n by omega)
      rw [has_in h, show (decide (L ≤ N) && decide (N ≤ H)) = true by simp; omega, Bool.true_and]
      exact c_RangeHas_in L H B O N w h (by omega) (by omega)

theorem c_specHas (lo hi b o n : Int) (w : World) :
    Calls Try.prog 23 #[rv lo hi b o, .int .i64 n] w fun e w' => e = .returned (.bool (hasI lo hi b o n)) ∧ Below w.heap.size w w' := by
  cases hok : okB lo hi b o
  · rw [show hasI lo hi b o n = false by simp [hasI, hok]]
    exact c_specHas_bad lo hi b o n w hok
  · obtain ⟨L, H, B, O, rfl, rfl, rfl, rfl, h⟩ := ok_nat hok
    have hH := h.hi
    cases hn : inB n 0 4294967295
    · have : ¬ (0 ≤ n ∧ n ≤ 4294967295) := by intro g; simp [inB] at hn; omega
      rw [show hasI L H B O n = false by simp [hasI]; omega]
      exact c_specHas_no L H B O n w h hn
    · simp [inB] at hn
      obtain ⟨N, rfl⟩ := Int.eq_ofNat_of_zero_le hn.1
      rw [has_in h]
      exact c_specHas_num L H B O N w h (by omega)
end Go.Proofs.Yteiglpijjffneaa
