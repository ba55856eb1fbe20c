/- Contracts: RangeIn of both. -/
import Derived.Test.YteiglpijjffneaaRR
namespace Go.Proofs.Yteiglpijjffneaa
open Go.RowKit
set_option linter.unusedVariables false
set_option linter.unusedSimpArgs false

abbrev pair (w : World) (a b c d e f g h : Int) : World := (w.alloc (cellsR4 a b c d)).alloc (cellsR4 e f g h)
theorem pairA (w : World) (a b c d e f g h : Int) : RBox (pair w a b c d e f g h) w.heap.size a b c d := (RBox.new w a b c d).alloc _
theorem pairB (w : World) (a b c d e f g h : Int) : RBox (pair w a b c d e f g h) (w.heap.size + 1) e f g h := by
  have h0 := RBox.new (w.alloc (cellsR4 a b c d)) e f g h
  simp only [World.size_alloc] at h0
  exact h0
def inR (a b c d e f g h : Nat) : Bool := decide (e ≤ a) && decide (b ≤ f) && (d &&& h == d) && (c &&& notB h == g)
theorem inR_impl {a b c d e f g h : Nat} (A : OkN a b c d) (B : OkN e f g h) : inR a b c d e f g h = (decide (e ≤ a) && decide (b ≤ f) && (d &&& notB h == 0) && ((c ^^^ g) &&& notB h == 0)) := by
  have h1 := in_open d h A.o
  have h2 := in_bits c A.b B
  unfold inR
  rw [show (d &&& notB h == 0) = (d &&& h == d) by rw [Bool.eq_iff_iff, beq_iff_eq, beq_iff_eq]; exact h1,
    show ((c ^^^ g) &&& notB h == 0) = (c &&& notB h == g) by rw [Bool.eq_iff_iff, beq_iff_eq, beq_iff_eq]; exact h2]
theorem beq_cast (m n : Nat) : ((m : Int) == (n : Int)) = (m == n) := by
  rw [Bool.eq_iff_iff, beq_iff_eq, beq_iff_eq]; exact ⟨fun h => Int.ofNat.inj h, fun h => by rw [h]⟩

set_option maxRecDepth 100000 in
set_option maxHeartbeats 2000000 in
theorem c_In_no1 (a b c d e f g h : Int) (w : World) (h1 : someI a b c d = false) :
    Calls Try.prog 39 #[rv a b c d, rv e f g h] w fun ee w' => ee = .returned (.bool false) ∧ Below w.heap.size w w' := by
  have bA0 := hid (pairA w a b c d e f g h)
  have bB0 := hid (pairB w a b c d e f g h)
  have bel0 := hid (newB w (cellsR4 a b c d) (cellsR4 e f g h))
  go_enter Try.func39, Try.ntmps39
  go_wp2_with fail
  refine (c_RangeSomeI _ _ _ _ _).mono ?_
  rintro ee w1 ⟨rfl, hb1⟩
  have bA1 := hid (bA0.out.below hb1)
  have bB1 := hid (bB0.out.below hb1)
  have bel1 := hid (bel0.out.trans (hb1.mono bel0.out.size))
  clear hb1 bA0 bB0 bel0
  rw [h1]
  go_wp2_with fail
  go_ret
  exact ⟨rfl, bel1.out⟩

set_option maxRecDepth 100000 in
set_option maxHeartbeats 2000000 in
theorem c_In_no2 (a b c d e f g h : Int) (w : World) (h1 : someI a b c d = true) (h2 : someI e f g h = false) :
    Calls Try.prog 39 #[rv a b c d, rv e f g h] w fun ee w' => ee = .returned (.bool false) ∧ Below w.heap.size w w' := by
  have bA0 := hid (pairA w a b c d e f g h)
  have bB0 := hid (pairB w a b c d e f g h)
  have bel0 := hid (newB w (cellsR4 a b c d) (cellsR4 e f g h))
  go_enter Try.func39, Try.ntmps39
  go_wp2_with fail
  refine (c_RangeSomeI _ _ _ _ _).mono ?_
  rintro ee w1 ⟨rfl, hb1⟩
  have bA1 := hid (bA0.out.below hb1)
  have bB1 := hid (bB0.out.below hb1)
  have bel1 := hid (bel0.out.trans (hb1.mono bel0.out.size))
  clear hb1 bA0 bB0 bel0
  rw [h1]
  obtain ⟨cB0, cB1, cB2, cB3⟩ := RBox.box bB1.out
  go_wp2_with fail
  refine (c_RangeSomeI _ _ _ _ _).mono ?_
  rintro ee w2 ⟨rfl, hb2⟩
  have bA2 := hid (bA1.out.below hb2)
  have bB2 := hid (bB1.out.below hb2)
  have bel2 := hid (bel1.out.trans (hb2.mono bel1.out.size))
  clear hb2 bA1 bB1 bel1
  rw [h2]
  clear cB0 cB1 cB2 cB3
  go_wp2_with fail
  go_ret
  exact ⟨rfl, bel2.out⟩

set_option maxRecDepth 100000 in
set_option maxHeartbeats 2000000 in
theorem c_In_yes (a b c d e f g h : Nat) (w : World) (A : OkN a b c d) (B : OkN e f g h) (h1 : someN a b c d = true) (h2 : someN e f g h = true) :
    Calls Try.prog 39 #[rv a b c d, rv e f g h] w fun ee w' => ee = .returned (.bool (inR a b c d e f g h)) ∧ Below w.heap.size w w' := by
  have s1 := someI_nat A
  have s2 := someI_nat B
  rw [h1] at s1
  rw [h2] at s2
  have S1 := hid s1
  have S2 := hid s2
  clear s1 s2 h1 h2
  have HI := hid (inR_impl A B)
  have e0 := andNot_i64 d h A.o B.o
  have e1 := xor_i64 c g (by have := A.b; omega) (by have := B.b; omega)
  have l1 : c ^^^ g ≤ 4294967295 := xor_le A.b B.b
  have e2 := andNot_i64 (c ^^^ g) h l1 B.o
  have z1 := hid (beq_cast (d &&& notB h) 0)
  have z2 := hid (beq_cast ((c ^^^ g) &&& notB h) 0)
  clear A B
  generalize d &&& notB h = D0 at *
  generalize (c ^^^ g) &&& notB h = D1 at *
  generalize c ^^^ g = D2 at *
  have bA0 := hid (pairA w a b c d e f g h)
  have bB0 := hid (pairB w a b c d e f g h)
  have bel0 := hid (newB w (cellsR4 a b c d) (cellsR4 e f g h))
  go_enter Try.func39, Try.ntmps39
  go_wp2_with fail
  refine (c_RangeSomeI _ _ _ _ _).mono ?_
  rintro ee w1 ⟨rfl, hb1⟩
  have bA1 := hid (bA0.out.below hb1)
  have bB1 := hid (bB0.out.below hb1)
  have bel1 := hid (bel0.out.trans (hb1.mono bel0.out.size))
  clear hb1 bA0 bB0 bel0
  rw [S1.out]
  obtain ⟨cA0, cA1, cA2, cA3⟩ := RBox.box bA1.out
  obtain ⟨cB0, cB1, cB2, cB3⟩ := RBox.box bB1.out
  go_wp2_with fail
  refine (c_RangeSomeI _ _ _ _ _).mono ?_
  rintro ee w2 ⟨rfl, hb2⟩
  have bA2 := hid (bA1.out.below hb2)
  have bB2 := hid (bB1.out.below hb2)
  have bel2 := hid (bel1.out.trans (hb2.mono bel1.out.size))
  clear hb2 bA1 bB1 bel1
  rw [S2.out]
  clear cA0 cA1 cA2 cA3 cB0 cB1 cB2 cB3
  obtain ⟨cA0, cA1, cA2, cA3⟩ := RBox.box bA2.out
  obtain ⟨cB0, cB1, cB2, cB3⟩ := RBox.box bB2.out
  go_wp2
  all_goals (go_ret; refine ⟨ret_bool ?_, bel2.out⟩; rw [HI.out, ← z1.out, ← z2.out]; first | (simp_all; done) | (simp_all; omega) | (rw [Bool.eq_iff_iff]; simp_all; omega))

set_option maxRecDepth 100000 in
set_option maxHeartbeats 2000000 in
theorem c_l2Within_a (a b c d e f g h : Nat) (w : World) (A : OkN a b c d) (B : OkN e f g h) (k1 : ¬ e ≤ a) :
    Calls Try.prog 68 #[rv a b c d, rv e f g h] w fun ee w' => ee = .returned (.bool (inR a b c d e f g h)) ∧ Below w.heap.size w w' := by
  have e0 := and_i64 d h (by have := A.o; omega) (by have := B.o; omega)
  have e1 := xor_top h B.o
  have l1 := not_le B.o
  have e2 := and_i64 c (notB h) (by have := A.b; omega) (by omega)
  have HI : Hid (inR a b c d e f g h = false) := by show inR a b c d e f g h = false; simp [inR, k1]
  have g1 : decide ((e : Int) ≤ a) = false := by simp; omega
  have g1n : decide (e ≤ a) = false := by simp; omega
  have g1l : a < e := by omega
  clear A B
  generalize d &&& h = D0 at *
  generalize c &&& notB h = D1 at *
  generalize notB h = D2 at *
  go_enter Try.func68, Try.ntmps68
  go_wp2_with fail
  go_quiet ((go_at_call 49; exact Calls.quiet_of_same (c_l2Top _)))
  go_wp2
  go_ret
  exact ⟨ret_bool (by first | exact HI.out.symm | (rw [HI.out]; rfl)), drewN_below (newB w (cellsR4 a b c d) (cellsR4 e f g h)) _⟩

set_option maxRecDepth 100000 in
set_option maxHeartbeats 2000000 in
theorem c_l2Within_b (a b c d e f g h : Nat) (w : World) (A : OkN a b c d) (B : OkN e f g h) (k1 : e ≤ a) (k2 : ¬ b ≤ f) :
    Calls Try.prog 68 #[rv a b c d, rv e f g h] w fun ee w' => ee = .returned (.bool (inR a b c d e f g h)) ∧ Below w.heap.size w w' := by
  have e0 := and_i64 d h (by have := A.o; omega) (by have := B.o; omega)
  have e1 := xor_top h B.o
  have l1 := not_le B.o
  have e2 := and_i64 c (notB h) (by have := A.b; omega) (by omega)
  have HI : Hid (inR a b c d e f g h = false) := by show inR a b c d e f g h = false; simp [inR, k2]
  have g1 : (e : Int) ≤ a := by omega
  have g2 : decide ((b : Int) ≤ f) = false := by simp; omega
  have g2n : decide (b ≤ f) = false := by simp; omega
  have g2l : f < b := by omega
  clear A B
  generalize d &&& h = D0 at *
  generalize c &&& notB h = D1 at *
  generalize notB h = D2 at *
  go_enter Try.func68, Try.ntmps68
  go_wp2_with fail
  go_quiet ((go_at_call 49; exact Calls.quiet_of_same (c_l2Top _)))
  go_wp2
  go_ret
  exact ⟨ret_bool (by first | exact HI.out.symm | (rw [HI.out]; rfl)), drewN_below (newB w (cellsR4 a b c d) (cellsR4 e f g h)) _⟩

set_option maxRecDepth 100000 in
set_option maxHeartbeats 2000000 in
theorem c_l2Within_c (a b c d e f g h : Nat) (w : World) (A : OkN a b c d) (B : OkN e f g h) (k1 : e ≤ a) (k2 : b ≤ f) (k3 : (d &&& h == d) = false) :
    Calls Try.prog 68 #[rv a b c d, rv e f g h] w fun ee w' => ee = .returned (.bool (inR a b c d e f g h)) ∧ Below w.heap.size w w' := by
  have e0 := and_i64 d h (by have := A.o; omega) (by have := B.o; omega)
  have e1 := xor_top h B.o
  have l1 := not_le B.o
  have e2 := and_i64 c (notB h) (by have := A.b; omega) (by omega)
  have HI : Hid (inR a b c d e f g h = false) := by show inR a b c d e f g h = false; simp [inR]; simp at k3; omega
  have g1 : (e : Int) ≤ a := by omega
  have g2 : (b : Int) ≤ f := by omega
  have g3 : (((d &&& h : Nat) : Int) == (d : Int)) = false := by rw [beq_cast]; exact k3
  clear k3
  clear A B
  generalize d &&& h = D0 at *
  generalize c &&& notB h = D1 at *
  generalize notB h = D2 at *
  go_enter Try.func68, Try.ntmps68
  go_wp2_with fail
  go_quiet ((go_at_call 49; exact Calls.quiet_of_same (c_l2Top _)))
  go_wp2
  go_ret
  exact ⟨ret_bool (by first | exact HI.out.symm | (rw [HI.out]; rfl)), drewN_below (newB w (cellsR4 a b c d) (cellsR4 e f g h)) _⟩

set_option maxRecDepth 100000 in
set_option maxHeartbeats 2000000 in
theorem c_l2Within_d (a b c d e f g h : Nat) (w : World) (A : OkN a b c d) (B : OkN e f g h) (k1 : e ≤ a) (k2 : b ≤ f) (k3 : (d &&& h == d) = true) :
    Calls Try.prog 68 #[rv a b c d, rv e f g h] w fun ee w' => ee = .returned (.bool (inR a b c d e f g h)) ∧ Below w.heap.size w w' := by
  have e0 := and_i64 d h (by have := A.o; omega) (by have := B.o; omega)
  have e1 := xor_top h B.o
  have l1 := not_le B.o
  have e2 := and_i64 c (notB h) (by have := A.b; omega) (by omega)
  have HI : Hid (inR a b c d e f g h = (((c &&& notB h : Nat) : Int) == (g : Int))) := by
    show inR a b c d e f g h = _
    rw [beq_cast, inR, k3, show decide (e ≤ a) = true by simpa using k1, show decide (b ≤ f) = true by simpa using k2]; simp
  have g1 : (e : Int) ≤ a := by omega
  have g2 : (b : Int) ≤ f := by omega
  have g3 : (((d &&& h : Nat) : Int) == (d : Int)) = true := by rw [beq_cast]; exact k3
  clear k3
  clear A B
  generalize d &&& h = D0 at *
  generalize c &&& notB h = D1 at *
  generalize notB h = D2 at *
  go_enter Try.func68, Try.ntmps68
  go_wp2_with fail
  go_quiet ((go_at_call 49; exact Calls.quiet_of_same (c_l2Top _)))
  go_wp2
  go_ret
  exact ⟨ret_bool (by first | exact HI.out.symm | (rw [HI.out]; rfl)), drewN_below (newB w (cellsR4 a b c d) (cellsR4 e f g h)) _⟩

theorem c_l2Within (a b c d e f g h : Nat) (w : World) (A : OkN a b c d) (B : OkN e f g h) :
    Calls Try.prog 68 #[rv a b c d, rv e f g h] w fun ee w' => ee = .returned (.bool (inR a b c d e f g h)) ∧ Below w.heap.size w w' := by
  by_cases k1 : e ≤ a
  · by_cases k2 : b ≤ f
    · cases k3 : (d &&& h == d)
      · exact c_l2Within_c a b c d e f g h w A B k1 k2 k3
      · exact c_l2Within_d a b c d e f g h w A B k1 k2 k3
    · exact c_l2Within_b a b c d e f g h w A B k1 k2
  · exact c_l2Within_a a b c d e f g h w A B k1

set_option maxRecDepth 100000 in
set_option maxHeartbeats 2000000 in
theorem c_specIn_no1 (a b c d e f g h : Int) (w : World) (h1 : okB a b c d = false) :
    Calls Try.prog 40 #[rv a b c d, rv e f g h] w fun ee w' => ee = .returned (.bool false) ∧ Below w.heap.size w w' := by
  have bA0 := hid (pairA w a b c d e f g h)
  have bB0 := hid (pairB w a b c d e f g h)
  have bel0 := hid (newB w (cellsR4 a b c d) (cellsR4 e f g h))
  go_enter Try.func40, Try.ntmps40
  go_wp2_with fail
  refine (c_l2Ok _ _ _ _ _).mono ?_
  rintro ee w1 ⟨rfl, hb1⟩
  have bA1 := hid (bA0.out.below hb1)
  have bB1 := hid (bB0.out.below hb1)
  have bel1 := hid (bel0.out.trans (hb1.mono bel0.out.size))
  clear hb1 bA0 bB0 bel0
  rw [h1]
  go_wp2_with fail
  go_ret
  exact ⟨rfl, bel1.out⟩

set_option maxRecDepth 100000 in
set_option maxHeartbeats 2000000 in
theorem c_specIn_no2 (a b c d e f g h : Int) (w : World) (h1 : okB a b c d = true) (h2 : okB e f g h = false) :
    Calls Try.prog 40 #[rv a b c d, rv e f g h] w fun ee w' => ee = .returned (.bool false) ∧ Below w.heap.size w w' := by
  have bA0 := hid (pairA w a b c d e f g h)
  have bB0 := hid (pairB w a b c d e f g h)
  have bel0 := hid (newB w (cellsR4 a b c d) (cellsR4 e f g h))
  go_enter Try.func40, Try.ntmps40
  go_wp2_with fail
  refine (c_l2Ok _ _ _ _ _).mono ?_
  rintro ee w1 ⟨rfl, hb1⟩
  have bA1 := hid (bA0.out.below hb1)
  have bB1 := hid (bB0.out.below hb1)
  have bel1 := hid (bel0.out.trans (hb1.mono bel0.out.size))
  clear hb1 bA0 bB0 bel0
  rw [h1]
  obtain ⟨cB0, cB1, cB2, cB3⟩ := RBox.box bB1.out
  go_wp2_with fail
  refine (c_l2Ok _ _ _ _ _).mono ?_
  rintro ee w2 ⟨rfl, hb2⟩
  have bA2 := hid (bA1.out.below hb2)
  have bB2 := hid (bB1.out.below hb2)
  have bel2 := hid (bel1.out.trans (hb2.mono bel1.out.size))
  clear hb2 bA1 bB1 bel1
  rw [h2]
  clear cB0 cB1 cB2 cB3
  go_wp2_with fail
  go_ret
  exact ⟨rfl, bel2.out⟩

set_option maxRecDepth 100000 in
set_option maxHeartbeats 2000000 in
theorem c_specIn_no3 (a b c d e f g h : Nat) (w : World) (A : OkN a b c d) (B : OkN e f g h) (h3 : someN a b c d = false) :
    Calls Try.prog 40 #[rv a b c d, rv e f g h] w fun ee w' => ee = .returned (.bool false) ∧ Below w.heap.size w w' := by
  have K1 := hid (okB_of A)
  have K2 := hid (okB_of B)
  have HA := hid A
  have HB := hid B
  have H3 := hid h3
  clear A B h3
  have bA0 := hid (pairA w a b c d e f g h)
  have bB0 := hid (pairB w a b c d e f g h)
  have bel0 := hid (newB w (cellsR4 a b c d) (cellsR4 e f g h))
  go_enter Try.func40, Try.ntmps40
  go_wp2_with fail
  refine (c_l2Ok _ _ _ _ _).mono ?_
  rintro ee w1 ⟨rfl, hb1⟩
  have bA1 := hid (bA0.out.below hb1)
  have bB1 := hid (bB0.out.below hb1)
  have bel1 := hid (bel0.out.trans (hb1.mono bel0.out.size))
  clear hb1 bA0 bB0 bel0
  rw [K1.out]
  obtain ⟨cA0, cA1, cA2, cA3⟩ := RBox.box bA1.out
  obtain ⟨cB0, cB1, cB2, cB3⟩ := RBox.box bB1.out
  go_wp2_with fail
  refine (c_l2Ok _ _ _ _ _).mono ?_
  rintro ee w2 ⟨rfl, hb2⟩
  have bA2 := hid (bA1.out.below hb2)
  have bB2 := hid (bB1.out.below hb2)
  have bel2 := hid (bel1.out.trans (hb2.mono bel1.out.size))
  clear hb2 bA1 bB1 bel1
  rw [K2.out]
  clear cA0 cA1 cA2 cA3 cB0 cB1 cB2 cB3
  obtain ⟨cA0, cA1, cA2, cA3⟩ := RBox.box bA2.out
  obtain ⟨cB0, cB1, cB2, cB3⟩ := RBox.box bB2.out
  go_wp2_with fail
  refine (c_l2Some a b c d _ HA.out).mono ?_
  rintro ee w3 ⟨rfl, hb3⟩
  have bA3 := hid (bA2.out.below hb3)
  have bB3 := hid (bB2.out.below hb3)
  have bel3 := hid (bel2.out.trans (hb3.mono bel2.out.size))
  clear hb3 bA2 bB2 bel2
  rw [H3.out]
  clear cA0 cA1 cA2 cA3 cB0 cB1 cB2 cB3
  go_wp2_with fail
  go_ret
  exact ⟨rfl, bel3.out⟩

set_option maxRecDepth 100000 in
set_option maxHeartbeats 2000000 in
theorem c_specIn_no4 (a b c d e f g h : Nat) (w : World) (A : OkN a b c d) (B : OkN e f g h) (h3 : someN a b c d = true) (h4 : someN e f g h = false) :
    Calls Try.prog 40 #[rv a b c d, rv e f g h] w fun ee w' => ee = .returned (.bool false) ∧ Below w.heap.size w w' := by
  have K1 := hid (okB_of A)
  have K2 := hid (okB_of B)
  have HA := hid A
  have HB := hid B
  have H3 := hid h3
  have H4 := hid h4
  clear A B h3 h4
  have bA0 := hid (pairA w a b c d e f g h)
  have bB0 := hid (pairB w a b c d e f g h)
  have bel0 := hid (newB w (cellsR4 a b c d) (cellsR4 e f g h))
  go_enter Try.func40, Try.ntmps40
  go_wp2_with fail
  refine (c_l2Ok _ _ _ _ _).mono ?_
  rintro ee w1 ⟨rfl, hb1⟩
  have bA1 := hid (bA0.out.below hb1)
  have bB1 := hid (bB0.out.below hb1)
  have bel1 := hid (bel0.out.trans (hb1.mono bel0.out.size))
  clear hb1 bA0 bB0 bel0
  rw [K1.out]
  obtain ⟨cA0, cA1, cA2, cA3⟩ := RBox.box bA1.out
  obtain ⟨cB0, cB1, cB2, cB3⟩ := RBox.box bB1.out
  go_wp2_with fail
  refine (c_l2Ok _ _ _ _ _).mono ?_
  rintro ee w2 ⟨rfl, hb2⟩
  have bA2 := hid (bA1.out.below hb2)
  have bB2 := hid (bB1.out.below hb2)
  have bel2 := hid (bel1.out.trans (hb2.mono bel1.out.size))
  clear hb2 bA1 bB1 bel1
  rw [K2.out]
  clear cA0 cA1 cA2 cA3 cB0 cB1 cB2 cB3
  obtain ⟨cA0, cA1, cA2, cA3⟩ := RBox.box bA2.out
  obtain ⟨cB0, cB1, cB2, cB3⟩ := RBox.box bB2.out
  go_wp2_with fail
  refine (c_l2Some a b c d _ HA.out).mono ?_
  rintro ee w3 ⟨rfl, hb3⟩
  have bA3 := hid (bA2.out.below hb3)
  have bB3 := hid (bB2.out.below hb3)
  have bel3 := hid (bel2.out.trans (hb3.mono bel2.out.size))
  clear hb3 bA2 bB2 bel2
  rw [H3.out]
  clear cA0 cA1 cA2 cA3 cB0 cB1 cB2 cB3
  obtain ⟨cA0, cA1, cA2, cA3⟩ := RBox.box bA3.out
  obtain ⟨cB0, cB1, cB2, cB3⟩ := RBox.box bB3.out
  go_wp2_with fail
  refine (c_l2Some e f g h _ HB.out).mono ?_
  rintro ee w4 ⟨rfl, hb4⟩
  have bA4 := hid (bA3.out.below hb4)
  have bB4 := hid (bB3.out.below hb4)
  have bel4 := hid (bel3.out.trans (hb4.mono bel3.out.size))
  clear hb4 bA3 bB3 bel3
  rw [H4.out]
  clear cA0 cA1 cA2 cA3 cB0 cB1 cB2 cB3
  go_wp2_with fail
  go_ret
  exact ⟨rfl, bel4.out⟩

set_option maxRecDepth 100000 in
set_option maxHeartbeats 2000000 in
theorem c_specIn_yes (a b c d e f g h : Nat) (w : World) (A : OkN a b c d) (B : OkN e f g h) (h3 : someN a b c d = true) (h4 : someN e f g h = true) :
    Calls Try.prog 40 #[rv a b c d, rv e f g h] w fun ee w' => ee = .returned (.bool (inR a b c d e f g h)) ∧ Below w.heap.size w w' := by
  have K1 := hid (okB_of A)
  have K2 := hid (okB_of B)
  have HA := hid A
  have HB := hid B
  have H3 := hid h3
  have H4 := hid h4
  clear A B h3 h4
  have bA0 := hid (pairA w a b c d e f g h)
  have bB0 := hid (pairB w a b c d e f g h)
  have bel0 := hid (newB w (cellsR4 a b c d) (cellsR4 e f g h))
  go_enter Try.func40, Try.ntmps40
  go_wp2_with fail
  refine (c_l2Ok _ _ _ _ _).mono ?_
  rintro ee w1 ⟨rfl, hb1⟩
  have bA1 := hid (bA0.out.below hb1)
  have bB1 := hid (bB0.out.below hb1)
  have bel1 := hid (bel0.out.trans (hb1.mono bel0.out.size))
  clear hb1 bA0 bB0 bel0
  rw [K1.out]
  obtain ⟨cA0, cA1, cA2, cA3⟩ := RBox.box bA1.out
  obtain ⟨cB0, cB1, cB2, cB3⟩ := RBox.box bB1.out
  go_wp2_with fail
  refine (c_l2Ok _ _ _ _ _).mono ?_
  rintro ee w2 ⟨rfl, hb2⟩
  have bA2 := hid (bA1.out.below hb2)
  have bB2 := hid (bB1.out.below hb2)
  have bel2 := hid (bel1.out.trans (hb2.mono bel1.out.size))
  clear hb2 bA1 bB1 bel1
  rw [K2.out]
  clear cA0 cA1 cA2 cA3 cB0 cB1 cB2 cB3
  obtain ⟨cA0, cA1, cA2, cA3⟩ := RBox.box bA2.out
  obtain ⟨cB0, cB1, cB2, cB3⟩ := RBox.box bB2.out
  go_wp2_with fail
  refine (c_l2Some a b c d _ HA.out).mono ?_
  rintro ee w3 ⟨rfl, hb3⟩
  have bA3 := hid (bA2.out.below hb3)
  have bB3 := hid (bB2.out.below hb3)
  have bel3 := hid (bel2.out.trans (hb3.mono bel2.out.size))
  clear hb3 bA2 bB2 bel2
  rw [H3.out]
  clear cA0 cA1 cA2 cA3 cB0 cB1 cB2 cB3
  obtain ⟨cA0, cA1, cA2, cA3⟩ := RBox.box bA3.out
  obtain ⟨cB0, cB1, cB2, cB3⟩ := RBox.box bB3.out
  go_wp2_with fail
  refine (c_l2Some e f g h _ HB.out).mono ?_
  rintro ee w4 ⟨rfl, hb4⟩
  have bA4 := hid (bA3.out.below hb4)
  have bB4 := hid (bB3.out.below hb4)
  have bel4 := hid (bel3.out.trans (hb4.mono bel3.out.size))
  clear hb4 bA3 bB3 bel3
  rw [H4.out]
  clear cA0 cA1 cA2 cA3 cB0 cB1 cB2 cB3
  obtain ⟨cA0, cA1, cA2, cA3⟩ := RBox.box bA4.out
  obtain ⟨cB0, cB1, cB2, cB3⟩ := RBox.box bB4.out
  go_wp2_with fail
  refine (c_l2Within a b c d e f g h _ HA.out HB.out).mono ?_
  rintro ee w5 ⟨rfl, hb5⟩
  have bA5 := hid (bA4.out.below hb5)
  have bB5 := hid (bB4.out.below hb5)
  have bel5 := hid (bel4.out.trans (hb5.mono bel4.out.size))
  clear hb5 bA4 bB4 bel4
  clear cA0 cA1 cA2 cA3 cB0 cB1 cB2 cB3
  go_wp2_with fail
  go_ret
  exact ⟨rfl, bel5.out⟩

theorem c_specIn_no (a b c d e f g h : Int) (w : World) (hn : (someI a b c d && someI e f g h) = false) :
    Calls Try.prog 40 #[rv a b c d, rv e f g h] w fun ee w' => ee = .returned (.bool false) ∧ Below w.heap.size w w' := by
  cases k1 : okB a b c d
  · exact c_specIn_no1 a b c d e f g h w k1
  cases k2 : okB e f g h
  · exact c_specIn_no2 a b c d e f g h w k1 k2
  obtain ⟨a, b, c, d, rfl, rfl, rfl, rfl, A⟩ := ok_nat k1
  obtain ⟨e, f, g, h, rfl, rfl, rfl, rfl, B⟩ := ok_nat k2
  rw [someI_nat A, someI_nat B] at hn
  cases h3 : someN a b c d
  · exact c_specIn_no3 a b c d e f g h w A B h3
  · rw [h3, Bool.true_and] at hn
    exact c_specIn_no4 a b c d e f g h w A B h3 hn
theorem c_In_no (a b c d e f g h : Int) (w : World) (hn : (someI a b c d && someI e f g h) = false) :
    Calls Try.prog 39 #[rv a b c d, rv e f g h] w fun ee w' => ee = .returned (.bool false) ∧ Below w.heap.size w w' := by
  cases h1 : someI a b c d
  · exact c_In_no1 a b c d e f g h w h1
  · rw [h1, Bool.true_and] at hn
    exact c_In_no2 a b c d e f g h w h1 hn
end Go.Proofs.Yteiglpijjffneaa
