/- Contracts of the specification's makers of ranges. -/
import Derived.Test.YtnebjocnbfoafaaOB2
namespace Go.Proofs.Ytnebjocnbfoafaa
open Go.RowKit
set_option linter.unusedVariables false
set_option linter.unusedSimpArgs false

theorem tidyS (lo hi b o : Nat) (h : OkN lo hi b o) : ∀ w : World, Calls Try.prog 28 #[rv lo hi b o] w fun ee w' => ee = .returned (tv lo hi b o) ∧ Below w.heap.size w w' :=
  fun w => c_l2Tidy lo hi b o w h
theorem oneA (w : World) (a b c d : Int) : RBox ((w.alloc (cellsR4 a b c d)).alloc (cellsR4 0 0 0 0)) w.heap.size a b c d := (RBox.new w a b c d).alloc _
theorem oneQ (w : World) (a b c d : Int) : RBox ((w.alloc (cellsR4 a b c d)).alloc (cellsR4 0 0 0 0)) (w.heap.size + 1) 0 0 0 0 := newQ w a b c d
theorem oneW (w : World) (a b c d : Int) : Below w.heap.size w ((w.alloc (cellsR4 a b c d)).alloc (cellsR4 0 0 0 0)) := newB w _ _
set_option maxRecDepth 100000 in
set_option maxHeartbeats 2000000 in
theorem o_l2All  (w : World)  :
    Calls Try.prog 37 #[] w fun ee w' => ee = .returned (rv 0 4294967295 0 4294967295) ∧ Below w.heap.size w w' := by
  go_enter Try.func37, Try.ntmps37
  go_wp2_with (go_at_call 40; refine (c_l2Top _).mono ?_; rintro e w' ⟨rfl, hw⟩; rw [hw]; clear hw w')
  refine bodyPost_ret (v := rv 0 4294967295 0 4294967295) (by simp [results, Try.results37, go_sem]) rfl ⟨rfl, ?_⟩
  repeat (first | exact (Below.refl _ _).alloc (Nat.le_refl _) _ | refine Below.setCell ?_ (by simp) _)

set_option maxRecDepth 100000 in
set_option maxHeartbeats 2000000 in
theorem o_l2Ends (lo hi : Nat) (w : World) (h1 : lo ≤ hi) (h2 : hi ≤ 4294967295) :
    Calls Try.prog 38 #[.int .i64 lo, .int .i64 hi] w fun ee w' => ee = .returned (tv lo hi 0 4294967295) ∧ Below w.heap.size w w' := by
  have Ht : Hid (∀ w, Calls Try.prog 28 #[rv lo hi 0 4294967295] w fun ee w' => ee = .returned (tv (lo) (hi) (0) (4294967295)) ∧ Below w.heap.size w w') := by
    intro w
    have this := tidyS lo hi 0 4294967295 (endsO_ok h1 h2) w
    exact this
  have bQ0 := hid (RBox.new w 0 0 0 0)
  have bel0 := hid ((Below.refl w.heap.size w).alloc (Nat.le_refl _) (cellsR4 0 0 0 0))
  go_enter Try.func38, Try.ntmps38
  go_wp2_with fail
  refine (c_l2Top _).mono ?_
  rintro ee w1 ⟨rfl, hw1⟩
  rw [hw1]; clear hw1 w1
  go_wp2_with fail
  refine (Ht.out _).mono ?_
  rintro ee w1 ⟨rfl, hb1⟩
  have bQ1 := hid (bQ0.out.below hb1)
  have bel1 := hid (bel0.out.trans (hb1.mono bel0.out.size))
  clear hb1 bQ0 bel0
  obtain ⟨g0, g1, g2, g3⟩ := RBox.box bQ1.out
  have fq := RBox.frozen bQ1.out
  have P5 := hid (RBox.box (bQ1.out.st4 (x' := tLo (lo) (hi) (0)) (y' := tHi (lo) (hi) (0) (4294967295)) (z' := tB (lo) (hi) (0)) (u' := tO (lo) (hi) (4294967295))))
  have B5 := hid (st4_below (w.heap.size) (tLo (lo) (hi) (0)) (tHi (lo) (hi) (0) (4294967295)) (tB (lo) (hi) (0)) (tO (lo) (hi) (4294967295)) bel1.out (by omega))
  go_wp2_with fail
  obtain ⟨p0, p1, p2, p3⟩ := P5.out
  unfold st4 at p0 p1 p2 p3
  refine bodyPost_ret (v := rv (tLo (lo) (hi) (0)) (tHi (lo) (hi) (0) (4294967295)) (tB (lo) (hi) (0)) (tO (lo) (hi) (4294967295))) (by simp [results, Try.results38, go_sem, p0, p1, p2, p3]) rfl ⟨rfl, B5.out⟩

set_option maxRecDepth 100000 in
set_option maxHeartbeats 2000000 in
theorem s_sub_no (a b c d e f g h : Nat) (w : World) (h1 : a < f) :
    Calls Try.prog 58 #[rv a b c d, rv e f g h] w fun ee w' => ee = .returned (rv 0 4294967295 0 4294967295) ∧ Below w.heap.size w w' := by
  have h1' : (a : Int) < f := by omega
  clear h1
  have bQ0 := hid (twoQ w a b c d e f g h)
  have bel0 := hid (twoW w a b c d e f g h)
  go_enter Try.func58, Try.ntmps58
  go_wp2_with fail
  refine (o_l2All _).mono ?_
  rintro ee w1 ⟨rfl, hb1⟩
  have bQ1 := hid (bQ0.out.below hb1)
  have bel1 := hid (bel0.out.trans (hb1.mono bel0.out.size))
  clear hb1 bQ0 bel0
  obtain ⟨g0, g1, g2, g3⟩ := RBox.box bQ1.out
  have fq := RBox.frozen bQ1.out
  have P5 := hid (RBox.box (bQ1.out.st4 (x' := 0) (y' := 4294967295) (z' := 0) (u' := 4294967295)))
  have B5 := hid (st4_below (w.heap.size + 2) (0) (4294967295) (0) (4294967295) bel1.out (by omega))
  go_wp2_with fail
  obtain ⟨p0, p1, p2, p3⟩ := P5.out
  unfold st4 at p0 p1 p2 p3
  refine bodyPost_ret (v := rv (0) (4294967295) (0) (4294967295)) (by simp [results, Try.results58, go_sem, p0, p1, p2, p3]) rfl ⟨rfl, B5.out⟩

set_option maxRecDepth 100000 in
set_option maxHeartbeats 2000000 in
theorem s_sub_yes (a b c d e f g h : Nat) (w : World) (A : OkN a b c d) (B : OkN e f g h) (h1 : f ≤ a) :
    Calls Try.prog 58 #[rv a b c d, rv e f g h] w fun ee w' => ee = .returned (tv (a - f) (b - e) 0 4294967295) ∧ Below w.heap.size w w' := by
  have := A.le
  have := A.hi
  have := B.le
  have := B.hi
  have := A.b
  have := A.o
  have := B.b
  have := B.o
  have Ht : Hid (∀ w, Calls Try.prog 38 #[.int .i64 ((a : Int) - f), .int .i64 ((b : Int) - e)] w fun ee w' => ee = .returned (tv (a - f) (b - e) 0 4294967295) ∧ Below w.heap.size w w') := by
    intro w
    have this := o_l2Ends (a - f) (b - e) w (by omega) (by omega)
    rw [show ((a - f : Nat) : Int) = (a : Int) - f by first | omega | rfl | simp, show ((b - e : Nat) : Int) = (b : Int) - e by first | omega | rfl | simp] at this
    exact this
  have h1' : (f : Int) ≤ a := by omega
  have q1 : (a : Int) ≤ 4294967295 := by omega
  have q2 : (b : Int) ≤ 4294967295 := by omega
  have q3 : (e : Int) ≤ 4294967295 := by omega
  have q4 : (f : Int) ≤ 4294967295 := by omega
  clear A B h1
  have bQ0 := hid (twoQ w a b c d e f g h)
  have bel0 := hid (twoW w a b c d e f g h)
  go_enter Try.func58, Try.ntmps58
  go_wp2_with fail
  refine (Ht.out _).mono ?_
  rintro ee w1 ⟨rfl, hb1⟩
  have bQ1 := hid (bQ0.out.below hb1)
  have bel1 := hid (bel0.out.trans (hb1.mono bel0.out.size))
  clear hb1 bQ0 bel0
  obtain ⟨g0, g1, g2, g3⟩ := RBox.box bQ1.out
  have fq := RBox.frozen bQ1.out
  have P5 := hid (RBox.box (bQ1.out.st4 (x' := tLo (a - f) (b - e) (0)) (y' := tHi (a - f) (b - e) (0) (4294967295)) (z' := tB (a - f) (b - e) (0)) (u' := tO (a - f) (b - e) (4294967295))))
  have B5 := hid (st4_below (w.heap.size + 2) (tLo (a - f) (b - e) (0)) (tHi (a - f) (b - e) (0) (4294967295)) (tB (a - f) (b - e) (0)) (tO (a - f) (b - e) (4294967295)) bel1.out (by omega))
  go_wp2_with fail
  obtain ⟨p0, p1, p2, p3⟩ := P5.out
  unfold st4 at p0 p1 p2 p3
  refine bodyPost_ret (v := rv (tLo (a - f) (b - e) (0)) (tHi (a - f) (b - e) (0) (4294967295)) (tB (a - f) (b - e) (0)) (tO (a - f) (b - e) (4294967295))) (by simp [results, Try.results58, go_sem, p0, p1, p2, p3]) rfl ⟨rfl, B5.out⟩

set_option maxRecDepth 100000 in
set_option maxHeartbeats 2000000 in
theorem c_l2Add (a b c d e f g h : Nat) (w : World) (A : OkN a b c d) (B : OkN e f g h) :
    Calls Try.prog 82 #[rv a b c d, rv e f g h] w fun ee w' => ee = .returned (.tuple #[.int .i64 (sumB c d g h), .int .i64 (sumO c d g h)]) ∧ Below w.heap.size w w' := by
  have := A.le
  have := A.hi
  have := B.le
  have := B.hi
  have := A.b
  have := A.o
  have := B.b
  have := B.o
  have x1 : bits .xor .i64 ((c : Int) + g) ((c : Int) + g + d + h) = (((c + g) ^^^ (c + g + d + h) : Nat) : Int) := by
    rw [show (c : Int) + g + d + h = ((c + g + d + h : Nat) : Int) by omega, show (c : Int) + g = ((c + g : Nat) : Int) by omega]
    exact xor_i64 (c + g) (c + g + d + h) (by omega) (by omega)
  have y0 : (c + g) ^^^ (c + g + d + h) < 2 ^ 34 := Nat.xor_lt_two_pow (by omega) (by omega)
  have x2 := or_i64 ((c + g) ^^^ (c + g + d + h)) d (by omega) (by omega)
  have y1 : ((c + g) ^^^ (c + g + d + h)) ||| d < 2 ^ 34 := Nat.or_lt_two_pow y0 (by omega)
  have x3 := or_i64 (((c + g) ^^^ (c + g + d + h)) ||| d) h (by omega) (by omega)
  have eW1 : bits .and .i64 (((((c + g) ^^^ (c + g + d + h)) ||| d ||| h : Nat)) : Int) 4294967295 = ((sumO c d g h : Nat) : Int) := by
    rw [wrapN, sumO, show (4294967295 : Nat) = 2 ^ 32 - 1 from rfl, Nat.and_two_pow_sub_one_eq_mod]
  have eW2 : bits .and .i64 ((c : Int) + g) 4294967295 = (((c + g) % 4294967296 : Nat) : Int) := by
    rw [show (c : Int) + g = ((c + g : Nat) : Int) by omega]
    exact wrapN _
  have lO := sumO_le c d g h
  have e4 := xor_top (sumO c d g h) lO
  have l4 := not_le lO
  have e5 := and_i64 ((c + g) % 4294967296) (notB (sumO c d g h)) (by omega) (by omega)
  have hC : (c + g) % 4294967296 &&& notB (sumO c d g h) = sumB c d g h := by
    apply Nat.eq_of_testBit_eq
    intro i
    rw [sumB, Nat.testBit_and, Nat.testBit_and, not_bit]
    by_cases hi : i < 32
    · rw [wrap_bit _ i hi]
    · simp [hi, high_bit lO hi]
  rw [hC] at e5
  have q1 : (c : Int) ≤ 4294967295 := by omega
  have q2 : (d : Int) ≤ 4294967295 := by omega
  have q3 : (g : Int) ≤ 4294967295 := by omega
  have q4 : (h : Int) ≤ 4294967295 := by omega
  clear A B y0 y1 hC
  generalize ((c + g) ^^^ (c + g + d + h)) ||| d ||| h = Z3 at *
  generalize ((c + g) ^^^ (c + g + d + h)) ||| d = Z2 at *
  generalize (c + g) ^^^ (c + g + d + h) = Z1 at *
  generalize sumB c d g h = C at *
  generalize notB (sumO c d g h) = NO at *
  generalize sumO c d g h = O at *
  generalize (c + g) % 4294967296 = Z4 at *
  have bel0 := hid (newB w (cellsR4 a b c d) (cellsR4 e f g h))
  go_enter Try.func82, Try.ntmps82
  go_wp2_with fail
  refine (c_l2Wrap _ _).mono ?_
  rintro ee w1 ⟨rfl, hw1⟩
  rw [hw1]; clear hw1 w1
  rw [eW1]
  go_wp2_with fail
  refine (c_l2Wrap _ _).mono ?_
  rintro ee w1 ⟨rfl, hw1⟩
  rw [hw1]; clear hw1 w1
  rw [eW2]
  go_wp2_with fail
  refine (c_l2Top _).mono ?_
  rintro ee w1 ⟨rfl, hw1⟩
  rw [hw1]; clear hw1 w1
  go_wp2_with fail
  refine bodyPost_ret (v := .tuple #[.int .i64 C, .int .i64 O]) (by simp [results, Try.results82, go_sem]) rfl ⟨rfl, bel0.out⟩

set_option maxRecDepth 100000 in
set_option maxHeartbeats 2000000 in
theorem s_add_yes (a b c d e f g h : Nat) (w : World) (A : OkN a b c d) (B : OkN e f g h) (hw : b + f ≤ 4294967295) :
    Calls Try.prog 57 #[rv a b c d, rv e f g h] w fun ee w' => ee = .returned (tv (a + e) (b + f) (sumB c d g h) (sumO c d g h)) ∧ Below w.heap.size w w' := by
  have := A.le
  have := A.hi
  have := B.le
  have := B.hi
  have := A.b
  have := A.o
  have := B.b
  have := B.o
  have k1 := add_ok A B
  rw [if_pos hw, if_pos hw] at k1
  have Ht : Hid (∀ w, Calls Try.prog 28 #[rv ((a : Int) + e) ((b : Int) + f) ((sumB c d g h : Nat) : Int) ((sumO c d g h : Nat) : Int)] w fun ee w' => ee = .returned (tv (a + e) (b + f) (sumB c d g h) (sumO c d g h)) ∧ Below w.heap.size w w') := by
    intro w
    have this := tidyS _ _ _ _ k1 w
    rw [show ((a + e : Nat) : Int) = (a : Int) + e by omega, show ((b + f : Nat) : Int) = (b : Int) + f by omega] at this
    exact this
  have Ad : Hid (∀ w, Calls Try.prog 82 #[rv a b c d, rv e f g h] w fun ee w' => ee = .returned (.tuple #[.int .i64 (sumB c d g h), .int .i64 (sumO c d g h)]) ∧ Below w.heap.size w w') := fun w => c_l2Add a b c d e f g h w A B
  have q1 : (a : Int) ≤ 4294967295 := by omega
  have q2 : (b : Int) ≤ 4294967295 := by omega
  have q3 : (e : Int) ≤ 4294967295 := by omega
  have q4 : (f : Int) ≤ 4294967295 := by omega
  clear A B k1
  generalize sumO c d g h = O at *
  generalize sumB c d g h = C at *
  have hw' : (b : Int) + f ≤ 4294967295 := by omega
  clear hw
  have bA0 : Hid (RBox (((w.alloc (cellsR4 a b c d)).alloc (cellsR4 e f g h)).alloc (cellsR4 0 0 0 0)) w.heap.size a b c d) := twoA w a b c d e f g h
  have bB0 : Hid (RBox (((w.alloc (cellsR4 a b c d)).alloc (cellsR4 e f g h)).alloc (cellsR4 0 0 0 0)) (w.heap.size + 1) e f g h) := twoB w a b c d e f g h
  have bQ0 : Hid (RBox (((w.alloc (cellsR4 a b c d)).alloc (cellsR4 e f g h)).alloc (cellsR4 0 0 0 0)) (w.heap.size + 2) 0 0 0 0) := twoQ w a b c d e f g h
  have bel0 : Hid (Below w.heap.size w (((w.alloc (cellsR4 a b c d)).alloc (cellsR4 e f g h)).alloc (cellsR4 0 0 0 0))) := twoW w a b c d e f g h
  go_enter Try.func57, Try.ntmps57
  go_wp2_with fail
  refine (Ad.out _).mono ?_
  rintro ee w1 ⟨rfl, hb1⟩
  have bA1 := hid (bA0.out.below hb1)
  have bB1 := hid (bB0.out.below hb1)
  have bQ1 := hid (bQ0.out.below hb1)
  have bel1 := hid (bel0.out.trans (hb1.mono bel0.out.size))
  clear hb1 bA0 bB0 bQ0 bel0
  go_wp2_with fail
  refine (c_l2Top _).mono ?_
  rintro ee w2 ⟨rfl, hw2⟩
  rw [hw2]; clear hw2 w2
  go_wp2_with fail
  have mkNA := RBox.lt bA1.out
  have mkNB := RBox.lt bB1.out
  have mkNQ := RBox.lt bQ1.out
  have bA2 := hid (bA1.out.alloc (cellsR4 (0) (4294967295) (C) (O)))
  have bB2 := hid (bB1.out.alloc (cellsR4 (0) (4294967295) (C) (O)))
  have bQ2 := hid (bQ1.out.alloc (cellsR4 (0) (4294967295) (C) (O)))
  have bN2 := hid (RBox.new w1 (0) (4294967295) (C) (O))
  have bel2 := hid (bel1.out.alloc bel1.out.size (cellsR4 (0) (4294967295) (C) (O)))
  clear bA1 bB1 bQ1 bel1
  generalize w1.alloc (cellsR4 (0) (4294967295) (C) (O)) = w2 at *
  obtain ⟨cA0, cA1, cA2, cA3⟩ := RBox.box bA2.out
  obtain ⟨cB0, cB1, cB2, cB3⟩ := RBox.box bB2.out
  go_quiet ((go_at_call 40; exact Calls.quiet_of_same (c_l2Top _)))
  have bA3 := hid (bA2.out.drewN nq)
  have bB3 := hid (bB2.out.drewN nq)
  have bQ3 := hid (bQ2.out.drewN nq)
  have bN3 := hid (bN2.out.drewN nq)
  have bel3 := hid (drewN_below bel2.out nq)
  clear bA2 bB2 bQ2 bN2 bel2
  generalize w2.drewN nq = w3 at *
  clear cA0 cA1 cA2 cA3 cB0 cB1 cB2 cB3
  obtain ⟨cA0, cA1, cA2, cA3⟩ := RBox.box bA3.out
  obtain ⟨cB0, cB1, cB2, cB3⟩ := RBox.box bB3.out
  obtain ⟨cN0, cN1, cN2, cN3⟩ := RBox.box bN3.out
  have frN := RBox.frozen bN3.out
  go_wp2_with fail
  have bA4 := hid (bA3.out.other ⟨w1.heap.size, 0, none⟩ (.int .i64 ((a : Int) + e)) (by show w.heap.size ≠ w1.heap.size; omega))
  have bB4 := hid (bB3.out.other ⟨w1.heap.size, 0, none⟩ (.int .i64 ((a : Int) + e)) (by show w.heap.size + 1 ≠ w1.heap.size; omega))
  have bQ4 := hid (bQ3.out.other ⟨w1.heap.size, 0, none⟩ (.int .i64 ((a : Int) + e)) (by show w.heap.size + 2 ≠ w1.heap.size; omega))
  have bN4 := hid (bN3.out.set0 ((a : Int) + e))
  have bel4 := hid (bel3.out.setCell (p := ⟨w1.heap.size, 0, none⟩) (by show w.heap.size ≤ w1.heap.size; omega) (.int .i64 ((a : Int) + e)))
  clear bA3 bB3 bQ3 bN3 bel3
  generalize w3.setCell ⟨w1.heap.size, 0, none⟩ (.int .i64 ((a : Int) + e)) = w4 at *
  clear cA0 cA1 cA2 cA3 cB0 cB1 cB2 cB3 cN0 cN1 cN2 cN3
  clear frN
  obtain ⟨cA0, cA1, cA2, cA3⟩ := RBox.box bA4.out
  obtain ⟨cB0, cB1, cB2, cB3⟩ := RBox.box bB4.out
  obtain ⟨cN0, cN1, cN2, cN3⟩ := RBox.box bN4.out
  have frN := RBox.frozen bN4.out
  go_wp2_with fail
  have bA5 := hid (bA4.out.other ⟨w1.heap.size, 1, none⟩ (.int .i64 ((b : Int) + f)) (by show w.heap.size ≠ w1.heap.size; omega))
  have bB5 := hid (bB4.out.other ⟨w1.heap.size, 1, none⟩ (.int .i64 ((b : Int) + f)) (by show w.heap.size + 1 ≠ w1.heap.size; omega))
  have bQ5 := hid (bQ4.out.other ⟨w1.heap.size, 1, none⟩ (.int .i64 ((b : Int) + f)) (by show w.heap.size + 2 ≠ w1.heap.size; omega))
  have bN5 := hid (bN4.out.set1 ((b : Int) + f))
  have bel5 := hid (bel4.out.setCell (p := ⟨w1.heap.size, 1, none⟩) (by show w.heap.size ≤ w1.heap.size; omega) (.int .i64 ((b : Int) + f)))
  clear bA4 bB4 bQ4 bN4 bel4
  generalize w4.setCell ⟨w1.heap.size, 1, none⟩ (.int .i64 ((b : Int) + f)) = w5 at *
  clear cA0 cA1 cA2 cA3 cB0 cB1 cB2 cB3 cN0 cN1 cN2 cN3
  clear frN
  obtain ⟨cA0, cA1, cA2, cA3⟩ := RBox.box bA5.out
  obtain ⟨cB0, cB1, cB2, cB3⟩ := RBox.box bB5.out
  obtain ⟨cN0, cN1, cN2, cN3⟩ := RBox.box bN5.out
  have frN := RBox.frozen bN5.out
  go_wp2_with fail
  refine (Ht.out _).mono ?_
  rintro ee w6 ⟨rfl, hb6⟩
  have bA6 := hid (bA5.out.below hb6)
  have bB6 := hid (bB5.out.below hb6)
  have bQ6 := hid (bQ5.out.below hb6)
  have bN6 := hid (bN5.out.below hb6)
  have bel6 := hid (bel5.out.trans (hb6.mono bel5.out.size))
  clear hb6 bA5 bB5 bQ5 bN5 bel5
  clear cA0 cA1 cA2 cA3 cB0 cB1 cB2 cB3 cN0 cN1 cN2 cN3
  clear frN
  obtain ⟨g0, g1, g2, g3⟩ := RBox.box bQ6.out
  have fq := RBox.frozen bQ6.out
  have P5 := hid (RBox.box (bQ6.out.st4 (x' := tLo (a + e) (b + f) (C)) (y' := tHi (a + e) (b + f) (C) (O)) (z' := tB (a + e) (b + f) (C)) (u' := tO (a + e) (b + f) (O))))
  have B5 := hid (st4_below (w.heap.size + 2) (tLo (a + e) (b + f) (C)) (tHi (a + e) (b + f) (C) (O)) (tB (a + e) (b + f) (C)) (tO (a + e) (b + f) (O)) bel6.out (by omega))
  go_wp2_with fail
  obtain ⟨p0, p1, p2, p3⟩ := P5.out
  unfold st4 at p0 p1 p2 p3
  refine bodyPost_ret (v := rv (tLo (a + e) (b + f) (C)) (tHi (a + e) (b + f) (C) (O)) (tB (a + e) (b + f) (C)) (tO (a + e) (b + f) (O))) (by simp [results, Try.results57, go_sem, p0, p1, p2, p3]) rfl ⟨rfl, B5.out⟩

set_option maxRecDepth 100000 in
set_option maxHeartbeats 2000000 in
theorem s_add_wide (a b c d e f g h : Nat) (w : World) (A : OkN a b c d) (B : OkN e f g h) (hw : ¬ b + f ≤ 4294967295) :
    Calls Try.prog 57 #[rv a b c d, rv e f g h] w fun ee w' => ee = .returned (tv (0) (4294967295) (sumB c d g h) (sumO c d g h)) ∧ Below w.heap.size w w' := by
  have := A.le
  have := A.hi
  have := B.le
  have := B.hi
  have := A.b
  have := A.o
  have := B.b
  have := B.o
  have k1 := add_ok A B
  rw [if_neg hw, if_neg hw] at k1
  have Ht : Hid (∀ w, Calls Try.prog 28 #[rv 0 4294967295 ((sumB c d g h : Nat) : Int) ((sumO c d g h : Nat) : Int)] w fun ee w' => ee = .returned (tv (0) (4294967295) (sumB c d g h) (sumO c d g h)) ∧ Below w.heap.size w w') := by
    intro w
    have this := tidyS _ _ _ _ k1 w
    exact this
  have Ad : Hid (∀ w, Calls Try.prog 82 #[rv a b c d, rv e f g h] w fun ee w' => ee = .returned (.tuple #[.int .i64 (sumB c d g h), .int .i64 (sumO c d g h)]) ∧ Below w.heap.size w w') := fun w => c_l2Add a b c d e f g h w A B
  have q1 : (a : Int) ≤ 4294967295 := by omega
  have q2 : (b : Int) ≤ 4294967295 := by omega
  have q3 : (e : Int) ≤ 4294967295 := by omega
  have q4 : (f : Int) ≤ 4294967295 := by omega
  clear A B k1
  generalize sumO c d g h = O at *
  generalize sumB c d g h = C at *
  have hw' : ¬ (b : Int) + f ≤ 4294967295 := by omega
  clear hw
  have bA0 : Hid (RBox (((w.alloc (cellsR4 a b c d)).alloc (cellsR4 e f g h)).alloc (cellsR4 0 0 0 0)) w.heap.size a b c d) := twoA w a b c d e f g h
  have bB0 : Hid (RBox (((w.alloc (cellsR4 a b c d)).alloc (cellsR4 e f g h)).alloc (cellsR4 0 0 0 0)) (w.heap.size + 1) e f g h) := twoB w a b c d e f g h
  have bQ0 : Hid (RBox (((w.alloc (cellsR4 a b c d)).alloc (cellsR4 e f g h)).alloc (cellsR4 0 0 0 0)) (w.heap.size + 2) 0 0 0 0) := twoQ w a b c d e f g h
  have bel0 : Hid (Below w.heap.size w (((w.alloc (cellsR4 a b c d)).alloc (cellsR4 e f g h)).alloc (cellsR4 0 0 0 0))) := twoW w a b c d e f g h
  go_enter Try.func57, Try.ntmps57
  go_wp2_with fail
  refine (Ad.out _).mono ?_
  rintro ee w1 ⟨rfl, hb1⟩
  have bA1 := hid (bA0.out.below hb1)
  have bB1 := hid (bB0.out.below hb1)
  have bQ1 := hid (bQ0.out.below hb1)
  have bel1 := hid (bel0.out.trans (hb1.mono bel0.out.size))
  clear hb1 bA0 bB0 bQ0 bel0
  go_wp2_with fail
  refine (c_l2Top _).mono ?_
  rintro ee w2 ⟨rfl, hw2⟩
  rw [hw2]; clear hw2 w2
  go_wp2_with fail
  have mkNA := RBox.lt bA1.out
  have mkNB := RBox.lt bB1.out
  have mkNQ := RBox.lt bQ1.out
  have bA2 := hid (bA1.out.alloc (cellsR4 (0) (4294967295) (C) (O)))
  have bB2 := hid (bB1.out.alloc (cellsR4 (0) (4294967295) (C) (O)))
  have bQ2 := hid (bQ1.out.alloc (cellsR4 (0) (4294967295) (C) (O)))
  have bN2 := hid (RBox.new w1 (0) (4294967295) (C) (O))
  have bel2 := hid (bel1.out.alloc bel1.out.size (cellsR4 (0) (4294967295) (C) (O)))
  clear bA1 bB1 bQ1 bel1
  generalize w1.alloc (cellsR4 (0) (4294967295) (C) (O)) = w2 at *
  obtain ⟨cA0, cA1, cA2, cA3⟩ := RBox.box bA2.out
  obtain ⟨cB0, cB1, cB2, cB3⟩ := RBox.box bB2.out
  go_quiet ((go_at_call 40; exact Calls.quiet_of_same (c_l2Top _)))
  have bA3 := hid (bA2.out.drewN nq)
  have bB3 := hid (bB2.out.drewN nq)
  have bQ3 := hid (bQ2.out.drewN nq)
  have bN3 := hid (bN2.out.drewN nq)
  have bel3 := hid (drewN_below bel2.out nq)
  clear bA2 bB2 bQ2 bN2 bel2
  generalize w2.drewN nq = w3 at *
  clear cA0 cA1 cA2 cA3 cB0 cB1 cB2 cB3
  obtain ⟨cA0, cA1, cA2, cA3⟩ := RBox.box bA3.out
  obtain ⟨cB0, cB1, cB2, cB3⟩ := RBox.box bB3.out
  obtain ⟨cN0, cN1, cN2, cN3⟩ := RBox.box bN3.out
  have frN := RBox.frozen bN3.out
  go_wp2_with fail
  refine (Ht.out _).mono ?_
  rintro ee w4 ⟨rfl, hb4⟩
  have bA4 := hid (bA3.out.below hb4)
  have bB4 := hid (bB3.out.below hb4)
  have bQ4 := hid (bQ3.out.below hb4)
  have bN4 := hid (bN3.out.below hb4)
  have bel4 := hid (bel3.out.trans (hb4.mono bel3.out.size))
  clear hb4 bA3 bB3 bQ3 bN3 bel3
  clear cA0 cA1 cA2 cA3 cB0 cB1 cB2 cB3 cN0 cN1 cN2 cN3
  clear frN
  obtain ⟨g0, g1, g2, g3⟩ := RBox.box bQ4.out
  have fq := RBox.frozen bQ4.out
  have P5 := hid (RBox.box (bQ4.out.st4 (x' := tLo (0) (4294967295) (C)) (y' := tHi (0) (4294967295) (C) (O)) (z' := tB (0) (4294967295) (C)) (u' := tO (0) (4294967295) (O))))
  have B5 := hid (st4_below (w.heap.size + 2) (tLo (0) (4294967295) (C)) (tHi (0) (4294967295) (C) (O)) (tB (0) (4294967295) (C)) (tO (0) (4294967295) (O)) bel4.out (by omega))
  go_wp2_with fail
  obtain ⟨p0, p1, p2, p3⟩ := P5.out
  unfold st4 at p0 p1 p2 p3
  refine bodyPost_ret (v := rv (tLo (0) (4294967295) (C)) (tHi (0) (4294967295) (C) (O)) (tB (0) (4294967295) (C)) (tO (0) (4294967295) (O))) (by simp [results, Try.results57, go_sem, p0, p1, p2, p3]) rfl ⟨rfl, B5.out⟩

set_option maxRecDepth 100000 in
set_option maxHeartbeats 2000000 in
theorem s_div_yes (a b c d e f g h : Nat) (w : World) (A : OkN a b c d) (B : OkN e f g h) (h1 : 0 < e) :
    Calls Try.prog 61 #[.int .i64 10, rv a b c d, rv e f g h] w fun ee w' => ee = .returned (tv (a / f) (b / e) 0 4294967295) ∧ Below w.heap.size w w' := by
  have := A.le
  have := A.hi
  have := B.le
  have := B.hi
  have := A.b
  have := A.o
  have := B.b
  have := B.o
  have Ht : Hid (∀ w, Calls Try.prog 38 #[.int .i64 ((a / f : Nat) : Int), .int .i64 ((b / e : Nat) : Int)] w fun ee w' => ee = .returned (tv (a / f) (b / e) 0 4294967295) ∧ Below w.heap.size w w') := fun w => o_l2Ends (a / f) (b / e) w (Nat.div_le_div A.le B.le (by omega)) (by have := Nat.div_le_self b e; omega)
  have q1 : (a : Int) ≤ 4294967295 := by omega
  have q2 : (b : Int) ≤ 4294967295 := by omega
  have q3 : (e : Int) ≤ 4294967295 := by omega
  have q4 : (f : Int) ≤ 4294967295 := by omega
  have w1 := wdiv a f (by omega)
  have w2 := wdiv b e (by omega)
  have h2' : ¬ e = 0 := by omega
  have h3' : ¬ f = 0 := by omega
  have h4' : (0 : Int) < e := by omega
  generalize a / f = D1 at *
  generalize b / e = D2 at *
  clear A B h1
  have bA0 : Hid (RBox (((w.alloc (cellsR4 a b c d)).alloc (cellsR4 e f g h)).alloc (cellsR4 0 0 0 0)) w.heap.size a b c d) := twoA w a b c d e f g h
  have bB0 : Hid (RBox (((w.alloc (cellsR4 a b c d)).alloc (cellsR4 e f g h)).alloc (cellsR4 0 0 0 0)) (w.heap.size + 1) e f g h) := twoB w a b c d e f g h
  have bQ0 : Hid (RBox (((w.alloc (cellsR4 a b c d)).alloc (cellsR4 e f g h)).alloc (cellsR4 0 0 0 0)) (w.heap.size + 2) 0 0 0 0) := twoQ w a b c d e f g h
  have bel0 : Hid (Below w.heap.size w (((w.alloc (cellsR4 a b c d)).alloc (cellsR4 e f g h)).alloc (cellsR4 0 0 0 0))) := twoW w a b c d e f g h
  go_enter Try.func61, Try.ntmps61
  go_wp2_with fail
  generalize ((w.alloc (cellsR4 a b c d)).alloc (cellsR4 e f g h)).alloc (cellsR4 0 0 0 0) = w0 at *
  obtain ⟨cA0, cA1, cA2, cA3⟩ := RBox.box bA0.out
  obtain ⟨cB0, cB1, cB2, cB3⟩ := RBox.box bB0.out
  refine wp_region_held_drew (S := (fun w' => w'.cell? ⟨w.heap.size, 0, none⟩ = some (.int .i64 (a)) ∧ w'.cell? ⟨w.heap.size, 1, none⟩ = some (.int .i64 (b)) ∧ w'.cell? ⟨w.heap.size, 2, none⟩ = some (.int .i64 (c)) ∧ w'.cell? ⟨w.heap.size, 3, none⟩ = some (.int .i64 (d)) ∧ w'.cell? ⟨w.heap.size + 1, 0, none⟩ = some (.int .i64 (e)) ∧ w'.cell? ⟨w.heap.size + 1, 1, none⟩ = some (.int .i64 (f)) ∧ w'.cell? ⟨w.heap.size + 1, 2, none⟩ = some (.int .i64 (g)) ∧ w'.cell? ⟨w.heap.size + 1, 3, none⟩ = some (.int .i64 (h)))) (by kernel_rfl) (by exact ⟨(RBox.box bA0.out).c0, (RBox.box bA0.out).c1, (RBox.box bA0.out).c2, (RBox.box bA0.out).c3, (RBox.box bB0.out).c0, (RBox.box bB0.out).c1, (RBox.box bB0.out).c2, (RBox.box bB0.out).c3⟩) (fun hHeld => ?_)
  have hA := hid (RBox.drew bA0.out)
  have hB := hid (RBox.drew bB0.out)
  have hQ := hid (RBox.drew bQ0.out)
  have hbel := hid (Below.drew bel0.out)
  clear bA0 bB0 bQ0 bel0
  generalize w0.drew = W1 at *
  refine wpAnyH_take (i := 0) (oi := ?oi1) (v := ?v1) (fuel := 11) ?hi1 ?hs1 ?hf1 ?hr1 ?hq1 (Or.inl ⟨?hw1, ?hy1⟩) hHeld ?rest1
  case hi1 => rw [List.getElem?_toArray]; rfl
  case hq1 => exact fun _ _ _ h => h
  case hs1 | hf1 | hr1 => kernel_rfl
  case hw1 => rfl
  case hy1 => (intro w1 hSw; (try dsimp only at hSw); go_simp; try with_reducible rfl)
  (try simp only [Act.put, List.setIfInBounds_toArray, List.set_cons_zero, List.set_cons_succ])
  refine wpAnyH_take (i := 1) (oi := ?oi2) (v := ?v2) (fuel := 10) ?hi2 ?hs2 ?hf2 ?hr2 ?hq2 (Or.inl ⟨?hw2, ?hy2⟩) hHeld ?rest2
  case hi2 => rw [List.getElem?_toArray]; rfl
  case hq2 => exact fun _ _ _ h => h
  case hs2 | hf2 | hr2 => kernel_rfl
  case hw2 => rfl
  case hy2 => (intro w1 hSw; (try dsimp only at hSw); go_simp; try with_reducible rfl)
  (try simp only [Act.put, List.setIfInBounds_toArray, List.set_cons_zero, List.set_cons_succ])
  refine wpAnyH_take (i := 2) (oi := ?oi3) (v := ?v3) (fuel := 9) ?hi3 ?hs3 ?hf3 ?hr3 ?hq3 (Or.inl ⟨?hw3, ?hy3⟩) hHeld ?rest3
  case hi3 => rw [List.getElem?_toArray]; rfl
  case hq3 => exact fun _ _ _ h => h
  case hs3 | hf3 | hr3 => kernel_rfl
  case hw3 => rfl
  case hy3 => (intro w1 hSw; (try dsimp only at hSw); go_simp; try with_reducible rfl)
  (try simp only [Act.put, List.setIfInBounds_toArray, List.set_cons_zero, List.set_cons_succ])
  refine wpAnyH_take (i := 3) (oi := ?oi4) (v := ?v4) (fuel := 8) ?hi4 ?hs4 ?hf4 ?hr4 ?hq4 (Or.inl ⟨?hw4, ?hy4⟩) hHeld ?rest4
  case hi4 => rw [List.getElem?_toArray]; rfl
  case hq4 => exact fun _ _ _ h => h
  case hs4 | hf4 | hr4 => kernel_rfl
  case hw4 => rfl
  case hy4 => (intro w1 hSw; (try dsimp only at hSw); go_simp; try with_reducible rfl)
  (try simp only [Act.put, List.setIfInBounds_toArray, List.set_cons_zero, List.set_cons_succ])
  refine wpAnyH_take (i := 4) (oi := ?oi5) (v := ?v5) (fuel := 7) ?hi5 ?hs5 ?hf5 ?hr5 ?hq5 (Or.inl ⟨?hw5, ?hy5⟩) hHeld ?rest5
  case hi5 => rw [List.getElem?_toArray]; rfl
  case hq5 => exact fun _ _ _ h => h
  case hs5 | hf5 | hr5 => kernel_rfl
  case hw5 => rfl
  case hy5 => (intro w1 hSw; (try dsimp only at hSw); go_simp; try with_reducible rfl)
  (try simp only [Act.put, List.setIfInBounds_toArray, List.set_cons_zero, List.set_cons_succ])
  refine wpAnyH_take (i := 5) (oi := ?oi6) (v := ?v6) (fuel := 6) ?hi6 ?hs6 ?hf6 ?hr6 ?hq6 (Or.inl ⟨?hw6, ?hy6⟩) hHeld ?rest6
  case hi6 => rw [List.getElem?_toArray]; rfl
  case hq6 => exact fun _ _ _ h => h
  case hs6 | hf6 | hr6 => kernel_rfl
  case hw6 => rfl
  case hy6 => (intro w1 hSw; (try dsimp only at hSw); go_simp; try with_reducible rfl)
  (try simp only [Act.put, List.setIfInBounds_toArray, List.set_cons_zero, List.set_cons_succ])
  refine wpAnyH_take (i := 6) (oi := ?oi7) (v := ?v7) (fuel := 5) ?hi7 ?hs7 ?hf7 ?hr7 ?hq7 (Or.inl ⟨?hw7, ?hy7⟩) hHeld ?rest7
  case hi7 => rw [List.getElem?_toArray]; rfl
  case hq7 => exact fun _ _ _ h => h
  case hs7 | hf7 | hr7 => kernel_rfl
  case hw7 => rfl
  case hy7 => (intro w1 hSw; (try dsimp only at hSw); go_simp; try with_reducible rfl)
  (try simp only [Act.put, List.setIfInBounds_toArray, List.set_cons_zero, List.set_cons_succ])
  refine wpAnyH_take (i := 7) (oi := ?oi8) (v := ?v8) (fuel := 4) ?hi8 ?hs8 ?hf8 ?hr8 ?hq8 (Or.inl ⟨?hw8, ?hy8⟩) hHeld ?rest8
  case hi8 => rw [List.getElem?_toArray]; rfl
  case hq8 => exact fun _ _ _ h => h
  case hs8 | hf8 | hr8 => kernel_rfl
  case hw8 => rfl
  case hy8 => (intro w1 hSw; (try dsimp only at hSw); go_simp; try with_reducible rfl)
  (try simp only [Act.put, List.setIfInBounds_toArray, List.set_cons_zero, List.set_cons_succ])
  refine wpAnyH_take (i := 8) (oi := ?oi9) (v := ?v9) (fuel := 3) ?hi9 ?hs9 ?hf9 ?hr9 ?hq9 (Or.inl ⟨?hw9, ?hy9⟩) hHeld ?rest9
  case hi9 => rw [List.getElem?_toArray]; rfl
  case hq9 => exact fun _ _ _ h => h
  case hs9 | hf9 | hr9 => kernel_rfl
  case hw9 => rfl
  case hy9 => (intro w1 hSw; (try dsimp only at hSw); go_simp; try with_reducible rfl)
  (try simp only [Act.put, List.setIfInBounds_toArray, List.set_cons_zero, List.set_cons_succ])
  refine wpAnyH_take (i := 9) (oi := ?oi10) (v := ?v10) (fuel := 2) ?hi10 ?hs10 ?hf10 ?hr10 ?hq10 (Or.inl ⟨?hw10, ?hy10⟩) hHeld ?rest10
  case hi10 => rw [List.getElem?_toArray]; rfl
  case hq10 => exact fun _ _ _ h => h
  case hs10 | hf10 | hr10 => kernel_rfl
  case hw10 => rfl
  case hy10 => (intro w1 hSw; (try dsimp only at hSw); go_simp; try with_reducible rfl)
  (try simp only [Act.put, List.setIfInBounds_toArray, List.set_cons_zero, List.set_cons_succ])
  refine wpAnyH_ready (fuel := 1) (rs := [10]) (by kernel_rfl) (by simp) ?_
  refine AllReadyH.cons (o := ?oi11) ?hi11 (fun K hK => ?st11) AllReadyH.nil
  case hi11 => rw [List.getElem?_toArray]; rfl
  go_simp
  refine (Ht.out _).mono ?_
  rintro ee wr10 ⟨rfl, hbn⟩
  replace hA := hid (hA.out.below hbn)
  replace hB := hid (hB.out.below hbn)
  replace hQ := hid (hQ.out.below hbn)
  replace hbel := hid (hbel.out.trans (hbn.mono hbel.out.size))
  clear hbn
  go_wp2_with fail
  refine hK.out _ _ ?hS11 (fun hHeld => ?re11)
  case hS11 => exact ⟨(RBox.box hA.out).c0, (RBox.box hA.out).c1, (RBox.box hA.out).c2, (RBox.box hA.out).c3, (RBox.box hB.out).c0, (RBox.box hB.out).c1, (RBox.box hB.out).c2, (RBox.box hB.out).c3⟩
  clear hK K
  (try simp only [Act.put, List.setIfInBounds_toArray, List.set_cons_zero, List.set_cons_succ])
  refine wpAnyH_ready (fuel := 0) (rs := [11]) (by kernel_rfl) (by simp) ?_
  refine AllReadyH.cons (o := ?oi12) ?hi12 (fun K hK => ?st12) AllReadyH.nil
  case hi12 => rw [List.getElem?_toArray]; rfl
  obtain ⟨g0, g1, g2, g3⟩ := RBox.box hQ.out
  have fq := RBox.frozen hQ.out
  go_simp
  clear g0 g1 g2 g3 fq
  replace hA := hid (hA.out.st4o (k := w.heap.size + 2) (by first | omega | (have := RBox.lt hA.out; omega)) (tLo (D1) (D2) (0)) (tHi (D1) (D2) (0) (4294967295)) (tB (D1) (D2) (0)) (tO (D1) (D2) (4294967295)))
  replace hB := hid (hB.out.st4o (k := w.heap.size + 2) (by first | omega | (have := RBox.lt hB.out; omega)) (tLo (D1) (D2) (0)) (tHi (D1) (D2) (0) (4294967295)) (tB (D1) (D2) (0)) (tO (D1) (D2) (4294967295)))
  replace hQ := hid (hQ.out.st4 (x' := tLo (D1) (D2) (0)) (y' := tHi (D1) (D2) (0) (4294967295)) (z' := tB (D1) (D2) (0)) (u' := tO (D1) (D2) (4294967295)))
  replace hbel := hid (st4_below (w.heap.size + 2) (tLo (D1) (D2) (0)) (tHi (D1) (D2) (0) (4294967295)) (tB (D1) (D2) (0)) (tO (D1) (D2) (4294967295)) hbel.out (by omega))
  unfold Go.Proofs.Ytnebjocnbfoafaa.st4 at hbel hA hB hQ
  generalize ((((wr10.setCell ⟨w.heap.size + 2, 0, none⟩ (.int .i64 (tLo (D1) (D2) (0)))).setCell ⟨w.heap.size + 2, 1, none⟩ (.int .i64 (tHi (D1) (D2) (0) (4294967295)))).setCell ⟨w.heap.size + 2, 2, none⟩ (.int .i64 (tB (D1) (D2) (0)))).setCell ⟨w.heap.size + 2, 3, none⟩ (.int .i64 (tO (D1) (D2) (4294967295)))) = ws11 at *
  refine hK.out _ _ ?hS12 (fun hHeld => ?re12)
  case hS12 => exact ⟨(RBox.box hA.out).c0, (RBox.box hA.out).c1, (RBox.box hA.out).c2, (RBox.box hA.out).c3, (RBox.box hB.out).c0, (RBox.box hB.out).c1, (RBox.box hB.out).c2, (RBox.box hB.out).c3⟩
  clear hK K
  (try simp only [Act.put, List.setIfInBounds_toArray, List.set_cons_zero, List.set_cons_succ])
  refine wpAnyH_done (by kernel_rfl) ?_ _
  clear hHeld
  generalize ws11 = w1 at *
  have bA1 := hA
  have bB1 := hB
  have bQ1 := hQ
  have bel1 := hbel
  clear hbel hA hB hQ
  go_wp2_with fail
  obtain ⟨p0, p1, p2, p3⟩ := RBox.box bQ1.out
  refine bodyPost_ret (v := tv D1 D2 0 4294967295) (by simp [results, Try.results61, go_sem, p0, p1, p2, p3]) rfl ⟨rfl, bel1.out⟩

set_option maxRecDepth 100000 in
set_option maxHeartbeats 2000000 in
theorem s_div_zero (a b c d e f g h : Nat) (w : World) (A : OkN a b c d) (h2 : e = 0) :
    Calls Try.prog 61 #[.int .i64 10, rv a b c d, rv e f g h] w fun ee w' => ee = .returned (tv 0 b 0 4294967295) ∧ Below w.heap.size w w' := by
  have := A.hi
  have Ht : Hid (∀ w, Calls Try.prog 38 #[.int .i64 (0), .int .i64 ((b : Int))] w fun ee w' => ee = .returned (tv (0) (b) 0 4294967295) ∧ Below w.heap.size w w') := by
    intro w
    have this := o_l2Ends (0) (b) w (by omega) (by omega)
    rw [show ((0 : Nat) : Int) = 0 by first | omega | rfl | simp, show ((b : Nat) : Int) = (b : Int) by first | omega | rfl | simp] at this
    exact this
  subst h2
  clear A
  have bQ0 := hid (twoQ w a b c d (0 : Nat) f g h)
  have bel0 := hid (twoW w a b c d (0 : Nat) f g h)
  go_enter Try.func61, Try.ntmps61
  go_wp2_with fail
  refine (Ht.out _).mono ?_
  rintro ee w1 ⟨rfl, hb1⟩
  have bQ1 := hid (bQ0.out.below hb1)
  have bel1 := hid (bel0.out.trans (hb1.mono bel0.out.size))
  clear hb1 bQ0 bel0
  obtain ⟨g0, g1, g2, g3⟩ := RBox.box bQ1.out
  have fq := RBox.frozen bQ1.out
  have P5 := hid (RBox.box (bQ1.out.st4 (x' := tLo (0) (b) (0)) (y' := tHi (0) (b) (0) (4294967295)) (z' := tB (0) (b) (0)) (u' := tO (0) (b) (4294967295))))
  have B5 := hid (st4_below (w.heap.size + 2) (tLo (0) (b) (0)) (tHi (0) (b) (0) (4294967295)) (tB (0) (b) (0)) (tO (0) (b) (4294967295)) bel1.out (by omega))
  go_wp2_with fail
  obtain ⟨p0, p1, p2, p3⟩ := P5.out
  unfold st4 at p0 p1 p2 p3
  refine bodyPost_ret (v := rv (tLo (0) (b) (0)) (tHi (0) (b) (0) (4294967295)) (tB (0) (b) (0)) (tO (0) (b) (4294967295))) (by simp [results, Try.results61, go_sem, p0, p1, p2, p3]) rfl ⟨rfl, B5.out⟩

set_option maxRecDepth 100000 in
set_option maxHeartbeats 2000000 in
theorem s_mod_same (a b c d e f g h : Nat) (w : World) (h1 : b < e) :
    Calls Try.prog 61 #[.int .i64 11, rv a b c d, rv e f g h] w fun ee w' => ee = .returned (rv a b c d) ∧ Below w.heap.size w w' := by
  have h1' : (b : Int) < e := by omega
  have h2' : (0 : Int) < e := by omega
  clear h1
  have bQ0 := hid (twoQ w a b c d e f g h)
  have bel0 := hid (twoW w a b c d e f g h)
  go_enter Try.func61, Try.ntmps61
  have P5 : Hid (RBox (((w.alloc (cellsR4 a b c d)).alloc (cellsR4 e f g h)).alloc (cellsR4 a b c d)) (w.heap.size + 2) a b c d) := by have h0 := RBox.new ((w.alloc (cellsR4 a b c d)).alloc (cellsR4 e f g h)) a b c d; simp only [World.size_alloc] at h0; exact h0
  have B5 := hid ((newB w (cellsR4 a b c d) (cellsR4 e f g h)).alloc (by simp; omega) (cellsR4 a b c d))
  go_wp2_with fail
  obtain ⟨p0, p1, p2, p3⟩ := RBox.box P5.out
  refine bodyPost_ret (v := rv a b c d) (by simp [results, Try.results61, go_sem, p0, p1, p2, p3]) rfl ⟨rfl, B5.out⟩

set_option maxRecDepth 100000 in
set_option maxHeartbeats 2000000 in
theorem s_mod_lt (a b c d e f g h : Nat) (w : World) (A : OkN a b c d) (B : OkN e f g h) (h1 : ¬ b < e) (h2 : 0 < e) (h3 : f - 1 < b) :
    Calls Try.prog 61 #[.int .i64 11, rv a b c d, rv e f g h] w fun ee w' => ee = .returned (tv 0 (f - 1) 0 4294967295) ∧ Below w.heap.size w w' := by
  have := A.le
  have := A.hi
  have := B.le
  have := B.hi
  have := A.b
  have := A.o
  have := B.b
  have := B.o
  have Ht : Hid (∀ w, Calls Try.prog 38 #[.int .i64 (0), .int .i64 ((f : Int) - 1)] w fun ee w' => ee = .returned (tv (0) (f - 1) 0 4294967295) ∧ Below w.heap.size w w') := by
    intro w
    have this := o_l2Ends (0) (f - 1) w (by omega) (by omega)
    rw [show ((0 : Nat) : Int) = 0 by first | omega | rfl | simp, show ((f - 1 : Nat) : Int) = (f : Int) - 1 by first | omega | rfl | simp] at this
    exact this
  have h1' : ¬ (b : Int) < e := by omega
  have h2' : (0 : Int) < e := by omega
  have h3' : (f : Int) - 1 < b := by omega
  have q1 : (a : Int) ≤ 4294967295 := by omega
  have q2 : (b : Int) ≤ 4294967295 := by omega
  have q3 : (e : Int) ≤ 4294967295 := by omega
  have q4 : (f : Int) ≤ 4294967295 := by omega
  have q5 : (1 : Int) ≤ f := by omega
  clear A B h1 h2 h3
  have bQ0 := hid (twoQ w a b c d e f g h)
  have bel0 := hid (twoW w a b c d e f g h)
  go_enter Try.func61, Try.ntmps61
  go_wp2_with fail
  refine (Ht.out _).mono ?_
  rintro ee w1 ⟨rfl, hb1⟩
  have bQ1 := hid (bQ0.out.below hb1)
  have bel1 := hid (bel0.out.trans (hb1.mono bel0.out.size))
  clear hb1 bQ0 bel0
  obtain ⟨g0, g1, g2, g3⟩ := RBox.box bQ1.out
  have fq := RBox.frozen bQ1.out
  have P5 := hid (RBox.box (bQ1.out.st4 (x' := tLo (0) (f - 1) (0)) (y' := tHi (0) (f - 1) (0) (4294967295)) (z' := tB (0) (f - 1) (0)) (u' := tO (0) (f - 1) (4294967295))))
  have B5 := hid (st4_below (w.heap.size + 2) (tLo (0) (f - 1) (0)) (tHi (0) (f - 1) (0) (4294967295)) (tB (0) (f - 1) (0)) (tO (0) (f - 1) (4294967295)) bel1.out (by omega))
  go_wp2_with fail
  obtain ⟨p0, p1, p2, p3⟩ := P5.out
  unfold st4 at p0 p1 p2 p3
  refine bodyPost_ret (v := rv (tLo (0) (f - 1) (0)) (tHi (0) (f - 1) (0) (4294967295)) (tB (0) (f - 1) (0)) (tO (0) (f - 1) (4294967295))) (by simp [results, Try.results61, go_sem, p0, p1, p2, p3]) rfl ⟨rfl, B5.out⟩

set_option maxRecDepth 100000 in
set_option maxHeartbeats 2000000 in
theorem s_mod_ge (a b c d e f g h : Nat) (w : World) (A : OkN a b c d) (B : OkN e f g h) (h1 : ¬ b < e) (h2 : 0 < e) (h3 : ¬ f - 1 < b) :
    Calls Try.prog 61 #[.int .i64 11, rv a b c d, rv e f g h] w fun ee w' => ee = .returned (tv 0 (b) 0 4294967295) ∧ Below w.heap.size w w' := by
  have := A.le
  have := A.hi
  have := B.le
  have := B.hi
  have := A.b
  have := A.o
  have := B.b
  have := B.o
  have Ht : Hid (∀ w, Calls Try.prog 38 #[.int .i64 (0), .int .i64 ((b : Int))] w fun ee w' => ee = .returned (tv (0) (b) 0 4294967295) ∧ Below w.heap.size w w') := by
    intro w
    have this := o_l2Ends (0) (b) w (by omega) (by omega)
    rw [show ((0 : Nat) : Int) = 0 by first | omega | rfl | simp, show ((b : Nat) : Int) = (b : Int) by first | omega | rfl | simp] at this
    exact this
  have h1' : ¬ (b : Int) < e := by omega
  have h2' : (0 : Int) < e := by omega
  have h3' : ¬ (f : Int) - 1 < b := by omega
  have q1 : (a : Int) ≤ 4294967295 := by omega
  have q2 : (b : Int) ≤ 4294967295 := by omega
  have q3 : (e : Int) ≤ 4294967295 := by omega
  have q4 : (f : Int) ≤ 4294967295 := by omega
  have q5 : (1 : Int) ≤ f := by omega
  clear A B h1 h2 h3
  have bQ0 := hid (twoQ w a b c d e f g h)
  have bel0 := hid (twoW w a b c d e f g h)
  go_enter Try.func61, Try.ntmps61
  go_wp2_with fail
  refine (Ht.out _).mono ?_
  rintro ee w1 ⟨rfl, hb1⟩
  have bQ1 := hid (bQ0.out.below hb1)
  have bel1 := hid (bel0.out.trans (hb1.mono bel0.out.size))
  clear hb1 bQ0 bel0
  obtain ⟨g0, g1, g2, g3⟩ := RBox.box bQ1.out
  have fq := RBox.frozen bQ1.out
  have P5 := hid (RBox.box (bQ1.out.st4 (x' := tLo (0) (b) (0)) (y' := tHi (0) (b) (0) (4294967295)) (z' := tB (0) (b) (0)) (u' := tO (0) (b) (4294967295))))
  have B5 := hid (st4_below (w.heap.size + 2) (tLo (0) (b) (0)) (tHi (0) (b) (0) (4294967295)) (tB (0) (b) (0)) (tO (0) (b) (4294967295)) bel1.out (by omega))
  go_wp2_with fail
  obtain ⟨p0, p1, p2, p3⟩ := P5.out
  unfold st4 at p0 p1 p2 p3
  refine bodyPost_ret (v := rv (tLo (0) (b) (0)) (tHi (0) (b) (0) (4294967295)) (tB (0) (b) (0)) (tO (0) (b) (4294967295))) (by simp [results, Try.results61, go_sem, p0, p1, p2, p3]) rfl ⟨rfl, B5.out⟩

set_option maxRecDepth 100000 in
set_option maxHeartbeats 2000000 in
theorem s_mod_zero (a b c d e f g h : Nat) (w : World) (A : OkN a b c d) (B : OkN e f g h) (h2 : e = 0) :
    Calls Try.prog 61 #[.int .i64 11, rv a b c d, rv e f g h] w fun ee w' => ee = .returned (tv 0 b 0 4294967295) ∧ Below w.heap.size w w' := by
  have := A.le
  have := A.hi
  have := B.le
  have := B.hi
  have := A.b
  have := A.o
  have := B.b
  have := B.o
  have Ht : Hid (∀ w, Calls Try.prog 38 #[.int .i64 (0), .int .i64 ((b : Int))] w fun ee w' => ee = .returned (tv (0) (b) 0 4294967295) ∧ Below w.heap.size w w') := by
    intro w
    have this := o_l2Ends (0) (b) w (by omega) (by omega)
    rw [show ((0 : Nat) : Int) = 0 by first | omega | rfl | simp, show ((b : Nat) : Int) = (b : Int) by first | omega | rfl | simp] at this
    exact this
  subst h2
  clear A B
  have bQ0 := hid (twoQ w a b c d (0 : Nat) f g h)
  have bel0 := hid (twoW w a b c d (0 : Nat) f g h)
  go_enter Try.func61, Try.ntmps61
  go_wp2_with fail
  refine (Ht.out _).mono ?_
  rintro ee w1 ⟨rfl, hb1⟩
  have bQ1 := hid (bQ0.out.below hb1)
  have bel1 := hid (bel0.out.trans (hb1.mono bel0.out.size))
  clear hb1 bQ0 bel0
  obtain ⟨g0, g1, g2, g3⟩ := RBox.box bQ1.out
  have fq := RBox.frozen bQ1.out
  have P5 := hid (RBox.box (bQ1.out.st4 (x' := tLo (0) (b) (0)) (y' := tHi (0) (b) (0) (4294967295)) (z' := tB (0) (b) (0)) (u' := tO (0) (b) (4294967295))))
  have B5 := hid (st4_below (w.heap.size + 2) (tLo (0) (b) (0)) (tHi (0) (b) (0) (4294967295)) (tB (0) (b) (0)) (tO (0) (b) (4294967295)) bel1.out (by omega))
  go_wp2_with fail
  obtain ⟨p0, p1, p2, p3⟩ := P5.out
  unfold st4 at p0 p1 p2 p3
  refine bodyPost_ret (v := rv (tLo (0) (b) (0)) (tHi (0) (b) (0) (4294967295)) (tB (0) (b) (0)) (tO (0) (b) (4294967295))) (by simp [results, Try.results61, go_sem, p0, p1, p2, p3]) rfl ⟨rfl, B5.out⟩

end Go.Proofs.Ytnebjocnbfoafaa
