/- Contracts: products of ranges by the specification; the program's first maker. -/
import Derived.Test.YtnebjocnbfoafaaOG
namespace Go.Proofs.Ytnebjocnbfoafaa
open Go.RowKit Go.MapKept
set_option linter.unusedVariables false
set_option linter.unusedSimpArgs false

set_option maxRecDepth 100000 in
set_option maxHeartbeats 2000000 in
theorem s_of_mul_zero_n (a b c d e f g h : Nat) (w : World) (A : OkN a b c d) (B : OkN e f g h) (k1 : ((a : Int) == b) = false) (h1 : b * f ≤ 4294967295) (h2 : b = 0) :
    Calls Try.prog 27 #[.int .i64 4, rv a b c d, rv e f g h] w fun ee w' => ee = .returned (tv (a * e) (b * f) 0 4294967295) ∧ Below w.heap.size w w' := by
  have := A.le
  have := A.hi
  have := B.le
  have := B.hi
  have := A.b
  have := A.o
  have := B.b
  have := B.o
  have A2 := A.le
  have B2 := B.le
  have q1 : (a : Int) ≤ 4294967295 := by omega
  have q2 : (b : Int) ≤ 4294967295 := by omega
  have q3 : (e : Int) ≤ 4294967295 := by omega
  have q4 : (f : Int) ≤ 4294967295 := by omega
  have hp : (b : Int) * (f : Int) = ((b * f : Nat) : Int) := by simp
  have hq : (a : Int) * (e : Int) = ((a * e : Nat) : Int) := by simp
  have hle : a * e ≤ b * f := Nat.mul_le_mul A.le B.le
  have Ht : Hid (∀ w, Calls Try.prog 38 #[.int .i64 (((a * e : Nat) : Int)), .int .i64 (((b * f : Nat) : Int))] w fun ee w' => ee = .returned (tv (a * e) (b * f) 0 4294967295) ∧ Below w.heap.size w w') := by
    intro w
    have this := o_l2Ends (a * e) (b * f) w (hle) (h1)
    rw [show ((a * e : Nat) : Int) = ((a * e : Nat) : Int) by first | omega | rfl | simp, show ((b * f : Nat) : Int) = ((b * f : Nat) : Int) by first | omega | rfl | simp] at this
    exact this
  have hz : ((b : Int) == 0) = true := by simp; omega
  generalize b * f = P at *
  generalize a * e = Q1 at *
  have h4 : (P : Int) ≤ 4294967295 := by omega
  have h5 : (Q1 : Int) ≤ 4294967295 := by omega
  clear A B A2 B2 h1 hle h2
  have bA0 : Hid (RBox (((w.alloc (cellsR4 a b c d)).alloc (cellsR4 e f g h)).alloc (cellsR4 0 0 0 0)) w.heap.size a b c d) := twoA w a b c d e f g h
  have bB0 : Hid (RBox (((w.alloc (cellsR4 a b c d)).alloc (cellsR4 e f g h)).alloc (cellsR4 0 0 0 0)) (w.heap.size + 1) e f g h) := twoB w a b c d e f g h
  have bQ0 : Hid (RBox (((w.alloc (cellsR4 a b c d)).alloc (cellsR4 e f g h)).alloc (cellsR4 0 0 0 0)) (w.heap.size + 2) 0 0 0 0) := twoQ w a b c d e f g h
  have bel0 : Hid (Below w.heap.size w (((w.alloc (cellsR4 a b c d)).alloc (cellsR4 e f g h)).alloc (cellsR4 0 0 0 0))) := twoW w a b c d e f g h
  go_enter Try.func27, Try.ntmps27
  go_wp2_with fail
  generalize ((w.alloc (cellsR4 a b c d)).alloc (cellsR4 e f g h)).alloc (cellsR4 0 0 0 0) = w0 at *
  obtain ⟨cA0, cA1, cA2, cA3⟩ := RBox.box bA0.out
  obtain ⟨cB0, cB1, cB2, cB3⟩ := RBox.box bB0.out
  go_quiet ((go_at_call 40; exact Calls.quiet_of_same (c_l2Top _)))
  have bA1 := hid (bA0.out.drewN nq)
  have bB1 := hid (bB0.out.drewN nq)
  have bQ1 := hid (bQ0.out.drewN nq)
  have bel1 := hid (drewN_below bel0.out nq)
  clear bA0 bB0 bQ0 bel0
  generalize w0.drewN nq = w1 at *
  clear cA0 cA1 cA2 cA3 cB0 cB1 cB2 cB3
  obtain ⟨cA0, cA1, cA2, cA3⟩ := RBox.box bA1.out
  obtain ⟨cB0, cB1, cB2, cB3⟩ := RBox.box bB1.out
  go_wp2_with fail
  refine (Ht.out _).mono ?_
  rintro ee w2 ⟨rfl, hb2⟩
  have bA2 := hid (bA1.out.below hb2)
  have bB2 := hid (bB1.out.below hb2)
  have bQ2 := hid (bQ1.out.below hb2)
  have bel2 := hid (bel1.out.trans (hb2.mono bel1.out.size))
  clear hb2 bA1 bB1 bQ1 bel1
  clear cA0 cA1 cA2 cA3 cB0 cB1 cB2 cB3
  obtain ⟨g0, g1, g2, g3⟩ := RBox.box bQ2.out
  have fq := RBox.frozen bQ2.out
  have P5 := hid (RBox.box (bQ2.out.st4 (x' := tLo (Q1) (P) (0)) (y' := tHi (Q1) (P) (0) (4294967295)) (z' := tB (Q1) (P) (0)) (u' := tO (Q1) (P) (4294967295))))
  have B5 := hid (st4_below (w.heap.size + 2) (tLo (Q1) (P) (0)) (tHi (Q1) (P) (0) (4294967295)) (tB (Q1) (P) (0)) (tO (Q1) (P) (4294967295)) bel2.out (by omega))
  go_wp2_with fail
  obtain ⟨p0, p1, p2, p3⟩ := P5.out
  unfold st4 at p0 p1 p2 p3
  refine bodyPost_ret (v := rv (tLo (Q1) (P) (0)) (tHi (Q1) (P) (0) (4294967295)) (tB (Q1) (P) (0)) (tO (Q1) (P) (4294967295))) (by simp [results, Try.results27, go_sem, p0, p1, p2, p3]) rfl ⟨rfl, B5.out⟩

set_option maxRecDepth 100000 in
set_option maxHeartbeats 2000000 in
theorem s_of_mul_yes_n (a b c d e f g h : Nat) (w : World) (A : OkN a b c d) (B : OkN e f g h) (k1 : ((a : Int) == b) = false) (h1 : b * f ≤ 4294967295) (h2 : ¬ b = 0) :
    Calls Try.prog 27 #[.int .i64 4, rv a b c d, rv e f g h] w fun ee w' => ee = .returned (tv (a * e) (b * f) 0 4294967295) ∧ Below w.heap.size w w' := by
  have := A.le
  have := A.hi
  have := B.le
  have := B.hi
  have := A.b
  have := A.o
  have := B.b
  have := B.o
  have A2 := A.le
  have B2 := B.le
  have q1 : (a : Int) ≤ 4294967295 := by omega
  have q2 : (b : Int) ≤ 4294967295 := by omega
  have q3 : (e : Int) ≤ 4294967295 := by omega
  have q4 : (f : Int) ≤ 4294967295 := by omega
  have hp : (b : Int) * (f : Int) = ((b * f : Nat) : Int) := by simp
  have hq : (a : Int) * (e : Int) = ((a * e : Nat) : Int) := by simp
  have hle : a * e ≤ b * f := Nat.mul_le_mul A.le B.le
  have Ht : Hid (∀ w, Calls Try.prog 38 #[.int .i64 (((a * e : Nat) : Int)), .int .i64 (((b * f : Nat) : Int))] w fun ee w' => ee = .returned (tv (a * e) (b * f) 0 4294967295) ∧ Below w.heap.size w w') := by
    intro w
    have this := o_l2Ends (a * e) (b * f) w (hle) (h1)
    rw [show ((a * e : Nat) : Int) = ((a * e : Nat) : Int) by first | omega | rfl | simp, show ((b * f : Nat) : Int) = ((b * f : Nat) : Int) by first | omega | rfl | simp] at this
    exact this
  have hz : ((b : Int) == 0) = false := by simp; omega
  have wd := wdiv 4294967295 b (Nat.le_refl _)
  rw [show ((4294967295 : Nat) : Int) = 4294967295 from rfl] at wd
  have wd2 : (4294967295 : Int) / (b : Int) = ((4294967295 / b : Nat) : Int) := by rw [Int.natCast_ediv]; rfl
  have hd := Nat.le_div_iff_mul_le (k := b) (x := f) (y := 4294967295) (by omega)
  rw [Nat.mul_comm] at hd
  have h3 : (f : Int) ≤ ((4294967295 / b : Nat) : Int) := by have := hd.2 h1; omega
  clear hd
  generalize 4294967295 / b = DD at *
  generalize b * f = P at *
  generalize a * e = Q1 at *
  have h4 : (P : Int) ≤ 4294967295 := by omega
  have h5 : (Q1 : Int) ≤ 4294967295 := by omega
  clear A B A2 B2 h1 hle
  have bA0 : Hid (RBox (((w.alloc (cellsR4 a b c d)).alloc (cellsR4 e f g h)).alloc (cellsR4 0 0 0 0)) w.heap.size a b c d) := twoA w a b c d e f g h
  have bB0 : Hid (RBox (((w.alloc (cellsR4 a b c d)).alloc (cellsR4 e f g h)).alloc (cellsR4 0 0 0 0)) (w.heap.size + 1) e f g h) := twoB w a b c d e f g h
  have bQ0 : Hid (RBox (((w.alloc (cellsR4 a b c d)).alloc (cellsR4 e f g h)).alloc (cellsR4 0 0 0 0)) (w.heap.size + 2) 0 0 0 0) := twoQ w a b c d e f g h
  have bel0 : Hid (Below w.heap.size w (((w.alloc (cellsR4 a b c d)).alloc (cellsR4 e f g h)).alloc (cellsR4 0 0 0 0))) := twoW w a b c d e f g h
  go_enter Try.func27, Try.ntmps27
  go_wp2_with fail
  generalize ((w.alloc (cellsR4 a b c d)).alloc (cellsR4 e f g h)).alloc (cellsR4 0 0 0 0) = w0 at *
  obtain ⟨cA0, cA1, cA2, cA3⟩ := RBox.box bA0.out
  obtain ⟨cB0, cB1, cB2, cB3⟩ := RBox.box bB0.out
  go_quiet ((go_at_call 40; exact Calls.quiet_of_same (c_l2Top _)))
  have bA1 := hid (bA0.out.drewN nq)
  have bB1 := hid (bB0.out.drewN nq)
  have bQ1 := hid (bQ0.out.drewN nq)
  have bel1 := hid (drewN_below bel0.out nq)
  clear bA0 bB0 bQ0 bel0
  generalize w0.drewN nq = w1 at *
  clear cA0 cA1 cA2 cA3 cB0 cB1 cB2 cB3
  obtain ⟨cA0, cA1, cA2, cA3⟩ := RBox.box bA1.out
  obtain ⟨cB0, cB1, cB2, cB3⟩ := RBox.box bB1.out
  go_wp2_with fail
  refine (Ht.out _).mono ?_
  rintro ee w2 ⟨rfl, hb2⟩
  have bA2 := hid (bA1.out.below hb2)
  have bB2 := hid (bB1.out.below hb2)
  have bQ2 := hid (bQ1.out.below hb2)
  have bel2 := hid (bel1.out.trans (hb2.mono bel1.out.size))
  clear hb2 bA1 bB1 bQ1 bel1
  clear cA0 cA1 cA2 cA3 cB0 cB1 cB2 cB3
  obtain ⟨g0, g1, g2, g3⟩ := RBox.box bQ2.out
  have fq := RBox.frozen bQ2.out
  have P5 := hid (RBox.box (bQ2.out.st4 (x' := tLo (Q1) (P) (0)) (y' := tHi (Q1) (P) (0) (4294967295)) (z' := tB (Q1) (P) (0)) (u' := tO (Q1) (P) (4294967295))))
  have B5 := hid (st4_below (w.heap.size + 2) (tLo (Q1) (P) (0)) (tHi (Q1) (P) (0) (4294967295)) (tB (Q1) (P) (0)) (tO (Q1) (P) (4294967295)) bel2.out (by omega))
  go_wp2_with fail
  obtain ⟨p0, p1, p2, p3⟩ := P5.out
  unfold st4 at p0 p1 p2 p3
  refine bodyPost_ret (v := rv (tLo (Q1) (P) (0)) (tHi (Q1) (P) (0) (4294967295)) (tB (Q1) (P) (0)) (tO (Q1) (P) (4294967295))) (by simp [results, Try.results27, go_sem, p0, p1, p2, p3]) rfl ⟨rfl, B5.out⟩

set_option maxRecDepth 100000 in
set_option maxHeartbeats 2000000 in
theorem s_of_mul_no_n (a b c d e f g h : Nat) (w : World) (A : OkN a b c d) (B : OkN e f g h) (k1 : ((a : Int) == b) = false) (h1 : ¬ b * f ≤ 4294967295) :
    Calls Try.prog 27 #[.int .i64 4, rv a b c d, rv e f g h] w fun ee w' => ee = .returned (rv 0 4294967295 0 4294967295) ∧ Below w.heap.size w w' := by
  have := A.le
  have := A.hi
  have := B.le
  have := B.hi
  have := A.b
  have := A.o
  have := B.b
  have := B.o
  have A2 := A.le
  have B2 := B.le
  have q1 : (a : Int) ≤ 4294967295 := by omega
  have q2 : (b : Int) ≤ 4294967295 := by omega
  have q3 : (e : Int) ≤ 4294967295 := by omega
  have q4 : (f : Int) ≤ 4294967295 := by omega
  have h2 : ¬ b = 0 := by rintro rfl; simp at h1
  have hz : ((b : Int) == 0) = false := by simp; omega
  have wd := wdiv 4294967295 b (Nat.le_refl _)
  rw [show ((4294967295 : Nat) : Int) = 4294967295 from rfl] at wd
  have wd2 : (4294967295 : Int) / (b : Int) = ((4294967295 / b : Nat) : Int) := by rw [Int.natCast_ediv]; rfl
  have hd := Nat.le_div_iff_mul_le (k := b) (x := f) (y := 4294967295) (by omega)
  rw [Nat.mul_comm] at hd
  have h3 : ¬ (f : Int) ≤ ((4294967295 / b : Nat) : Int) := by intro hc; exact h1 (hd.1 (by omega))
  clear hd
  generalize 4294967295 / b = DD at *
  clear A B A2 B2 h1
  have bA0 : Hid (RBox (((w.alloc (cellsR4 a b c d)).alloc (cellsR4 e f g h)).alloc (cellsR4 0 0 0 0)) w.heap.size a b c d) := twoA w a b c d e f g h
  have bB0 : Hid (RBox (((w.alloc (cellsR4 a b c d)).alloc (cellsR4 e f g h)).alloc (cellsR4 0 0 0 0)) (w.heap.size + 1) e f g h) := twoB w a b c d e f g h
  have bQ0 : Hid (RBox (((w.alloc (cellsR4 a b c d)).alloc (cellsR4 e f g h)).alloc (cellsR4 0 0 0 0)) (w.heap.size + 2) 0 0 0 0) := twoQ w a b c d e f g h
  have bel0 : Hid (Below w.heap.size w (((w.alloc (cellsR4 a b c d)).alloc (cellsR4 e f g h)).alloc (cellsR4 0 0 0 0))) := twoW w a b c d e f g h
  go_enter Try.func27, Try.ntmps27
  go_wp2_with fail
  generalize ((w.alloc (cellsR4 a b c d)).alloc (cellsR4 e f g h)).alloc (cellsR4 0 0 0 0) = w0 at *
  obtain ⟨cA0, cA1, cA2, cA3⟩ := RBox.box bA0.out
  obtain ⟨cB0, cB1, cB2, cB3⟩ := RBox.box bB0.out
  go_quiet ((go_at_call 40; exact Calls.quiet_of_same (c_l2Top _)))
  have bA1 := hid (bA0.out.drewN nq)
  have bB1 := hid (bB0.out.drewN nq)
  have bQ1 := hid (bQ0.out.drewN nq)
  have bel1 := hid (drewN_below bel0.out nq)
  clear bA0 bB0 bQ0 bel0
  generalize w0.drewN nq = w1 at *
  clear cA0 cA1 cA2 cA3 cB0 cB1 cB2 cB3
  obtain ⟨cA0, cA1, cA2, cA3⟩ := RBox.box bA1.out
  obtain ⟨cB0, cB1, cB2, cB3⟩ := RBox.box bB1.out
  go_wp2_with fail
  refine (o_l2All _).mono ?_
  rintro ee w2 ⟨rfl, hb2⟩
  have bA2 := hid (bA1.out.below hb2)
  have bB2 := hid (bB1.out.below hb2)
  have bQ2 := hid (bQ1.out.below hb2)
  have bel2 := hid (bel1.out.trans (hb2.mono bel1.out.size))
  clear hb2 bA1 bB1 bQ1 bel1
  clear cA0 cA1 cA2 cA3 cB0 cB1 cB2 cB3
  obtain ⟨g0, g1, g2, g3⟩ := RBox.box bQ2.out
  have fq := RBox.frozen bQ2.out
  have P5 := hid (RBox.box (bQ2.out.st4 (x' := 0) (y' := 4294967295) (z' := 0) (u' := 4294967295)))
  have B5 := hid (st4_below (w.heap.size + 2) (0) (4294967295) (0) (4294967295) bel2.out (by omega))
  go_wp2_with fail
  obtain ⟨p0, p1, p2, p3⟩ := P5.out
  unfold st4 at p0 p1 p2 p3
  refine bodyPost_ret (v := rv (0) (4294967295) (0) (4294967295)) (by simp [results, Try.results27, go_sem, p0, p1, p2, p3]) rfl ⟨rfl, B5.out⟩

set_option maxRecDepth 100000 in
set_option maxHeartbeats 2000000 in
theorem s_of_mul_zero_y (a b c d e f g h : Nat) (w : World) (A : OkN a b c d) (B : OkN e f g h) (k1 : ((a : Int) == b) = true) (k2 : ((e : Int) == f) = false) (h1 : b * f ≤ 4294967295) (h2 : b = 0) :
    Calls Try.prog 27 #[.int .i64 4, rv a b c d, rv e f g h] w fun ee w' => ee = .returned (tv (a * e) (b * f) 0 4294967295) ∧ Below w.heap.size w w' := by
  have := A.le
  have := A.hi
  have := B.le
  have := B.hi
  have := A.b
  have := A.o
  have := B.b
  have := B.o
  have A2 := A.le
  have B2 := B.le
  have q1 : (a : Int) ≤ 4294967295 := by omega
  have q2 : (b : Int) ≤ 4294967295 := by omega
  have q3 : (e : Int) ≤ 4294967295 := by omega
  have q4 : (f : Int) ≤ 4294967295 := by omega
  have hp : (b : Int) * (f : Int) = ((b * f : Nat) : Int) := by simp
  have hq : (a : Int) * (e : Int) = ((a * e : Nat) : Int) := by simp
  have hle : a * e ≤ b * f := Nat.mul_le_mul A.le B.le
  have Ht : Hid (∀ w, Calls Try.prog 38 #[.int .i64 (((a * e : Nat) : Int)), .int .i64 (((b * f : Nat) : Int))] w fun ee w' => ee = .returned (tv (a * e) (b * f) 0 4294967295) ∧ Below w.heap.size w w') := by
    intro w
    have this := o_l2Ends (a * e) (b * f) w (hle) (h1)
    rw [show ((a * e : Nat) : Int) = ((a * e : Nat) : Int) by first | omega | rfl | simp, show ((b * f : Nat) : Int) = ((b * f : Nat) : Int) by first | omega | rfl | simp] at this
    exact this
  have hz : ((b : Int) == 0) = true := by simp; omega
  generalize b * f = P at *
  generalize a * e = Q1 at *
  have h4 : (P : Int) ≤ 4294967295 := by omega
  have h5 : (Q1 : Int) ≤ 4294967295 := by omega
  clear A B A2 B2 h1 hle h2
  have bA0 : Hid (RBox (((w.alloc (cellsR4 a b c d)).alloc (cellsR4 e f g h)).alloc (cellsR4 0 0 0 0)) w.heap.size a b c d) := twoA w a b c d e f g h
  have bB0 : Hid (RBox (((w.alloc (cellsR4 a b c d)).alloc (cellsR4 e f g h)).alloc (cellsR4 0 0 0 0)) (w.heap.size + 1) e f g h) := twoB w a b c d e f g h
  have bQ0 : Hid (RBox (((w.alloc (cellsR4 a b c d)).alloc (cellsR4 e f g h)).alloc (cellsR4 0 0 0 0)) (w.heap.size + 2) 0 0 0 0) := twoQ w a b c d e f g h
  have bel0 : Hid (Below w.heap.size w (((w.alloc (cellsR4 a b c d)).alloc (cellsR4 e f g h)).alloc (cellsR4 0 0 0 0))) := twoW w a b c d e f g h
  go_enter Try.func27, Try.ntmps27
  go_wp2_with fail
  generalize ((w.alloc (cellsR4 a b c d)).alloc (cellsR4 e f g h)).alloc (cellsR4 0 0 0 0) = w0 at *
  obtain ⟨cA0, cA1, cA2, cA3⟩ := RBox.box bA0.out
  obtain ⟨cB0, cB1, cB2, cB3⟩ := RBox.box bB0.out
  go_quiet ((go_at_call 40; exact Calls.quiet_of_same (c_l2Top _)))
  have bA1 := hid (bA0.out.drewN nq)
  have bB1 := hid (bB0.out.drewN nq)
  have bQ1 := hid (bQ0.out.drewN nq)
  have bel1 := hid (drewN_below bel0.out nq)
  clear bA0 bB0 bQ0 bel0
  generalize w0.drewN nq = w1 at *
  clear cA0 cA1 cA2 cA3 cB0 cB1 cB2 cB3
  obtain ⟨cA0, cA1, cA2, cA3⟩ := RBox.box bA1.out
  obtain ⟨cB0, cB1, cB2, cB3⟩ := RBox.box bB1.out
  go_wp2_with fail
  refine (Ht.out _).mono ?_
  rintro ee w2 ⟨rfl, hb2⟩
  have bA2 := hid (bA1.out.below hb2)
  have bB2 := hid (bB1.out.below hb2)
  have bQ2 := hid (bQ1.out.below hb2)
  have bel2 := hid (bel1.out.trans (hb2.mono bel1.out.size))
  clear hb2 bA1 bB1 bQ1 bel1
  clear cA0 cA1 cA2 cA3 cB0 cB1 cB2 cB3
  obtain ⟨g0, g1, g2, g3⟩ := RBox.box bQ2.out
  have fq := RBox.frozen bQ2.out
  have P5 := hid (RBox.box (bQ2.out.st4 (x' := tLo (Q1) (P) (0)) (y' := tHi (Q1) (P) (0) (4294967295)) (z' := tB (Q1) (P) (0)) (u' := tO (Q1) (P) (4294967295))))
  have B5 := hid (st4_below (w.heap.size + 2) (tLo (Q1) (P) (0)) (tHi (Q1) (P) (0) (4294967295)) (tB (Q1) (P) (0)) (tO (Q1) (P) (4294967295)) bel2.out (by omega))
  go_wp2_with fail
  obtain ⟨p0, p1, p2, p3⟩ := P5.out
  unfold st4 at p0 p1 p2 p3
  refine bodyPost_ret (v := rv (tLo (Q1) (P) (0)) (tHi (Q1) (P) (0) (4294967295)) (tB (Q1) (P) (0)) (tO (Q1) (P) (4294967295))) (by simp [results, Try.results27, go_sem, p0, p1, p2, p3]) rfl ⟨rfl, B5.out⟩

set_option maxRecDepth 100000 in
set_option maxHeartbeats 2000000 in
theorem s_of_mul_yes_y (a b c d e f g h : Nat) (w : World) (A : OkN a b c d) (B : OkN e f g h) (k1 : ((a : Int) == b) = true) (k2 : ((e : Int) == f) = false) (h1 : b * f ≤ 4294967295) (h2 : ¬ b = 0) :
    Calls Try.prog 27 #[.int .i64 4, rv a b c d, rv e f g h] w fun ee w' => ee = .returned (tv (a * e) (b * f) 0 4294967295) ∧ Below w.heap.size w w' := by
  have := A.le
  have := A.hi
  have := B.le
  have := B.hi
  have := A.b
  have := A.o
  have := B.b
  have := B.o
  have A2 := A.le
  have B2 := B.le
  have q1 : (a : Int) ≤ 4294967295 := by omega
  have q2 : (b : Int) ≤ 4294967295 := by omega
  have q3 : (e : Int) ≤ 4294967295 := by omega
  have q4 : (f : Int) ≤ 4294967295 := by omega
  have hp : (b : Int) * (f : Int) = ((b * f : Nat) : Int) := by simp
  have hq : (a : Int) * (e : Int) = ((a * e : Nat) : Int) := by simp
  have hle : a * e ≤ b * f := Nat.mul_le_mul A.le B.le
  have Ht : Hid (∀ w, Calls Try.prog 38 #[.int .i64 (((a * e : Nat) : Int)), .int .i64 (((b * f : Nat) : Int))] w fun ee w' => ee = .returned (tv (a * e) (b * f) 0 4294967295) ∧ Below w.heap.size w w') := by
    intro w
    have this := o_l2Ends (a * e) (b * f) w (hle) (h1)
    rw [show ((a * e : Nat) : Int) = ((a * e : Nat) : Int) by first | omega | rfl | simp, show ((b * f : Nat) : Int) = ((b * f : Nat) : Int) by first | omega | rfl | simp] at this
    exact this
  have hz : ((b : Int) == 0) = false := by simp; omega
  have wd := wdiv 4294967295 b (Nat.le_refl _)
  rw [show ((4294967295 : Nat) : Int) = 4294967295 from rfl] at wd
  have wd2 : (4294967295 : Int) / (b : Int) = ((4294967295 / b : Nat) : Int) := by rw [Int.natCast_ediv]; rfl
  have hd := Nat.le_div_iff_mul_le (k := b) (x := f) (y := 4294967295) (by omega)
  rw [Nat.mul_comm] at hd
  have h3 : (f : Int) ≤ ((4294967295 / b : Nat) : Int) := by have := hd.2 h1; omega
  clear hd
  generalize 4294967295 / b = DD at *
  generalize b * f = P at *
  generalize a * e = Q1 at *
  have h4 : (P : Int) ≤ 4294967295 := by omega
  have h5 : (Q1 : Int) ≤ 4294967295 := by omega
  clear A B A2 B2 h1 hle
  have bA0 : Hid (RBox (((w.alloc (cellsR4 a b c d)).alloc (cellsR4 e f g h)).alloc (cellsR4 0 0 0 0)) w.heap.size a b c d) := twoA w a b c d e f g h
  have bB0 : Hid (RBox (((w.alloc (cellsR4 a b c d)).alloc (cellsR4 e f g h)).alloc (cellsR4 0 0 0 0)) (w.heap.size + 1) e f g h) := twoB w a b c d e f g h
  have bQ0 : Hid (RBox (((w.alloc (cellsR4 a b c d)).alloc (cellsR4 e f g h)).alloc (cellsR4 0 0 0 0)) (w.heap.size + 2) 0 0 0 0) := twoQ w a b c d e f g h
  have bel0 : Hid (Below w.heap.size w (((w.alloc (cellsR4 a b c d)).alloc (cellsR4 e f g h)).alloc (cellsR4 0 0 0 0))) := twoW w a b c d e f g h
  go_enter Try.func27, Try.ntmps27
  go_wp2_with fail
  generalize ((w.alloc (cellsR4 a b c d)).alloc (cellsR4 e f g h)).alloc (cellsR4 0 0 0 0) = w0 at *
  obtain ⟨cA0, cA1, cA2, cA3⟩ := RBox.box bA0.out
  obtain ⟨cB0, cB1, cB2, cB3⟩ := RBox.box bB0.out
  go_quiet ((go_at_call 40; exact Calls.quiet_of_same (c_l2Top _)))
  have bA1 := hid (bA0.out.drewN nq)
  have bB1 := hid (bB0.out.drewN nq)
  have bQ1 := hid (bQ0.out.drewN nq)
  have bel1 := hid (drewN_below bel0.out nq)
  clear bA0 bB0 bQ0 bel0
  generalize w0.drewN nq = w1 at *
  clear cA0 cA1 cA2 cA3 cB0 cB1 cB2 cB3
  obtain ⟨cA0, cA1, cA2, cA3⟩ := RBox.box bA1.out
  obtain ⟨cB0, cB1, cB2, cB3⟩ := RBox.box bB1.out
  go_wp2_with fail
  refine (Ht.out _).mono ?_
  rintro ee w2 ⟨rfl, hb2⟩
  have bA2 := hid (bA1.out.below hb2)
  have bB2 := hid (bB1.out.below hb2)
  have bQ2 := hid (bQ1.out.below hb2)
  have bel2 := hid (bel1.out.trans (hb2.mono bel1.out.size))
  clear hb2 bA1 bB1 bQ1 bel1
  clear cA0 cA1 cA2 cA3 cB0 cB1 cB2 cB3
  obtain ⟨g0, g1, g2, g3⟩ := RBox.box bQ2.out
  have fq := RBox.frozen bQ2.out
  have P5 := hid (RBox.box (bQ2.out.st4 (x' := tLo (Q1) (P) (0)) (y' := tHi (Q1) (P) (0) (4294967295)) (z' := tB (Q1) (P) (0)) (u' := tO (Q1) (P) (4294967295))))
  have B5 := hid (st4_below (w.heap.size + 2) (tLo (Q1) (P) (0)) (tHi (Q1) (P) (0) (4294967295)) (tB (Q1) (P) (0)) (tO (Q1) (P) (4294967295)) bel2.out (by omega))
  go_wp2_with fail
  obtain ⟨p0, p1, p2, p3⟩ := P5.out
  unfold st4 at p0 p1 p2 p3
  refine bodyPost_ret (v := rv (tLo (Q1) (P) (0)) (tHi (Q1) (P) (0) (4294967295)) (tB (Q1) (P) (0)) (tO (Q1) (P) (4294967295))) (by simp [results, Try.results27, go_sem, p0, p1, p2, p3]) rfl ⟨rfl, B5.out⟩

set_option maxRecDepth 100000 in
set_option maxHeartbeats 2000000 in
theorem s_of_mul_no_y (a b c d e f g h : Nat) (w : World) (A : OkN a b c d) (B : OkN e f g h) (k1 : ((a : Int) == b) = true) (k2 : ((e : Int) == f) = false) (h1 : ¬ b * f ≤ 4294967295) :
    Calls Try.prog 27 #[.int .i64 4, rv a b c d, rv e f g h] w fun ee w' => ee = .returned (rv 0 4294967295 0 4294967295) ∧ Below w.heap.size w w' := by
  have := A.le
  have := A.hi
  have := B.le
  have := B.hi
  have := A.b
  have := A.o
  have := B.b
  have := B.o
  have A2 := A.le
  have B2 := B.le
  have q1 : (a : Int) ≤ 4294967295 := by omega
  have q2 : (b : Int) ≤ 4294967295 := by omega
  have q3 : (e : Int) ≤ 4294967295 := by omega
  have q4 : (f : Int) ≤ 4294967295 := by omega
  have h2 : ¬ b = 0 := by rintro rfl; simp at h1
  have hz : ((b : Int) == 0) = false := by simp; omega
  have wd := wdiv 4294967295 b (Nat.le_refl _)
  rw [show ((4294967295 : Nat) : Int) = 4294967295 from rfl] at wd
  have wd2 : (4294967295 : Int) / (b : Int) = ((4294967295 / b : Nat) : Int) := by rw [Int.natCast_ediv]; rfl
  have hd := Nat.le_div_iff_mul_le (k := b) (x := f) (y := 4294967295) (by omega)
  rw [Nat.mul_comm] at hd
  have h3 : ¬ (f : Int) ≤ ((4294967295 / b : Nat) : Int) := by intro hc; exact h1 (hd.1 (by omega))
  clear hd
  generalize 4294967295 / b = DD at *
  clear A B A2 B2 h1
  have bA0 : Hid (RBox (((w.alloc (cellsR4 a b c d)).alloc (cellsR4 e f g h)).alloc (cellsR4 0 0 0 0)) w.heap.size a b c d) := twoA w a b c d e f g h
  have bB0 : Hid (RBox (((w.alloc (cellsR4 a b c d)).alloc (cellsR4 e f g h)).alloc (cellsR4 0 0 0 0)) (w.heap.size + 1) e f g h) := twoB w a b c d e f g h
  have bQ0 : Hid (RBox (((w.alloc (cellsR4 a b c d)).alloc (cellsR4 e f g h)).alloc (cellsR4 0 0 0 0)) (w.heap.size + 2) 0 0 0 0) := twoQ w a b c d e f g h
  have bel0 : Hid (Below w.heap.size w (((w.alloc (cellsR4 a b c d)).alloc (cellsR4 e f g h)).alloc (cellsR4 0 0 0 0))) := twoW w a b c d e f g h
  go_enter Try.func27, Try.ntmps27
  go_wp2_with fail
  generalize ((w.alloc (cellsR4 a b c d)).alloc (cellsR4 e f g h)).alloc (cellsR4 0 0 0 0) = w0 at *
  obtain ⟨cA0, cA1, cA2, cA3⟩ := RBox.box bA0.out
  obtain ⟨cB0, cB1, cB2, cB3⟩ := RBox.box bB0.out
  go_quiet ((go_at_call 40; exact Calls.quiet_of_same (c_l2Top _)))
  have bA1 := hid (bA0.out.drewN nq)
  have bB1 := hid (bB0.out.drewN nq)
  have bQ1 := hid (bQ0.out.drewN nq)
  have bel1 := hid (drewN_below bel0.out nq)
  clear bA0 bB0 bQ0 bel0
  generalize w0.drewN nq = w1 at *
  clear cA0 cA1 cA2 cA3 cB0 cB1 cB2 cB3
  obtain ⟨cA0, cA1, cA2, cA3⟩ := RBox.box bA1.out
  obtain ⟨cB0, cB1, cB2, cB3⟩ := RBox.box bB1.out
  go_wp2_with fail
  refine (o_l2All _).mono ?_
  rintro ee w2 ⟨rfl, hb2⟩
  have bA2 := hid (bA1.out.below hb2)
  have bB2 := hid (bB1.out.below hb2)
  have bQ2 := hid (bQ1.out.below hb2)
  have bel2 := hid (bel1.out.trans (hb2.mono bel1.out.size))
  clear hb2 bA1 bB1 bQ1 bel1
  clear cA0 cA1 cA2 cA3 cB0 cB1 cB2 cB3
  obtain ⟨g0, g1, g2, g3⟩ := RBox.box bQ2.out
  have fq := RBox.frozen bQ2.out
  have P5 := hid (RBox.box (bQ2.out.st4 (x' := 0) (y' := 4294967295) (z' := 0) (u' := 4294967295)))
  have B5 := hid (st4_below (w.heap.size + 2) (0) (4294967295) (0) (4294967295) bel2.out (by omega))
  go_wp2_with fail
  obtain ⟨p0, p1, p2, p3⟩ := P5.out
  unfold st4 at p0 p1 p2 p3
  refine bodyPost_ret (v := rv (0) (4294967295) (0) (4294967295)) (by simp [results, Try.results27, go_sem, p0, p1, p2, p3]) rfl ⟨rfl, B5.out⟩

set_option maxRecDepth 100000 in
set_option maxHeartbeats 2000000 in
theorem c_mov (a b c d e f g h : Int) (w : World) : Calls Try.prog 41 #[rv a b c d, rv e f g h] w fun ee w' => ee = .returned (rv e f g h) ∧ Below w.heap.size w w' := by
  have P5 : Hid (RBox (((w.alloc (cellsR4 a b c d)).alloc (cellsR4 e f g h)).alloc (cellsR4 e f g h)) (w.heap.size + 2) e f g h) := by
    have h0 := RBox.new ((w.alloc (cellsR4 a b c d)).alloc (cellsR4 e f g h)) e f g h
    simp only [World.size_alloc] at h0
    exact h0
  have B5 := hid ((newB w (cellsR4 a b c d) (cellsR4 e f g h)).alloc (by simp; omega) (cellsR4 e f g h))
  go_enter Try.func41, Try.ntmps41
  go_wp2_with fail
  obtain ⟨p0, p1, p2, p3⟩ := RBox.box P5.out
  refine bodyPost_ret (v := rv e f g h) (by simp [results, Try.results41, go_sem, p0, p1, p2, p3]) rfl ⟨rfl, B5.out⟩
end Go.Proofs.Ytnebjocnbfoafaa
