/- Contracts: RangeOf of the specification, whatever its makers make. -/
import Derived.Test.YtnebjocnbfoafaaOF
namespace Go.Proofs.Ytnebjocnbfoafaa
open Go.RowKit Go.MapKept
set_option linter.unusedVariables false
set_option linter.unusedSimpArgs false

set_option maxRecDepth 100000 in
set_option maxHeartbeats 2000000 in
theorem s_of_k (op : Int) (a b c d e f g h : Int) (n : Int) (w : World) (k1 : (a == b) = true) (k2 : (e == f) = true) (D : Hid (∀ w, Calls Try.prog 56 #[.int .i64 op, .int .i64 a, .int .i64 e] w fun ee w' => ee = .returned (.int .i64 n) ∧ w' = w)) :
    Calls Try.prog 27 #[.int .i64 op, rv a b c d, rv e f g h] w fun ee w' => ee = .returned (rv n n n 0) ∧ Below w.heap.size w w' := by
  have bQ0 : Hid (RBox (((w.alloc (cellsR4 a b c d)).alloc (cellsR4 e f g h)).alloc (cellsR4 0 0 0 0)) (w.heap.size + 2) 0 0 0 0) := twoQ w a b c d e f g h
  have bel0 : Hid (Below w.heap.size w (((w.alloc (cellsR4 a b c d)).alloc (cellsR4 e f g h)).alloc (cellsR4 0 0 0 0))) := twoW w a b c d e f g h
  go_enter Try.func27, Try.ntmps27
  go_wp2_with fail
  refine (D.out _).mono ?_
  rintro ee w1 ⟨rfl, hw1⟩
  rw [hw1]; clear hw1 w1
  go_wp2_with fail
  refine (c_l2One _ _).mono ?_
  rintro ee w1 ⟨rfl, hb1⟩
  have bQ1 := hid (bQ0.out.below hb1)
  have bel1 := hid (bel0.out.trans (hb1.mono bel0.out.size))
  clear hb1 bQ0 bel0
  obtain ⟨g0, g1, g2, g3⟩ := RBox.box bQ1.out
  have fq := RBox.frozen bQ1.out
  have P5 := hid (RBox.box (bQ1.out.st4 (x' := n) (y' := n) (z' := n) (u' := 0)))
  have B5 := hid (st4_below (w.heap.size + 2) (n) (n) (n) (0) bel1.out (by omega))
  go_wp2_with fail
  obtain ⟨p0, p1, p2, p3⟩ := P5.out
  unfold st4 at p0 p1 p2 p3
  refine bodyPost_ret (v := rv (n) (n) (n) (0)) (by simp [results, Try.results27, go_sem, p0, p1, p2, p3]) rfl ⟨rfl, B5.out⟩

set_option maxRecDepth 100000 in
set_option maxHeartbeats 2000000 in
theorem s_of_mov_n (a b c d e f g h : Int) (w : World) (k1 : (a == b) = false)  :
    Calls Try.prog 27 #[.int .i64 1, rv a b c d, rv e f g h] w fun ee w' => ee = .returned (rv e f g h) ∧ Below w.heap.size w w' := by
  have bel0 : Hid (Below w.heap.size w (((w.alloc (cellsR4 a b c d)).alloc (cellsR4 e f g h)).alloc (cellsR4 0 0 0 0))) := twoW w a b c d e f g h
  go_enter Try.func27, Try.ntmps27
  have P5 : Hid (RBox (((w.alloc (cellsR4 a b c d)).alloc (cellsR4 e f g h)).alloc (cellsR4 e f g h)) (w.heap.size + 2) e f g h) := by have h0 := RBox.new ((w.alloc (cellsR4 a b c d)).alloc (cellsR4 e f g h)) e f g h; simp only [World.size_alloc] at h0; exact h0
  have B5 := hid ((newB w (cellsR4 a b c d) (cellsR4 e f g h)).alloc (by simp; omega) (cellsR4 e f g h))
  go_wp2_with fail
  obtain ⟨p0, p1, p2, p3⟩ := RBox.box P5.out
  refine bodyPost_ret (v := rv e f g h) (by simp [results, Try.results27, go_sem, p0, p1, p2, p3]) rfl ⟨rfl, B5.out⟩

set_option maxRecDepth 100000 in
set_option maxHeartbeats 2000000 in
theorem s_of_mov_y (a b c d e f g h : Int) (w : World) (k1 : (a == b) = true) (k2 : (e == f) = false)  :
    Calls Try.prog 27 #[.int .i64 1, rv a b c d, rv e f g h] w fun ee w' => ee = .returned (rv e f g h) ∧ Below w.heap.size w w' := by
  have bel0 : Hid (Below w.heap.size w (((w.alloc (cellsR4 a b c d)).alloc (cellsR4 e f g h)).alloc (cellsR4 0 0 0 0))) := twoW w a b c d e f g h
  go_enter Try.func27, Try.ntmps27
  have P5 : Hid (RBox (((w.alloc (cellsR4 a b c d)).alloc (cellsR4 e f g h)).alloc (cellsR4 e f g h)) (w.heap.size + 2) e f g h) := by have h0 := RBox.new ((w.alloc (cellsR4 a b c d)).alloc (cellsR4 e f g h)) e f g h; simp only [World.size_alloc] at h0; exact h0
  have B5 := hid ((newB w (cellsR4 a b c d) (cellsR4 e f g h)).alloc (by simp; omega) (cellsR4 e f g h))
  go_wp2_with fail
  obtain ⟨p0, p1, p2, p3⟩ := RBox.box P5.out
  refine bodyPost_ret (v := rv e f g h) (by simp [results, Try.results27, go_sem, p0, p1, p2, p3]) rfl ⟨rfl, B5.out⟩

set_option maxRecDepth 100000 in
set_option maxHeartbeats 2000000 in
theorem s_of_add_n (a b c d e f g h : Int) (x y z u : Int) (w : World) (k1 : (a == b) = false) (M : Hid (∀ w, Calls Try.prog 57 #[rv a b c d, rv e f g h] w fun ee w' => ee = .returned (rv x y z u) ∧ Below w.heap.size w w')) :
    Calls Try.prog 27 #[.int .i64 2, rv a b c d, rv e f g h] w fun ee w' => ee = .returned (rv x y z u) ∧ Below w.heap.size w w' := by
  have bQ0 : Hid (RBox (((w.alloc (cellsR4 a b c d)).alloc (cellsR4 e f g h)).alloc (cellsR4 0 0 0 0)) (w.heap.size + 2) 0 0 0 0) := twoQ w a b c d e f g h
  have bel0 : Hid (Below w.heap.size w (((w.alloc (cellsR4 a b c d)).alloc (cellsR4 e f g h)).alloc (cellsR4 0 0 0 0))) := twoW w a b c d e f g h
  go_enter Try.func27, Try.ntmps27
  go_wp2_with fail
  refine (M.out _).mono ?_
  rintro ee w1 ⟨rfl, hb1⟩
  have bQ1 := hid (bQ0.out.below hb1)
  have bel1 := hid (bel0.out.trans (hb1.mono bel0.out.size))
  clear hb1 bQ0 bel0
  obtain ⟨g0, g1, g2, g3⟩ := RBox.box bQ1.out
  have fq := RBox.frozen bQ1.out
  have P5 := hid (RBox.box (bQ1.out.st4 (x' := x) (y' := y) (z' := z) (u' := u)))
  have B5 := hid (st4_below (w.heap.size + 2) (x) (y) (z) (u) bel1.out (by omega))
  go_wp2_with fail
  obtain ⟨p0, p1, p2, p3⟩ := P5.out
  unfold st4 at p0 p1 p2 p3
  refine bodyPost_ret (v := rv (x) (y) (z) (u)) (by simp [results, Try.results27, go_sem, p0, p1, p2, p3]) rfl ⟨rfl, B5.out⟩

set_option maxRecDepth 100000 in
set_option maxHeartbeats 2000000 in
theorem s_of_add_y (a b c d e f g h : Int) (x y z u : Int) (w : World) (k1 : (a == b) = true) (k2 : (e == f) = false) (M : Hid (∀ w, Calls Try.prog 57 #[rv a b c d, rv e f g h] w fun ee w' => ee = .returned (rv x y z u) ∧ Below w.heap.size w w')) :
    Calls Try.prog 27 #[.int .i64 2, rv a b c d, rv e f g h] w fun ee w' => ee = .returned (rv x y z u) ∧ Below w.heap.size w w' := by
  have bQ0 : Hid (RBox (((w.alloc (cellsR4 a b c d)).alloc (cellsR4 e f g h)).alloc (cellsR4 0 0 0 0)) (w.heap.size + 2) 0 0 0 0) := twoQ w a b c d e f g h
  have bel0 : Hid (Below w.heap.size w (((w.alloc (cellsR4 a b c d)).alloc (cellsR4 e f g h)).alloc (cellsR4 0 0 0 0))) := twoW w a b c d e f g h
  go_enter Try.func27, Try.ntmps27
  go_wp2_with fail
  refine (M.out _).mono ?_
  rintro ee w1 ⟨rfl, hb1⟩
  have bQ1 := hid (bQ0.out.below hb1)
  have bel1 := hid (bel0.out.trans (hb1.mono bel0.out.size))
  clear hb1 bQ0 bel0
  obtain ⟨g0, g1, g2, g3⟩ := RBox.box bQ1.out
  have fq := RBox.frozen bQ1.out
  have P5 := hid (RBox.box (bQ1.out.st4 (x' := x) (y' := y) (z' := z) (u' := u)))
  have B5 := hid (st4_below (w.heap.size + 2) (x) (y) (z) (u) bel1.out (by omega))
  go_wp2_with fail
  obtain ⟨p0, p1, p2, p3⟩ := P5.out
  unfold st4 at p0 p1 p2 p3
  refine bodyPost_ret (v := rv (x) (y) (z) (u)) (by simp [results, Try.results27, go_sem, p0, p1, p2, p3]) rfl ⟨rfl, B5.out⟩

set_option maxRecDepth 100000 in
set_option maxHeartbeats 2000000 in
theorem s_of_sub_n (a b c d e f g h : Int) (x y z u : Int) (w : World) (k1 : (a == b) = false) (M : Hid (∀ w, Calls Try.prog 58 #[rv a b c d, rv e f g h] w fun ee w' => ee = .returned (rv x y z u) ∧ Below w.heap.size w w')) :
    Calls Try.prog 27 #[.int .i64 3, rv a b c d, rv e f g h] w fun ee w' => ee = .returned (rv x y z u) ∧ Below w.heap.size w w' := by
  have bQ0 : Hid (RBox (((w.alloc (cellsR4 a b c d)).alloc (cellsR4 e f g h)).alloc (cellsR4 0 0 0 0)) (w.heap.size + 2) 0 0 0 0) := twoQ w a b c d e f g h
  have bel0 : Hid (Below w.heap.size w (((w.alloc (cellsR4 a b c d)).alloc (cellsR4 e f g h)).alloc (cellsR4 0 0 0 0))) := twoW w a b c d e f g h
  go_enter Try.func27, Try.ntmps27
  go_wp2_with fail
  refine (M.out _).mono ?_
  rintro ee w1 ⟨rfl, hb1⟩
  have bQ1 := hid (bQ0.out.below hb1)
  have bel1 := hid (bel0.out.trans (hb1.mono bel0.out.size))
  clear hb1 bQ0 bel0
  obtain ⟨g0, g1, g2, g3⟩ := RBox.box bQ1.out
  have fq := RBox.frozen bQ1.out
  have P5 := hid (RBox.box (bQ1.out.st4 (x' := x) (y' := y) (z' := z) (u' := u)))
  have B5 := hid (st4_below (w.heap.size + 2) (x) (y) (z) (u) bel1.out (by omega))
  go_wp2_with fail
  obtain ⟨p0, p1, p2, p3⟩ := P5.out
  unfold st4 at p0 p1 p2 p3
  refine bodyPost_ret (v := rv (x) (y) (z) (u)) (by simp [results, Try.results27, go_sem, p0, p1, p2, p3]) rfl ⟨rfl, B5.out⟩

set_option maxRecDepth 100000 in
set_option maxHeartbeats 2000000 in
theorem s_of_sub_y (a b c d e f g h : Int) (x y z u : Int) (w : World) (k1 : (a == b) = true) (k2 : (e == f) = false) (M : Hid (∀ w, Calls Try.prog 58 #[rv a b c d, rv e f g h] w fun ee w' => ee = .returned (rv x y z u) ∧ Below w.heap.size w w')) :
    Calls Try.prog 27 #[.int .i64 3, rv a b c d, rv e f g h] w fun ee w' => ee = .returned (rv x y z u) ∧ Below w.heap.size w w' := by
  have bQ0 : Hid (RBox (((w.alloc (cellsR4 a b c d)).alloc (cellsR4 e f g h)).alloc (cellsR4 0 0 0 0)) (w.heap.size + 2) 0 0 0 0) := twoQ w a b c d e f g h
  have bel0 : Hid (Below w.heap.size w (((w.alloc (cellsR4 a b c d)).alloc (cellsR4 e f g h)).alloc (cellsR4 0 0 0 0))) := twoW w a b c d e f g h
  go_enter Try.func27, Try.ntmps27
  go_wp2_with fail
  refine (M.out _).mono ?_
  rintro ee w1 ⟨rfl, hb1⟩
  have bQ1 := hid (bQ0.out.below hb1)
  have bel1 := hid (bel0.out.trans (hb1.mono bel0.out.size))
  clear hb1 bQ0 bel0
  obtain ⟨g0, g1, g2, g3⟩ := RBox.box bQ1.out
  have fq := RBox.frozen bQ1.out
  have P5 := hid (RBox.box (bQ1.out.st4 (x' := x) (y' := y) (z' := z) (u' := u)))
  have B5 := hid (st4_below (w.heap.size + 2) (x) (y) (z) (u) bel1.out (by omega))
  go_wp2_with fail
  obtain ⟨p0, p1, p2, p3⟩ := P5.out
  unfold st4 at p0 p1 p2 p3
  refine bodyPost_ret (v := rv (x) (y) (z) (u)) (by simp [results, Try.results27, go_sem, p0, p1, p2, p3]) rfl ⟨rfl, B5.out⟩

set_option maxRecDepth 100000 in
set_option maxHeartbeats 2000000 in
theorem s_of_and_n (a b c d e f g h : Int) (x y z u : Int) (w : World) (k1 : (a == b) = false) (M : Hid (∀ w, Calls Try.prog 59 #[.int .i64 5, rv a b c d, rv e f g h] w fun ee w' => ee = .returned (rv x y z u) ∧ Below w.heap.size w w')) :
    Calls Try.prog 27 #[.int .i64 5, rv a b c d, rv e f g h] w fun ee w' => ee = .returned (rv x y z u) ∧ Below w.heap.size w w' := by
  have bQ0 : Hid (RBox (((w.alloc (cellsR4 a b c d)).alloc (cellsR4 e f g h)).alloc (cellsR4 0 0 0 0)) (w.heap.size + 2) 0 0 0 0) := twoQ w a b c d e f g h
  have bel0 : Hid (Below w.heap.size w (((w.alloc (cellsR4 a b c d)).alloc (cellsR4 e f g h)).alloc (cellsR4 0 0 0 0))) := twoW w a b c d e f g h
  go_enter Try.func27, Try.ntmps27
  go_wp2_with fail
  refine (c_l1In _ _ _ _).mono ?_
  rintro ee w1 ⟨rfl, hw1⟩
  rw [hw1]; clear hw1 w1
  rw [show inB 5 5 7 = true by decide]
  go_wp2_with fail
  refine (M.out _).mono ?_
  rintro ee w1 ⟨rfl, hb1⟩
  have bQ1 := hid (bQ0.out.below hb1)
  have bel1 := hid (bel0.out.trans (hb1.mono bel0.out.size))
  clear hb1 bQ0 bel0
  obtain ⟨g0, g1, g2, g3⟩ := RBox.box bQ1.out
  have fq := RBox.frozen bQ1.out
  have P5 := hid (RBox.box (bQ1.out.st4 (x' := x) (y' := y) (z' := z) (u' := u)))
  have B5 := hid (st4_below (w.heap.size + 2) (x) (y) (z) (u) bel1.out (by omega))
  go_wp2_with fail
  obtain ⟨p0, p1, p2, p3⟩ := P5.out
  unfold st4 at p0 p1 p2 p3
  refine bodyPost_ret (v := rv (x) (y) (z) (u)) (by simp [results, Try.results27, go_sem, p0, p1, p2, p3]) rfl ⟨rfl, B5.out⟩

set_option maxRecDepth 100000 in
set_option maxHeartbeats 2000000 in
theorem s_of_and_y (a b c d e f g h : Int) (x y z u : Int) (w : World) (k1 : (a == b) = true) (k2 : (e == f) = false) (M : Hid (∀ w, Calls Try.prog 59 #[.int .i64 5, rv a b c d, rv e f g h] w fun ee w' => ee = .returned (rv x y z u) ∧ Below w.heap.size w w')) :
    Calls Try.prog 27 #[.int .i64 5, rv a b c d, rv e f g h] w fun ee w' => ee = .returned (rv x y z u) ∧ Below w.heap.size w w' := by
  have bQ0 : Hid (RBox (((w.alloc (cellsR4 a b c d)).alloc (cellsR4 e f g h)).alloc (cellsR4 0 0 0 0)) (w.heap.size + 2) 0 0 0 0) := twoQ w a b c d e f g h
  have bel0 : Hid (Below w.heap.size w (((w.alloc (cellsR4 a b c d)).alloc (cellsR4 e f g h)).alloc (cellsR4 0 0 0 0))) := twoW w a b c d e f g h
  go_enter Try.func27, Try.ntmps27
  go_wp2_with fail
  refine (c_l1In _ _ _ _).mono ?_
  rintro ee w1 ⟨rfl, hw1⟩
  rw [hw1]; clear hw1 w1
  rw [show inB 5 5 7 = true by decide]
  go_wp2_with fail
  refine (M.out _).mono ?_
  rintro ee w1 ⟨rfl, hb1⟩
  have bQ1 := hid (bQ0.out.below hb1)
  have bel1 := hid (bel0.out.trans (hb1.mono bel0.out.size))
  clear hb1 bQ0 bel0
  obtain ⟨g0, g1, g2, g3⟩ := RBox.box bQ1.out
  have fq := RBox.frozen bQ1.out
  have P5 := hid (RBox.box (bQ1.out.st4 (x' := x) (y' := y) (z' := z) (u' := u)))
  have B5 := hid (st4_below (w.heap.size + 2) (x) (y) (z) (u) bel1.out (by omega))
  go_wp2_with fail
  obtain ⟨p0, p1, p2, p3⟩ := P5.out
  unfold st4 at p0 p1 p2 p3
  refine bodyPost_ret (v := rv (x) (y) (z) (u)) (by simp [results, Try.results27, go_sem, p0, p1, p2, p3]) rfl ⟨rfl, B5.out⟩

set_option maxRecDepth 100000 in
set_option maxHeartbeats 2000000 in
theorem s_of_or_n (a b c d e f g h : Int) (x y z u : Int) (w : World) (k1 : (a == b) = false) (M : Hid (∀ w, Calls Try.prog 59 #[.int .i64 6, rv a b c d, rv e f g h] w fun ee w' => ee = .returned (rv x y z u) ∧ Below w.heap.size w w')) :
    Calls Try.prog 27 #[.int .i64 6, rv a b c d, rv e f g h] w fun ee w' => ee = .returned (rv x y z u) ∧ Below w.heap.size w w' := by
  have bQ0 : Hid (RBox (((w.alloc (cellsR4 a b c d)).alloc (cellsR4 e f g h)).alloc (cellsR4 0 0 0 0)) (w.heap.size + 2) 0 0 0 0) := twoQ w a b c d e f g h
  have bel0 : Hid (Below w.heap.size w (((w.alloc (cellsR4 a b c d)).alloc (cellsR4 e f g h)).alloc (cellsR4 0 0 0 0))) := twoW w a b c d e f g h
  go_enter Try.func27, Try.ntmps27
  go_wp2_with fail
  refine (c_l1In _ _ _ _).mono ?_
  rintro ee w1 ⟨rfl, hw1⟩
  rw [hw1]; clear hw1 w1
  rw [show inB 6 5 7 = true by decide]
  go_wp2_with fail
  refine (M.out _).mono ?_
  rintro ee w1 ⟨rfl, hb1⟩
  have bQ1 := hid (bQ0.out.below hb1)
  have bel1 := hid (bel0.out.trans (hb1.mono bel0.out.size))
  clear hb1 bQ0 bel0
  obtain ⟨g0, g1, g2, g3⟩ := RBox.box bQ1.out
  have fq := RBox.frozen bQ1.out
  have P5 := hid (RBox.box (bQ1.out.st4 (x' := x) (y' := y) (z' := z) (u' := u)))
  have B5 := hid (st4_below (w.heap.size + 2) (x) (y) (z) (u) bel1.out (by omega))
  go_wp2_with fail
  obtain ⟨p0, p1, p2, p3⟩ := P5.out
  unfold st4 at p0 p1 p2 p3
  refine bodyPost_ret (v := rv (x) (y) (z) (u)) (by simp [results, Try.results27, go_sem, p0, p1, p2, p3]) rfl ⟨rfl, B5.out⟩

set_option maxRecDepth 100000 in
set_option maxHeartbeats 2000000 in
theorem s_of_or_y (a b c d e f g h : Int) (x y z u : Int) (w : World) (k1 : (a == b) = true) (k2 : (e == f) = false) (M : Hid (∀ w, Calls Try.prog 59 #[.int .i64 6, rv a b c d, rv e f g h] w fun ee w' => ee = .returned (rv x y z u) ∧ Below w.heap.size w w')) :
    Calls Try.prog 27 #[.int .i64 6, rv a b c d, rv e f g h] w fun ee w' => ee = .returned (rv x y z u) ∧ Below w.heap.size w w' := by
  have bQ0 : Hid (RBox (((w.alloc (cellsR4 a b c d)).alloc (cellsR4 e f g h)).alloc (cellsR4 0 0 0 0)) (w.heap.size + 2) 0 0 0 0) := twoQ w a b c d e f g h
  have bel0 : Hid (Below w.heap.size w (((w.alloc (cellsR4 a b c d)).alloc (cellsR4 e f g h)).alloc (cellsR4 0 0 0 0))) := twoW w a b c d e f g h
  go_enter Try.func27, Try.ntmps27
  go_wp2_with fail
  refine (c_l1In _ _ _ _).mono ?_
  rintro ee w1 ⟨rfl, hw1⟩
  rw [hw1]; clear hw1 w1
  rw [show inB 6 5 7 = true by decide]
  go_wp2_with fail
  refine (M.out _).mono ?_
  rintro ee w1 ⟨rfl, hb1⟩
  have bQ1 := hid (bQ0.out.below hb1)
  have bel1 := hid (bel0.out.trans (hb1.mono bel0.out.size))
  clear hb1 bQ0 bel0
  obtain ⟨g0, g1, g2, g3⟩ := RBox.box bQ1.out
  have fq := RBox.frozen bQ1.out
  have P5 := hid (RBox.box (bQ1.out.st4 (x' := x) (y' := y) (z' := z) (u' := u)))
  have B5 := hid (st4_below (w.heap.size + 2) (x) (y) (z) (u) bel1.out (by omega))
  go_wp2_with fail
  obtain ⟨p0, p1, p2, p3⟩ := P5.out
  unfold st4 at p0 p1 p2 p3
  refine bodyPost_ret (v := rv (x) (y) (z) (u)) (by simp [results, Try.results27, go_sem, p0, p1, p2, p3]) rfl ⟨rfl, B5.out⟩

set_option maxRecDepth 100000 in
set_option maxHeartbeats 2000000 in
theorem s_of_xor_n (a b c d e f g h : Int) (x y z u : Int) (w : World) (k1 : (a == b) = false) (M : Hid (∀ w, Calls Try.prog 59 #[.int .i64 7, rv a b c d, rv e f g h] w fun ee w' => ee = .returned (rv x y z u) ∧ Below w.heap.size w w')) :
    Calls Try.prog 27 #[.int .i64 7, rv a b c d, rv e f g h] w fun ee w' => ee = .returned (rv x y z u) ∧ Below w.heap.size w w' := by
  have bQ0 : Hid (RBox (((w.alloc (cellsR4 a b c d)).alloc (cellsR4 e f g h)).alloc (cellsR4 0 0 0 0)) (w.heap.size + 2) 0 0 0 0) := twoQ w a b c d e f g h
  have bel0 : Hid (Below w.heap.size w (((w.alloc (cellsR4 a b c d)).alloc (cellsR4 e f g h)).alloc (cellsR4 0 0 0 0))) := twoW w a b c d e f g h
  go_enter Try.func27, Try.ntmps27
  go_wp2_with fail
  refine (c_l1In _ _ _ _).mono ?_
  rintro ee w1 ⟨rfl, hw1⟩
  rw [hw1]; clear hw1 w1
  rw [show inB 7 5 7 = true by decide]
  go_wp2_with fail
  refine (M.out _).mono ?_
  rintro ee w1 ⟨rfl, hb1⟩
  have bQ1 := hid (bQ0.out.below hb1)
  have bel1 := hid (bel0.out.trans (hb1.mono bel0.out.size))
  clear hb1 bQ0 bel0
  obtain ⟨g0, g1, g2, g3⟩ := RBox.box bQ1.out
  have fq := RBox.frozen bQ1.out
  have P5 := hid (RBox.box (bQ1.out.st4 (x' := x) (y' := y) (z' := z) (u' := u)))
  have B5 := hid (st4_below (w.heap.size + 2) (x) (y) (z) (u) bel1.out (by omega))
  go_wp2_with fail
  obtain ⟨p0, p1, p2, p3⟩ := P5.out
  unfold st4 at p0 p1 p2 p3
  refine bodyPost_ret (v := rv (x) (y) (z) (u)) (by simp [results, Try.results27, go_sem, p0, p1, p2, p3]) rfl ⟨rfl, B5.out⟩

set_option maxRecDepth 100000 in
set_option maxHeartbeats 2000000 in
theorem s_of_xor_y (a b c d e f g h : Int) (x y z u : Int) (w : World) (k1 : (a == b) = true) (k2 : (e == f) = false) (M : Hid (∀ w, Calls Try.prog 59 #[.int .i64 7, rv a b c d, rv e f g h] w fun ee w' => ee = .returned (rv x y z u) ∧ Below w.heap.size w w')) :
    Calls Try.prog 27 #[.int .i64 7, rv a b c d, rv e f g h] w fun ee w' => ee = .returned (rv x y z u) ∧ Below w.heap.size w w' := by
  have bQ0 : Hid (RBox (((w.alloc (cellsR4 a b c d)).alloc (cellsR4 e f g h)).alloc (cellsR4 0 0 0 0)) (w.heap.size + 2) 0 0 0 0) := twoQ w a b c d e f g h
  have bel0 : Hid (Below w.heap.size w (((w.alloc (cellsR4 a b c d)).alloc (cellsR4 e f g h)).alloc (cellsR4 0 0 0 0))) := twoW w a b c d e f g h
  go_enter Try.func27, Try.ntmps27
  go_wp2_with fail
  refine (c_l1In _ _ _ _).mono ?_
  rintro ee w1 ⟨rfl, hw1⟩
  rw [hw1]; clear hw1 w1
  rw [show inB 7 5 7 = true by decide]
  go_wp2_with fail
  refine (M.out _).mono ?_
  rintro ee w1 ⟨rfl, hb1⟩
  have bQ1 := hid (bQ0.out.below hb1)
  have bel1 := hid (bel0.out.trans (hb1.mono bel0.out.size))
  clear hb1 bQ0 bel0
  obtain ⟨g0, g1, g2, g3⟩ := RBox.box bQ1.out
  have fq := RBox.frozen bQ1.out
  have P5 := hid (RBox.box (bQ1.out.st4 (x' := x) (y' := y) (z' := z) (u' := u)))
  have B5 := hid (st4_below (w.heap.size + 2) (x) (y) (z) (u) bel1.out (by omega))
  go_wp2_with fail
  obtain ⟨p0, p1, p2, p3⟩ := P5.out
  unfold st4 at p0 p1 p2 p3
  refine bodyPost_ret (v := rv (x) (y) (z) (u)) (by simp [results, Try.results27, go_sem, p0, p1, p2, p3]) rfl ⟨rfl, B5.out⟩

set_option maxRecDepth 100000 in
set_option maxHeartbeats 2000000 in
theorem s_of_div_n (a b c d e f g h : Int) (x y z u : Int) (w : World) (k1 : (a == b) = false) (M : Hid (∀ w, Calls Try.prog 61 #[.int .i64 10, rv a b c d, rv e f g h] w fun ee w' => ee = .returned (rv x y z u) ∧ Below w.heap.size w w')) :
    Calls Try.prog 27 #[.int .i64 10, rv a b c d, rv e f g h] w fun ee w' => ee = .returned (rv x y z u) ∧ Below w.heap.size w w' := by
  have bQ0 : Hid (RBox (((w.alloc (cellsR4 a b c d)).alloc (cellsR4 e f g h)).alloc (cellsR4 0 0 0 0)) (w.heap.size + 2) 0 0 0 0) := twoQ w a b c d e f g h
  have bel0 : Hid (Below w.heap.size w (((w.alloc (cellsR4 a b c d)).alloc (cellsR4 e f g h)).alloc (cellsR4 0 0 0 0))) := twoW w a b c d e f g h
  go_enter Try.func27, Try.ntmps27
  go_wp2_with fail
  refine (c_l1In _ _ _ _).mono ?_
  rintro ee w1 ⟨rfl, hw1⟩
  rw [hw1]; clear hw1 w1
  rw [show inB 10 5 7 = false by decide]
  go_wp2_with fail
  refine (c_l1In _ _ _ _).mono ?_
  rintro ee w1 ⟨rfl, hw1⟩
  rw [hw1]; clear hw1 w1
  rw [show inB 10 8 9 = false by decide]
  go_wp2_with fail
  refine (M.out _).mono ?_
  rintro ee w1 ⟨rfl, hb1⟩
  have bQ1 := hid (bQ0.out.below hb1)
  have bel1 := hid (bel0.out.trans (hb1.mono bel0.out.size))
  clear hb1 bQ0 bel0
  obtain ⟨g0, g1, g2, g3⟩ := RBox.box bQ1.out
  have fq := RBox.frozen bQ1.out
  have P5 := hid (RBox.box (bQ1.out.st4 (x' := x) (y' := y) (z' := z) (u' := u)))
  have B5 := hid (st4_below (w.heap.size + 2) (x) (y) (z) (u) bel1.out (by omega))
  go_wp2_with fail
  obtain ⟨p0, p1, p2, p3⟩ := P5.out
  unfold st4 at p0 p1 p2 p3
  refine bodyPost_ret (v := rv (x) (y) (z) (u)) (by simp [results, Try.results27, go_sem, p0, p1, p2, p3]) rfl ⟨rfl, B5.out⟩

set_option maxRecDepth 100000 in
set_option maxHeartbeats 2000000 in
theorem s_of_div_y (a b c d e f g h : Int) (x y z u : Int) (w : World) (k1 : (a == b) = true) (k2 : (e == f) = false) (M : Hid (∀ w, Calls Try.prog 61 #[.int .i64 10, rv a b c d, rv e f g h] w fun ee w' => ee = .returned (rv x y z u) ∧ Below w.heap.size w w')) :
    Calls Try.prog 27 #[.int .i64 10, rv a b c d, rv e f g h] w fun ee w' => ee = .returned (rv x y z u) ∧ Below w.heap.size w w' := by
  have bQ0 : Hid (RBox (((w.alloc (cellsR4 a b c d)).alloc (cellsR4 e f g h)).alloc (cellsR4 0 0 0 0)) (w.heap.size + 2) 0 0 0 0) := twoQ w a b c d e f g h
  have bel0 : Hid (Below w.heap.size w (((w.alloc (cellsR4 a b c d)).alloc (cellsR4 e f g h)).alloc (cellsR4 0 0 0 0))) := twoW w a b c d e f g h
  go_enter Try.func27, Try.ntmps27
  go_wp2_with fail
  refine (c_l1In _ _ _ _).mono ?_
  rintro ee w1 ⟨rfl, hw1⟩
  rw [hw1]; clear hw1 w1
  rw [show inB 10 5 7 = false by decide]
  go_wp2_with fail
  refine (c_l1In _ _ _ _).mono ?_
  rintro ee w1 ⟨rfl, hw1⟩
  rw [hw1]; clear hw1 w1
  rw [show inB 10 8 9 = false by decide]
  go_wp2_with fail
  refine (M.out _).mono ?_
  rintro ee w1 ⟨rfl, hb1⟩
  have bQ1 := hid (bQ0.out.below hb1)
  have bel1 := hid (bel0.out.trans (hb1.mono bel0.out.size))
  clear hb1 bQ0 bel0
  obtain ⟨g0, g1, g2, g3⟩ := RBox.box bQ1.out
  have fq := RBox.frozen bQ1.out
  have P5 := hid (RBox.box (bQ1.out.st4 (x' := x) (y' := y) (z' := z) (u' := u)))
  have B5 := hid (st4_below (w.heap.size + 2) (x) (y) (z) (u) bel1.out (by omega))
  go_wp2_with fail
  obtain ⟨p0, p1, p2, p3⟩ := P5.out
  unfold st4 at p0 p1 p2 p3
  refine bodyPost_ret (v := rv (x) (y) (z) (u)) (by simp [results, Try.results27, go_sem, p0, p1, p2, p3]) rfl ⟨rfl, B5.out⟩

set_option maxRecDepth 100000 in
set_option maxHeartbeats 2000000 in
theorem s_of_mod_n (a b c d e f g h : Int) (x y z u : Int) (w : World) (k1 : (a == b) = false) (M : Hid (∀ w, Calls Try.prog 61 #[.int .i64 11, rv a b c d, rv e f g h] w fun ee w' => ee = .returned (rv x y z u) ∧ Below w.heap.size w w')) :
    Calls Try.prog 27 #[.int .i64 11, rv a b c d, rv e f g h] w fun ee w' => ee = .returned (rv x y z u) ∧ Below w.heap.size w w' := by
  have bQ0 : Hid (RBox (((w.alloc (cellsR4 a b c d)).alloc (cellsR4 e f g h)).alloc (cellsR4 0 0 0 0)) (w.heap.size + 2) 0 0 0 0) := twoQ w a b c d e f g h
  have bel0 : Hid (Below w.heap.size w (((w.alloc (cellsR4 a b c d)).alloc (cellsR4 e f g h)).alloc (cellsR4 0 0 0 0))) := twoW w a b c d e f g h
  go_enter Try.func27, Try.ntmps27
  go_wp2_with fail
  refine (c_l1In _ _ _ _).mono ?_
  rintro ee w1 ⟨rfl, hw1⟩
  rw [hw1]; clear hw1 w1
  rw [show inB 11 5 7 = false by decide]
  go_wp2_with fail
  refine (c_l1In _ _ _ _).mono ?_
  rintro ee w1 ⟨rfl, hw1⟩
  rw [hw1]; clear hw1 w1
  rw [show inB 11 8 9 = false by decide]
  go_wp2_with fail
  refine (M.out _).mono ?_
  rintro ee w1 ⟨rfl, hb1⟩
  have bQ1 := hid (bQ0.out.below hb1)
  have bel1 := hid (bel0.out.trans (hb1.mono bel0.out.size))
  clear hb1 bQ0 bel0
  obtain ⟨g0, g1, g2, g3⟩ := RBox.box bQ1.out
  have fq := RBox.frozen bQ1.out
  have P5 := hid (RBox.box (bQ1.out.st4 (x' := x) (y' := y) (z' := z) (u' := u)))
  have B5 := hid (st4_below (w.heap.size + 2) (x) (y) (z) (u) bel1.out (by omega))
  go_wp2_with fail
  obtain ⟨p0, p1, p2, p3⟩ := P5.out
  unfold st4 at p0 p1 p2 p3
  refine bodyPost_ret (v := rv (x) (y) (z) (u)) (by simp [results, Try.results27, go_sem, p0, p1, p2, p3]) rfl ⟨rfl, B5.out⟩

set_option maxRecDepth 100000 in
set_option maxHeartbeats 2000000 in
theorem s_of_mod_y (a b c d e f g h : Int) (x y z u : Int) (w : World) (k1 : (a == b) = true) (k2 : (e == f) = false) (M : Hid (∀ w, Calls Try.prog 61 #[.int .i64 11, rv a b c d, rv e f g h] w fun ee w' => ee = .returned (rv x y z u) ∧ Below w.heap.size w w')) :
    Calls Try.prog 27 #[.int .i64 11, rv a b c d, rv e f g h] w fun ee w' => ee = .returned (rv x y z u) ∧ Below w.heap.size w w' := by
  have bQ0 : Hid (RBox (((w.alloc (cellsR4 a b c d)).alloc (cellsR4 e f g h)).alloc (cellsR4 0 0 0 0)) (w.heap.size + 2) 0 0 0 0) := twoQ w a b c d e f g h
  have bel0 : Hid (Below w.heap.size w (((w.alloc (cellsR4 a b c d)).alloc (cellsR4 e f g h)).alloc (cellsR4 0 0 0 0))) := twoW w a b c d e f g h
  go_enter Try.func27, Try.ntmps27
  go_wp2_with fail
  refine (c_l1In _ _ _ _).mono ?_
  rintro ee w1 ⟨rfl, hw1⟩
  rw [hw1]; clear hw1 w1
  rw [show inB 11 5 7 = false by decide]
  go_wp2_with fail
  refine (c_l1In _ _ _ _).mono ?_
  rintro ee w1 ⟨rfl, hw1⟩
  rw [hw1]; clear hw1 w1
  rw [show inB 11 8 9 = false by decide]
  go_wp2_with fail
  refine (M.out _).mono ?_
  rintro ee w1 ⟨rfl, hb1⟩
  have bQ1 := hid (bQ0.out.below hb1)
  have bel1 := hid (bel0.out.trans (hb1.mono bel0.out.size))
  clear hb1 bQ0 bel0
  obtain ⟨g0, g1, g2, g3⟩ := RBox.box bQ1.out
  have fq := RBox.frozen bQ1.out
  have P5 := hid (RBox.box (bQ1.out.st4 (x' := x) (y' := y) (z' := z) (u' := u)))
  have B5 := hid (st4_below (w.heap.size + 2) (x) (y) (z) (u) bel1.out (by omega))
  go_wp2_with fail
  obtain ⟨p0, p1, p2, p3⟩ := P5.out
  unfold st4 at p0 p1 p2 p3
  refine bodyPost_ret (v := rv (x) (y) (z) (u)) (by simp [results, Try.results27, go_sem, p0, p1, p2, p3]) rfl ⟨rfl, B5.out⟩

set_option maxRecDepth 100000 in
set_option maxHeartbeats 2000000 in
theorem s_of_shl_n1 (a b c d e f g h : Int) (S x y z u : Int) (w : World) (k1 : (a == b) = false) (k2 : (e == f) = true) (hS : bits .and .i64 e 31 = S) (M : Hid (∀ w, Calls Try.prog 60 #[.int .i64 8, rv a b c d, .int .i64 S] w fun ee w' => ee = .returned (rv x y z u) ∧ Below w.heap.size w w')) :
    Calls Try.prog 27 #[.int .i64 8, rv a b c d, rv e f g h] w fun ee w' => ee = .returned (rv x y z u) ∧ Below w.heap.size w w' := by
  have bQ0 : Hid (RBox (((w.alloc (cellsR4 a b c d)).alloc (cellsR4 e f g h)).alloc (cellsR4 0 0 0 0)) (w.heap.size + 2) 0 0 0 0) := twoQ w a b c d e f g h
  have bel0 : Hid (Below w.heap.size w (((w.alloc (cellsR4 a b c d)).alloc (cellsR4 e f g h)).alloc (cellsR4 0 0 0 0))) := twoW w a b c d e f g h
  go_enter Try.func27, Try.ntmps27
  go_wp2_with fail
  refine (c_l1In _ _ _ _).mono ?_
  rintro ee w1 ⟨rfl, hw1⟩
  rw [hw1]; clear hw1 w1
  rw [show inB 8 5 7 = false by decide]
  go_wp2_with fail
  refine (c_l1In _ _ _ _).mono ?_
  rintro ee w1 ⟨rfl, hw1⟩
  rw [hw1]; clear hw1 w1
  rw [show inB 8 8 9 = true by decide]
  go_wp2_with fail
  refine (M.out _).mono ?_
  rintro ee w1 ⟨rfl, hb1⟩
  have bQ1 := hid (bQ0.out.below hb1)
  have bel1 := hid (bel0.out.trans (hb1.mono bel0.out.size))
  clear hb1 bQ0 bel0
  obtain ⟨g0, g1, g2, g3⟩ := RBox.box bQ1.out
  have fq := RBox.frozen bQ1.out
  have P5 := hid (RBox.box (bQ1.out.st4 (x' := x) (y' := y) (z' := z) (u' := u)))
  have B5 := hid (st4_below (w.heap.size + 2) (x) (y) (z) (u) bel1.out (by omega))
  go_wp2_with fail
  obtain ⟨p0, p1, p2, p3⟩ := P5.out
  unfold st4 at p0 p1 p2 p3
  refine bodyPost_ret (v := rv (x) (y) (z) (u)) (by simp [results, Try.results27, go_sem, p0, p1, p2, p3]) rfl ⟨rfl, B5.out⟩

set_option maxRecDepth 100000 in
set_option maxHeartbeats 2000000 in
theorem s_of_shl_0n (a b c d e f g h : Int) (x y z u : Int) (w : World) (k1 : (a == b) = false) (k2 : (e == f) = false) (M : Hid (∀ w, Calls Try.prog 37 #[] w fun ee w' => ee = .returned (rv x y z u) ∧ Below w.heap.size w w')) :
    Calls Try.prog 27 #[.int .i64 8, rv a b c d, rv e f g h] w fun ee w' => ee = .returned (rv x y z u) ∧ Below w.heap.size w w' := by
  have bQ0 : Hid (RBox (((w.alloc (cellsR4 a b c d)).alloc (cellsR4 e f g h)).alloc (cellsR4 0 0 0 0)) (w.heap.size + 2) 0 0 0 0) := twoQ w a b c d e f g h
  have bel0 : Hid (Below w.heap.size w (((w.alloc (cellsR4 a b c d)).alloc (cellsR4 e f g h)).alloc (cellsR4 0 0 0 0))) := twoW w a b c d e f g h
  go_enter Try.func27, Try.ntmps27
  go_wp2_with fail
  refine (c_l1In _ _ _ _).mono ?_
  rintro ee w1 ⟨rfl, hw1⟩
  rw [hw1]; clear hw1 w1
  rw [show inB 8 5 7 = false by decide]
  go_wp2_with fail
  refine (c_l1In _ _ _ _).mono ?_
  rintro ee w1 ⟨rfl, hw1⟩
  rw [hw1]; clear hw1 w1
  rw [show inB 8 8 9 = true by decide]
  go_wp2_with fail
  refine (M.out _).mono ?_
  rintro ee w1 ⟨rfl, hb1⟩
  have bQ1 := hid (bQ0.out.below hb1)
  have bel1 := hid (bel0.out.trans (hb1.mono bel0.out.size))
  clear hb1 bQ0 bel0
  obtain ⟨g0, g1, g2, g3⟩ := RBox.box bQ1.out
  have fq := RBox.frozen bQ1.out
  have P5 := hid (RBox.box (bQ1.out.st4 (x' := x) (y' := y) (z' := z) (u' := u)))
  have B5 := hid (st4_below (w.heap.size + 2) (x) (y) (z) (u) bel1.out (by omega))
  go_wp2_with fail
  obtain ⟨p0, p1, p2, p3⟩ := P5.out
  unfold st4 at p0 p1 p2 p3
  refine bodyPost_ret (v := rv (x) (y) (z) (u)) (by simp [results, Try.results27, go_sem, p0, p1, p2, p3]) rfl ⟨rfl, B5.out⟩

set_option maxRecDepth 100000 in
set_option maxHeartbeats 2000000 in
theorem s_of_shl_0y (a b c d e f g h : Int) (x y z u : Int) (w : World) (k1 : (a == b) = true) (k2 : (e == f) = false) (M : Hid (∀ w, Calls Try.prog 37 #[] w fun ee w' => ee = .returned (rv x y z u) ∧ Below w.heap.size w w')) :
    Calls Try.prog 27 #[.int .i64 8, rv a b c d, rv e f g h] w fun ee w' => ee = .returned (rv x y z u) ∧ Below w.heap.size w w' := by
  have bQ0 : Hid (RBox (((w.alloc (cellsR4 a b c d)).alloc (cellsR4 e f g h)).alloc (cellsR4 0 0 0 0)) (w.heap.size + 2) 0 0 0 0) := twoQ w a b c d e f g h
  have bel0 : Hid (Below w.heap.size w (((w.alloc (cellsR4 a b c d)).alloc (cellsR4 e f g h)).alloc (cellsR4 0 0 0 0))) := twoW w a b c d e f g h
  go_enter Try.func27, Try.ntmps27
  go_wp2_with fail
  refine (c_l1In _ _ _ _).mono ?_
  rintro ee w1 ⟨rfl, hw1⟩
  rw [hw1]; clear hw1 w1
  rw [show inB 8 5 7 = false by decide]
  go_wp2_with fail
  refine (c_l1In _ _ _ _).mono ?_
  rintro ee w1 ⟨rfl, hw1⟩
  rw [hw1]; clear hw1 w1
  rw [show inB 8 8 9 = true by decide]
  go_wp2_with fail
  refine (M.out _).mono ?_
  rintro ee w1 ⟨rfl, hb1⟩
  have bQ1 := hid (bQ0.out.below hb1)
  have bel1 := hid (bel0.out.trans (hb1.mono bel0.out.size))
  clear hb1 bQ0 bel0
  obtain ⟨g0, g1, g2, g3⟩ := RBox.box bQ1.out
  have fq := RBox.frozen bQ1.out
  have P5 := hid (RBox.box (bQ1.out.st4 (x' := x) (y' := y) (z' := z) (u' := u)))
  have B5 := hid (st4_below (w.heap.size + 2) (x) (y) (z) (u) bel1.out (by omega))
  go_wp2_with fail
  obtain ⟨p0, p1, p2, p3⟩ := P5.out
  unfold st4 at p0 p1 p2 p3
  refine bodyPost_ret (v := rv (x) (y) (z) (u)) (by simp [results, Try.results27, go_sem, p0, p1, p2, p3]) rfl ⟨rfl, B5.out⟩

set_option maxRecDepth 100000 in
set_option maxHeartbeats 2000000 in
theorem s_of_shr_n1 (a b c d e f g h : Int) (S x y z u : Int) (w : World) (k1 : (a == b) = false) (k2 : (e == f) = true) (hS : bits .and .i64 e 31 = S) (M : Hid (∀ w, Calls Try.prog 60 #[.int .i64 9, rv a b c d, .int .i64 S] w fun ee w' => ee = .returned (rv x y z u) ∧ Below w.heap.size w w')) :
    Calls Try.prog 27 #[.int .i64 9, rv a b c d, rv e f g h] w fun ee w' => ee = .returned (rv x y z u) ∧ Below w.heap.size w w' := by
  have bQ0 : Hid (RBox (((w.alloc (cellsR4 a b c d)).alloc (cellsR4 e f g h)).alloc (cellsR4 0 0 0 0)) (w.heap.size + 2) 0 0 0 0) := twoQ w a b c d e f g h
  have bel0 : Hid (Below w.heap.size w (((w.alloc (cellsR4 a b c d)).alloc (cellsR4 e f g h)).alloc (cellsR4 0 0 0 0))) := twoW w a b c d e f g h
  go_enter Try.func27, Try.ntmps27
  go_wp2_with fail
  refine (c_l1In _ _ _ _).mono ?_
  rintro ee w1 ⟨rfl, hw1⟩
  rw [hw1]; clear hw1 w1
  rw [show inB 9 5 7 = false by decide]
  go_wp2_with fail
  refine (c_l1In _ _ _ _).mono ?_
  rintro ee w1 ⟨rfl, hw1⟩
  rw [hw1]; clear hw1 w1
  rw [show inB 9 8 9 = true by decide]
  go_wp2_with fail
  refine (M.out _).mono ?_
  rintro ee w1 ⟨rfl, hb1⟩
  have bQ1 := hid (bQ0.out.below hb1)
  have bel1 := hid (bel0.out.trans (hb1.mono bel0.out.size))
  clear hb1 bQ0 bel0
  obtain ⟨g0, g1, g2, g3⟩ := RBox.box bQ1.out
  have fq := RBox.frozen bQ1.out
  have P5 := hid (RBox.box (bQ1.out.st4 (x' := x) (y' := y) (z' := z) (u' := u)))
  have B5 := hid (st4_below (w.heap.size + 2) (x) (y) (z) (u) bel1.out (by omega))
  go_wp2_with fail
  obtain ⟨p0, p1, p2, p3⟩ := P5.out
  unfold st4 at p0 p1 p2 p3
  refine bodyPost_ret (v := rv (x) (y) (z) (u)) (by simp [results, Try.results27, go_sem, p0, p1, p2, p3]) rfl ⟨rfl, B5.out⟩

set_option maxRecDepth 100000 in
set_option maxHeartbeats 2000000 in
theorem s_of_shr_0n (a b c d e f g h : Int) (x y z u : Int) (w : World) (k1 : (a == b) = false) (k2 : (e == f) = false) (M : Hid (∀ w, Calls Try.prog 38 #[.int .i64 0, .int .i64 b] w fun ee w' => ee = .returned (rv x y z u) ∧ Below w.heap.size w w')) :
    Calls Try.prog 27 #[.int .i64 9, rv a b c d, rv e f g h] w fun ee w' => ee = .returned (rv x y z u) ∧ Below w.heap.size w w' := by
  have bQ0 : Hid (RBox (((w.alloc (cellsR4 a b c d)).alloc (cellsR4 e f g h)).alloc (cellsR4 0 0 0 0)) (w.heap.size + 2) 0 0 0 0) := twoQ w a b c d e f g h
  have bel0 : Hid (Below w.heap.size w (((w.alloc (cellsR4 a b c d)).alloc (cellsR4 e f g h)).alloc (cellsR4 0 0 0 0))) := twoW w a b c d e f g h
  go_enter Try.func27, Try.ntmps27
  go_wp2_with fail
  refine (c_l1In _ _ _ _).mono ?_
  rintro ee w1 ⟨rfl, hw1⟩
  rw [hw1]; clear hw1 w1
  rw [show inB 9 5 7 = false by decide]
  go_wp2_with fail
  refine (c_l1In _ _ _ _).mono ?_
  rintro ee w1 ⟨rfl, hw1⟩
  rw [hw1]; clear hw1 w1
  rw [show inB 9 8 9 = true by decide]
  go_wp2_with fail
  refine (M.out _).mono ?_
  rintro ee w1 ⟨rfl, hb1⟩
  have bQ1 := hid (bQ0.out.below hb1)
  have bel1 := hid (bel0.out.trans (hb1.mono bel0.out.size))
  clear hb1 bQ0 bel0
  obtain ⟨g0, g1, g2, g3⟩ := RBox.box bQ1.out
  have fq := RBox.frozen bQ1.out
  have P5 := hid (RBox.box (bQ1.out.st4 (x' := x) (y' := y) (z' := z) (u' := u)))
  have B5 := hid (st4_below (w.heap.size + 2) (x) (y) (z) (u) bel1.out (by omega))
  go_wp2_with fail
  obtain ⟨p0, p1, p2, p3⟩ := P5.out
  unfold st4 at p0 p1 p2 p3
  refine bodyPost_ret (v := rv (x) (y) (z) (u)) (by simp [results, Try.results27, go_sem, p0, p1, p2, p3]) rfl ⟨rfl, B5.out⟩

set_option maxRecDepth 100000 in
set_option maxHeartbeats 2000000 in
theorem s_of_shr_0y (a b c d e f g h : Int) (x y z u : Int) (w : World) (k1 : (a == b) = true) (k2 : (e == f) = false) (M : Hid (∀ w, Calls Try.prog 38 #[.int .i64 0, .int .i64 b] w fun ee w' => ee = .returned (rv x y z u) ∧ Below w.heap.size w w')) :
    Calls Try.prog 27 #[.int .i64 9, rv a b c d, rv e f g h] w fun ee w' => ee = .returned (rv x y z u) ∧ Below w.heap.size w w' := by
  have bQ0 : Hid (RBox (((w.alloc (cellsR4 a b c d)).alloc (cellsR4 e f g h)).alloc (cellsR4 0 0 0 0)) (w.heap.size + 2) 0 0 0 0) := twoQ w a b c d e f g h
  have bel0 : Hid (Below w.heap.size w (((w.alloc (cellsR4 a b c d)).alloc (cellsR4 e f g h)).alloc (cellsR4 0 0 0 0))) := twoW w a b c d e f g h
  go_enter Try.func27, Try.ntmps27
  go_wp2_with fail
  refine (c_l1In _ _ _ _).mono ?_
  rintro ee w1 ⟨rfl, hw1⟩
  rw [hw1]; clear hw1 w1
  rw [show inB 9 5 7 = false by decide]
  go_wp2_with fail
  refine (c_l1In _ _ _ _).mono ?_
  rintro ee w1 ⟨rfl, hw1⟩
  rw [hw1]; clear hw1 w1
  rw [show inB 9 8 9 = true by decide]
  go_wp2_with fail
  refine (M.out _).mono ?_
  rintro ee w1 ⟨rfl, hb1⟩
  have bQ1 := hid (bQ0.out.below hb1)
  have bel1 := hid (bel0.out.trans (hb1.mono bel0.out.size))
  clear hb1 bQ0 bel0
  obtain ⟨g0, g1, g2, g3⟩ := RBox.box bQ1.out
  have fq := RBox.frozen bQ1.out
  have P5 := hid (RBox.box (bQ1.out.st4 (x' := x) (y' := y) (z' := z) (u' := u)))
  have B5 := hid (st4_below (w.heap.size + 2) (x) (y) (z) (u) bel1.out (by omega))
  go_wp2_with fail
  obtain ⟨p0, p1, p2, p3⟩ := P5.out
  unfold st4 at p0 p1 p2 p3
  refine bodyPost_ret (v := rv (x) (y) (z) (u)) (by simp [results, Try.results27, go_sem, p0, p1, p2, p3]) rfl ⟨rfl, B5.out⟩

set_option maxRecDepth 100000 in
set_option maxHeartbeats 2000000 in
theorem sg_of_no1 (op : Int) (a b c d e f g h : Int) (w : World) (h1 : inB op 1 11 = false)  :
    Calls Try.prog 7 #[.int .i64 op, rv a b c d, rv e f g h] w fun ee w' => ee = .returned (rv 1 0 0 0) ∧ Below w.heap.size w w' := by
  have bA0 : Hid (RBox (((w.alloc (cellsR4 a b c d)).alloc (cellsR4 e f g h)).alloc (cellsR4 0 0 0 0)) w.heap.size a b c d) := twoA w a b c d e f g h
  have bB0 : Hid (RBox (((w.alloc (cellsR4 a b c d)).alloc (cellsR4 e f g h)).alloc (cellsR4 0 0 0 0)) (w.heap.size + 1) e f g h) := twoB w a b c d e f g h
  have bQ0 : Hid (RBox (((w.alloc (cellsR4 a b c d)).alloc (cellsR4 e f g h)).alloc (cellsR4 0 0 0 0)) (w.heap.size + 2) 0 0 0 0) := twoQ w a b c d e f g h
  have bel0 : Hid (Below w.heap.size w (((w.alloc (cellsR4 a b c d)).alloc (cellsR4 e f g h)).alloc (cellsR4 0 0 0 0))) := twoW w a b c d e f g h
  go_enter Try.func7, Try.ntmps7
  go_wp2_with fail
  refine (c_l1Alu _ _).mono ?_
  rintro ee w1 ⟨rfl, hw1⟩
  rw [hw1]; clear hw1 w1
  rw [h1]
  have P5 : Hid (RBox (((w.alloc (cellsR4 a b c d)).alloc (cellsR4 e f g h)).alloc (cellsR4 1 0 0 0)) (w.heap.size + 2) 1 0 0 0) := by have h0 := RBox.new ((w.alloc (cellsR4 a b c d)).alloc (cellsR4 e f g h)) 1 0 0 0; simp only [World.size_alloc] at h0; exact h0
  have B5 := hid ((newB w (cellsR4 a b c d) (cellsR4 e f g h)).alloc (by simp; omega) (cellsR4 1 0 0 0))
  go_wp2_with fail
  obtain ⟨p0, p1, p2, p3⟩ := RBox.box P5.out
  refine bodyPost_ret (v := rv 1 0 0 0) (by simp [results, Try.results7, go_sem, p0, p1, p2, p3]) rfl ⟨rfl, B5.out⟩

set_option maxRecDepth 100000 in
set_option maxHeartbeats 2000000 in
theorem sg_of_no2 (op : Int) (a b c d e f g h : Int) (w : World) (h1 : inB op 1 11 = true) (h2 : okB a b c d = false)  :
    Calls Try.prog 7 #[.int .i64 op, rv a b c d, rv e f g h] w fun ee w' => ee = .returned (rv 1 0 0 0) ∧ Below w.heap.size w w' := by
  have bA0 : Hid (RBox (((w.alloc (cellsR4 a b c d)).alloc (cellsR4 e f g h)).alloc (cellsR4 0 0 0 0)) w.heap.size a b c d) := twoA w a b c d e f g h
  have bB0 : Hid (RBox (((w.alloc (cellsR4 a b c d)).alloc (cellsR4 e f g h)).alloc (cellsR4 0 0 0 0)) (w.heap.size + 1) e f g h) := twoB w a b c d e f g h
  have bQ0 : Hid (RBox (((w.alloc (cellsR4 a b c d)).alloc (cellsR4 e f g h)).alloc (cellsR4 0 0 0 0)) (w.heap.size + 2) 0 0 0 0) := twoQ w a b c d e f g h
  have bel0 : Hid (Below w.heap.size w (((w.alloc (cellsR4 a b c d)).alloc (cellsR4 e f g h)).alloc (cellsR4 0 0 0 0))) := twoW w a b c d e f g h
  go_enter Try.func7, Try.ntmps7
  go_wp2_with fail
  refine (c_l1Alu _ _).mono ?_
  rintro ee w1 ⟨rfl, hw1⟩
  rw [hw1]; clear hw1 w1
  rw [h1]
  go_wp2_with fail
  refine (c_l2Ok _ _ _ _ _).mono ?_
  rintro ee w1 ⟨rfl, hb1⟩
  have bA1 := hid (bA0.out.below hb1)
  have bB1 := hid (bB0.out.below hb1)
  have bQ1 := hid (bQ0.out.below hb1)
  have bel1 := hid (bel0.out.trans (hb1.mono bel0.out.size))
  clear hb1 bA0 bB0 bQ0 bel0
  rw [h2]
  obtain ⟨g0, g1, g2, g3⟩ := RBox.box bQ1.out
  have fq := RBox.frozen bQ1.out
  have P5 := hid (RBox.box (bQ1.out.st4 (x' := 1) (y' := 0) (z' := 0) (u' := 0)))
  have B5 := hid (st4_below (w.heap.size + 2) (1) (0) (0) (0) bel1.out (by omega))
  go_wp2_with fail
  obtain ⟨p0, p1, p2, p3⟩ := P5.out
  unfold st4 at p0 p1 p2 p3
  refine bodyPost_ret (v := rv (1) (0) (0) (0)) (by simp [results, Try.results7, go_sem, p0, p1, p2, p3]) rfl ⟨rfl, B5.out⟩

set_option maxRecDepth 100000 in
set_option maxHeartbeats 2000000 in
theorem sg_of_no3 (op : Int) (a b c d e f g h : Int) (w : World) (h1 : inB op 1 11 = true) (h2 : okB a b c d = true) (h3 : okB e f g h = false)  :
    Calls Try.prog 7 #[.int .i64 op, rv a b c d, rv e f g h] w fun ee w' => ee = .returned (rv 1 0 0 0) ∧ Below w.heap.size w w' := by
  have bA0 : Hid (RBox (((w.alloc (cellsR4 a b c d)).alloc (cellsR4 e f g h)).alloc (cellsR4 0 0 0 0)) w.heap.size a b c d) := twoA w a b c d e f g h
  have bB0 : Hid (RBox (((w.alloc (cellsR4 a b c d)).alloc (cellsR4 e f g h)).alloc (cellsR4 0 0 0 0)) (w.heap.size + 1) e f g h) := twoB w a b c d e f g h
  have bQ0 : Hid (RBox (((w.alloc (cellsR4 a b c d)).alloc (cellsR4 e f g h)).alloc (cellsR4 0 0 0 0)) (w.heap.size + 2) 0 0 0 0) := twoQ w a b c d e f g h
  have bel0 : Hid (Below w.heap.size w (((w.alloc (cellsR4 a b c d)).alloc (cellsR4 e f g h)).alloc (cellsR4 0 0 0 0))) := twoW w a b c d e f g h
  go_enter Try.func7, Try.ntmps7
  go_wp2_with fail
  refine (c_l1Alu _ _).mono ?_
  rintro ee w1 ⟨rfl, hw1⟩
  rw [hw1]; clear hw1 w1
  rw [h1]
  go_wp2_with fail
  refine (c_l2Ok _ _ _ _ _).mono ?_
  rintro ee w1 ⟨rfl, hb1⟩
  have bA1 := hid (bA0.out.below hb1)
  have bB1 := hid (bB0.out.below hb1)
  have bQ1 := hid (bQ0.out.below hb1)
  have bel1 := hid (bel0.out.trans (hb1.mono bel0.out.size))
  clear hb1 bA0 bB0 bQ0 bel0
  rw [h2]
  obtain ⟨cB0, cB1, cB2, cB3⟩ := RBox.box bB1.out
  go_wp2_with fail
  refine (c_l2Ok _ _ _ _ _).mono ?_
  rintro ee w2 ⟨rfl, hb2⟩
  have bA2 := hid (bA1.out.below hb2)
  have bB2 := hid (bB1.out.below hb2)
  have bQ2 := hid (bQ1.out.below hb2)
  have bel2 := hid (bel1.out.trans (hb2.mono bel1.out.size))
  clear hb2 bA1 bB1 bQ1 bel1
  rw [h3]
  clear cB0 cB1 cB2 cB3
  obtain ⟨g0, g1, g2, g3⟩ := RBox.box bQ2.out
  have fq := RBox.frozen bQ2.out
  have P5 := hid (RBox.box (bQ2.out.st4 (x' := 1) (y' := 0) (z' := 0) (u' := 0)))
  have B5 := hid (st4_below (w.heap.size + 2) (1) (0) (0) (0) bel2.out (by omega))
  go_wp2_with fail
  obtain ⟨p0, p1, p2, p3⟩ := P5.out
  unfold st4 at p0 p1 p2 p3
  refine bodyPost_ret (v := rv (1) (0) (0) (0)) (by simp [results, Try.results7, go_sem, p0, p1, p2, p3]) rfl ⟨rfl, B5.out⟩

set_option maxRecDepth 100000 in
set_option maxHeartbeats 2000000 in
theorem sg_of_no4 (op : Int) (a b c d e f g h : Int) (w : World) (h1 : inB op 1 11 = true) (h2 : okB a b c d = true) (h3 : okB e f g h = true) (S1 : Hid (∀ w, Calls Try.prog 26 #[rv a b c d] w fun ee w' => ee = .returned (.bool false) ∧ Below w.heap.size w w'))  :
    Calls Try.prog 7 #[.int .i64 op, rv a b c d, rv e f g h] w fun ee w' => ee = .returned (rv 1 0 0 0) ∧ Below w.heap.size w w' := by
  have bA0 : Hid (RBox (((w.alloc (cellsR4 a b c d)).alloc (cellsR4 e f g h)).alloc (cellsR4 0 0 0 0)) w.heap.size a b c d) := twoA w a b c d e f g h
  have bB0 : Hid (RBox (((w.alloc (cellsR4 a b c d)).alloc (cellsR4 e f g h)).alloc (cellsR4 0 0 0 0)) (w.heap.size + 1) e f g h) := twoB w a b c d e f g h
  have bQ0 : Hid (RBox (((w.alloc (cellsR4 a b c d)).alloc (cellsR4 e f g h)).alloc (cellsR4 0 0 0 0)) (w.heap.size + 2) 0 0 0 0) := twoQ w a b c d e f g h
  have bel0 : Hid (Below w.heap.size w (((w.alloc (cellsR4 a b c d)).alloc (cellsR4 e f g h)).alloc (cellsR4 0 0 0 0))) := twoW w a b c d e f g h
  go_enter Try.func7, Try.ntmps7
  go_wp2_with fail
  refine (c_l1Alu _ _).mono ?_
  rintro ee w1 ⟨rfl, hw1⟩
  rw [hw1]; clear hw1 w1
  rw [h1]
  go_wp2_with fail
  refine (c_l2Ok _ _ _ _ _).mono ?_
  rintro ee w1 ⟨rfl, hb1⟩
  have bA1 := hid (bA0.out.below hb1)
  have bB1 := hid (bB0.out.below hb1)
  have bQ1 := hid (bQ0.out.below hb1)
  have bel1 := hid (bel0.out.trans (hb1.mono bel0.out.size))
  clear hb1 bA0 bB0 bQ0 bel0
  rw [h2]
  obtain ⟨cB0, cB1, cB2, cB3⟩ := RBox.box bB1.out
  go_wp2_with fail
  refine (c_l2Ok _ _ _ _ _).mono ?_
  rintro ee w2 ⟨rfl, hb2⟩
  have bA2 := hid (bA1.out.below hb2)
  have bB2 := hid (bB1.out.below hb2)
  have bQ2 := hid (bQ1.out.below hb2)
  have bel2 := hid (bel1.out.trans (hb2.mono bel1.out.size))
  clear hb2 bA1 bB1 bQ1 bel1
  rw [h3]
  clear cB0 cB1 cB2 cB3
  obtain ⟨cA0, cA1, cA2, cA3⟩ := RBox.box bA2.out
  go_wp2_with fail
  refine (S1.out _).mono ?_
  rintro ee w3 ⟨rfl, hb3⟩
  have bA3 := hid (bA2.out.below hb3)
  have bB3 := hid (bB2.out.below hb3)
  have bQ3 := hid (bQ2.out.below hb3)
  have bel3 := hid (bel2.out.trans (hb3.mono bel2.out.size))
  clear hb3 bA2 bB2 bQ2 bel2
  clear cA0 cA1 cA2 cA3
  obtain ⟨g0, g1, g2, g3⟩ := RBox.box bQ3.out
  have fq := RBox.frozen bQ3.out
  have P5 := hid (RBox.box (bQ3.out.st4 (x' := 1) (y' := 0) (z' := 0) (u' := 0)))
  have B5 := hid (st4_below (w.heap.size + 2) (1) (0) (0) (0) bel3.out (by omega))
  go_wp2_with fail
  obtain ⟨p0, p1, p2, p3⟩ := P5.out
  unfold st4 at p0 p1 p2 p3
  refine bodyPost_ret (v := rv (1) (0) (0) (0)) (by simp [results, Try.results7, go_sem, p0, p1, p2, p3]) rfl ⟨rfl, B5.out⟩

set_option maxRecDepth 100000 in
set_option maxHeartbeats 2000000 in
theorem sg_of_no5 (op : Int) (a b c d e f g h : Int) (w : World) (h1 : inB op 1 11 = true) (h2 : okB a b c d = true) (h3 : okB e f g h = true) (S1 : Hid (∀ w, Calls Try.prog 26 #[rv a b c d] w fun ee w' => ee = .returned (.bool true) ∧ Below w.heap.size w w')) (S2 : Hid (∀ w, Calls Try.prog 26 #[rv e f g h] w fun ee w' => ee = .returned (.bool false) ∧ Below w.heap.size w w'))  :
    Calls Try.prog 7 #[.int .i64 op, rv a b c d, rv e f g h] w fun ee w' => ee = .returned (rv 1 0 0 0) ∧ Below w.heap.size w w' := by
  have bA0 : Hid (RBox (((w.alloc (cellsR4 a b c d)).alloc (cellsR4 e f g h)).alloc (cellsR4 0 0 0 0)) w.heap.size a b c d) := twoA w a b c d e f g h
  have bB0 : Hid (RBox (((w.alloc (cellsR4 a b c d)).alloc (cellsR4 e f g h)).alloc (cellsR4 0 0 0 0)) (w.heap.size + 1) e f g h) := twoB w a b c d e f g h
  have bQ0 : Hid (RBox (((w.alloc (cellsR4 a b c d)).alloc (cellsR4 e f g h)).alloc (cellsR4 0 0 0 0)) (w.heap.size + 2) 0 0 0 0) := twoQ w a b c d e f g h
  have bel0 : Hid (Below w.heap.size w (((w.alloc (cellsR4 a b c d)).alloc (cellsR4 e f g h)).alloc (cellsR4 0 0 0 0))) := twoW w a b c d e f g h
  go_enter Try.func7, Try.ntmps7
  go_wp2_with fail
  refine (c_l1Alu _ _).mono ?_
  rintro ee w1 ⟨rfl, hw1⟩
  rw [hw1]; clear hw1 w1
  rw [h1]
  go_wp2_with fail
  refine (c_l2Ok _ _ _ _ _).mono ?_
  rintro ee w1 ⟨rfl, hb1⟩
  have bA1 := hid (bA0.out.below hb1)
  have bB1 := hid (bB0.out.below hb1)
  have bQ1 := hid (bQ0.out.below hb1)
  have bel1 := hid (bel0.out.trans (hb1.mono bel0.out.size))
  clear hb1 bA0 bB0 bQ0 bel0
  rw [h2]
  obtain ⟨cB0, cB1, cB2, cB3⟩ := RBox.box bB1.out
  go_wp2_with fail
  refine (c_l2Ok _ _ _ _ _).mono ?_
  rintro ee w2 ⟨rfl, hb2⟩
  have bA2 := hid (bA1.out.below hb2)
  have bB2 := hid (bB1.out.below hb2)
  have bQ2 := hid (bQ1.out.below hb2)
  have bel2 := hid (bel1.out.trans (hb2.mono bel1.out.size))
  clear hb2 bA1 bB1 bQ1 bel1
  rw [h3]
  clear cB0 cB1 cB2 cB3
  obtain ⟨cA0, cA1, cA2, cA3⟩ := RBox.box bA2.out
  go_wp2_with fail
  refine (S1.out _).mono ?_
  rintro ee w3 ⟨rfl, hb3⟩
  have bA3 := hid (bA2.out.below hb3)
  have bB3 := hid (bB2.out.below hb3)
  have bQ3 := hid (bQ2.out.below hb3)
  have bel3 := hid (bel2.out.trans (hb3.mono bel2.out.size))
  clear hb3 bA2 bB2 bQ2 bel2
  clear cA0 cA1 cA2 cA3
  obtain ⟨cB0, cB1, cB2, cB3⟩ := RBox.box bB3.out
  go_wp2_with fail
  refine (S2.out _).mono ?_
  rintro ee w4 ⟨rfl, hb4⟩
  have bA4 := hid (bA3.out.below hb4)
  have bB4 := hid (bB3.out.below hb4)
  have bQ4 := hid (bQ3.out.below hb4)
  have bel4 := hid (bel3.out.trans (hb4.mono bel3.out.size))
  clear hb4 bA3 bB3 bQ3 bel3
  clear cB0 cB1 cB2 cB3
  obtain ⟨g0, g1, g2, g3⟩ := RBox.box bQ4.out
  have fq := RBox.frozen bQ4.out
  have P5 := hid (RBox.box (bQ4.out.st4 (x' := 1) (y' := 0) (z' := 0) (u' := 0)))
  have B5 := hid (st4_below (w.heap.size + 2) (1) (0) (0) (0) bel4.out (by omega))
  go_wp2_with fail
  obtain ⟨p0, p1, p2, p3⟩ := P5.out
  unfold st4 at p0 p1 p2 p3
  refine bodyPost_ret (v := rv (1) (0) (0) (0)) (by simp [results, Try.results7, go_sem, p0, p1, p2, p3]) rfl ⟨rfl, B5.out⟩

set_option maxRecDepth 100000 in
set_option maxHeartbeats 2000000 in
theorem sg_of (op : Int) (a b c d e f g h : Int) (p q r s p' q' r' s' x y z u : Int) (w : World) (h1 : inB op 1 11 = true) (h2 : okB a b c d = true) (h3 : okB e f g h = true) (S1 : Hid (∀ w, Calls Try.prog 26 #[rv a b c d] w fun ee w' => ee = .returned (.bool true) ∧ Below w.heap.size w w')) (S2 : Hid (∀ w, Calls Try.prog 26 #[rv e f g h] w fun ee w' => ee = .returned (.bool true) ∧ Below w.heap.size w w')) (TA : Hid (∀ w, Calls Try.prog 28 #[rv a b c d] w fun ee w' => ee = .returned (rv p q r s) ∧ Below w.heap.size w w')) (TB : Hid (∀ w, Calls Try.prog 28 #[rv e f g h] w fun ee w' => ee = .returned (rv p' q' r' s') ∧ Below w.heap.size w w')) (M : Hid (∀ w, Calls Try.prog 27 #[.int .i64 op, rv p q r s, rv p' q' r' s'] w fun ee w' => ee = .returned (rv x y z u) ∧ Below w.heap.size w w')) :
    Calls Try.prog 7 #[.int .i64 op, rv a b c d, rv e f g h] w fun ee w' => ee = .returned (rv x y z u) ∧ Below w.heap.size w w' := by
  have bA0 : Hid (RBox (((w.alloc (cellsR4 a b c d)).alloc (cellsR4 e f g h)).alloc (cellsR4 0 0 0 0)) w.heap.size a b c d) := twoA w a b c d e f g h
  have bB0 : Hid (RBox (((w.alloc (cellsR4 a b c d)).alloc (cellsR4 e f g h)).alloc (cellsR4 0 0 0 0)) (w.heap.size + 1) e f g h) := twoB w a b c d e f g h
  have bQ0 : Hid (RBox (((w.alloc (cellsR4 a b c d)).alloc (cellsR4 e f g h)).alloc (cellsR4 0 0 0 0)) (w.heap.size + 2) 0 0 0 0) := twoQ w a b c d e f g h
  have bel0 : Hid (Below w.heap.size w (((w.alloc (cellsR4 a b c d)).alloc (cellsR4 e f g h)).alloc (cellsR4 0 0 0 0))) := twoW w a b c d e f g h
  go_enter Try.func7, Try.ntmps7
  go_wp2_with fail
  refine (c_l1Alu _ _).mono ?_
  rintro ee w1 ⟨rfl, hw1⟩
  rw [hw1]; clear hw1 w1
  rw [h1]
  go_wp2_with fail
  refine (c_l2Ok _ _ _ _ _).mono ?_
  rintro ee w1 ⟨rfl, hb1⟩
  have bA1 := hid (bA0.out.below hb1)
  have bB1 := hid (bB0.out.below hb1)
  have bQ1 := hid (bQ0.out.below hb1)
  have bel1 := hid (bel0.out.trans (hb1.mono bel0.out.size))
  clear hb1 bA0 bB0 bQ0 bel0
  rw [h2]
  obtain ⟨cB0, cB1, cB2, cB3⟩ := RBox.box bB1.out
  go_wp2_with fail
  refine (c_l2Ok _ _ _ _ _).mono ?_
  rintro ee w2 ⟨rfl, hb2⟩
  have bA2 := hid (bA1.out.below hb2)
  have bB2 := hid (bB1.out.below hb2)
  have bQ2 := hid (bQ1.out.below hb2)
  have bel2 := hid (bel1.out.trans (hb2.mono bel1.out.size))
  clear hb2 bA1 bB1 bQ1 bel1
  rw [h3]
  clear cB0 cB1 cB2 cB3
  obtain ⟨cA0, cA1, cA2, cA3⟩ := RBox.box bA2.out
  go_wp2_with fail
  refine (S1.out _).mono ?_
  rintro ee w3 ⟨rfl, hb3⟩
  have bA3 := hid (bA2.out.below hb3)
  have bB3 := hid (bB2.out.below hb3)
  have bQ3 := hid (bQ2.out.below hb3)
  have bel3 := hid (bel2.out.trans (hb3.mono bel2.out.size))
  clear hb3 bA2 bB2 bQ2 bel2
  clear cA0 cA1 cA2 cA3
  obtain ⟨cB0, cB1, cB2, cB3⟩ := RBox.box bB3.out
  go_wp2_with fail
  refine (S2.out _).mono ?_
  rintro ee w4 ⟨rfl, hb4⟩
  have bA4 := hid (bA3.out.below hb4)
  have bB4 := hid (bB3.out.below hb4)
  have bQ4 := hid (bQ3.out.below hb4)
  have bel4 := hid (bel3.out.trans (hb4.mono bel3.out.size))
  clear hb4 bA3 bB3 bQ3 bel3
  clear cB0 cB1 cB2 cB3
  go_wp2_with fail
  refine wp_region_held_drew (S := (fun w' => w'.cell? ⟨w.heap.size, 0, none⟩ = some (.int .i64 (a)) ∧ w'.cell? ⟨w.heap.size, 1, none⟩ = some (.int .i64 (b)) ∧ w'.cell? ⟨w.heap.size, 2, none⟩ = some (.int .i64 (c)) ∧ w'.cell? ⟨w.heap.size, 3, none⟩ = some (.int .i64 (d)) ∧ w'.cell? ⟨w.heap.size + 1, 0, none⟩ = some (.int .i64 (e)) ∧ w'.cell? ⟨w.heap.size + 1, 1, none⟩ = some (.int .i64 (f)) ∧ w'.cell? ⟨w.heap.size + 1, 2, none⟩ = some (.int .i64 (g)) ∧ w'.cell? ⟨w.heap.size + 1, 3, none⟩ = some (.int .i64 (h)))) (by kernel_rfl) (by exact ⟨(RBox.box bA4.out).c0, (RBox.box bA4.out).c1, (RBox.box bA4.out).c2, (RBox.box bA4.out).c3, (RBox.box bB4.out).c0, (RBox.box bB4.out).c1, (RBox.box bB4.out).c2, (RBox.box bB4.out).c3⟩) (fun hHeld => ?_)
  have hA := hid (RBox.drew bA4.out)
  have hB := hid (RBox.drew bB4.out)
  have hQ := hid (RBox.drew bQ4.out)
  have hbel := hid (Below.drew bel4.out)
  clear bA4 bB4 bQ4 bel4
  generalize w4.drew = W1 at *
  refine wpAnyH_take (i := 0) (oi := ?oi52) (v := ?v52) (fuel := 6) ?hi52 ?hs52 ?hf52 ?hr52 ?hq52 (Or.inl ⟨?hw52, ?hy52⟩) hHeld ?rest52
  case hi52 => rw [List.getElem?_toArray]; rfl
  case hq52 => exact fun _ _ _ h => h
  case hs52 | hf52 | hr52 => kernel_rfl
  case hw52 => rfl
  case hy52 => (intro w1 hSw; (try dsimp only at hSw); go_simp; try with_reducible rfl)
  (try simp only [Act.put, List.setIfInBounds_toArray, List.set_cons_zero, List.set_cons_succ])
  refine wpAnyH_take (i := 1) (oi := ?oi53) (v := ?v53) (fuel := 5) ?hi53 ?hs53 ?hf53 ?hr53 ?hq53 (Or.inl ⟨?hw53, ?hy53⟩) hHeld ?rest53
  case hi53 => rw [List.getElem?_toArray]; rfl
  case hq53 => exact fun _ _ _ h => h
  case hs53 | hf53 | hr53 => kernel_rfl
  case hw53 => rfl
  case hy53 => (intro w1 hSw; (try dsimp only at hSw); go_simp; try with_reducible rfl)
  (try simp only [Act.put, List.setIfInBounds_toArray, List.set_cons_zero, List.set_cons_succ])
  refine wpAnyH_take (i := 3) (oi := ?oi54) (v := ?v54) (fuel := 4) ?hi54 ?hs54 ?hf54 ?hr54 ?hq54 (Or.inl ⟨?hw54, ?hy54⟩) hHeld ?rest54
  case hi54 => rw [List.getElem?_toArray]; rfl
  case hq54 => exact fun _ _ _ h => h
  case hs54 | hf54 | hr54 => kernel_rfl
  case hw54 => rfl
  case hy54 => (intro w1 hSw; (try dsimp only at hSw); go_simp; try with_reducible rfl)
  (try simp only [Act.put, List.setIfInBounds_toArray, List.set_cons_zero, List.set_cons_succ])
  refine wpAnyH_ready (fuel := 3) (rs := [2]) (by kernel_rfl) (by simp) ?_
  refine AllReadyH.cons (o := ?oi55) ?hi55 (fun K hK => ?st55) AllReadyH.nil
  case hi55 => rw [List.getElem?_toArray]; rfl
  go_simp
  refine (TA.out _).mono ?_
  rintro ee wr2 ⟨rfl, hbn⟩
  replace hA := hid (hA.out.below hbn)
  replace hB := hid (hB.out.below hbn)
  replace hQ := hid (hQ.out.below hbn)
  replace hbel := hid (hbel.out.trans (hbn.mono hbel.out.size))
  clear hbn
  go_wp2_with fail
  refine hK.out _ _ ?hS55 (fun hHeld => ?re55)
  case hS55 => exact ⟨(RBox.box hA.out).c0, (RBox.box hA.out).c1, (RBox.box hA.out).c2, (RBox.box hA.out).c3, (RBox.box hB.out).c0, (RBox.box hB.out).c1, (RBox.box hB.out).c2, (RBox.box hB.out).c3⟩
  clear hK K
  (try simp only [Act.put, List.setIfInBounds_toArray, List.set_cons_zero, List.set_cons_succ])
  refine wpAnyH_ready (fuel := 2) (rs := [4]) (by kernel_rfl) (by simp) ?_
  refine AllReadyH.cons (o := ?oi56) ?hi56 (fun K hK => ?st56) AllReadyH.nil
  case hi56 => rw [List.getElem?_toArray]; rfl
  go_simp
  refine (TB.out _).mono ?_
  rintro ee wr4 ⟨rfl, hbn⟩
  replace hA := hid (hA.out.below hbn)
  replace hB := hid (hB.out.below hbn)
  replace hQ := hid (hQ.out.below hbn)
  replace hbel := hid (hbel.out.trans (hbn.mono hbel.out.size))
  clear hbn
  go_wp2_with fail
  refine hK.out _ _ ?hS56 (fun hHeld => ?re56)
  case hS56 => exact ⟨(RBox.box hA.out).c0, (RBox.box hA.out).c1, (RBox.box hA.out).c2, (RBox.box hA.out).c3, (RBox.box hB.out).c0, (RBox.box hB.out).c1, (RBox.box hB.out).c2, (RBox.box hB.out).c3⟩
  clear hK K
  (try simp only [Act.put, List.setIfInBounds_toArray, List.set_cons_zero, List.set_cons_succ])
  refine wpAnyH_ready (fuel := 1) (rs := [5]) (by kernel_rfl) (by simp) ?_
  refine AllReadyH.cons (o := ?oi57) ?hi57 (fun K hK => ?st57) AllReadyH.nil
  case hi57 => rw [List.getElem?_toArray]; rfl
  go_simp
  refine (M.out _).mono ?_
  rintro ee wr5 ⟨rfl, hbn⟩
  replace hA := hid (hA.out.below hbn)
  replace hB := hid (hB.out.below hbn)
  replace hQ := hid (hQ.out.below hbn)
  replace hbel := hid (hbel.out.trans (hbn.mono hbel.out.size))
  clear hbn
  go_wp2_with fail
  refine hK.out _ _ ?hS57 (fun hHeld => ?re57)
  case hS57 => exact ⟨(RBox.box hA.out).c0, (RBox.box hA.out).c1, (RBox.box hA.out).c2, (RBox.box hA.out).c3, (RBox.box hB.out).c0, (RBox.box hB.out).c1, (RBox.box hB.out).c2, (RBox.box hB.out).c3⟩
  clear hK K
  (try simp only [Act.put, List.setIfInBounds_toArray, List.set_cons_zero, List.set_cons_succ])
  refine wpAnyH_ready (fuel := 0) (rs := [6]) (by kernel_rfl) (by simp) ?_
  refine AllReadyH.cons (o := ?oi58) ?hi58 (fun K hK => ?st58) AllReadyH.nil
  case hi58 => rw [List.getElem?_toArray]; rfl
  obtain ⟨g0, g1, g2, g3⟩ := RBox.box hQ.out
  have fq := RBox.frozen hQ.out
  go_simp
  clear g0 g1 g2 g3 fq
  replace hA := hid (hA.out.st4o (k := w.heap.size + 2) (by first | omega | (have := RBox.lt hA.out; omega)) (x) (y) (z) (u))
  replace hB := hid (hB.out.st4o (k := w.heap.size + 2) (by first | omega | (have := RBox.lt hB.out; omega)) (x) (y) (z) (u))
  replace hQ := hid (hQ.out.st4 (x' := x) (y' := y) (z' := z) (u' := u))
  replace hbel := hid (st4_below (w.heap.size + 2) (x) (y) (z) (u) hbel.out (by omega))
  unfold Go.Proofs.Ytnebjocnbfoafaa.st4 at hbel hA hB hQ
  generalize ((((wr5.setCell ⟨w.heap.size + 2, 0, none⟩ (.int .i64 (x))).setCell ⟨w.heap.size + 2, 1, none⟩ (.int .i64 (y))).setCell ⟨w.heap.size + 2, 2, none⟩ (.int .i64 (z))).setCell ⟨w.heap.size + 2, 3, none⟩ (.int .i64 (u))) = ws6 at *
  refine hK.out _ _ ?hS58 (fun hHeld => ?re58)
  case hS58 => exact ⟨(RBox.box hA.out).c0, (RBox.box hA.out).c1, (RBox.box hA.out).c2, (RBox.box hA.out).c3, (RBox.box hB.out).c0, (RBox.box hB.out).c1, (RBox.box hB.out).c2, (RBox.box hB.out).c3⟩
  clear hK K
  (try simp only [Act.put, List.setIfInBounds_toArray, List.set_cons_zero, List.set_cons_succ])
  refine wpAnyH_done (by kernel_rfl) ?_ _
  clear hHeld
  generalize ws6 = w5 at *
  have bA5 := hA
  have bB5 := hB
  have bQ5 := hQ
  have bel5 := hbel
  clear hbel hA hB hQ
  go_wp2_with fail
  obtain ⟨p0, p1, p2, p3⟩ := RBox.box bQ5.out
  refine bodyPost_ret (v := rv x y z u) (by simp [results, Try.results7, go_sem, p0, p1, p2, p3]) rfl ⟨rfl, bel5.out⟩

end Go.Proofs.Ytnebjocnbfoafaa
