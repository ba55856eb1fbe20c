/- Contracts for branches: a range without a number; the walk that parts. -/
import Derived.Test.YtcopcajleonndaaQBA
namespace Go.Proofs.Ytcopcajleonndaa
open Go.RowKit
set_option linter.unusedVariables false
set_option linter.unusedSimpArgs false

set_option maxRecDepth 100000 in
set_option maxHeartbeats 2000000 in
theorem w_without_un (a b c d e f g h : Int) (w : World) (hk : (e == f) = false) :
    Calls Try.prog 67 #[rv a b c d, rv e f g h] w fun ee w' => ee = .returned (rv a b c d) ∧ Below w.heap.size w w' := by
  have bA0 := hid (twoA w a b c d e f g h)
  have bB0 := hid (twoB w a b c d e f g h)
  have bQ0 := hid (twoQ w a b c d e f g h)
  have bel0 := hid (twoW w a b c d e f g h)
  go_enter Try.func67, Try.ntmps67
  go_wp2_with fail
  refine (c_isKnown _ _ _ _ _).mono ?_
  rintro ee w1 ⟨rfl, hb1⟩
  have bA1 := hid (bA0.out.below hb1)
  have bB1 := hid (bB0.out.below hb1)
  have bQ1 := hid (bQ0.out.below hb1)
  have bel1 := hid (bel0.out.trans (hb1.mono bel0.out.size))
  clear hb1 bA0 bB0 bQ0 bel0
  rw [hk]
  obtain ⟨cA0, cA1, cA2, cA3⟩ := RBox.box bA1.out
  obtain ⟨g0, g1, g2, g3⟩ := RBox.box bQ1.out
  have fq := RBox.frozen bQ1.out
  have P5 := hid (RBox.box (bQ1.out.st4 (x' := a) (y' := b) (z' := c) (u' := d)))
  have B5 := hid (st4_below (w.heap.size + 2) a b c d bel1.out (by omega))
  go_wp2_with fail
  obtain ⟨p0, p1, p2, p3⟩ := P5.out
  unfold st4 at p0 p1 p2 p3
  refine bodyPost_ret (v := rv a b c d) (by simp [results, Try.results67, go_sem, p0, p1, p2, p3]) rfl ⟨rfl, B5.out⟩

set_option maxRecDepth 100000 in
set_option maxHeartbeats 2000000 in
theorem w_without_1 (a b c d e f g h : Int) (x y z u : Int) (w : World) (a0 : 0 ≤ a) (a1 : a ≤ 4294967295) (b0 : 0 ≤ b) (b1 : b ≤ 4294967295) (hk : (e == f) = true) (h1 : (a == e) = true) (h2 : (b == e) = true) (tA : Hid (∀ w, Calls Try.prog 51 #[rv (a + 1) (b - 1) c d] w fun ee w' => ee = .returned (rv x y z u) ∧ Below w.heap.size w w')) :
    Calls Try.prog 67 #[rv a b c d, rv e f g h] w fun ee w' => ee = .returned (rv x y z u) ∧ Below w.heap.size w w' := by
  have bA0 := hid (twoA w a b c d e f g h)
  have bB0 := hid (twoB w a b c d e f g h)
  have bQ0 := hid (twoQ w a b c d e f g h)
  have bel0 := hid (twoW w a b c d e f g h)
  go_enter Try.func67, Try.ntmps67
  go_wp2_with fail
  refine (c_isKnown _ _ _ _ _).mono ?_
  rintro ee w1 ⟨rfl, hb1⟩
  have bA1 := hid (bA0.out.below hb1)
  have bB1 := hid (bB0.out.below hb1)
  have bQ1 := hid (bQ0.out.below hb1)
  have bel1 := hid (bel0.out.trans (hb1.mono bel0.out.size))
  clear hb1 bA0 bB0 bQ0 bel0
  rw [hk]
  obtain ⟨cA0, cA1, cA2, cA3⟩ := RBox.box bA1.out
  obtain ⟨cB0, cB1, cB2, cB3⟩ := RBox.box bB1.out
  have frA := RBox.frozen bA1.out
  go_wp2_with fail
  have bA2 := hid (bA1.out.set0 (a + 1))
  have bB2 := hid (bB1.out.other ⟨w.heap.size, 0, none⟩ (.int .i64 (a + 1)) (by show w.heap.size + 1 ≠ w.heap.size; omega))
  have bQ2 := hid (bQ1.out.other ⟨w.heap.size, 0, none⟩ (.int .i64 (a + 1)) (by show w.heap.size + 2 ≠ w.heap.size; omega))
  have bel2 := hid (bel1.out.setCell (p := ⟨w.heap.size, 0, none⟩) (by show w.heap.size ≤ w.heap.size; omega) (.int .i64 (a + 1)))
  clear bA1 bB1 bQ1 bel1
  generalize w1.setCell ⟨w.heap.size, 0, none⟩ (.int .i64 (a + 1)) = w2 at *
  have bA3 := hid (bA2.out.set1 (b - 1))
  have bB3 := hid (bB2.out.other ⟨w.heap.size, 1, none⟩ (.int .i64 (b - 1)) (by show w.heap.size + 1 ≠ w.heap.size; omega))
  have bQ3 := hid (bQ2.out.other ⟨w.heap.size, 1, none⟩ (.int .i64 (b - 1)) (by show w.heap.size + 2 ≠ w.heap.size; omega))
  have bel3 := hid (bel2.out.setCell (p := ⟨w.heap.size, 1, none⟩) (by show w.heap.size ≤ w.heap.size; omega) (.int .i64 (b - 1)))
  clear bA2 bB2 bQ2 bel2
  generalize w2.setCell ⟨w.heap.size, 1, none⟩ (.int .i64 (b - 1)) = w3 at *
  clear cA0 cA1 cA2 cA3 cB0 cB1 cB2 cB3
  clear frA
  refine (tA.out _).mono ?_
  rintro ee w4 ⟨rfl, hb4⟩
  have bA4 := hid (bA3.out.below hb4)
  have bB4 := hid (bB3.out.below hb4)
  have bQ4 := hid (bQ3.out.below hb4)
  have bel4 := hid (bel3.out.trans (hb4.mono bel3.out.size))
  clear hb4 bA3 bB3 bQ3 bel3
  obtain ⟨g0, g1, g2, g3⟩ := RBox.box bQ4.out
  have fq := RBox.frozen bQ4.out
  have P5 := hid (RBox.box (bQ4.out.st4 (x' := x) (y' := y) (z' := z) (u' := u)))
  have B5 := hid (st4_below (w.heap.size + 2) (x) (y) (z) (u) bel4.out (by omega))
  go_wp2_with fail
  obtain ⟨p0, p1, p2, p3⟩ := P5.out
  unfold st4 at p0 p1 p2 p3
  refine bodyPost_ret (v := rv (x) (y) (z) (u)) (by simp [results, Try.results67, go_sem, p0, p1, p2, p3]) rfl ⟨rfl, B5.out⟩

set_option maxRecDepth 100000 in
set_option maxHeartbeats 2000000 in
theorem w_without_2 (a b c d e f g h : Int) (x y z u : Int) (w : World) (a0 : 0 ≤ a) (a1 : a ≤ 4294967295) (b0 : 0 ≤ b) (b1 : b ≤ 4294967295) (hk : (e == f) = true) (h1 : (a == e) = true) (h2 : (b == e) = false) (tA : Hid (∀ w, Calls Try.prog 51 #[rv (a + 1) b c d] w fun ee w' => ee = .returned (rv x y z u) ∧ Below w.heap.size w w')) :
    Calls Try.prog 67 #[rv a b c d, rv e f g h] w fun ee w' => ee = .returned (rv x y z u) ∧ Below w.heap.size w w' := by
  have bA0 := hid (twoA w a b c d e f g h)
  have bB0 := hid (twoB w a b c d e f g h)
  have bQ0 := hid (twoQ w a b c d e f g h)
  have bel0 := hid (twoW w a b c d e f g h)
  go_enter Try.func67, Try.ntmps67
  go_wp2_with fail
  refine (c_isKnown _ _ _ _ _).mono ?_
  rintro ee w1 ⟨rfl, hb1⟩
  have bA1 := hid (bA0.out.below hb1)
  have bB1 := hid (bB0.out.below hb1)
  have bQ1 := hid (bQ0.out.below hb1)
  have bel1 := hid (bel0.out.trans (hb1.mono bel0.out.size))
  clear hb1 bA0 bB0 bQ0 bel0
  rw [hk]
  obtain ⟨cA0, cA1, cA2, cA3⟩ := RBox.box bA1.out
  obtain ⟨cB0, cB1, cB2, cB3⟩ := RBox.box bB1.out
  have frA := RBox.frozen bA1.out
  go_wp2_with fail
  have bA2 := hid (bA1.out.set0 (a + 1))
  have bB2 := hid (bB1.out.other ⟨w.heap.size, 0, none⟩ (.int .i64 (a + 1)) (by show w.heap.size + 1 ≠ w.heap.size; omega))
  have bQ2 := hid (bQ1.out.other ⟨w.heap.size, 0, none⟩ (.int .i64 (a + 1)) (by show w.heap.size + 2 ≠ w.heap.size; omega))
  have bel2 := hid (bel1.out.setCell (p := ⟨w.heap.size, 0, none⟩) (by show w.heap.size ≤ w.heap.size; omega) (.int .i64 (a + 1)))
  clear bA1 bB1 bQ1 bel1
  generalize w1.setCell ⟨w.heap.size, 0, none⟩ (.int .i64 (a + 1)) = w2 at *
  clear cA0 cA1 cA2 cA3 cB0 cB1 cB2 cB3
  clear frA
  refine (tA.out _).mono ?_
  rintro ee w3 ⟨rfl, hb3⟩
  have bA3 := hid (bA2.out.below hb3)
  have bB3 := hid (bB2.out.below hb3)
  have bQ3 := hid (bQ2.out.below hb3)
  have bel3 := hid (bel2.out.trans (hb3.mono bel2.out.size))
  clear hb3 bA2 bB2 bQ2 bel2
  obtain ⟨g0, g1, g2, g3⟩ := RBox.box bQ3.out
  have fq := RBox.frozen bQ3.out
  have P5 := hid (RBox.box (bQ3.out.st4 (x' := x) (y' := y) (z' := z) (u' := u)))
  have B5 := hid (st4_below (w.heap.size + 2) (x) (y) (z) (u) bel3.out (by omega))
  go_wp2_with fail
  obtain ⟨p0, p1, p2, p3⟩ := P5.out
  unfold st4 at p0 p1 p2 p3
  refine bodyPost_ret (v := rv (x) (y) (z) (u)) (by simp [results, Try.results67, go_sem, p0, p1, p2, p3]) rfl ⟨rfl, B5.out⟩

set_option maxRecDepth 100000 in
set_option maxHeartbeats 2000000 in
theorem w_without_3 (a b c d e f g h : Int) (x y z u : Int) (w : World) (a0 : 0 ≤ a) (a1 : a ≤ 4294967295) (b0 : 0 ≤ b) (b1 : b ≤ 4294967295) (hk : (e == f) = true) (h1 : (a == e) = false) (h2 : (b == e) = true) (tA : Hid (∀ w, Calls Try.prog 51 #[rv a (b - 1) c d] w fun ee w' => ee = .returned (rv x y z u) ∧ Below w.heap.size w w')) :
    Calls Try.prog 67 #[rv a b c d, rv e f g h] w fun ee w' => ee = .returned (rv x y z u) ∧ Below w.heap.size w w' := by
  have bA0 := hid (twoA w a b c d e f g h)
  have bB0 := hid (twoB w a b c d e f g h)
  have bQ0 := hid (twoQ w a b c d e f g h)
  have bel0 := hid (twoW w a b c d e f g h)
  go_enter Try.func67, Try.ntmps67
  go_wp2_with fail
  refine (c_isKnown _ _ _ _ _).mono ?_
  rintro ee w1 ⟨rfl, hb1⟩
  have bA1 := hid (bA0.out.below hb1)
  have bB1 := hid (bB0.out.below hb1)
  have bQ1 := hid (bQ0.out.below hb1)
  have bel1 := hid (bel0.out.trans (hb1.mono bel0.out.size))
  clear hb1 bA0 bB0 bQ0 bel0
  rw [hk]
  obtain ⟨cA0, cA1, cA2, cA3⟩ := RBox.box bA1.out
  obtain ⟨cB0, cB1, cB2, cB3⟩ := RBox.box bB1.out
  have frA := RBox.frozen bA1.out
  go_wp2_with fail
  have bA2 := hid (bA1.out.set1 (b - 1))
  have bB2 := hid (bB1.out.other ⟨w.heap.size, 1, none⟩ (.int .i64 (b - 1)) (by show w.heap.size + 1 ≠ w.heap.size; omega))
  have bQ2 := hid (bQ1.out.other ⟨w.heap.size, 1, none⟩ (.int .i64 (b - 1)) (by show w.heap.size + 2 ≠ w.heap.size; omega))
  have bel2 := hid (bel1.out.setCell (p := ⟨w.heap.size, 1, none⟩) (by show w.heap.size ≤ w.heap.size; omega) (.int .i64 (b - 1)))
  clear bA1 bB1 bQ1 bel1
  generalize w1.setCell ⟨w.heap.size, 1, none⟩ (.int .i64 (b - 1)) = w2 at *
  clear cA0 cA1 cA2 cA3 cB0 cB1 cB2 cB3
  clear frA
  refine (tA.out _).mono ?_
  rintro ee w3 ⟨rfl, hb3⟩
  have bA3 := hid (bA2.out.below hb3)
  have bB3 := hid (bB2.out.below hb3)
  have bQ3 := hid (bQ2.out.below hb3)
  have bel3 := hid (bel2.out.trans (hb3.mono bel2.out.size))
  clear hb3 bA2 bB2 bQ2 bel2
  obtain ⟨g0, g1, g2, g3⟩ := RBox.box bQ3.out
  have fq := RBox.frozen bQ3.out
  have P5 := hid (RBox.box (bQ3.out.st4 (x' := x) (y' := y) (z' := z) (u' := u)))
  have B5 := hid (st4_below (w.heap.size + 2) (x) (y) (z) (u) bel3.out (by omega))
  go_wp2_with fail
  obtain ⟨p0, p1, p2, p3⟩ := P5.out
  unfold st4 at p0 p1 p2 p3
  refine bodyPost_ret (v := rv (x) (y) (z) (u)) (by simp [results, Try.results67, go_sem, p0, p1, p2, p3]) rfl ⟨rfl, B5.out⟩

set_option maxRecDepth 100000 in
set_option maxHeartbeats 2000000 in
theorem w_without_4 (a b c d e f g h : Int) (x y z u : Int) (w : World) (a0 : 0 ≤ a) (a1 : a ≤ 4294967295) (b0 : 0 ≤ b) (b1 : b ≤ 4294967295) (hk : (e == f) = true) (h1 : (a == e) = false) (h2 : (b == e) = false) (tA : Hid (∀ w, Calls Try.prog 51 #[rv a b c d] w fun ee w' => ee = .returned (rv x y z u) ∧ Below w.heap.size w w')) :
    Calls Try.prog 67 #[rv a b c d, rv e f g h] w fun ee w' => ee = .returned (rv x y z u) ∧ Below w.heap.size w w' := by
  have bA0 := hid (twoA w a b c d e f g h)
  have bB0 := hid (twoB w a b c d e f g h)
  have bQ0 := hid (twoQ w a b c d e f g h)
  have bel0 := hid (twoW w a b c d e f g h)
  go_enter Try.func67, Try.ntmps67
  go_wp2_with fail
  refine (c_isKnown _ _ _ _ _).mono ?_
  rintro ee w1 ⟨rfl, hb1⟩
  have bA1 := hid (bA0.out.below hb1)
  have bB1 := hid (bB0.out.below hb1)
  have bQ1 := hid (bQ0.out.below hb1)
  have bel1 := hid (bel0.out.trans (hb1.mono bel0.out.size))
  clear hb1 bA0 bB0 bQ0 bel0
  rw [hk]
  obtain ⟨cA0, cA1, cA2, cA3⟩ := RBox.box bA1.out
  obtain ⟨cB0, cB1, cB2, cB3⟩ := RBox.box bB1.out
  have frA := RBox.frozen bA1.out
  go_wp2_with fail
  clear cA0 cA1 cA2 cA3 cB0 cB1 cB2 cB3
  clear frA
  refine (tA.out _).mono ?_
  rintro ee w2 ⟨rfl, hb2⟩
  have bA2 := hid (bA1.out.below hb2)
  have bB2 := hid (bB1.out.below hb2)
  have bQ2 := hid (bQ1.out.below hb2)
  have bel2 := hid (bel1.out.trans (hb2.mono bel1.out.size))
  clear hb2 bA1 bB1 bQ1 bel1
  obtain ⟨g0, g1, g2, g3⟩ := RBox.box bQ2.out
  have fq := RBox.frozen bQ2.out
  have P5 := hid (RBox.box (bQ2.out.st4 (x' := x) (y' := y) (z' := z) (u' := u)))
  have B5 := hid (st4_below (w.heap.size + 2) (x) (y) (z) (u) bel2.out (by omega))
  go_wp2_with fail
  obtain ⟨p0, p1, p2, p3⟩ := P5.out
  unfold st4 at p0 p1 p2 p3
  refine bodyPost_ret (v := rv (x) (y) (z) (u)) (by simp [results, Try.results67, go_sem, p0, p1, p2, p3]) rfl ⟨rfl, B5.out⟩

end Go.Proofs.Ytcopcajleonndaa
