/- Contracts for branches: the specification's RangeBranch. -/
import Derived.Test.YtcigdckmiibgmabBG
namespace Go.Proofs.Ytcigdckmiibgmab
open Go.RowKit
set_option linter.unusedVariables false
set_option linter.unusedSimpArgs false

set_option maxHeartbeats 400000 in
theorem c_l1Jump (k : Int) (w : World) :
    Calls Try.prog 34 #[.int .i64 k] w fun e w' => e = .returned (.bool (inB k 12 15)) ∧ w' = w := by
  go_enter Try.func34, Try.ntmps34
  go_wp2_with (go_at_call 39; refine (c_l1In _ _ _ _).mono ?_; rintro e w' ⟨rfl, rfl⟩)
  all_goals (go_ret; exact ⟨rfl, rfl⟩)

set_option maxRecDepth 100000 in
set_option maxHeartbeats 2000000 in
theorem w_SBr_no1 (op a b c d e f g h : Int) (hl : Bool) (w : World) (hop : inB op 12 15 = false) :
    Calls Try.prog 21 #[.int .i64 op, rv a b c d, rv e f g h, .bool hl] w fun ee w' => ee = .returned (.tuple #[rv 1 0 0 0, rv 1 0 0 0, .bool false]) ∧ Below w.heap.size w w' := by
  have P5 : Hid (RBox ((((w.alloc (cellsR4 a b c d)).alloc (cellsR4 e f g h)).alloc (cellsR4 1 0 0 0)).alloc (cellsR4 1 0 0 0)) (w.heap.size + 2) 1 0 0 0) := by
    have h0 := (RBox.new ((w.alloc (cellsR4 a b c d)).alloc (cellsR4 e f g h)) 1 0 0 0).alloc (cellsR4 1 0 0 0)
    simp only [World.size_alloc] at h0
    exact h0
  have P6 : Hid (RBox ((((w.alloc (cellsR4 a b c d)).alloc (cellsR4 e f g h)).alloc (cellsR4 1 0 0 0)).alloc (cellsR4 1 0 0 0)) (w.heap.size + 3) 1 0 0 0) := by
    have h0 := RBox.new (((w.alloc (cellsR4 a b c d)).alloc (cellsR4 e f g h)).alloc (cellsR4 1 0 0 0)) 1 0 0 0
    simp only [World.size_alloc] at h0
    exact h0
  have B5 : Hid (Below w.heap.size w ((((w.alloc (cellsR4 a b c d)).alloc (cellsR4 e f g h)).alloc (cellsR4 1 0 0 0)).alloc (cellsR4 1 0 0 0))) := ((newB w (cellsR4 a b c d) (cellsR4 e f g h)).alloc (by simp; omega) (cellsR4 1 0 0 0)).alloc (by simp; omega) (cellsR4 1 0 0 0)
  go_enter Try.func21, Try.ntmps21
  go_wp2_with fail
  refine (c_l1Jump _ _).mono ?_
  rintro ee w1 ⟨rfl, hw1⟩
  rw [hw1]; clear hw1 w1
  rw [hop]
  go_wp2_with fail
  obtain ⟨p0, p1, p2, p3⟩ := RBox.box P5.out
  obtain ⟨q0, q1, q2, q3⟩ := RBox.box P6.out
  refine bodyPost_ret (v := .tuple #[rv 1 0 0 0, rv 1 0 0 0, .bool false]) (by simp [results, Try.results21, go_sem, p0, p1, p2, p3, q0, q1, q2, q3]) rfl ⟨rfl, B5.out⟩

set_option maxRecDepth 100000 in
set_option maxHeartbeats 2000000 in
theorem w_SBr_no2 (op a b c d e f g h : Int) (hl : Bool) (w : World) (hop : inB op 12 15 = true) (h1 : okB a b c d = false) :
    Calls Try.prog 21 #[.int .i64 op, rv a b c d, rv e f g h, .bool hl] w fun ee w' => ee = .returned (.tuple #[rv 1 0 0 0, rv 1 0 0 0, .bool false]) ∧ Below w.heap.size w w' := by
  have bA0 : Hid (RBox ((((w.alloc (cellsR4 a b c d)).alloc (cellsR4 e f g h)).alloc (cellsR4 0 0 0 0)).alloc (cellsR4 0 0 0 0)) w.heap.size a b c d) := fourA w a b c d e f g h
  have bB0 : Hid (RBox ((((w.alloc (cellsR4 a b c d)).alloc (cellsR4 e f g h)).alloc (cellsR4 0 0 0 0)).alloc (cellsR4 0 0 0 0)) (w.heap.size + 1) e f g h) := fourB w a b c d e f g h
  have bQ0 : Hid (RBox ((((w.alloc (cellsR4 a b c d)).alloc (cellsR4 e f g h)).alloc (cellsR4 0 0 0 0)).alloc (cellsR4 0 0 0 0)) (w.heap.size + 2) 0 0 0 0) := fourQ w a b c d e f g h
  have bR0 : Hid (RBox ((((w.alloc (cellsR4 a b c d)).alloc (cellsR4 e f g h)).alloc (cellsR4 0 0 0 0)).alloc (cellsR4 0 0 0 0)) (w.heap.size + 3) 0 0 0 0) := fourR w a b c d e f g h
  have bel0 : Hid (Below w.heap.size w ((((w.alloc (cellsR4 a b c d)).alloc (cellsR4 e f g h)).alloc (cellsR4 0 0 0 0)).alloc (cellsR4 0 0 0 0))) := fourW w a b c d e f g h
  go_enter Try.func21, Try.ntmps21
  go_wp2_with fail
  refine (c_l1Jump _ _).mono ?_
  rintro ee w1 ⟨rfl, hw1⟩
  rw [hw1]; clear hw1 w1
  rw [hop]
  go_wp2_with fail
  refine (c_l2Ok _ _ _ _ _).mono ?_
  rintro ee w1 ⟨rfl, hb1⟩
  have bA1 := hid (bA0.out.below hb1)
  have bB1 := hid (bB0.out.below hb1)
  have bQ1 := hid (bQ0.out.below hb1)
  have bR1 := hid (bR0.out.below hb1)
  have bel1 := hid (bel0.out.trans (hb1.mono bel0.out.size))
  clear hb1 bA0 bB0 bQ0 bR0 bel0
  rw [h1]
  obtain ⟨cQ0, cQ1, cQ2, cQ3⟩ := RBox.box bQ1.out
  obtain ⟨cR0, cR1, cR2, cR3⟩ := RBox.box bR1.out
  have frQ := RBox.frozen bQ1.out
  have frR := RBox.frozen bR1.out
  go_wp2_with fail
  have bA2 := hid (bA1.out.st4o (k := w.heap.size + 2) (by first | omega | (have := RBox.lt bA1.out; omega)) (1) (0) (0) (0))
  have bB2 := hid (bB1.out.st4o (k := w.heap.size + 2) (by first | omega | (have := RBox.lt bB1.out; omega)) (1) (0) (0) (0))
  have bQ2 := hid (bQ1.out.st4 (x' := 1) (y' := 0) (z' := 0) (u' := 0))
  have bR2 := hid (bR1.out.st4o (k := w.heap.size + 2) (by first | omega | (have := RBox.lt bR1.out; omega)) (1) (0) (0) (0))
  have bel2 := hid (st4_below (w.heap.size + 2) (1) (0) (0) (0) bel1.out (by omega))
  clear bA1 bB1 bQ1 bR1 bel1
  unfold Go.Proofs.Ytcigdckmiibgmab.st4 at bel2 bA2 bB2 bQ2 bR2
  generalize ((((w1.setCell ⟨w.heap.size + 2, 0, none⟩ (.int .i64 (1))).setCell ⟨w.heap.size + 2, 1, none⟩ (.int .i64 (0))).setCell ⟨w.heap.size + 2, 2, none⟩ (.int .i64 (0))).setCell ⟨w.heap.size + 2, 3, none⟩ (.int .i64 (0))) = w2 at *
  have bA3 := hid (bA2.out.st4o (k := w.heap.size + 3) (by first | omega | (have := RBox.lt bA2.out; omega)) (1) (0) (0) (0))
  have bB3 := hid (bB2.out.st4o (k := w.heap.size + 3) (by first | omega | (have := RBox.lt bB2.out; omega)) (1) (0) (0) (0))
  have bQ3 := hid (bQ2.out.st4o (k := w.heap.size + 3) (by first | omega | (have := RBox.lt bQ2.out; omega)) (1) (0) (0) (0))
  have bR3 := hid (bR2.out.st4 (x' := 1) (y' := 0) (z' := 0) (u' := 0))
  have bel3 := hid (st4_below (w.heap.size + 3) (1) (0) (0) (0) bel2.out (by omega))
  clear bA2 bB2 bQ2 bR2 bel2
  unfold Go.Proofs.Ytcigdckmiibgmab.st4 at bel3 bA3 bB3 bQ3 bR3
  generalize ((((w2.setCell ⟨w.heap.size + 3, 0, none⟩ (.int .i64 (1))).setCell ⟨w.heap.size + 3, 1, none⟩ (.int .i64 (0))).setCell ⟨w.heap.size + 3, 2, none⟩ (.int .i64 (0))).setCell ⟨w.heap.size + 3, 3, none⟩ (.int .i64 (0))) = w3 at *
  clear cQ0 cQ1 cQ2 cQ3 cR0 cR1 cR2 cR3
  clear frQ frR
  obtain ⟨p0, p1, p2, p3⟩ := RBox.box bQ3.out
  obtain ⟨q0, q1, q2, q3⟩ := RBox.box bR3.out
  refine bodyPost_ret (v := .tuple #[rv 1 0 0 0, rv 1 0 0 0, .bool false]) (by simp [results, Try.results21, go_sem, p0, p1, p2, p3, q0, q1, q2, q3]) rfl ⟨rfl, bel3.out⟩

set_option maxRecDepth 100000 in
set_option maxHeartbeats 2000000 in
theorem w_SBr_no3 (op a b c d e f g h : Int) (hl : Bool) (w : World) (hop : inB op 12 15 = true) (h1 : okB a b c d = true) (h2 : okB e f g h = false) :
    Calls Try.prog 21 #[.int .i64 op, rv a b c d, rv e f g h, .bool hl] w fun ee w' => ee = .returned (.tuple #[rv 1 0 0 0, rv 1 0 0 0, .bool false]) ∧ Below w.heap.size w w' := by
  have bA0 : Hid (RBox ((((w.alloc (cellsR4 a b c d)).alloc (cellsR4 e f g h)).alloc (cellsR4 0 0 0 0)).alloc (cellsR4 0 0 0 0)) w.heap.size a b c d) := fourA w a b c d e f g h
  have bB0 : Hid (RBox ((((w.alloc (cellsR4 a b c d)).alloc (cellsR4 e f g h)).alloc (cellsR4 0 0 0 0)).alloc (cellsR4 0 0 0 0)) (w.heap.size + 1) e f g h) := fourB w a b c d e f g h
  have bQ0 : Hid (RBox ((((w.alloc (cellsR4 a b c d)).alloc (cellsR4 e f g h)).alloc (cellsR4 0 0 0 0)).alloc (cellsR4 0 0 0 0)) (w.heap.size + 2) 0 0 0 0) := fourQ w a b c d e f g h
  have bR0 : Hid (RBox ((((w.alloc (cellsR4 a b c d)).alloc (cellsR4 e f g h)).alloc (cellsR4 0 0 0 0)).alloc (cellsR4 0 0 0 0)) (w.heap.size + 3) 0 0 0 0) := fourR w a b c d e f g h
  have bel0 : Hid (Below w.heap.size w ((((w.alloc (cellsR4 a b c d)).alloc (cellsR4 e f g h)).alloc (cellsR4 0 0 0 0)).alloc (cellsR4 0 0 0 0))) := fourW w a b c d e f g h
  go_enter Try.func21, Try.ntmps21
  go_wp2_with fail
  refine (c_l1Jump _ _).mono ?_
  rintro ee w1 ⟨rfl, hw1⟩
  rw [hw1]; clear hw1 w1
  rw [hop]
  go_wp2_with fail
  refine (c_l2Ok _ _ _ _ _).mono ?_
  rintro ee w1 ⟨rfl, hb1⟩
  have bA1 := hid (bA0.out.below hb1)
  have bB1 := hid (bB0.out.below hb1)
  have bQ1 := hid (bQ0.out.below hb1)
  have bR1 := hid (bR0.out.below hb1)
  have bel1 := hid (bel0.out.trans (hb1.mono bel0.out.size))
  clear hb1 bA0 bB0 bQ0 bR0 bel0
  rw [h1]
  obtain ⟨cB0, cB1, cB2, cB3⟩ := RBox.box bB1.out
  go_wp2_with fail
  refine (c_l2Ok _ _ _ _ _).mono ?_
  rintro ee w2 ⟨rfl, hb2⟩
  have bA2 := hid (bA1.out.below hb2)
  have bB2 := hid (bB1.out.below hb2)
  have bQ2 := hid (bQ1.out.below hb2)
  have bR2 := hid (bR1.out.below hb2)
  have bel2 := hid (bel1.out.trans (hb2.mono bel1.out.size))
  clear hb2 bA1 bB1 bQ1 bR1 bel1
  rw [h2]
  clear cB0 cB1 cB2 cB3
  obtain ⟨cQ0, cQ1, cQ2, cQ3⟩ := RBox.box bQ2.out
  obtain ⟨cR0, cR1, cR2, cR3⟩ := RBox.box bR2.out
  have frQ := RBox.frozen bQ2.out
  have frR := RBox.frozen bR2.out
  go_wp2_with fail
  have bA3 := hid (bA2.out.st4o (k := w.heap.size + 2) (by first | omega | (have := RBox.lt bA2.out; omega)) (1) (0) (0) (0))
  have bB3 := hid (bB2.out.st4o (k := w.heap.size + 2) (by first | omega | (have := RBox.lt bB2.out; omega)) (1) (0) (0) (0))
  have bQ3 := hid (bQ2.out.st4 (x' := 1) (y' := 0) (z' := 0) (u' := 0))
  have bR3 := hid (bR2.out.st4o (k := w.heap.size + 2) (by first | omega | (have := RBox.lt bR2.out; omega)) (1) (0) (0) (0))
  have bel3 := hid (st4_below (w.heap.size + 2) (1) (0) (0) (0) bel2.out (by omega))
  clear bA2 bB2 bQ2 bR2 bel2
  unfold Go.Proofs.Ytcigdckmiibgmab.st4 at bel3 bA3 bB3 bQ3 bR3
  generalize ((((w2.setCell ⟨w.heap.size + 2, 0, none⟩ (.int .i64 (1))).setCell ⟨w.heap.size + 2, 1, none⟩ (.int .i64 (0))).setCell ⟨w.heap.size + 2, 2, none⟩ (.int .i64 (0))).setCell ⟨w.heap.size + 2, 3, none⟩ (.int .i64 (0))) = w3 at *
  have bA4 := hid (bA3.out.st4o (k := w.heap.size + 3) (by first | omega | (have := RBox.lt bA3.out; omega)) (1) (0) (0) (0))
  have bB4 := hid (bB3.out.st4o (k := w.heap.size + 3) (by first | omega | (have := RBox.lt bB3.out; omega)) (1) (0) (0) (0))
  have bQ4 := hid (bQ3.out.st4o (k := w.heap.size + 3) (by first | omega | (have := RBox.lt bQ3.out; omega)) (1) (0) (0) (0))
  have bR4 := hid (bR3.out.st4 (x' := 1) (y' := 0) (z' := 0) (u' := 0))
  have bel4 := hid (st4_below (w.heap.size + 3) (1) (0) (0) (0) bel3.out (by omega))
  clear bA3 bB3 bQ3 bR3 bel3
  unfold Go.Proofs.Ytcigdckmiibgmab.st4 at bel4 bA4 bB4 bQ4 bR4
  generalize ((((w3.setCell ⟨w.heap.size + 3, 0, none⟩ (.int .i64 (1))).setCell ⟨w.heap.size + 3, 1, none⟩ (.int .i64 (0))).setCell ⟨w.heap.size + 3, 2, none⟩ (.int .i64 (0))).setCell ⟨w.heap.size + 3, 3, none⟩ (.int .i64 (0))) = w4 at *
  clear cQ0 cQ1 cQ2 cQ3 cR0 cR1 cR2 cR3
  clear frQ frR
  obtain ⟨p0, p1, p2, p3⟩ := RBox.box bQ4.out
  obtain ⟨q0, q1, q2, q3⟩ := RBox.box bR4.out
  refine bodyPost_ret (v := .tuple #[rv 1 0 0 0, rv 1 0 0 0, .bool false]) (by simp [results, Try.results21, go_sem, p0, p1, p2, p3, q0, q1, q2, q3]) rfl ⟨rfl, bel4.out⟩

set_option maxRecDepth 100000 in
set_option maxHeartbeats 2000000 in
theorem w_SBr_no4 (op : Int) (a b c d e f g h : Nat) (hl : Bool) (w : World) (hop : inB op 12 15 = true) (A : OkN a b c d) (B : OkN e f g h) (h3 : someN a b c d = false) :
    Calls Try.prog 21 #[.int .i64 op, rv a b c d, rv e f g h, .bool hl] w fun ee w' => ee = .returned (.tuple #[rv 1 0 0 0, rv 1 0 0 0, .bool false]) ∧ Below w.heap.size w w' := by
  have K1 := hid (okB_of A)
  have K2 := hid (okB_of B)
  have HA := hid A
  have HB := hid B
  have H3 := hid h3
  clear A B h3
  have bA0 : Hid (RBox ((((w.alloc (cellsR4 a b c d)).alloc (cellsR4 e f g h)).alloc (cellsR4 0 0 0 0)).alloc (cellsR4 0 0 0 0)) w.heap.size a b c d) := fourA w a b c d e f g h
  have bB0 : Hid (RBox ((((w.alloc (cellsR4 a b c d)).alloc (cellsR4 e f g h)).alloc (cellsR4 0 0 0 0)).alloc (cellsR4 0 0 0 0)) (w.heap.size + 1) e f g h) := fourB w a b c d e f g h
  have bQ0 : Hid (RBox ((((w.alloc (cellsR4 a b c d)).alloc (cellsR4 e f g h)).alloc (cellsR4 0 0 0 0)).alloc (cellsR4 0 0 0 0)) (w.heap.size + 2) 0 0 0 0) := fourQ w a b c d e f g h
  have bR0 : Hid (RBox ((((w.alloc (cellsR4 a b c d)).alloc (cellsR4 e f g h)).alloc (cellsR4 0 0 0 0)).alloc (cellsR4 0 0 0 0)) (w.heap.size + 3) 0 0 0 0) := fourR w a b c d e f g h
  have bel0 : Hid (Below w.heap.size w ((((w.alloc (cellsR4 a b c d)).alloc (cellsR4 e f g h)).alloc (cellsR4 0 0 0 0)).alloc (cellsR4 0 0 0 0))) := fourW w a b c d e f g h
  go_enter Try.func21, Try.ntmps21
  go_wp2_with fail
  refine (c_l1Jump _ _).mono ?_
  rintro ee w1 ⟨rfl, hw1⟩
  rw [hw1]; clear hw1 w1
  rw [hop]
  go_wp2_with fail
  refine (c_l2Ok _ _ _ _ _).mono ?_
  rintro ee w1 ⟨rfl, hb1⟩
  have bA1 := hid (bA0.out.below hb1)
  have bB1 := hid (bB0.out.below hb1)
  have bQ1 := hid (bQ0.out.below hb1)
  have bR1 := hid (bR0.out.below hb1)
  have bel1 := hid (bel0.out.trans (hb1.mono bel0.out.size))
  clear hb1 bA0 bB0 bQ0 bR0 bel0
  rw [K1.out]
  obtain ⟨cA0, cA1, cA2, cA3⟩ := RBox.box bA1.out
  obtain ⟨cB0, cB1, cB2, cB3⟩ := RBox.box bB1.out
  go_wp2_with fail
  refine (c_l2Ok _ _ _ _ _).mono ?_
  rintro ee w2 ⟨rfl, hb2⟩
  have bA2 := hid (bA1.out.below hb2)
  have bB2 := hid (bB1.out.below hb2)
  have bQ2 := hid (bQ1.out.below hb2)
  have bR2 := hid (bR1.out.below hb2)
  have bel2 := hid (bel1.out.trans (hb2.mono bel1.out.size))
  clear hb2 bA1 bB1 bQ1 bR1 bel1
  rw [K2.out]
  clear cA0 cA1 cA2 cA3 cB0 cB1 cB2 cB3
  obtain ⟨cA0, cA1, cA2, cA3⟩ := RBox.box bA2.out
  obtain ⟨cB0, cB1, cB2, cB3⟩ := RBox.box bB2.out
  go_wp2_with fail
  refine (c_l2Some a b c d _ HA.out).mono ?_
  rintro ee w3 ⟨rfl, hb3⟩
  have bA3 := hid (bA2.out.below hb3)
  have bB3 := hid (bB2.out.below hb3)
  have bQ3 := hid (bQ2.out.below hb3)
  have bR3 := hid (bR2.out.below hb3)
  have bel3 := hid (bel2.out.trans (hb3.mono bel2.out.size))
  clear hb3 bA2 bB2 bQ2 bR2 bel2
  rw [H3.out]
  clear cA0 cA1 cA2 cA3 cB0 cB1 cB2 cB3
  obtain ⟨cQ0, cQ1, cQ2, cQ3⟩ := RBox.box bQ3.out
  obtain ⟨cR0, cR1, cR2, cR3⟩ := RBox.box bR3.out
  have frQ := RBox.frozen bQ3.out
  have frR := RBox.frozen bR3.out
  go_wp2_with fail
  have bA4 := hid (bA3.out.st4o (k := w.heap.size + 2) (by first | omega | (have := RBox.lt bA3.out; omega)) (1) (0) (0) (0))
  have bB4 := hid (bB3.out.st4o (k := w.heap.size + 2) (by first | omega | (have := RBox.lt bB3.out; omega)) (1) (0) (0) (0))
  have bQ4 := hid (bQ3.out.st4 (x' := 1) (y' := 0) (z' := 0) (u' := 0))
  have bR4 := hid (bR3.out.st4o (k := w.heap.size + 2) (by first | omega | (have := RBox.lt bR3.out; omega)) (1) (0) (0) (0))
  have bel4 := hid (st4_below (w.heap.size + 2) (1) (0) (0) (0) bel3.out (by omega))
  clear bA3 bB3 bQ3 bR3 bel3
  unfold Go.Proofs.Ytcigdckmiibgmab.st4 at bel4 bA4 bB4 bQ4 bR4
  generalize ((((w3.setCell ⟨w.heap.size + 2, 0, none⟩ (.int .i64 (1))).setCell ⟨w.heap.size + 2, 1, none⟩ (.int .i64 (0))).setCell ⟨w.heap.size + 2, 2, none⟩ (.int .i64 (0))).setCell ⟨w.heap.size + 2, 3, none⟩ (.int .i64 (0))) = w4 at *
  have bA5 := hid (bA4.out.st4o (k := w.heap.size + 3) (by first | omega | (have := RBox.lt bA4.out; omega)) (1) (0) (0) (0))
  have bB5 := hid (bB4.out.st4o (k := w.heap.size + 3) (by first | omega | (have := RBox.lt bB4.out; omega)) (1) (0) (0) (0))
  have bQ5 := hid (bQ4.out.st4o (k := w.heap.size + 3) (by first | omega | (have := RBox.lt bQ4.out; omega)) (1) (0) (0) (0))
  have bR5 := hid (bR4.out.st4 (x' := 1) (y' := 0) (z' := 0) (u' := 0))
  have bel5 := hid (st4_below (w.heap.size + 3) (1) (0) (0) (0) bel4.out (by omega))
  clear bA4 bB4 bQ4 bR4 bel4
  unfold Go.Proofs.Ytcigdckmiibgmab.st4 at bel5 bA5 bB5 bQ5 bR5
  generalize ((((w4.setCell ⟨w.heap.size + 3, 0, none⟩ (.int .i64 (1))).setCell ⟨w.heap.size + 3, 1, none⟩ (.int .i64 (0))).setCell ⟨w.heap.size + 3, 2, none⟩ (.int .i64 (0))).setCell ⟨w.heap.size + 3, 3, none⟩ (.int .i64 (0))) = w5 at *
  clear cQ0 cQ1 cQ2 cQ3 cR0 cR1 cR2 cR3
  clear frQ frR
  obtain ⟨p0, p1, p2, p3⟩ := RBox.box bQ5.out
  obtain ⟨q0, q1, q2, q3⟩ := RBox.box bR5.out
  refine bodyPost_ret (v := .tuple #[rv 1 0 0 0, rv 1 0 0 0, .bool false]) (by simp [results, Try.results21, go_sem, p0, p1, p2, p3, q0, q1, q2, q3]) rfl ⟨rfl, bel5.out⟩

set_option maxRecDepth 100000 in
set_option maxHeartbeats 2000000 in
theorem w_SBr_no5 (op : Int) (a b c d e f g h : Nat) (hl : Bool) (w : World) (hop : inB op 12 15 = true) (A : OkN a b c d) (B : OkN e f g h) (h3 : someN a b c d = true) (h4 : someN e f g h = false) :
    Calls Try.prog 21 #[.int .i64 op, rv a b c d, rv e f g h, .bool hl] w fun ee w' => ee = .returned (.tuple #[rv 1 0 0 0, rv 1 0 0 0, .bool false]) ∧ Below w.heap.size w w' := by
  have K1 := hid (okB_of A)
  have K2 := hid (okB_of B)
  have HA := hid A
  have HB := hid B
  have H3 := hid h3
  have H4 := hid h4
  clear A B h3 h4
  have bA0 : Hid (RBox ((((w.alloc (cellsR4 a b c d)).alloc (cellsR4 e f g h)).alloc (cellsR4 0 0 0 0)).alloc (cellsR4 0 0 0 0)) w.heap.size a b c d) := fourA w a b c d e f g h
  have bB0 : Hid (RBox ((((w.alloc (cellsR4 a b c d)).alloc (cellsR4 e f g h)).alloc (cellsR4 0 0 0 0)).alloc (cellsR4 0 0 0 0)) (w.heap.size + 1) e f g h) := fourB w a b c d e f g h
  have bQ0 : Hid (RBox ((((w.alloc (cellsR4 a b c d)).alloc (cellsR4 e f g h)).alloc (cellsR4 0 0 0 0)).alloc (cellsR4 0 0 0 0)) (w.heap.size + 2) 0 0 0 0) := fourQ w a b c d e f g h
  have bR0 : Hid (RBox ((((w.alloc (cellsR4 a b c d)).alloc (cellsR4 e f g h)).alloc (cellsR4 0 0 0 0)).alloc (cellsR4 0 0 0 0)) (w.heap.size + 3) 0 0 0 0) := fourR w a b c d e f g h
  have bel0 : Hid (Below w.heap.size w ((((w.alloc (cellsR4 a b c d)).alloc (cellsR4 e f g h)).alloc (cellsR4 0 0 0 0)).alloc (cellsR4 0 0 0 0))) := fourW w a b c d e f g h
  go_enter Try.func21, Try.ntmps21
  go_wp2_with fail
  refine (c_l1Jump _ _).mono ?_
  rintro ee w1 ⟨rfl, hw1⟩
  rw [hw1]; clear hw1 w1
  rw [hop]
  go_wp2_with fail
  refine (c_l2Ok _ _ _ _ _).mono ?_
  rintro ee w1 ⟨rfl, hb1⟩
  have bA1 := hid (bA0.out.below hb1)
  have bB1 := hid (bB0.out.below hb1)
  have bQ1 := hid (bQ0.out.below hb1)
  have bR1 := hid (bR0.out.below hb1)
  have bel1 := hid (bel0.out.trans (hb1.mono bel0.out.size))
  clear hb1 bA0 bB0 bQ0 bR0 bel0
  rw [K1.out]
  obtain ⟨cA0, cA1, cA2, cA3⟩ := RBox.box bA1.out
  obtain ⟨cB0, cB1, cB2, cB3⟩ := RBox.box bB1.out
  go_wp2_with fail
  refine (c_l2Ok _ _ _ _ _).mono ?_
  rintro ee w2 ⟨rfl, hb2⟩
  have bA2 := hid (bA1.out.below hb2)
  have bB2 := hid (bB1.out.below hb2)
  have bQ2 := hid (bQ1.out.below hb2)
  have bR2 := hid (bR1.out.below hb2)
  have bel2 := hid (bel1.out.trans (hb2.mono bel1.out.size))
  clear hb2 bA1 bB1 bQ1 bR1 bel1
  rw [K2.out]
  clear cA0 cA1 cA2 cA3 cB0 cB1 cB2 cB3
  obtain ⟨cA0, cA1, cA2, cA3⟩ := RBox.box bA2.out
  obtain ⟨cB0, cB1, cB2, cB3⟩ := RBox.box bB2.out
  go_wp2_with fail
  refine (c_l2Some a b c d _ HA.out).mono ?_
  rintro ee w3 ⟨rfl, hb3⟩
  have bA3 := hid (bA2.out.below hb3)
  have bB3 := hid (bB2.out.below hb3)
  have bQ3 := hid (bQ2.out.below hb3)
  have bR3 := hid (bR2.out.below hb3)
  have bel3 := hid (bel2.out.trans (hb3.mono bel2.out.size))
  clear hb3 bA2 bB2 bQ2 bR2 bel2
  rw [H3.out]
  clear cA0 cA1 cA2 cA3 cB0 cB1 cB2 cB3
  obtain ⟨cA0, cA1, cA2, cA3⟩ := RBox.box bA3.out
  obtain ⟨cB0, cB1, cB2, cB3⟩ := RBox.box bB3.out
  go_wp2_with fail
  refine (c_l2Some e f g h _ HB.out).mono ?_
  rintro ee w4 ⟨rfl, hb4⟩
  have bA4 := hid (bA3.out.below hb4)
  have bB4 := hid (bB3.out.below hb4)
  have bQ4 := hid (bQ3.out.below hb4)
  have bR4 := hid (bR3.out.below hb4)
  have bel4 := hid (bel3.out.trans (hb4.mono bel3.out.size))
  clear hb4 bA3 bB3 bQ3 bR3 bel3
  rw [H4.out]
  clear cA0 cA1 cA2 cA3 cB0 cB1 cB2 cB3
  obtain ⟨cQ0, cQ1, cQ2, cQ3⟩ := RBox.box bQ4.out
  obtain ⟨cR0, cR1, cR2, cR3⟩ := RBox.box bR4.out
  have frQ := RBox.frozen bQ4.out
  have frR := RBox.frozen bR4.out
  go_wp2_with fail
  have bA5 := hid (bA4.out.st4o (k := w.heap.size + 2) (by first | omega | (have := RBox.lt bA4.out; omega)) (1) (0) (0) (0))
  have bB5 := hid (bB4.out.st4o (k := w.heap.size + 2) (by first | omega | (have := RBox.lt bB4.out; omega)) (1) (0) (0) (0))
  have bQ5 := hid (bQ4.out.st4 (x' := 1) (y' := 0) (z' := 0) (u' := 0))
  have bR5 := hid (bR4.out.st4o (k := w.heap.size + 2) (by first | omega | (have := RBox.lt bR4.out; omega)) (1) (0) (0) (0))
  have bel5 := hid (st4_below (w.heap.size + 2) (1) (0) (0) (0) bel4.out (by omega))
  clear bA4 bB4 bQ4 bR4 bel4
  unfold Go.Proofs.Ytcigdckmiibgmab.st4 at bel5 bA5 bB5 bQ5 bR5
  generalize ((((w4.setCell ⟨w.heap.size + 2, 0, none⟩ (.int .i64 (1))).setCell ⟨w.heap.size + 2, 1, none⟩ (.int .i64 (0))).setCell ⟨w.heap.size + 2, 2, none⟩ (.int .i64 (0))).setCell ⟨w.heap.size + 2, 3, none⟩ (.int .i64 (0))) = w5 at *
  have bA6 := hid (bA5.out.st4o (k := w.heap.size + 3) (by first | omega | (have := RBox.lt bA5.out; omega)) (1) (0) (0) (0))
  have bB6 := hid (bB5.out.st4o (k := w.heap.size + 3) (by first | omega | (have := RBox.lt bB5.out; omega)) (1) (0) (0) (0))
  have bQ6 := hid (bQ5.out.st4o (k := w.heap.size + 3) (by first | omega | (have := RBox.lt bQ5.out; omega)) (1) (0) (0) (0))
  have bR6 := hid (bR5.out.st4 (x' := 1) (y' := 0) (z' := 0) (u' := 0))
  have bel6 := hid (st4_below (w.heap.size + 3) (1) (0) (0) (0) bel5.out (by omega))
  clear bA5 bB5 bQ5 bR5 bel5
  unfold Go.Proofs.Ytcigdckmiibgmab.st4 at bel6 bA6 bB6 bQ6 bR6
  generalize ((((w5.setCell ⟨w.heap.size + 3, 0, none⟩ (.int .i64 (1))).setCell ⟨w.heap.size + 3, 1, none⟩ (.int .i64 (0))).setCell ⟨w.heap.size + 3, 2, none⟩ (.int .i64 (0))).setCell ⟨w.heap.size + 3, 3, none⟩ (.int .i64 (0))) = w6 at *
  clear cQ0 cQ1 cQ2 cQ3 cR0 cR1 cR2 cR3
  clear frQ frR
  obtain ⟨p0, p1, p2, p3⟩ := RBox.box bQ6.out
  obtain ⟨q0, q1, q2, q3⟩ := RBox.box bR6.out
  refine bodyPost_ret (v := .tuple #[rv 1 0 0 0, rv 1 0 0 0, .bool false]) (by simp [results, Try.results21, go_sem, p0, p1, p2, p3, q0, q1, q2, q3]) rfl ⟨rfl, bel6.out⟩

set_option maxRecDepth 100000 in
set_option maxHeartbeats 2000000 in
theorem w_SBr_yes (op : Int) (a b c d e f g h : Nat) (hl : Bool) (k1 k2 k3 k4 m1 m2 m3 m4 : Int) (x y z u x' y' z' u' : Int) (q : Bool) (w : World) (hop : inB op 12 15 = true) (A : OkN a b c d) (B : OkN e f g h) (h3 : someN a b c d = true) (h4 : someN e f g h = true) (tA : Hid (∀ w, Calls Try.prog 36 #[rv a b c d] w fun ee w' => ee = .returned (rv k1 k2 k3 k4) ∧ Below w.heap.size w w')) (tB : Hid (∀ w, Calls Try.prog 36 #[rv e f g h] w fun ee w' => ee = .returned (rv m1 m2 m3 m4) ∧ Below w.heap.size w w')) (tP : Hid (∀ w, Calls Try.prog 35 #[.int .i64 op, rv k1 k2 k3 k4, rv m1 m2 m3 m4, .bool hl] w fun ee w' => ee = .returned (.tuple #[rv x y z u, rv x' y' z' u', .bool q]) ∧ Below w.heap.size w w')) :
    Calls Try.prog 21 #[.int .i64 op, rv a b c d, rv e f g h, .bool hl] w fun ee w' => ee = .returned (.tuple #[rv x y z u, rv x' y' z' u', .bool q]) ∧ Below w.heap.size w w' := by
  have K1 := hid (okB_of A)
  have K2 := hid (okB_of B)
  have HA := hid A
  have HB := hid B
  have H3 := hid h3
  have H4 := hid h4
  clear A B h3 h4
  have bA0 : Hid (RBox ((((w.alloc (cellsR4 a b c d)).alloc (cellsR4 e f g h)).alloc (cellsR4 0 0 0 0)).alloc (cellsR4 0 0 0 0)) w.heap.size a b c d) := fourA w a b c d e f g h
  have bB0 : Hid (RBox ((((w.alloc (cellsR4 a b c d)).alloc (cellsR4 e f g h)).alloc (cellsR4 0 0 0 0)).alloc (cellsR4 0 0 0 0)) (w.heap.size + 1) e f g h) := fourB w a b c d e f g h
  have bQ0 : Hid (RBox ((((w.alloc (cellsR4 a b c d)).alloc (cellsR4 e f g h)).alloc (cellsR4 0 0 0 0)).alloc (cellsR4 0 0 0 0)) (w.heap.size + 2) 0 0 0 0) := fourQ w a b c d e f g h
  have bR0 : Hid (RBox ((((w.alloc (cellsR4 a b c d)).alloc (cellsR4 e f g h)).alloc (cellsR4 0 0 0 0)).alloc (cellsR4 0 0 0 0)) (w.heap.size + 3) 0 0 0 0) := fourR w a b c d e f g h
  have bel0 : Hid (Below w.heap.size w ((((w.alloc (cellsR4 a b c d)).alloc (cellsR4 e f g h)).alloc (cellsR4 0 0 0 0)).alloc (cellsR4 0 0 0 0))) := fourW w a b c d e f g h
  go_enter Try.func21, Try.ntmps21
  go_wp2_with fail
  refine (c_l1Jump _ _).mono ?_
  rintro ee w1 ⟨rfl, hw1⟩
  rw [hw1]; clear hw1 w1
  rw [hop]
  go_wp2_with fail
  refine (c_l2Ok _ _ _ _ _).mono ?_
  rintro ee w1 ⟨rfl, hb1⟩
  have bA1 := hid (bA0.out.below hb1)
  have bB1 := hid (bB0.out.below hb1)
  have bQ1 := hid (bQ0.out.below hb1)
  have bR1 := hid (bR0.out.below hb1)
  have bel1 := hid (bel0.out.trans (hb1.mono bel0.out.size))
  clear hb1 bA0 bB0 bQ0 bR0 bel0
  rw [K1.out]
  obtain ⟨cA0, cA1, cA2, cA3⟩ := RBox.box bA1.out
  obtain ⟨cB0, cB1, cB2, cB3⟩ := RBox.box bB1.out
  go_wp2_with fail
  refine (c_l2Ok _ _ _ _ _).mono ?_
  rintro ee w2 ⟨rfl, hb2⟩
  have bA2 := hid (bA1.out.below hb2)
  have bB2 := hid (bB1.out.below hb2)
  have bQ2 := hid (bQ1.out.below hb2)
  have bR2 := hid (bR1.out.below hb2)
  have bel2 := hid (bel1.out.trans (hb2.mono bel1.out.size))
  clear hb2 bA1 bB1 bQ1 bR1 bel1
  rw [K2.out]
  clear cA0 cA1 cA2 cA3 cB0 cB1 cB2 cB3
  obtain ⟨cA0, cA1, cA2, cA3⟩ := RBox.box bA2.out
  obtain ⟨cB0, cB1, cB2, cB3⟩ := RBox.box bB2.out
  go_wp2_with fail
  refine (c_l2Some a b c d _ HA.out).mono ?_
  rintro ee w3 ⟨rfl, hb3⟩
  have bA3 := hid (bA2.out.below hb3)
  have bB3 := hid (bB2.out.below hb3)
  have bQ3 := hid (bQ2.out.below hb3)
  have bR3 := hid (bR2.out.below hb3)
  have bel3 := hid (bel2.out.trans (hb3.mono bel2.out.size))
  clear hb3 bA2 bB2 bQ2 bR2 bel2
  rw [H3.out]
  clear cA0 cA1 cA2 cA3 cB0 cB1 cB2 cB3
  obtain ⟨cA0, cA1, cA2, cA3⟩ := RBox.box bA3.out
  obtain ⟨cB0, cB1, cB2, cB3⟩ := RBox.box bB3.out
  go_wp2_with fail
  refine (c_l2Some e f g h _ HB.out).mono ?_
  rintro ee w4 ⟨rfl, hb4⟩
  have bA4 := hid (bA3.out.below hb4)
  have bB4 := hid (bB3.out.below hb4)
  have bQ4 := hid (bQ3.out.below hb4)
  have bR4 := hid (bR3.out.below hb4)
  have bel4 := hid (bel3.out.trans (hb4.mono bel3.out.size))
  clear hb4 bA3 bB3 bQ3 bR3 bel3
  rw [H4.out]
  clear cA0 cA1 cA2 cA3 cB0 cB1 cB2 cB3
  go_wp2_with fail
  refine wp_region_held_drew (S := (fun w' => w'.cell? ⟨w.heap.size, 0, none⟩ = some (.int .i64 (a)) ∧ w'.cell? ⟨w.heap.size, 1, none⟩ = some (.int .i64 (b)) ∧ w'.cell? ⟨w.heap.size, 2, none⟩ = some (.int .i64 (c)) ∧ w'.cell? ⟨w.heap.size, 3, none⟩ = some (.int .i64 (d)) ∧ w'.cell? ⟨w.heap.size + 1, 0, none⟩ = some (.int .i64 (e)) ∧ w'.cell? ⟨w.heap.size + 1, 1, none⟩ = some (.int .i64 (f)) ∧ w'.cell? ⟨w.heap.size + 1, 2, none⟩ = some (.int .i64 (g)) ∧ w'.cell? ⟨w.heap.size + 1, 3, none⟩ = some (.int .i64 (h)))) (by kernel_rfl) (by exact ⟨(RBox.box bA4.out).c0, (RBox.box bA4.out).c1, (RBox.box bA4.out).c2, (RBox.box bA4.out).c3, (RBox.box bB4.out).c0, (RBox.box bB4.out).c1, (RBox.box bB4.out).c2, (RBox.box bB4.out).c3⟩) (fun hHeld => ?_)
  have hA := hid (RBox.drew bA4.out)
  have hB := hid (RBox.drew bB4.out)
  have hQ := hid (RBox.drew bQ4.out)
  have hR := hid (RBox.drew bR4.out)
  have hbel := hid (Below.drew bel4.out)
  clear bA4 bB4 bQ4 bR4 bel4
  generalize w4.drew = W1 at *
  refine wpAnyH_take (i := 0) (oi := ?oi41) (v := ?v41) (fuel := 12) ?hi41 ?hs41 ?hf41 ?hr41 ?hq41 (Or.inl ⟨?hw41, ?hy41⟩) hHeld ?rest41
  case hi41 => rw [List.getElem?_toArray]; rfl
  case hq41 => exact fun _ _ _ h => h
  case hs41 => kernel_rfl
  case hf41 => kernel_rfl
  case hr41 => kernel_rfl
  case hw41 => rfl
  case hy41 => (intro w1 hSw; (try dsimp only at hSw); go_simp; try with_reducible rfl)
  (try simp only [Act.put, List.setIfInBounds_toArray, List.set_cons_zero, List.set_cons_succ])
  refine wpAnyH_take (i := 1) (oi := ?oi42) (v := ?v42) (fuel := 11) ?hi42 ?hs42 ?hf42 ?hr42 ?hq42 (Or.inl ⟨?hw42, ?hy42⟩) hHeld ?rest42
  case hi42 => rw [List.getElem?_toArray]; rfl
  case hq42 => exact fun _ _ _ h => h
  case hs42 => kernel_rfl
  case hf42 => kernel_rfl
  case hr42 => kernel_rfl
  case hw42 => rfl
  case hy42 => (intro w1 hSw; (try dsimp only at hSw); go_simp; try with_reducible rfl)
  (try simp only [Act.put, List.setIfInBounds_toArray, List.set_cons_zero, List.set_cons_succ])
  refine wpAnyH_take (i := 3) (oi := ?oi43) (v := ?v43) (fuel := 10) ?hi43 ?hs43 ?hf43 ?hr43 ?hq43 (Or.inl ⟨?hw43, ?hy43⟩) hHeld ?rest43
  case hi43 => rw [List.getElem?_toArray]; rfl
  case hq43 => exact fun _ _ _ h => h
  case hs43 => kernel_rfl
  case hf43 => kernel_rfl
  case hr43 => kernel_rfl
  case hw43 => rfl
  case hy43 => (intro w1 hSw; (try dsimp only at hSw); go_simp; try with_reducible rfl)
  (try simp only [Act.put, List.setIfInBounds_toArray, List.set_cons_zero, List.set_cons_succ])
  refine wpAnyH_take (i := 5) (oi := ?oi44) (v := ?v44) (fuel := 9) ?hi44 ?hs44 ?hf44 ?hr44 ?hq44 (Or.inl ⟨?hw44, ?hy44⟩) hHeld ?rest44
  case hi44 => rw [List.getElem?_toArray]; rfl
  case hq44 => exact fun _ _ _ h => h
  case hs44 => kernel_rfl
  case hf44 => kernel_rfl
  case hr44 => kernel_rfl
  case hw44 => rfl
  case hy44 => (intro w1 hSw; (try dsimp only at hSw); go_simp; try with_reducible rfl)
  (try simp only [Act.put, List.setIfInBounds_toArray, List.set_cons_zero, List.set_cons_succ])
  refine wpAnyH_ready (fuel := 8) (rs := [2]) (by kernel_rfl) (by simp) ?_
  refine AllReadyH.cons (o := ?oi45) ?hi45 (fun K hK => ?st45) AllReadyH.nil
  case hi45 => rw [List.getElem?_toArray]; rfl
  go_simp
  refine (tA.out _).mono ?_
  rintro ee wr2 ⟨rfl, hbn⟩
  replace hA := hid (hA.out.below hbn)
  replace hB := hid (hB.out.below hbn)
  replace hQ := hid (hQ.out.below hbn)
  replace hR := hid (hR.out.below hbn)
  replace hbel := hid (hbel.out.trans (hbn.mono hbel.out.size))
  clear hbn
  go_wp2_with fail
  refine hK.out _ _ ?hS45 (fun hHeld => ?re45)
  case hS45 => exact ⟨(RBox.box hA.out).c0, (RBox.box hA.out).c1, (RBox.box hA.out).c2, (RBox.box hA.out).c3, (RBox.box hB.out).c0, (RBox.box hB.out).c1, (RBox.box hB.out).c2, (RBox.box hB.out).c3⟩
  clear hK K
  (try simp only [Act.put, List.setIfInBounds_toArray, List.set_cons_zero, List.set_cons_succ])
  refine wpAnyH_ready (fuel := 7) (rs := [4]) (by kernel_rfl) (by simp) ?_
  refine AllReadyH.cons (o := ?oi46) ?hi46 (fun K hK => ?st46) AllReadyH.nil
  case hi46 => rw [List.getElem?_toArray]; rfl
  go_simp
  refine (tB.out _).mono ?_
  rintro ee wr4 ⟨rfl, hbn⟩
  replace hA := hid (hA.out.below hbn)
  replace hB := hid (hB.out.below hbn)
  replace hQ := hid (hQ.out.below hbn)
  replace hR := hid (hR.out.below hbn)
  replace hbel := hid (hbel.out.trans (hbn.mono hbel.out.size))
  clear hbn
  go_wp2_with fail
  refine hK.out _ _ ?hS46 (fun hHeld => ?re46)
  case hS46 => exact ⟨(RBox.box hA.out).c0, (RBox.box hA.out).c1, (RBox.box hA.out).c2, (RBox.box hA.out).c3, (RBox.box hB.out).c0, (RBox.box hB.out).c1, (RBox.box hB.out).c2, (RBox.box hB.out).c3⟩
  clear hK K
  (try simp only [Act.put, List.setIfInBounds_toArray, List.set_cons_zero, List.set_cons_succ])
  refine wpAnyH_ready (fuel := 6) (rs := [6]) (by kernel_rfl) (by simp) ?_
  refine AllReadyH.cons (o := ?oi47) ?hi47 (fun K hK => ?st47) AllReadyH.nil
  case hi47 => rw [List.getElem?_toArray]; rfl
  go_simp
  refine (tP.out _).mono ?_
  rintro ee wr6 ⟨rfl, hbn⟩
  replace hA := hid (hA.out.below hbn)
  replace hB := hid (hB.out.below hbn)
  replace hQ := hid (hQ.out.below hbn)
  replace hR := hid (hR.out.below hbn)
  replace hbel := hid (hbel.out.trans (hbn.mono hbel.out.size))
  clear hbn
  go_wp2_with fail
  refine hK.out _ _ ?hS47 (fun hHeld => ?re47)
  case hS47 => exact ⟨(RBox.box hA.out).c0, (RBox.box hA.out).c1, (RBox.box hA.out).c2, (RBox.box hA.out).c3, (RBox.box hB.out).c0, (RBox.box hB.out).c1, (RBox.box hB.out).c2, (RBox.box hB.out).c3⟩
  clear hK K
  (try simp only [Act.put, List.setIfInBounds_toArray, List.set_cons_zero, List.set_cons_succ])
  refine wpAnyH_take (i := 7) (oi := ?oi48) (v := ?v48) (fuel := 5) ?hi48 ?hs48 ?hf48 ?hr48 ?hq48 (Or.inl ⟨?hw48, ?hy48⟩) hHeld ?rest48
  case hi48 => rw [List.getElem?_toArray]; rfl
  case hq48 => exact fun _ _ _ h => h
  case hs48 => kernel_rfl
  case hf48 => kernel_rfl
  case hr48 => kernel_rfl
  case hw48 => rfl
  case hy48 => (intro w1 hSw; (try dsimp only at hSw); go_simp; try with_reducible rfl)
  (try simp only [Act.put, List.setIfInBounds_toArray, List.set_cons_zero, List.set_cons_succ])
  refine wpAnyH_take (i := 8) (oi := ?oi49) (v := ?v49) (fuel := 4) ?hi49 ?hs49 ?hf49 ?hr49 ?hq49 (Or.inl ⟨?hw49, ?hy49⟩) hHeld ?rest49
  case hi49 => rw [List.getElem?_toArray]; rfl
  case hq49 => exact fun _ _ _ h => h
  case hs49 => kernel_rfl
  case hf49 => kernel_rfl
  case hr49 => kernel_rfl
  case hw49 => rfl
  case hy49 => (intro w1 hSw; (try dsimp only at hSw); go_simp; try with_reducible rfl)
  (try simp only [Act.put, List.setIfInBounds_toArray, List.set_cons_zero, List.set_cons_succ])
  refine wpAnyH_take (i := 9) (oi := ?oi50) (v := ?v50) (fuel := 3) ?hi50 ?hs50 ?hf50 ?hr50 ?hq50 (Or.inl ⟨?hw50, ?hy50⟩) hHeld ?rest50
  case hi50 => rw [List.getElem?_toArray]; rfl
  case hq50 => exact fun _ _ _ h => h
  case hs50 => kernel_rfl
  case hf50 => kernel_rfl
  case hr50 => kernel_rfl
  case hw50 => rfl
  case hy50 => (intro w1 hSw; (try dsimp only at hSw); go_simp; try with_reducible rfl)
  (try simp only [Act.put, List.setIfInBounds_toArray, List.set_cons_zero, List.set_cons_succ])
  refine wpAnyH_ready (fuel := 2) (rs := [10]) (by kernel_rfl) (by simp) ?_
  refine AllReadyH.cons (o := ?oi51) ?hi51 (fun K hK => ?st51) AllReadyH.nil
  case hi51 => rw [List.getElem?_toArray]; rfl
  obtain ⟨g0, g1, g2, g3⟩ := RBox.box hQ.out
  have fq := RBox.frozen hQ.out
  go_simp
  clear g0 g1 g2 g3 fq
  replace hA := hid (hA.out.st4o (k := w.heap.size + 2) (by first | omega | (have := RBox.lt hA.out; omega)) (x) (y) (z) (u))
  replace hB := hid (hB.out.st4o (k := w.heap.size + 2) (by first | omega | (have := RBox.lt hB.out; omega)) (x) (y) (z) (u))
  replace hR := hid (hR.out.st4o (k := w.heap.size + 2) (by first | omega | (have := RBox.lt hR.out; omega)) (x) (y) (z) (u))
  replace hQ := hid (hQ.out.st4 (x' := x) (y' := y) (z' := z) (u' := u))
  replace hbel := hid (st4_below (w.heap.size + 2) (x) (y) (z) (u) hbel.out (by omega))
  unfold Go.Proofs.Ytcigdckmiibgmab.st4 at hbel hA hB hQ hR
  generalize ((((wr6.setCell ⟨w.heap.size + 2, 0, none⟩ (.int .i64 (x))).setCell ⟨w.heap.size + 2, 1, none⟩ (.int .i64 (y))).setCell ⟨w.heap.size + 2, 2, none⟩ (.int .i64 (z))).setCell ⟨w.heap.size + 2, 3, none⟩ (.int .i64 (u))) = ws10 at *
  refine hK.out _ _ ?hS51 (fun hHeld => ?re51)
  case hS51 => exact ⟨(RBox.box hA.out).c0, (RBox.box hA.out).c1, (RBox.box hA.out).c2, (RBox.box hA.out).c3, (RBox.box hB.out).c0, (RBox.box hB.out).c1, (RBox.box hB.out).c2, (RBox.box hB.out).c3⟩
  clear hK K
  (try simp only [Act.put, List.setIfInBounds_toArray, List.set_cons_zero, List.set_cons_succ])
  refine wpAnyH_ready (fuel := 1) (rs := [11]) (by kernel_rfl) (by simp) ?_
  refine AllReadyH.cons (o := ?oi52) ?hi52 (fun K hK => ?st52) AllReadyH.nil
  case hi52 => rw [List.getElem?_toArray]; rfl
  obtain ⟨g0, g1, g2, g3⟩ := RBox.box hR.out
  have fq := RBox.frozen hR.out
  go_simp
  clear g0 g1 g2 g3 fq
  replace hA := hid (hA.out.st4o (k := w.heap.size + 3) (by first | omega | (have := RBox.lt hA.out; omega)) (x') (y') (z') (u'))
  replace hB := hid (hB.out.st4o (k := w.heap.size + 3) (by first | omega | (have := RBox.lt hB.out; omega)) (x') (y') (z') (u'))
  replace hQ := hid (hQ.out.st4o (k := w.heap.size + 3) (by first | omega | (have := RBox.lt hQ.out; omega)) (x') (y') (z') (u'))
  replace hR := hid (hR.out.st4 (x' := x') (y' := y') (z' := z') (u' := u'))
  replace hbel := hid (st4_below (w.heap.size + 3) (x') (y') (z') (u') hbel.out (by omega))
  unfold Go.Proofs.Ytcigdckmiibgmab.st4 at hbel hA hB hQ hR
  generalize ((((ws10.setCell ⟨w.heap.size + 3, 0, none⟩ (.int .i64 (x'))).setCell ⟨w.heap.size + 3, 1, none⟩ (.int .i64 (y'))).setCell ⟨w.heap.size + 3, 2, none⟩ (.int .i64 (z'))).setCell ⟨w.heap.size + 3, 3, none⟩ (.int .i64 (u'))) = ws11 at *
  refine hK.out _ _ ?hS52 (fun hHeld => ?re52)
  case hS52 => exact ⟨(RBox.box hA.out).c0, (RBox.box hA.out).c1, (RBox.box hA.out).c2, (RBox.box hA.out).c3, (RBox.box hB.out).c0, (RBox.box hB.out).c1, (RBox.box hB.out).c2, (RBox.box hB.out).c3⟩
  clear hK K
  (try simp only [Act.put, List.setIfInBounds_toArray, List.set_cons_zero, List.set_cons_succ])
  refine wpAnyH_take (i := 12) (oi := ?oi53) (v := ?v53) (fuel := 0) ?hi53 ?hs53 ?hf53 ?hr53 ?hq53 (Or.inl ⟨?hw53, ?hy53⟩) hHeld ?rest53
  case hi53 => rw [List.getElem?_toArray]; rfl
  case hq53 => exact fun _ _ _ h => h
  case hs53 => kernel_rfl
  case hf53 => kernel_rfl
  case hr53 => kernel_rfl
  case hw53 => rfl
  case hy53 => (intro w1 hSw; (try dsimp only at hSw); go_simp; try with_reducible rfl)
  (try simp only [Act.put, List.setIfInBounds_toArray, List.set_cons_zero, List.set_cons_succ])
  refine wpAnyH_done (by kernel_rfl) ?_ _
  clear hHeld
  generalize ws11 = w5 at *
  have bA5 := hA
  have bB5 := hB
  have bQ5 := hQ
  have bR5 := hR
  have bel5 := hbel
  clear hbel hA hB hQ hR
  go_wp2_with fail
  obtain ⟨p0, p1, p2, p3⟩ := RBox.box bQ5.out
  obtain ⟨q0, q1, q2, q3⟩ := RBox.box bR5.out
  refine bodyPost_ret (v := .tuple #[rv x y z u, rv x' y' z' u', .bool q]) (by simp [results, Try.results21, go_sem, p0, p1, p2, p3, q0, q1, q2, q3]) rfl ⟨rfl, bel5.out⟩

end Go.Proofs.Ytcigdckmiibgmab
