/- Contracts for branches: the specification's l2Below. -/
import Derived.Test.YtcopcajleonndaaQBE
namespace Go.Proofs.Ytcopcajleonndaa
open Go.RowKit
set_option linter.unusedVariables false
set_option linter.unusedSimpArgs false

set_option maxRecDepth 100000 in
set_option maxHeartbeats 2000000 in
theorem w_Low_2_g1 (a b c d e f g h k : Int) (w : World) (a0 : 0 ≤ a) (a1 : a ≤ 4294967295) (f0 : 0 ≤ f) (f1 : f ≤ 4294967295) (k0 : 0 ≤ k) (k1 : k ≤ 1) (h1 : (f - k < b)) (h2 : ¬ (e < a + k)) (h3 : (f - k) < a) :
    Calls Try.prog 60 #[rv a b c d, rv e f g h, .int .i64 k] w fun ee w' => ee = .returned (.tuple #[rv 1 0 0 0, rv 1 0 0 0, .bool false]) ∧ Below w.heap.size w w' := by
  have P5 : Hid (RBox ((((w.alloc (cellsR4 a (f - k) c d)).alloc (cellsR4 e f g h)).alloc (cellsR4 1 0 0 0)).alloc (cellsR4 1 0 0 0)) (w.heap.size + 2) 1 0 0 0) := by
    have h0 := (RBox.new ((w.alloc (cellsR4 a (f - k) c d)).alloc (cellsR4 e f g h)) 1 0 0 0).alloc (cellsR4 1 0 0 0)
    simp only [World.size_alloc] at h0
    exact h0
  have P6 : Hid (RBox ((((w.alloc (cellsR4 a (f - k) c d)).alloc (cellsR4 e f g h)).alloc (cellsR4 1 0 0 0)).alloc (cellsR4 1 0 0 0)) (w.heap.size + 3) 1 0 0 0) := by
    have h0 := RBox.new (((w.alloc (cellsR4 a (f - k) c d)).alloc (cellsR4 e f g h)).alloc (cellsR4 1 0 0 0)) 1 0 0 0
    simp only [World.size_alloc] at h0
    exact h0
  have B5 : Hid (Below w.heap.size w ((((w.alloc (cellsR4 a (f - k) c d)).alloc (cellsR4 e f g h)).alloc (cellsR4 1 0 0 0)).alloc (cellsR4 1 0 0 0))) := ((newB w (cellsR4 a (f - k) c d) (cellsR4 e f g h)).alloc (by simp; omega) (cellsR4 1 0 0 0)).alloc (by simp; omega) (cellsR4 1 0 0 0)
  go_enter Try.func60, Try.ntmps60
  go_wp2_with fail
  obtain ⟨p0, p1, p2, p3⟩ := RBox.box P5.out
  obtain ⟨q0, q1, q2, q3⟩ := RBox.box P6.out
  refine bodyPost_ret (v := .tuple #[rv 1 0 0 0, rv 1 0 0 0, .bool false]) (by simp [results, Try.results60, go_sem, p0, p1, p2, p3, q0, q1, q2, q3]) rfl ⟨rfl, B5.out⟩

set_option maxRecDepth 100000 in
set_option maxHeartbeats 2000000 in
theorem w_Low_2_n1 (a b c d e f g h k : Int) (w : World) (a0 : 0 ≤ a) (a1 : a ≤ 4294967295) (f0 : 0 ≤ f) (f1 : f ≤ 4294967295) (k0 : 0 ≤ k) (k1 : k ≤ 1) (h1 : (f - k < b)) (h2 : ¬ (e < a + k)) (h3 : a ≤ (f - k)) (h4 : e ≤ f) (tS : Hid (∀ w, Calls Try.prog 73 #[rv a (f - k) c d] w fun ee w' => ee = .returned (.bool false) ∧ Below w.heap.size w w')) :
    Calls Try.prog 60 #[rv a b c d, rv e f g h, .int .i64 k] w fun ee w' => ee = .returned (.tuple #[rv 1 0 0 0, rv 1 0 0 0, .bool false]) ∧ Below w.heap.size w w' := by
  have bA0 : Hid (RBox ((((w.alloc (cellsR4 a (f - k) c d)).alloc (cellsR4 e f g h)).alloc (cellsR4 0 0 0 0)).alloc (cellsR4 0 0 0 0)) w.heap.size a (f - k) c d) := fourA w a (f - k) c d e f g h
  have bB0 : Hid (RBox ((((w.alloc (cellsR4 a (f - k) c d)).alloc (cellsR4 e f g h)).alloc (cellsR4 0 0 0 0)).alloc (cellsR4 0 0 0 0)) (w.heap.size + 1) e f g h) := fourB w a (f - k) c d e f g h
  have bQ0 : Hid (RBox ((((w.alloc (cellsR4 a (f - k) c d)).alloc (cellsR4 e f g h)).alloc (cellsR4 0 0 0 0)).alloc (cellsR4 0 0 0 0)) (w.heap.size + 2) 0 0 0 0) := fourQ w a (f - k) c d e f g h
  have bR0 : Hid (RBox ((((w.alloc (cellsR4 a (f - k) c d)).alloc (cellsR4 e f g h)).alloc (cellsR4 0 0 0 0)).alloc (cellsR4 0 0 0 0)) (w.heap.size + 3) 0 0 0 0) := fourR w a (f - k) c d e f g h
  have bel0 : Hid (Below w.heap.size w ((((w.alloc (cellsR4 a (f - k) c d)).alloc (cellsR4 e f g h)).alloc (cellsR4 0 0 0 0)).alloc (cellsR4 0 0 0 0))) := fourW w a (f - k) c d e f g h
  go_enter Try.func60, Try.ntmps60
  go_wp2_with fail
  refine (tS.out _).mono ?_
  rintro ee w1 ⟨rfl, hb1⟩
  have bA1 := hid (bA0.out.below hb1)
  have bB1 := hid (bB0.out.below hb1)
  have bQ1 := hid (bQ0.out.below hb1)
  have bR1 := hid (bR0.out.below hb1)
  have bel1 := hid (bel0.out.trans (hb1.mono bel0.out.size))
  clear hb1 bA0 bB0 bQ0 bR0 bel0
  obtain ⟨cQ0, cQ1, cQ2, cQ3⟩ := RBox.box bQ1.out
  obtain ⟨cR0, cR1, cR2, cR3⟩ := RBox.box bR1.out
  have frQ := RBox.frozen bQ1.out
  have frR := RBox.frozen bR1.out
  go_wp2_with fail
  have bA2 := hid (bA1.out.st4o (k := w.heap.size + 2) (by first | omega | (have := RBox.lt bA1.out; omega)) (1) (0) (0) (0))
  have bB2 := hid (bB1.out.st4o (k := w.heap.size + 2) (by first | omega | (have := RBox.lt bB1.out; omega)) (1) (0) (0) (0))
  have bQ2 := hid (bQ1.out.st4 (x' := 1) (y' := 0) (z' := 0) (u' := 0))
  have bR2 := hid (bR1.out.st4o (k := w.heap.size + 2) (by first | omega | (have := RBox.lt bR1.out; omega)) (1) (0) (0) (0))
  have bel2 := hid (st4_below (w.heap.size + 2) (1) (0) (0) (0) bel1.out (by omega))
  clear bA1 bB1 bQ1 bR1 bel1
  unfold Go.Proofs.Ytcopcajleonndaa.st4 at bel2 bA2 bB2 bQ2 bR2
  generalize ((((w1.setCell ⟨w.heap.size + 2, 0, none⟩ (.int .i64 (1))).setCell ⟨w.heap.size + 2, 1, none⟩ (.int .i64 (0))).setCell ⟨w.heap.size + 2, 2, none⟩ (.int .i64 (0))).setCell ⟨w.heap.size + 2, 3, none⟩ (.int .i64 (0))) = w2 at *
  have bA3 := hid (bA2.out.st4o (k := w.heap.size + 3) (by first | omega | (have := RBox.lt bA2.out; omega)) (1) (0) (0) (0))
  have bB3 := hid (bB2.out.st4o (k := w.heap.size + 3) (by first | omega | (have := RBox.lt bB2.out; omega)) (1) (0) (0) (0))
  have bQ3 := hid (bQ2.out.st4o (k := w.heap.size + 3) (by first | omega | (have := RBox.lt bQ2.out; omega)) (1) (0) (0) (0))
  have bR3 := hid (bR2.out.st4 (x' := 1) (y' := 0) (z' := 0) (u' := 0))
  have bel3 := hid (st4_below (w.heap.size + 3) (1) (0) (0) (0) bel2.out (by omega))
  clear bA2 bB2 bQ2 bR2 bel2
  unfold Go.Proofs.Ytcopcajleonndaa.st4 at bel3 bA3 bB3 bQ3 bR3
  generalize ((((w2.setCell ⟨w.heap.size + 3, 0, none⟩ (.int .i64 (1))).setCell ⟨w.heap.size + 3, 1, none⟩ (.int .i64 (0))).setCell ⟨w.heap.size + 3, 2, none⟩ (.int .i64 (0))).setCell ⟨w.heap.size + 3, 3, none⟩ (.int .i64 (0))) = w3 at *
  clear cQ0 cQ1 cQ2 cQ3 cR0 cR1 cR2 cR3
  clear frQ frR
  obtain ⟨p0, p1, p2, p3⟩ := RBox.box bQ3.out
  obtain ⟨q0, q1, q2, q3⟩ := RBox.box bR3.out
  refine bodyPost_ret (v := .tuple #[rv 1 0 0 0, rv 1 0 0 0, .bool false]) (by simp [results, Try.results60, go_sem, p0, p1, p2, p3, q0, q1, q2, q3]) rfl ⟨rfl, bel3.out⟩

set_option maxRecDepth 100000 in
set_option maxHeartbeats 2000000 in
theorem w_Low_2_n2 (a b c d e f g h k : Int) (w : World) (a0 : 0 ≤ a) (a1 : a ≤ 4294967295) (f0 : 0 ≤ f) (f1 : f ≤ 4294967295) (k0 : 0 ≤ k) (k1 : k ≤ 1) (h1 : (f - k < b)) (h2 : ¬ (e < a + k)) (h3 : a ≤ (f - k)) (h4 : e ≤ f) (tS : Hid (∀ w, Calls Try.prog 73 #[rv a (f - k) c d] w fun ee w' => ee = .returned (.bool true) ∧ Below w.heap.size w w')) (tU : Hid (∀ w, Calls Try.prog 73 #[rv e f g h] w fun ee w' => ee = .returned (.bool false) ∧ Below w.heap.size w w')) :
    Calls Try.prog 60 #[rv a b c d, rv e f g h, .int .i64 k] w fun ee w' => ee = .returned (.tuple #[rv 1 0 0 0, rv 1 0 0 0, .bool false]) ∧ Below w.heap.size w w' := by
  have bA0 : Hid (RBox ((((w.alloc (cellsR4 a (f - k) c d)).alloc (cellsR4 e f g h)).alloc (cellsR4 0 0 0 0)).alloc (cellsR4 0 0 0 0)) w.heap.size a (f - k) c d) := fourA w a (f - k) c d e f g h
  have bB0 : Hid (RBox ((((w.alloc (cellsR4 a (f - k) c d)).alloc (cellsR4 e f g h)).alloc (cellsR4 0 0 0 0)).alloc (cellsR4 0 0 0 0)) (w.heap.size + 1) e f g h) := fourB w a (f - k) c d e f g h
  have bQ0 : Hid (RBox ((((w.alloc (cellsR4 a (f - k) c d)).alloc (cellsR4 e f g h)).alloc (cellsR4 0 0 0 0)).alloc (cellsR4 0 0 0 0)) (w.heap.size + 2) 0 0 0 0) := fourQ w a (f - k) c d e f g h
  have bR0 : Hid (RBox ((((w.alloc (cellsR4 a (f - k) c d)).alloc (cellsR4 e f g h)).alloc (cellsR4 0 0 0 0)).alloc (cellsR4 0 0 0 0)) (w.heap.size + 3) 0 0 0 0) := fourR w a (f - k) c d e f g h
  have bel0 : Hid (Below w.heap.size w ((((w.alloc (cellsR4 a (f - k) c d)).alloc (cellsR4 e f g h)).alloc (cellsR4 0 0 0 0)).alloc (cellsR4 0 0 0 0))) := fourW w a (f - k) c d e f g h
  go_enter Try.func60, Try.ntmps60
  go_wp2_with fail
  refine (tS.out _).mono ?_
  rintro ee w1 ⟨rfl, hb1⟩
  have bA1 := hid (bA0.out.below hb1)
  have bB1 := hid (bB0.out.below hb1)
  have bQ1 := hid (bQ0.out.below hb1)
  have bR1 := hid (bR0.out.below hb1)
  have bel1 := hid (bel0.out.trans (hb1.mono bel0.out.size))
  clear hb1 bA0 bB0 bQ0 bR0 bel0
  obtain ⟨cB0, cB1, cB2, cB3⟩ := RBox.box bB1.out
  go_wp2_with fail
  refine (tU.out _).mono ?_
  rintro ee w2 ⟨rfl, hb2⟩
  have bA2 := hid (bA1.out.below hb2)
  have bB2 := hid (bB1.out.below hb2)
  have bQ2 := hid (bQ1.out.below hb2)
  have bR2 := hid (bR1.out.below hb2)
  have bel2 := hid (bel1.out.trans (hb2.mono bel1.out.size))
  clear hb2 bA1 bB1 bQ1 bR1 bel1
  clear cB0 cB1 cB2 cB3
  obtain ⟨cQ0, cQ1, cQ2, cQ3⟩ := RBox.box bQ2.out
  obtain ⟨cR0, cR1, cR2, cR3⟩ := RBox.box bR2.out
  have frQ := RBox.frozen bQ2.out
  have frR := RBox.frozen bR2.out
  go_wp2_with fail
  have bA3 := hid (bA2.out.st4o (k := w.heap.size + 2) (by first | omega | (have := RBox.lt bA2.out; omega)) (1) (0) (0) (0))
  have bB3 := hid (bB2.out.st4o (k := w.heap.size + 2) (by first | omega | (have := RBox.lt bB2.out; omega)) (1) (0) (0) (0))
  have bQ3 := hid (bQ2.out.st4 (x' := 1) (y' := 0) (z' := 0) (u' := 0))
  have bR3 := hid (bR2.out.st4o (k := w.heap.size + 2) (by first | omega | (have := RBox.lt bR2.out; omega)) (1) (0) (0) (0))
  have bel3 := hid (st4_below (w.heap.size + 2) (1) (0) (0) (0) bel2.out (by omega))
  clear bA2 bB2 bQ2 bR2 bel2
  unfold Go.Proofs.Ytcopcajleonndaa.st4 at bel3 bA3 bB3 bQ3 bR3
  generalize ((((w2.setCell ⟨w.heap.size + 2, 0, none⟩ (.int .i64 (1))).setCell ⟨w.heap.size + 2, 1, none⟩ (.int .i64 (0))).setCell ⟨w.heap.size + 2, 2, none⟩ (.int .i64 (0))).setCell ⟨w.heap.size + 2, 3, none⟩ (.int .i64 (0))) = w3 at *
  have bA4 := hid (bA3.out.st4o (k := w.heap.size + 3) (by first | omega | (have := RBox.lt bA3.out; omega)) (1) (0) (0) (0))
  have bB4 := hid (bB3.out.st4o (k := w.heap.size + 3) (by first | omega | (have := RBox.lt bB3.out; omega)) (1) (0) (0) (0))
  have bQ4 := hid (bQ3.out.st4o (k := w.heap.size + 3) (by first | omega | (have := RBox.lt bQ3.out; omega)) (1) (0) (0) (0))
  have bR4 := hid (bR3.out.st4 (x' := 1) (y' := 0) (z' := 0) (u' := 0))
  have bel4 := hid (st4_below (w.heap.size + 3) (1) (0) (0) (0) bel3.out (by omega))
  clear bA3 bB3 bQ3 bR3 bel3
  unfold Go.Proofs.Ytcopcajleonndaa.st4 at bel4 bA4 bB4 bQ4 bR4
  generalize ((((w3.setCell ⟨w.heap.size + 3, 0, none⟩ (.int .i64 (1))).setCell ⟨w.heap.size + 3, 1, none⟩ (.int .i64 (0))).setCell ⟨w.heap.size + 3, 2, none⟩ (.int .i64 (0))).setCell ⟨w.heap.size + 3, 3, none⟩ (.int .i64 (0))) = w4 at *
  clear cQ0 cQ1 cQ2 cQ3 cR0 cR1 cR2 cR3
  clear frQ frR
  obtain ⟨p0, p1, p2, p3⟩ := RBox.box bQ4.out
  obtain ⟨q0, q1, q2, q3⟩ := RBox.box bR4.out
  refine bodyPost_ret (v := .tuple #[rv 1 0 0 0, rv 1 0 0 0, .bool false]) (by simp [results, Try.results60, go_sem, p0, p1, p2, p3, q0, q1, q2, q3]) rfl ⟨rfl, bel4.out⟩

set_option maxRecDepth 100000 in
set_option maxHeartbeats 2000000 in
theorem w_Low_2_yes (a b c d e f g h k : Int) (x y z u x' y' z' u' : Int) (w : World) (a0 : 0 ≤ a) (a1 : a ≤ 4294967295) (f0 : 0 ≤ f) (f1 : f ≤ 4294967295) (k0 : 0 ≤ k) (k1 : k ≤ 1) (h1 : (f - k < b)) (h2 : ¬ (e < a + k)) (h3 : a ≤ (f - k)) (h4 : e ≤ f) (tS : Hid (∀ w, Calls Try.prog 73 #[rv a (f - k) c d] w fun ee w' => ee = .returned (.bool true) ∧ Below w.heap.size w w')) (tU : Hid (∀ w, Calls Try.prog 73 #[rv e f g h] w fun ee w' => ee = .returned (.bool true) ∧ Below w.heap.size w w')) (tA : Hid (∀ w, Calls Try.prog 47 #[rv a (f - k) c d] w fun ee w' => ee = .returned (rv x y z u) ∧ Below w.heap.size w w')) (tB : Hid (∀ w, Calls Try.prog 47 #[rv e f g h] w fun ee w' => ee = .returned (rv x' y' z' u') ∧ Below w.heap.size w w')) :
    Calls Try.prog 60 #[rv a b c d, rv e f g h, .int .i64 k] w fun ee w' => ee = .returned (.tuple #[rv x y z u, rv x' y' z' u', .bool true]) ∧ Below w.heap.size w w' := by
  have bA0 : Hid (RBox ((((w.alloc (cellsR4 a (f - k) c d)).alloc (cellsR4 e f g h)).alloc (cellsR4 0 0 0 0)).alloc (cellsR4 0 0 0 0)) w.heap.size a (f - k) c d) := fourA w a (f - k) c d e f g h
  have bB0 : Hid (RBox ((((w.alloc (cellsR4 a (f - k) c d)).alloc (cellsR4 e f g h)).alloc (cellsR4 0 0 0 0)).alloc (cellsR4 0 0 0 0)) (w.heap.size + 1) e f g h) := fourB w a (f - k) c d e f g h
  have bQ0 : Hid (RBox ((((w.alloc (cellsR4 a (f - k) c d)).alloc (cellsR4 e f g h)).alloc (cellsR4 0 0 0 0)).alloc (cellsR4 0 0 0 0)) (w.heap.size + 2) 0 0 0 0) := fourQ w a (f - k) c d e f g h
  have bR0 : Hid (RBox ((((w.alloc (cellsR4 a (f - k) c d)).alloc (cellsR4 e f g h)).alloc (cellsR4 0 0 0 0)).alloc (cellsR4 0 0 0 0)) (w.heap.size + 3) 0 0 0 0) := fourR w a (f - k) c d e f g h
  have bel0 : Hid (Below w.heap.size w ((((w.alloc (cellsR4 a (f - k) c d)).alloc (cellsR4 e f g h)).alloc (cellsR4 0 0 0 0)).alloc (cellsR4 0 0 0 0))) := fourW w a (f - k) c d e f g h
  go_enter Try.func60, Try.ntmps60
  go_wp2_with fail
  refine (tS.out _).mono ?_
  rintro ee w1 ⟨rfl, hb1⟩
  have bA1 := hid (bA0.out.below hb1)
  have bB1 := hid (bB0.out.below hb1)
  have bQ1 := hid (bQ0.out.below hb1)
  have bR1 := hid (bR0.out.below hb1)
  have bel1 := hid (bel0.out.trans (hb1.mono bel0.out.size))
  clear hb1 bA0 bB0 bQ0 bR0 bel0
  obtain ⟨cB0, cB1, cB2, cB3⟩ := RBox.box bB1.out
  go_wp2_with fail
  refine (tU.out _).mono ?_
  rintro ee w2 ⟨rfl, hb2⟩
  have bA2 := hid (bA1.out.below hb2)
  have bB2 := hid (bB1.out.below hb2)
  have bQ2 := hid (bQ1.out.below hb2)
  have bR2 := hid (bR1.out.below hb2)
  have bel2 := hid (bel1.out.trans (hb2.mono bel1.out.size))
  clear hb2 bA1 bB1 bQ1 bR1 bel1
  clear cB0 cB1 cB2 cB3
  go_wp2_with fail
  refine wp_region_held_drew (S := (fun w' => w'.cell? ⟨w.heap.size, 0, none⟩ = some (.int .i64 (a)) ∧ w'.cell? ⟨w.heap.size, 1, none⟩ = some (.int .i64 ((f - k))) ∧ w'.cell? ⟨w.heap.size, 2, none⟩ = some (.int .i64 (c)) ∧ w'.cell? ⟨w.heap.size, 3, none⟩ = some (.int .i64 (d)) ∧ w'.cell? ⟨w.heap.size + 1, 0, none⟩ = some (.int .i64 (e)) ∧ w'.cell? ⟨w.heap.size + 1, 1, none⟩ = some (.int .i64 (f)) ∧ w'.cell? ⟨w.heap.size + 1, 2, none⟩ = some (.int .i64 (g)) ∧ w'.cell? ⟨w.heap.size + 1, 3, none⟩ = some (.int .i64 (h)))) (by kernel_rfl) (by exact ⟨(RBox.box bA2.out).c0, (RBox.box bA2.out).c1, (RBox.box bA2.out).c2, (RBox.box bA2.out).c3, (RBox.box bB2.out).c0, (RBox.box bB2.out).c1, (RBox.box bB2.out).c2, (RBox.box bB2.out).c3⟩) (fun hHeld => ?_)
  have hA := hid (RBox.drew bA2.out)
  have hB := hid (RBox.drew bB2.out)
  have hQ := hid (RBox.drew bQ2.out)
  have hR := hid (RBox.drew bR2.out)
  have hbel := hid (Below.drew bel2.out)
  clear bA2 bB2 bQ2 bR2 bel2
  generalize w2.drew = W1 at *
  refine wpAnyH_take (i := 0) (oi := ?oi48) (v := ?v48) (fuel := 6) ?hi48 ?hs48 ?hf48 ?hr48 ?hq48 (Or.inl ⟨?hw48, ?hy48⟩) hHeld ?rest48
  case hi48 => rw [List.getElem?_toArray]; rfl
  case hq48 => exact fun _ _ _ h => h
  case hs48 => kernel_rfl
  case hf48 => kernel_rfl
  case hr48 => kernel_rfl
  case hw48 => rfl
  case hy48 => (intro w1 hSw; (try dsimp only at hSw); go_simp; try with_reducible rfl)
  (try simp only [Act.put, List.setIfInBounds_toArray, List.set_cons_zero, List.set_cons_succ])
  refine wpAnyH_take (i := 2) (oi := ?oi49) (v := ?v49) (fuel := 5) ?hi49 ?hs49 ?hf49 ?hr49 ?hq49 (Or.inl ⟨?hw49, ?hy49⟩) hHeld ?rest49
  case hi49 => rw [List.getElem?_toArray]; rfl
  case hq49 => exact fun _ _ _ h => h
  case hs49 => kernel_rfl
  case hf49 => kernel_rfl
  case hr49 => kernel_rfl
  case hw49 => rfl
  case hy49 => (intro w1 hSw; (try dsimp only at hSw); go_simp; try with_reducible rfl)
  (try simp only [Act.put, List.setIfInBounds_toArray, List.set_cons_zero, List.set_cons_succ])
  refine wpAnyH_ready (fuel := 4) (rs := [1]) (by kernel_rfl) (by simp) ?_
  refine AllReadyH.cons (o := ?oi50) ?hi50 (fun K hK => ?st50) AllReadyH.nil
  case hi50 => rw [List.getElem?_toArray]; rfl
  go_simp
  refine (tA.out _).mono ?_
  rintro ee wr1 ⟨rfl, hbn⟩
  replace hA := hid (hA.out.below hbn)
  replace hB := hid (hB.out.below hbn)
  replace hQ := hid (hQ.out.below hbn)
  replace hR := hid (hR.out.below hbn)
  replace hbel := hid (hbel.out.trans (hbn.mono hbel.out.size))
  clear hbn
  go_wp2_with fail
  refine hK.out _ _ ?hS50 (fun hHeld => ?re50)
  case hS50 => exact ⟨(RBox.box hA.out).c0, (RBox.box hA.out).c1, (RBox.box hA.out).c2, (RBox.box hA.out).c3, (RBox.box hB.out).c0, (RBox.box hB.out).c1, (RBox.box hB.out).c2, (RBox.box hB.out).c3⟩
  clear hK K
  (try simp only [Act.put, List.setIfInBounds_toArray, List.set_cons_zero, List.set_cons_succ])
  refine wpAnyH_ready (fuel := 3) (rs := [3]) (by kernel_rfl) (by simp) ?_
  refine AllReadyH.cons (o := ?oi51) ?hi51 (fun K hK => ?st51) AllReadyH.nil
  case hi51 => rw [List.getElem?_toArray]; rfl
  go_simp
  refine (tB.out _).mono ?_
  rintro ee wr3 ⟨rfl, hbn⟩
  replace hA := hid (hA.out.below hbn)
  replace hB := hid (hB.out.below hbn)
  replace hQ := hid (hQ.out.below hbn)
  replace hR := hid (hR.out.below hbn)
  replace hbel := hid (hbel.out.trans (hbn.mono hbel.out.size))
  clear hbn
  go_wp2_with fail
  refine hK.out _ _ ?hS51 (fun hHeld => ?re51)
  case hS51 => exact ⟨(RBox.box hA.out).c0, (RBox.box hA.out).c1, (RBox.box hA.out).c2, (RBox.box hA.out).c3, (RBox.box hB.out).c0, (RBox.box hB.out).c1, (RBox.box hB.out).c2, (RBox.box hB.out).c3⟩
  clear hK K
  (try simp only [Act.put, List.setIfInBounds_toArray, List.set_cons_zero, List.set_cons_succ])
  refine wpAnyH_ready (fuel := 2) (rs := [4]) (by kernel_rfl) (by simp) ?_
  refine AllReadyH.cons (o := ?oi52) ?hi52 (fun K hK => ?st52) AllReadyH.nil
  case hi52 => rw [List.getElem?_toArray]; rfl
  obtain ⟨g0, g1, g2, g3⟩ := RBox.box hQ.out
  have fq := RBox.frozen hQ.out
  go_simp
  clear g0 g1 g2 g3 fq
  replace hA := hid (hA.out.st4o (k := w.heap.size + 2) (by first | omega | (have := RBox.lt hA.out; omega)) (x) (y) (z) (u))
  replace hB := hid (hB.out.st4o (k := w.heap.size + 2) (by first | omega | (have := RBox.lt hB.out; omega)) (x) (y) (z) (u))
  replace hR := hid (hR.out.st4o (k := w.heap.size + 2) (by first | omega | (have := RBox.lt hR.out; omega)) (x) (y) (z) (u))
  replace hQ := hid (hQ.out.st4 (x' := x) (y' := y) (z' := z) (u' := u))
  replace hbel := hid (st4_below (w.heap.size + 2) (x) (y) (z) (u) hbel.out (by omega))
  unfold Go.Proofs.Ytcopcajleonndaa.st4 at hbel hA hB hQ hR
  generalize ((((wr3.setCell ⟨w.heap.size + 2, 0, none⟩ (.int .i64 (x))).setCell ⟨w.heap.size + 2, 1, none⟩ (.int .i64 (y))).setCell ⟨w.heap.size + 2, 2, none⟩ (.int .i64 (z))).setCell ⟨w.heap.size + 2, 3, none⟩ (.int .i64 (u))) = ws4 at *
  refine hK.out _ _ ?hS52 (fun hHeld => ?re52)
  case hS52 => exact ⟨(RBox.box hA.out).c0, (RBox.box hA.out).c1, (RBox.box hA.out).c2, (RBox.box hA.out).c3, (RBox.box hB.out).c0, (RBox.box hB.out).c1, (RBox.box hB.out).c2, (RBox.box hB.out).c3⟩
  clear hK K
  (try simp only [Act.put, List.setIfInBounds_toArray, List.set_cons_zero, List.set_cons_succ])
  refine wpAnyH_ready (fuel := 1) (rs := [5]) (by kernel_rfl) (by simp) ?_
  refine AllReadyH.cons (o := ?oi53) ?hi53 (fun K hK => ?st53) AllReadyH.nil
  case hi53 => rw [List.getElem?_toArray]; rfl
  obtain ⟨g0, g1, g2, g3⟩ := RBox.box hR.out
  have fq := RBox.frozen hR.out
  go_simp
  clear g0 g1 g2 g3 fq
  replace hA := hid (hA.out.st4o (k := w.heap.size + 3) (by first | omega | (have := RBox.lt hA.out; omega)) (x') (y') (z') (u'))
  replace hB := hid (hB.out.st4o (k := w.heap.size + 3) (by first | omega | (have := RBox.lt hB.out; omega)) (x') (y') (z') (u'))
  replace hQ := hid (hQ.out.st4o (k := w.heap.size + 3) (by first | omega | (have := RBox.lt hQ.out; omega)) (x') (y') (z') (u'))
  replace hR := hid (hR.out.st4 (x' := x') (y' := y') (z' := z') (u' := u'))
  replace hbel := hid (st4_below (w.heap.size + 3) (x') (y') (z') (u') hbel.out (by omega))
  unfold Go.Proofs.Ytcopcajleonndaa.st4 at hbel hA hB hQ hR
  generalize ((((ws4.setCell ⟨w.heap.size + 3, 0, none⟩ (.int .i64 (x'))).setCell ⟨w.heap.size + 3, 1, none⟩ (.int .i64 (y'))).setCell ⟨w.heap.size + 3, 2, none⟩ (.int .i64 (z'))).setCell ⟨w.heap.size + 3, 3, none⟩ (.int .i64 (u'))) = ws5 at *
  refine hK.out _ _ ?hS53 (fun hHeld => ?re53)
  case hS53 => exact ⟨(RBox.box hA.out).c0, (RBox.box hA.out).c1, (RBox.box hA.out).c2, (RBox.box hA.out).c3, (RBox.box hB.out).c0, (RBox.box hB.out).c1, (RBox.box hB.out).c2, (RBox.box hB.out).c3⟩
  clear hK K
  (try simp only [Act.put, List.setIfInBounds_toArray, List.set_cons_zero, List.set_cons_succ])
  refine wpAnyH_take (i := 6) (oi := ?oi54) (v := ?v54) (fuel := 0) ?hi54 ?hs54 ?hf54 ?hr54 ?hq54 (Or.inl ⟨?hw54, ?hy54⟩) hHeld ?rest54
  case hi54 => rw [List.getElem?_toArray]; rfl
  case hq54 => exact fun _ _ _ h => h
  case hs54 => kernel_rfl
  case hf54 => kernel_rfl
  case hr54 => kernel_rfl
  case hw54 => rfl
  case hy54 => (intro w1 hSw; (try dsimp only at hSw); go_simp; try with_reducible rfl)
  (try simp only [Act.put, List.setIfInBounds_toArray, List.set_cons_zero, List.set_cons_succ])
  refine wpAnyH_done (by kernel_rfl) ?_ _
  clear hHeld
  generalize ws5 = w3 at *
  have bA3 := hA
  have bB3 := hB
  have bQ3 := hQ
  have bR3 := hR
  have bel3 := hbel
  clear hbel hA hB hQ hR
  go_wp2_with fail
  obtain ⟨p0, p1, p2, p3⟩ := RBox.box bQ3.out
  obtain ⟨q0, q1, q2, q3⟩ := RBox.box bR3.out
  refine bodyPost_ret (v := .tuple #[rv x y z u, rv x' y' z' u', .bool true]) (by simp [results, Try.results60, go_sem, p0, p1, p2, p3, q0, q1, q2, q3]) rfl ⟨rfl, bel3.out⟩

end Go.Proofs.Ytcopcajleonndaa
