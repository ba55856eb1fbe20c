/- Contracts for branches: the specification's parts. -/
import Derived.Test.YtcopcajleonndaaQBD
namespace Go.Proofs.Ytcopcajleonndaa
open Go.RowKit
set_option linter.unusedVariables false
set_option linter.unusedSimpArgs false

theorem oneA (w : World) (a b c d : Int) : RBox ((w.alloc (cellsR4 a b c d)).alloc (cellsR4 0 0 0 0)) w.heap.size a b c d := (RBox.new w a b c d).alloc _
theorem oneQ (w : World) (a b c d : Int) : RBox ((w.alloc (cellsR4 a b c d)).alloc (cellsR4 0 0 0 0)) (w.heap.size + 1) 0 0 0 0 := newQ w a b c d
theorem oneW (w : World) (a b c d : Int) : Below w.heap.size w ((w.alloc (cellsR4 a b c d)).alloc (cellsR4 0 0 0 0)) := newB w _ _

set_option maxRecDepth 100000 in
set_option maxHeartbeats 2000000 in
theorem w_But_1_gt (a b c d n : Int) (w : World) (n0 : 0 ≤ n) (n1 : n ≤ 4294967295) (h1 : (a == n) = true) (h2 : (b == n) = true) (h3 : (n - 1) < (n + 1)) :
    Calls Try.prog 74 #[rv a b c d, .int .i64 n] w fun ee w' => ee = .returned (.tuple #[rv 1 0 0 0, .bool false]) ∧ Below w.heap.size w w' := by
  have bA0 : Hid (RBox ((w.alloc (cellsR4 (n + 1) (n - 1) c d)).alloc (cellsR4 0 0 0 0)) w.heap.size (n + 1) (n - 1) c d) := oneA w (n + 1) (n - 1) c d
  have bQ0 : Hid (RBox ((w.alloc (cellsR4 (n + 1) (n - 1) c d)).alloc (cellsR4 0 0 0 0)) (w.heap.size + 1) 0 0 0 0) := oneQ w (n + 1) (n - 1) c d
  have bel0 : Hid (Below w.heap.size w ((w.alloc (cellsR4 (n + 1) (n - 1) c d)).alloc (cellsR4 0 0 0 0))) := oneW w (n + 1) (n - 1) c d
  go_enter Try.func74, Try.ntmps74
  have P5 : Hid (RBox ((w.alloc (cellsR4 (n + 1) (n - 1) c d)).alloc (cellsR4 1 0 0 0)) (w.heap.size + 1) 1 0 0 0) := by have h0 := RBox.new (w.alloc (cellsR4 (n + 1) (n - 1) c d)) 1 0 0 0; simp only [World.size_alloc] at h0; exact h0
  have B5 := hid (newB w (cellsR4 (n + 1) (n - 1) c d) (cellsR4 1 0 0 0))
  go_wp2_with fail
  obtain ⟨p0, p1, p2, p3⟩ := RBox.box P5.out
  refine bodyPost_ret (v := .tuple #[rv 1 0 0 0, .bool false]) (by simp [results, Try.results74, go_sem, p0, p1, p2, p3]) rfl ⟨rfl, B5.out⟩

set_option maxRecDepth 100000 in
set_option maxHeartbeats 2000000 in
theorem w_But_2_none (a b c d n : Int) (w : World) (n0 : 0 ≤ n) (n1 : n ≤ 4294967295) (h1 : (a == n) = true) (h2 : (b == n) = false) (h3 : (n + 1) ≤ b) (tS : Hid (∀ w, Calls Try.prog 73 #[rv (n + 1) b c d] w fun ee w' => ee = .returned (.bool false) ∧ Below w.heap.size w w')) :
    Calls Try.prog 74 #[rv a b c d, .int .i64 n] w fun ee w' => ee = .returned (.tuple #[rv 1 0 0 0, .bool false]) ∧ Below w.heap.size w w' := by
  have bA0 : Hid (RBox ((w.alloc (cellsR4 (n + 1) b c d)).alloc (cellsR4 0 0 0 0)) w.heap.size (n + 1) b c d) := oneA w (n + 1) b c d
  have bQ0 : Hid (RBox ((w.alloc (cellsR4 (n + 1) b c d)).alloc (cellsR4 0 0 0 0)) (w.heap.size + 1) 0 0 0 0) := oneQ w (n + 1) b c d
  have bel0 : Hid (Below w.heap.size w ((w.alloc (cellsR4 (n + 1) b c d)).alloc (cellsR4 0 0 0 0))) := oneW w (n + 1) b c d
  go_enter Try.func74, Try.ntmps74
  go_wp2_with fail
  refine (tS.out _).mono ?_
  rintro ee w1 ⟨rfl, hb1⟩
  have bA1 := hid (bA0.out.below hb1)
  have bQ1 := hid (bQ0.out.below hb1)
  have bel1 := hid (bel0.out.trans (hb1.mono bel0.out.size))
  clear hb1 bA0 bQ0 bel0
  obtain ⟨cQ0, cQ1, cQ2, cQ3⟩ := RBox.box bQ1.out
  have frQ := RBox.frozen bQ1.out
  go_wp2_with fail
  have bA2 := hid (bA1.out.st4o (k := w.heap.size + 1) (by first | omega | (have := RBox.lt bA1.out; omega)) (1) (0) (0) (0))
  have bQ2 := hid (bQ1.out.st4 (x' := 1) (y' := 0) (z' := 0) (u' := 0))
  have bel2 := hid (st4_below (w.heap.size + 1) (1) (0) (0) (0) bel1.out (by omega))
  clear bA1 bQ1 bel1
  unfold Go.Proofs.Ytcopcajleonndaa.st4 at bel2 bA2 bQ2
  generalize ((((w1.setCell ⟨w.heap.size + 1, 0, none⟩ (.int .i64 (1))).setCell ⟨w.heap.size + 1, 1, none⟩ (.int .i64 (0))).setCell ⟨w.heap.size + 1, 2, none⟩ (.int .i64 (0))).setCell ⟨w.heap.size + 1, 3, none⟩ (.int .i64 (0))) = w2 at *
  clear cQ0 cQ1 cQ2 cQ3
  clear frQ
  obtain ⟨p0, p1, p2, p3⟩ := RBox.box bQ2.out
  refine bodyPost_ret (v := .tuple #[rv 1 0 0 0, .bool false]) (by simp [results, Try.results74, go_sem, p0, p1, p2, p3]) rfl ⟨rfl, bel2.out⟩

set_option maxRecDepth 100000 in
set_option maxHeartbeats 2000000 in
theorem w_But_2_yes (a b c d n : Int) (x y z u : Int) (w : World) (n0 : 0 ≤ n) (n1 : n ≤ 4294967295) (h1 : (a == n) = true) (h2 : (b == n) = false) (h3 : (n + 1) ≤ b) (tS : Hid (∀ w, Calls Try.prog 73 #[rv (n + 1) b c d] w fun ee w' => ee = .returned (.bool true) ∧ Below w.heap.size w w')) (tT : Hid (∀ w, Calls Try.prog 47 #[rv (n + 1) b c d] w fun ee w' => ee = .returned (rv x y z u) ∧ Below w.heap.size w w')) :
    Calls Try.prog 74 #[rv a b c d, .int .i64 n] w fun ee w' => ee = .returned (.tuple #[rv x y z u, .bool true]) ∧ Below w.heap.size w w' := by
  have bA0 : Hid (RBox ((w.alloc (cellsR4 (n + 1) b c d)).alloc (cellsR4 0 0 0 0)) w.heap.size (n + 1) b c d) := oneA w (n + 1) b c d
  have bQ0 : Hid (RBox ((w.alloc (cellsR4 (n + 1) b c d)).alloc (cellsR4 0 0 0 0)) (w.heap.size + 1) 0 0 0 0) := oneQ w (n + 1) b c d
  have bel0 : Hid (Below w.heap.size w ((w.alloc (cellsR4 (n + 1) b c d)).alloc (cellsR4 0 0 0 0))) := oneW w (n + 1) b c d
  go_enter Try.func74, Try.ntmps74
  go_wp2_with fail
  refine (tS.out _).mono ?_
  rintro ee w1 ⟨rfl, hb1⟩
  have bA1 := hid (bA0.out.below hb1)
  have bQ1 := hid (bQ0.out.below hb1)
  have bel1 := hid (bel0.out.trans (hb1.mono bel0.out.size))
  clear hb1 bA0 bQ0 bel0
  obtain ⟨cA0, cA1, cA2, cA3⟩ := RBox.box bA1.out
  go_wp2_with fail
  refine (tT.out _).mono ?_
  rintro ee w2 ⟨rfl, hb2⟩
  have bA2 := hid (bA1.out.below hb2)
  have bQ2 := hid (bQ1.out.below hb2)
  have bel2 := hid (bel1.out.trans (hb2.mono bel1.out.size))
  clear hb2 bA1 bQ1 bel1
  clear cA0 cA1 cA2 cA3
  obtain ⟨cQ0, cQ1, cQ2, cQ3⟩ := RBox.box bQ2.out
  have frQ := RBox.frozen bQ2.out
  go_wp2_with fail
  have bA3 := hid (bA2.out.st4o (k := w.heap.size + 1) (by first | omega | (have := RBox.lt bA2.out; omega)) (x) (y) (z) (u))
  have bQ3 := hid (bQ2.out.st4 (x' := x) (y' := y) (z' := z) (u' := u))
  have bel3 := hid (st4_below (w.heap.size + 1) (x) (y) (z) (u) bel2.out (by omega))
  clear bA2 bQ2 bel2
  unfold Go.Proofs.Ytcopcajleonndaa.st4 at bel3 bA3 bQ3
  generalize ((((w2.setCell ⟨w.heap.size + 1, 0, none⟩ (.int .i64 (x))).setCell ⟨w.heap.size + 1, 1, none⟩ (.int .i64 (y))).setCell ⟨w.heap.size + 1, 2, none⟩ (.int .i64 (z))).setCell ⟨w.heap.size + 1, 3, none⟩ (.int .i64 (u))) = w3 at *
  clear cQ0 cQ1 cQ2 cQ3
  clear frQ
  obtain ⟨p0, p1, p2, p3⟩ := RBox.box bQ3.out
  refine bodyPost_ret (v := .tuple #[rv x y z u, .bool true]) (by simp [results, Try.results74, go_sem, p0, p1, p2, p3]) rfl ⟨rfl, bel3.out⟩

set_option maxRecDepth 100000 in
set_option maxHeartbeats 2000000 in
theorem w_But_3_none (a b c d n : Int) (w : World) (n0 : 0 ≤ n) (n1 : n ≤ 4294967295) (h1 : (a == n) = false) (h2 : (b == n) = true) (h3 : a ≤ (n - 1)) (tS : Hid (∀ w, Calls Try.prog 73 #[rv a (n - 1) c d] w fun ee w' => ee = .returned (.bool false) ∧ Below w.heap.size w w')) :
    Calls Try.prog 74 #[rv a b c d, .int .i64 n] w fun ee w' => ee = .returned (.tuple #[rv 1 0 0 0, .bool false]) ∧ Below w.heap.size w w' := by
  have bA0 : Hid (RBox ((w.alloc (cellsR4 a (n - 1) c d)).alloc (cellsR4 0 0 0 0)) w.heap.size a (n - 1) c d) := oneA w a (n - 1) c d
  have bQ0 : Hid (RBox ((w.alloc (cellsR4 a (n - 1) c d)).alloc (cellsR4 0 0 0 0)) (w.heap.size + 1) 0 0 0 0) := oneQ w a (n - 1) c d
  have bel0 : Hid (Below w.heap.size w ((w.alloc (cellsR4 a (n - 1) c d)).alloc (cellsR4 0 0 0 0))) := oneW w a (n - 1) c d
  go_enter Try.func74, Try.ntmps74
  go_wp2_with fail
  refine (tS.out _).mono ?_
  rintro ee w1 ⟨rfl, hb1⟩
  have bA1 := hid (bA0.out.below hb1)
  have bQ1 := hid (bQ0.out.below hb1)
  have bel1 := hid (bel0.out.trans (hb1.mono bel0.out.size))
  clear hb1 bA0 bQ0 bel0
  obtain ⟨cQ0, cQ1, cQ2, cQ3⟩ := RBox.box bQ1.out
  have frQ := RBox.frozen bQ1.out
  go_wp2_with fail
  have bA2 := hid (bA1.out.st4o (k := w.heap.size + 1) (by first | omega | (have := RBox.lt bA1.out; omega)) (1) (0) (0) (0))
  have bQ2 := hid (bQ1.out.st4 (x' := 1) (y' := 0) (z' := 0) (u' := 0))
  have bel2 := hid (st4_below (w.heap.size + 1) (1) (0) (0) (0) bel1.out (by omega))
  clear bA1 bQ1 bel1
  unfold Go.Proofs.Ytcopcajleonndaa.st4 at bel2 bA2 bQ2
  generalize ((((w1.setCell ⟨w.heap.size + 1, 0, none⟩ (.int .i64 (1))).setCell ⟨w.heap.size + 1, 1, none⟩ (.int .i64 (0))).setCell ⟨w.heap.size + 1, 2, none⟩ (.int .i64 (0))).setCell ⟨w.heap.size + 1, 3, none⟩ (.int .i64 (0))) = w2 at *
  clear cQ0 cQ1 cQ2 cQ3
  clear frQ
  obtain ⟨p0, p1, p2, p3⟩ := RBox.box bQ2.out
  refine bodyPost_ret (v := .tuple #[rv 1 0 0 0, .bool false]) (by simp [results, Try.results74, go_sem, p0, p1, p2, p3]) rfl ⟨rfl, bel2.out⟩

set_option maxRecDepth 100000 in
set_option maxHeartbeats 2000000 in
theorem w_But_3_yes (a b c d n : Int) (x y z u : Int) (w : World) (n0 : 0 ≤ n) (n1 : n ≤ 4294967295) (h1 : (a == n) = false) (h2 : (b == n) = true) (h3 : a ≤ (n - 1)) (tS : Hid (∀ w, Calls Try.prog 73 #[rv a (n - 1) c d] w fun ee w' => ee = .returned (.bool true) ∧ Below w.heap.size w w')) (tT : Hid (∀ w, Calls Try.prog 47 #[rv a (n - 1) c d] w fun ee w' => ee = .returned (rv x y z u) ∧ Below w.heap.size w w')) :
    Calls Try.prog 74 #[rv a b c d, .int .i64 n] w fun ee w' => ee = .returned (.tuple #[rv x y z u, .bool true]) ∧ Below w.heap.size w w' := by
  have bA0 : Hid (RBox ((w.alloc (cellsR4 a (n - 1) c d)).alloc (cellsR4 0 0 0 0)) w.heap.size a (n - 1) c d) := oneA w a (n - 1) c d
  have bQ0 : Hid (RBox ((w.alloc (cellsR4 a (n - 1) c d)).alloc (cellsR4 0 0 0 0)) (w.heap.size + 1) 0 0 0 0) := oneQ w a (n - 1) c d
  have bel0 : Hid (Below w.heap.size w ((w.alloc (cellsR4 a (n - 1) c d)).alloc (cellsR4 0 0 0 0))) := oneW w a (n - 1) c d
  go_enter Try.func74, Try.ntmps74
  go_wp2_with fail
  refine (tS.out _).mono ?_
  rintro ee w1 ⟨rfl, hb1⟩
  have bA1 := hid (bA0.out.below hb1)
  have bQ1 := hid (bQ0.out.below hb1)
  have bel1 := hid (bel0.out.trans (hb1.mono bel0.out.size))
  clear hb1 bA0 bQ0 bel0
  obtain ⟨cA0, cA1, cA2, cA3⟩ := RBox.box bA1.out
  go_wp2_with fail
  refine (tT.out _).mono ?_
  rintro ee w2 ⟨rfl, hb2⟩
  have bA2 := hid (bA1.out.below hb2)
  have bQ2 := hid (bQ1.out.below hb2)
  have bel2 := hid (bel1.out.trans (hb2.mono bel1.out.size))
  clear hb2 bA1 bQ1 bel1
  clear cA0 cA1 cA2 cA3
  obtain ⟨cQ0, cQ1, cQ2, cQ3⟩ := RBox.box bQ2.out
  have frQ := RBox.frozen bQ2.out
  go_wp2_with fail
  have bA3 := hid (bA2.out.st4o (k := w.heap.size + 1) (by first | omega | (have := RBox.lt bA2.out; omega)) (x) (y) (z) (u))
  have bQ3 := hid (bQ2.out.st4 (x' := x) (y' := y) (z' := z) (u' := u))
  have bel3 := hid (st4_below (w.heap.size + 1) (x) (y) (z) (u) bel2.out (by omega))
  clear bA2 bQ2 bel2
  unfold Go.Proofs.Ytcopcajleonndaa.st4 at bel3 bA3 bQ3
  generalize ((((w2.setCell ⟨w.heap.size + 1, 0, none⟩ (.int .i64 (x))).setCell ⟨w.heap.size + 1, 1, none⟩ (.int .i64 (y))).setCell ⟨w.heap.size + 1, 2, none⟩ (.int .i64 (z))).setCell ⟨w.heap.size + 1, 3, none⟩ (.int .i64 (u))) = w3 at *
  clear cQ0 cQ1 cQ2 cQ3
  clear frQ
  obtain ⟨p0, p1, p2, p3⟩ := RBox.box bQ3.out
  refine bodyPost_ret (v := .tuple #[rv x y z u, .bool true]) (by simp [results, Try.results74, go_sem, p0, p1, p2, p3]) rfl ⟨rfl, bel3.out⟩

set_option maxRecDepth 100000 in
set_option maxHeartbeats 2000000 in
theorem w_But_4_none (a b c d n : Int) (w : World) (n0 : 0 ≤ n) (n1 : n ≤ 4294967295) (h1 : (a == n) = false) (h2 : (b == n) = false) (h3 : a ≤ b) (tS : Hid (∀ w, Calls Try.prog 73 #[rv a b c d] w fun ee w' => ee = .returned (.bool false) ∧ Below w.heap.size w w')) :
    Calls Try.prog 74 #[rv a b c d, .int .i64 n] w fun ee w' => ee = .returned (.tuple #[rv 1 0 0 0, .bool false]) ∧ Below w.heap.size w w' := by
  have bA0 : Hid (RBox ((w.alloc (cellsR4 a b c d)).alloc (cellsR4 0 0 0 0)) w.heap.size a b c d) := oneA w a b c d
  have bQ0 : Hid (RBox ((w.alloc (cellsR4 a b c d)).alloc (cellsR4 0 0 0 0)) (w.heap.size + 1) 0 0 0 0) := oneQ w a b c d
  have bel0 : Hid (Below w.heap.size w ((w.alloc (cellsR4 a b c d)).alloc (cellsR4 0 0 0 0))) := oneW w a b c d
  go_enter Try.func74, Try.ntmps74
  go_wp2_with fail
  refine (tS.out _).mono ?_
  rintro ee w1 ⟨rfl, hb1⟩
  have bA1 := hid (bA0.out.below hb1)
  have bQ1 := hid (bQ0.out.below hb1)
  have bel1 := hid (bel0.out.trans (hb1.mono bel0.out.size))
  clear hb1 bA0 bQ0 bel0
  obtain ⟨cQ0, cQ1, cQ2, cQ3⟩ := RBox.box bQ1.out
  have frQ := RBox.frozen bQ1.out
  go_wp2_with fail
  have bA2 := hid (bA1.out.st4o (k := w.heap.size + 1) (by first | omega | (have := RBox.lt bA1.out; omega)) (1) (0) (0) (0))
  have bQ2 := hid (bQ1.out.st4 (x' := 1) (y' := 0) (z' := 0) (u' := 0))
  have bel2 := hid (st4_below (w.heap.size + 1) (1) (0) (0) (0) bel1.out (by omega))
  clear bA1 bQ1 bel1
  unfold Go.Proofs.Ytcopcajleonndaa.st4 at bel2 bA2 bQ2
  generalize ((((w1.setCell ⟨w.heap.size + 1, 0, none⟩ (.int .i64 (1))).setCell ⟨w.heap.size + 1, 1, none⟩ (.int .i64 (0))).setCell ⟨w.heap.size + 1, 2, none⟩ (.int .i64 (0))).setCell ⟨w.heap.size + 1, 3, none⟩ (.int .i64 (0))) = w2 at *
  clear cQ0 cQ1 cQ2 cQ3
  clear frQ
  obtain ⟨p0, p1, p2, p3⟩ := RBox.box bQ2.out
  refine bodyPost_ret (v := .tuple #[rv 1 0 0 0, .bool false]) (by simp [results, Try.results74, go_sem, p0, p1, p2, p3]) rfl ⟨rfl, bel2.out⟩

set_option maxRecDepth 100000 in
set_option maxHeartbeats 2000000 in
theorem w_But_4_yes (a b c d n : Int) (x y z u : Int) (w : World) (n0 : 0 ≤ n) (n1 : n ≤ 4294967295) (h1 : (a == n) = false) (h2 : (b == n) = false) (h3 : a ≤ b) (tS : Hid (∀ w, Calls Try.prog 73 #[rv a b c d] w fun ee w' => ee = .returned (.bool true) ∧ Below w.heap.size w w')) (tT : Hid (∀ w, Calls Try.prog 47 #[rv a b c d] w fun ee w' => ee = .returned (rv x y z u) ∧ Below w.heap.size w w')) :
    Calls Try.prog 74 #[rv a b c d, .int .i64 n] w fun ee w' => ee = .returned (.tuple #[rv x y z u, .bool true]) ∧ Below w.heap.size w w' := by
  have bA0 : Hid (RBox ((w.alloc (cellsR4 a b c d)).alloc (cellsR4 0 0 0 0)) w.heap.size a b c d) := oneA w a b c d
  have bQ0 : Hid (RBox ((w.alloc (cellsR4 a b c d)).alloc (cellsR4 0 0 0 0)) (w.heap.size + 1) 0 0 0 0) := oneQ w a b c d
  have bel0 : Hid (Below w.heap.size w ((w.alloc (cellsR4 a b c d)).alloc (cellsR4 0 0 0 0))) := oneW w a b c d
  go_enter Try.func74, Try.ntmps74
  go_wp2_with fail
  refine (tS.out _).mono ?_
  rintro ee w1 ⟨rfl, hb1⟩
  have bA1 := hid (bA0.out.below hb1)
  have bQ1 := hid (bQ0.out.below hb1)
  have bel1 := hid (bel0.out.trans (hb1.mono bel0.out.size))
  clear hb1 bA0 bQ0 bel0
  obtain ⟨cA0, cA1, cA2, cA3⟩ := RBox.box bA1.out
  go_wp2_with fail
  refine (tT.out _).mono ?_
  rintro ee w2 ⟨rfl, hb2⟩
  have bA2 := hid (bA1.out.below hb2)
  have bQ2 := hid (bQ1.out.below hb2)
  have bel2 := hid (bel1.out.trans (hb2.mono bel1.out.size))
  clear hb2 bA1 bQ1 bel1
  clear cA0 cA1 cA2 cA3
  obtain ⟨cQ0, cQ1, cQ2, cQ3⟩ := RBox.box bQ2.out
  have frQ := RBox.frozen bQ2.out
  go_wp2_with fail
  have bA3 := hid (bA2.out.st4o (k := w.heap.size + 1) (by first | omega | (have := RBox.lt bA2.out; omega)) (x) (y) (z) (u))
  have bQ3 := hid (bQ2.out.st4 (x' := x) (y' := y) (z' := z) (u' := u))
  have bel3 := hid (st4_below (w.heap.size + 1) (x) (y) (z) (u) bel2.out (by omega))
  clear bA2 bQ2 bel2
  unfold Go.Proofs.Ytcopcajleonndaa.st4 at bel3 bA3 bQ3
  generalize ((((w2.setCell ⟨w.heap.size + 1, 0, none⟩ (.int .i64 (x))).setCell ⟨w.heap.size + 1, 1, none⟩ (.int .i64 (y))).setCell ⟨w.heap.size + 1, 2, none⟩ (.int .i64 (z))).setCell ⟨w.heap.size + 1, 3, none⟩ (.int .i64 (u))) = w3 at *
  clear cQ0 cQ1 cQ2 cQ3
  clear frQ
  obtain ⟨p0, p1, p2, p3⟩ := RBox.box bQ3.out
  refine bodyPost_ret (v := .tuple #[rv x y z u, .bool true]) (by simp [results, Try.results74, go_sem, p0, p1, p2, p3]) rfl ⟨rfl, bel3.out⟩

set_option maxRecDepth 100000 in
set_option maxHeartbeats 2000000 in
theorem w_Apart (a b c d e f g h x y z u : Int) (q : Bool) (w : World) (h1 : (e == f) = true) (tB : Hid (∀ w, Calls Try.prog 74 #[rv a b c d, .int .i64 e] w fun ee w' => ee = .returned (.tuple #[rv x y z u, .bool q]) ∧ Below w.heap.size w w')) :
    Calls Try.prog 59 #[rv a b c d, rv e f g h] w fun ee w' => ee = .returned (.tuple #[rv x y z u, .bool q]) ∧ Below w.heap.size w w' := by
  have bA0 : Hid (RBox (((w.alloc (cellsR4 a b c d)).alloc (cellsR4 e f g h)).alloc (cellsR4 0 0 0 0)) w.heap.size a b c d) := twoA w a b c d e f g h
  have bB0 : Hid (RBox (((w.alloc (cellsR4 a b c d)).alloc (cellsR4 e f g h)).alloc (cellsR4 0 0 0 0)) (w.heap.size + 1) e f g h) := twoB w a b c d e f g h
  have bQ0 : Hid (RBox (((w.alloc (cellsR4 a b c d)).alloc (cellsR4 e f g h)).alloc (cellsR4 0 0 0 0)) (w.heap.size + 2) 0 0 0 0) := twoQ w a b c d e f g h
  have bel0 : Hid (Below w.heap.size w (((w.alloc (cellsR4 a b c d)).alloc (cellsR4 e f g h)).alloc (cellsR4 0 0 0 0))) := twoW w a b c d e f g h
  go_enter Try.func59, Try.ntmps59
  go_wp2_with fail
  refine (tB.out _).mono ?_
  rintro ee w1 ⟨rfl, hb1⟩
  have bA1 := hid (bA0.out.below hb1)
  have bB1 := hid (bB0.out.below hb1)
  have bQ1 := hid (bQ0.out.below hb1)
  have bel1 := hid (bel0.out.trans (hb1.mono bel0.out.size))
  clear hb1 bA0 bB0 bQ0 bel0
  obtain ⟨cQ0, cQ1, cQ2, cQ3⟩ := RBox.box bQ1.out
  have frQ := RBox.frozen bQ1.out
  go_wp2_with fail
  have bA2 := hid (bA1.out.st4o (k := w.heap.size + 2) (by first | omega | (have := RBox.lt bA1.out; omega)) (x) (y) (z) (u))
  have bB2 := hid (bB1.out.st4o (k := w.heap.size + 2) (by first | omega | (have := RBox.lt bB1.out; omega)) (x) (y) (z) (u))
  have bQ2 := hid (bQ1.out.st4 (x' := x) (y' := y) (z' := z) (u' := u))
  have bel2 := hid (st4_below (w.heap.size + 2) (x) (y) (z) (u) bel1.out (by omega))
  clear bA1 bB1 bQ1 bel1
  unfold Go.Proofs.Ytcopcajleonndaa.st4 at bel2 bA2 bB2 bQ2
  generalize ((((w1.setCell ⟨w.heap.size + 2, 0, none⟩ (.int .i64 (x))).setCell ⟨w.heap.size + 2, 1, none⟩ (.int .i64 (y))).setCell ⟨w.heap.size + 2, 2, none⟩ (.int .i64 (z))).setCell ⟨w.heap.size + 2, 3, none⟩ (.int .i64 (u))) = w2 at *
  clear cQ0 cQ1 cQ2 cQ3
  clear frQ
  obtain ⟨p0, p1, p2, p3⟩ := RBox.box bQ2.out
  refine bodyPost_ret (v := .tuple #[rv x y z u, .bool q]) (by simp [results, Try.results59, go_sem, p0, p1, p2, p3]) rfl ⟨rfl, bel2.out⟩

set_option maxRecDepth 100000 in
set_option maxHeartbeats 2000000 in
theorem w_Apart_un (a b c d e f g h : Int) (w : World) (h1 : (e == f) = false) :
    Calls Try.prog 59 #[rv a b c d, rv e f g h] w fun ee w' => ee = .returned (.tuple #[rv a b c d, .bool true]) ∧ Below w.heap.size w w' := by
  have P5 : Hid (RBox (((w.alloc (cellsR4 a b c d)).alloc (cellsR4 e f g h)).alloc (cellsR4 a b c d)) (w.heap.size + 2) a b c d) := by
    have h0 := RBox.new ((w.alloc (cellsR4 a b c d)).alloc (cellsR4 e f g h)) a b c d
    simp only [World.size_alloc] at h0
    exact h0
  have B5 := hid ((newB w (cellsR4 a b c d) (cellsR4 e f g h)).alloc (by simp; omega) (cellsR4 a b c d))
  go_enter Try.func59, Try.ntmps59
  go_wp2_with fail
  obtain ⟨p0, p1, p2, p3⟩ := RBox.box P5.out
  refine bodyPost_ret (v := .tuple #[rv a b c d, .bool true]) (by simp [results, Try.results59, go_sem, p0, p1, p2, p3]) rfl ⟨rfl, B5.out⟩

end Go.Proofs.Ytcopcajleonndaa
