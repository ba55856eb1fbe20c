/- Contracts for branches: the program's parting. -/
import Derived.Test.YtcopcajleonndaaQBB
namespace Go.Proofs.Ytcopcajleonndaa
open Go.RowKit
set_option linter.unusedVariables false
set_option linter.unusedSimpArgs false

set_option maxRecDepth 100000 in
set_option maxHeartbeats 2000000 in
theorem w_part_less (a b c d e f g h : Int) (x y z u x' y' z' u' : Int) (w : World) (tP : Hid (∀ w, Calls Try.prog 64 #[rv a b c d, rv e f g h] w fun ee w' => ee = .returned (.tuple #[rv x y z u, rv x' y' z' u']) ∧ Below w.heap.size w w')) :
    Calls Try.prog 54 #[.int .i64 14, rv a b c d, rv e f g h, .bool true] w fun ee w' => ee = .returned (.tuple #[rv x y z u, rv x' y' z' u']) ∧ Below w.heap.size w w' := by
  have bA0 : Hid (RBox ((((w.alloc (cellsR4 a b c d)).alloc (cellsR4 e f g h)).alloc (cellsR4 0 0 0 0)).alloc (cellsR4 0 0 0 0)) w.heap.size a b c d) := fourA w a b c d e f g h
  have bB0 : Hid (RBox ((((w.alloc (cellsR4 a b c d)).alloc (cellsR4 e f g h)).alloc (cellsR4 0 0 0 0)).alloc (cellsR4 0 0 0 0)) (w.heap.size + 1) e f g h) := fourB w a b c d e f g h
  have bQ0 : Hid (RBox ((((w.alloc (cellsR4 a b c d)).alloc (cellsR4 e f g h)).alloc (cellsR4 0 0 0 0)).alloc (cellsR4 0 0 0 0)) (w.heap.size + 2) 0 0 0 0) := fourQ w a b c d e f g h
  have bR0 : Hid (RBox ((((w.alloc (cellsR4 a b c d)).alloc (cellsR4 e f g h)).alloc (cellsR4 0 0 0 0)).alloc (cellsR4 0 0 0 0)) (w.heap.size + 3) 0 0 0 0) := fourR w a b c d e f g h
  have bel0 : Hid (Below w.heap.size w ((((w.alloc (cellsR4 a b c d)).alloc (cellsR4 e f g h)).alloc (cellsR4 0 0 0 0)).alloc (cellsR4 0 0 0 0))) := fourW w a b c d e f g h
  go_enter Try.func54, Try.ntmps54
  go_wp2_with fail
  refine (tP.out _).mono ?_
  rintro ee w1 ⟨rfl, hb1⟩
  have bA1 := hid (bA0.out.below hb1)
  have bB1 := hid (bB0.out.below hb1)
  have bQ1 := hid (bQ0.out.below hb1)
  have bR1 := hid (bR0.out.below hb1)
  have bel1 := hid (bel0.out.trans (hb1.mono bel0.out.size))
  clear hb1 bA0 bB0 bQ0 bR0 bel0
  obtain ⟨cQ0, cQ1, cQ2, cQ3⟩ := RBox.box bQ1.out
  obtain ⟨cR0, cR1, cR2, cR3⟩ := RBox.box bR1.out
  have frQ := RBox.frozen bQ1.out
  have frR := RBox.frozen bR1.out
  go_wp2_with fail
  have bA2 := hid (bA1.out.st4o (k := w.heap.size + 2) (by first | omega | (have := RBox.lt bA1.out; omega)) (x) (y) (z) (u))
  have bB2 := hid (bB1.out.st4o (k := w.heap.size + 2) (by first | omega | (have := RBox.lt bB1.out; omega)) (x) (y) (z) (u))
  have bQ2 := hid (bQ1.out.st4 (x' := x) (y' := y) (z' := z) (u' := u))
  have bR2 := hid (bR1.out.st4o (k := w.heap.size + 2) (by first | omega | (have := RBox.lt bR1.out; omega)) (x) (y) (z) (u))
  have bel2 := hid (st4_below (w.heap.size + 2) (x) (y) (z) (u) bel1.out (by omega))
  clear bA1 bB1 bQ1 bR1 bel1
  unfold Go.Proofs.Ytcopcajleonndaa.st4 at bel2 bA2 bB2 bQ2 bR2
  generalize ((((w1.setCell ⟨w.heap.size + 2, 0, none⟩ (.int .i64 (x))).setCell ⟨w.heap.size + 2, 1, none⟩ (.int .i64 (y))).setCell ⟨w.heap.size + 2, 2, none⟩ (.int .i64 (z))).setCell ⟨w.heap.size + 2, 3, none⟩ (.int .i64 (u))) = w2 at *
  have bA3 := hid (bA2.out.st4o (k := w.heap.size + 3) (by first | omega | (have := RBox.lt bA2.out; omega)) (x') (y') (z') (u'))
  have bB3 := hid (bB2.out.st4o (k := w.heap.size + 3) (by first | omega | (have := RBox.lt bB2.out; omega)) (x') (y') (z') (u'))
  have bQ3 := hid (bQ2.out.st4o (k := w.heap.size + 3) (by first | omega | (have := RBox.lt bQ2.out; omega)) (x') (y') (z') (u'))
  have bR3 := hid (bR2.out.st4 (x' := x') (y' := y') (z' := z') (u' := u'))
  have bel3 := hid (st4_below (w.heap.size + 3) (x') (y') (z') (u') bel2.out (by omega))
  clear bA2 bB2 bQ2 bR2 bel2
  unfold Go.Proofs.Ytcopcajleonndaa.st4 at bel3 bA3 bB3 bQ3 bR3
  generalize ((((w2.setCell ⟨w.heap.size + 3, 0, none⟩ (.int .i64 (x'))).setCell ⟨w.heap.size + 3, 1, none⟩ (.int .i64 (y'))).setCell ⟨w.heap.size + 3, 2, none⟩ (.int .i64 (z'))).setCell ⟨w.heap.size + 3, 3, none⟩ (.int .i64 (u'))) = w3 at *
  clear cQ0 cQ1 cQ2 cQ3 cR0 cR1 cR2 cR3
  clear frQ frR
  obtain ⟨p0, p1, p2, p3⟩ := RBox.box bQ3.out
  obtain ⟨q0, q1, q2, q3⟩ := RBox.box bR3.out
  refine bodyPost_ret (v := .tuple #[rv x y z u, rv x' y' z' u']) (by simp [results, Try.results54, go_sem, p0, p1, p2, p3, q0, q1, q2, q3]) rfl ⟨rfl, bel3.out⟩

set_option maxRecDepth 100000 in
set_option maxHeartbeats 2000000 in
theorem w_part_notless (a b c d e f g h : Int) (x y z u x' y' z' u' : Int) (w : World) (tP : Hid (∀ w, Calls Try.prog 65 #[rv a b c d, rv e f g h] w fun ee w' => ee = .returned (.tuple #[rv x y z u, rv x' y' z' u']) ∧ Below w.heap.size w w')) :
    Calls Try.prog 54 #[.int .i64 14, rv a b c d, rv e f g h, .bool false] w fun ee w' => ee = .returned (.tuple #[rv x y z u, rv x' y' z' u']) ∧ Below w.heap.size w w' := by
  have bA0 : Hid (RBox ((((w.alloc (cellsR4 a b c d)).alloc (cellsR4 e f g h)).alloc (cellsR4 0 0 0 0)).alloc (cellsR4 0 0 0 0)) w.heap.size a b c d) := fourA w a b c d e f g h
  have bB0 : Hid (RBox ((((w.alloc (cellsR4 a b c d)).alloc (cellsR4 e f g h)).alloc (cellsR4 0 0 0 0)).alloc (cellsR4 0 0 0 0)) (w.heap.size + 1) e f g h) := fourB w a b c d e f g h
  have bQ0 : Hid (RBox ((((w.alloc (cellsR4 a b c d)).alloc (cellsR4 e f g h)).alloc (cellsR4 0 0 0 0)).alloc (cellsR4 0 0 0 0)) (w.heap.size + 2) 0 0 0 0) := fourQ w a b c d e f g h
  have bR0 : Hid (RBox ((((w.alloc (cellsR4 a b c d)).alloc (cellsR4 e f g h)).alloc (cellsR4 0 0 0 0)).alloc (cellsR4 0 0 0 0)) (w.heap.size + 3) 0 0 0 0) := fourR w a b c d e f g h
  have bel0 : Hid (Below w.heap.size w ((((w.alloc (cellsR4 a b c d)).alloc (cellsR4 e f g h)).alloc (cellsR4 0 0 0 0)).alloc (cellsR4 0 0 0 0))) := fourW w a b c d e f g h
  go_enter Try.func54, Try.ntmps54
  go_wp2_with fail
  refine (tP.out _).mono ?_
  rintro ee w1 ⟨rfl, hb1⟩
  have bA1 := hid (bA0.out.below hb1)
  have bB1 := hid (bB0.out.below hb1)
  have bQ1 := hid (bQ0.out.below hb1)
  have bR1 := hid (bR0.out.below hb1)
  have bel1 := hid (bel0.out.trans (hb1.mono bel0.out.size))
  clear hb1 bA0 bB0 bQ0 bR0 bel0
  obtain ⟨cQ0, cQ1, cQ2, cQ3⟩ := RBox.box bQ1.out
  obtain ⟨cR0, cR1, cR2, cR3⟩ := RBox.box bR1.out
  have frQ := RBox.frozen bQ1.out
  have frR := RBox.frozen bR1.out
  go_wp2_with fail
  have bA2 := hid (bA1.out.st4o (k := w.heap.size + 2) (by first | omega | (have := RBox.lt bA1.out; omega)) (x) (y) (z) (u))
  have bB2 := hid (bB1.out.st4o (k := w.heap.size + 2) (by first | omega | (have := RBox.lt bB1.out; omega)) (x) (y) (z) (u))
  have bQ2 := hid (bQ1.out.st4 (x' := x) (y' := y) (z' := z) (u' := u))
  have bR2 := hid (bR1.out.st4o (k := w.heap.size + 2) (by first | omega | (have := RBox.lt bR1.out; omega)) (x) (y) (z) (u))
  have bel2 := hid (st4_below (w.heap.size + 2) (x) (y) (z) (u) bel1.out (by omega))
  clear bA1 bB1 bQ1 bR1 bel1
  unfold Go.Proofs.Ytcopcajleonndaa.st4 at bel2 bA2 bB2 bQ2 bR2
  generalize ((((w1.setCell ⟨w.heap.size + 2, 0, none⟩ (.int .i64 (x))).setCell ⟨w.heap.size + 2, 1, none⟩ (.int .i64 (y))).setCell ⟨w.heap.size + 2, 2, none⟩ (.int .i64 (z))).setCell ⟨w.heap.size + 2, 3, none⟩ (.int .i64 (u))) = w2 at *
  have bA3 := hid (bA2.out.st4o (k := w.heap.size + 3) (by first | omega | (have := RBox.lt bA2.out; omega)) (x') (y') (z') (u'))
  have bB3 := hid (bB2.out.st4o (k := w.heap.size + 3) (by first | omega | (have := RBox.lt bB2.out; omega)) (x') (y') (z') (u'))
  have bQ3 := hid (bQ2.out.st4o (k := w.heap.size + 3) (by first | omega | (have := RBox.lt bQ2.out; omega)) (x') (y') (z') (u'))
  have bR3 := hid (bR2.out.st4 (x' := x') (y' := y') (z' := z') (u' := u'))
  have bel3 := hid (st4_below (w.heap.size + 3) (x') (y') (z') (u') bel2.out (by omega))
  clear bA2 bB2 bQ2 bR2 bel2
  unfold Go.Proofs.Ytcopcajleonndaa.st4 at bel3 bA3 bB3 bQ3 bR3
  generalize ((((w2.setCell ⟨w.heap.size + 3, 0, none⟩ (.int .i64 (x'))).setCell ⟨w.heap.size + 3, 1, none⟩ (.int .i64 (y'))).setCell ⟨w.heap.size + 3, 2, none⟩ (.int .i64 (z'))).setCell ⟨w.heap.size + 3, 3, none⟩ (.int .i64 (u'))) = w3 at *
  clear cQ0 cQ1 cQ2 cQ3 cR0 cR1 cR2 cR3
  clear frQ frR
  obtain ⟨p0, p1, p2, p3⟩ := RBox.box bQ3.out
  obtain ⟨q0, q1, q2, q3⟩ := RBox.box bR3.out
  refine bodyPost_ret (v := .tuple #[rv x y z u, rv x' y' z' u']) (by simp [results, Try.results54, go_sem, p0, p1, p2, p3, q0, q1, q2, q3]) rfl ⟨rfl, bel3.out⟩

set_option maxRecDepth 100000 in
set_option maxHeartbeats 2000000 in
theorem w_part_more (a b c d e f g h : Int) (hl : Bool) (x y z u x' y' z' u' : Int) (w : World) (tP : Hid (∀ w, Calls Try.prog 54 #[.int .i64 14, rv e f g h, rv a b c d, .bool hl] w fun ee w' => ee = .returned (.tuple #[rv x y z u, rv x' y' z' u']) ∧ Below w.heap.size w w')) :
    Calls Try.prog 54 #[.int .i64 15, rv a b c d, rv e f g h, .bool hl] w fun ee w' => ee = .returned (.tuple #[rv x' y' z' u', rv x y z u]) ∧ Below w.heap.size w w' := by
  have bA0 : Hid (RBox ((((w.alloc (cellsR4 a b c d)).alloc (cellsR4 e f g h)).alloc (cellsR4 0 0 0 0)).alloc (cellsR4 0 0 0 0)) w.heap.size a b c d) := fourA w a b c d e f g h
  have bB0 : Hid (RBox ((((w.alloc (cellsR4 a b c d)).alloc (cellsR4 e f g h)).alloc (cellsR4 0 0 0 0)).alloc (cellsR4 0 0 0 0)) (w.heap.size + 1) e f g h) := fourB w a b c d e f g h
  have bQ0 : Hid (RBox ((((w.alloc (cellsR4 a b c d)).alloc (cellsR4 e f g h)).alloc (cellsR4 0 0 0 0)).alloc (cellsR4 0 0 0 0)) (w.heap.size + 2) 0 0 0 0) := fourQ w a b c d e f g h
  have bR0 : Hid (RBox ((((w.alloc (cellsR4 a b c d)).alloc (cellsR4 e f g h)).alloc (cellsR4 0 0 0 0)).alloc (cellsR4 0 0 0 0)) (w.heap.size + 3) 0 0 0 0) := fourR w a b c d e f g h
  have bel0 : Hid (Below w.heap.size w ((((w.alloc (cellsR4 a b c d)).alloc (cellsR4 e f g h)).alloc (cellsR4 0 0 0 0)).alloc (cellsR4 0 0 0 0))) := fourW w a b c d e f g h
  go_enter Try.func54, Try.ntmps54
  go_wp2_with fail
  refine (tP.out _).mono ?_
  rintro ee w1 ⟨rfl, hb1⟩
  have bA1 := hid (bA0.out.below hb1)
  have bB1 := hid (bB0.out.below hb1)
  have bQ1 := hid (bQ0.out.below hb1)
  have bR1 := hid (bR0.out.below hb1)
  have bel1 := hid (bel0.out.trans (hb1.mono bel0.out.size))
  clear hb1 bA0 bB0 bQ0 bR0 bel0
  obtain ⟨cA0, cA1, cA2, cA3⟩ := RBox.box bA1.out
  obtain ⟨cB0, cB1, cB2, cB3⟩ := RBox.box bB1.out
  have frA := RBox.frozen bA1.out
  have frB := RBox.frozen bB1.out
  go_wp2_with fail
  have bA2 := hid (bA1.out.st4o (k := w.heap.size + 1) (by first | omega | (have := RBox.lt bA1.out; omega)) (x) (y) (z) (u))
  have bB2 := hid (bB1.out.st4 (x' := x) (y' := y) (z' := z) (u' := u))
  have bQ2 := hid (bQ1.out.st4o (k := w.heap.size + 1) (by first | omega | (have := RBox.lt bQ1.out; omega)) (x) (y) (z) (u))
  have bR2 := hid (bR1.out.st4o (k := w.heap.size + 1) (by first | omega | (have := RBox.lt bR1.out; omega)) (x) (y) (z) (u))
  have bel2 := hid (st4_below (w.heap.size + 1) (x) (y) (z) (u) bel1.out (by omega))
  clear bA1 bB1 bQ1 bR1 bel1
  unfold Go.Proofs.Ytcopcajleonndaa.st4 at bel2 bA2 bB2 bQ2 bR2
  generalize ((((w1.setCell ⟨w.heap.size + 1, 0, none⟩ (.int .i64 (x))).setCell ⟨w.heap.size + 1, 1, none⟩ (.int .i64 (y))).setCell ⟨w.heap.size + 1, 2, none⟩ (.int .i64 (z))).setCell ⟨w.heap.size + 1, 3, none⟩ (.int .i64 (u))) = w2 at *
  have bA3 := hid (bA2.out.st4 (x' := x') (y' := y') (z' := z') (u' := u'))
  have bB3 := hid (bB2.out.st4o (k := w.heap.size) (by first | omega | (have := RBox.lt bB2.out; omega)) (x') (y') (z') (u'))
  have bQ3 := hid (bQ2.out.st4o (k := w.heap.size) (by first | omega | (have := RBox.lt bQ2.out; omega)) (x') (y') (z') (u'))
  have bR3 := hid (bR2.out.st4o (k := w.heap.size) (by first | omega | (have := RBox.lt bR2.out; omega)) (x') (y') (z') (u'))
  have bel3 := hid (st4_below (w.heap.size) (x') (y') (z') (u') bel2.out (by omega))
  clear bA2 bB2 bQ2 bR2 bel2
  unfold Go.Proofs.Ytcopcajleonndaa.st4 at bel3 bA3 bB3 bQ3 bR3
  generalize ((((w2.setCell ⟨w.heap.size, 0, none⟩ (.int .i64 (x'))).setCell ⟨w.heap.size, 1, none⟩ (.int .i64 (y'))).setCell ⟨w.heap.size, 2, none⟩ (.int .i64 (z'))).setCell ⟨w.heap.size, 3, none⟩ (.int .i64 (u'))) = w3 at *
  clear cA0 cA1 cA2 cA3 cB0 cB1 cB2 cB3
  clear frA frB
  refine wp_region_held_drew (S := (fun w' => w'.cell? ⟨w.heap.size, 0, none⟩ = some (.int .i64 (x')) ∧ w'.cell? ⟨w.heap.size, 1, none⟩ = some (.int .i64 (y')) ∧ w'.cell? ⟨w.heap.size, 2, none⟩ = some (.int .i64 (z')) ∧ w'.cell? ⟨w.heap.size, 3, none⟩ = some (.int .i64 (u')) ∧ w'.cell? ⟨w.heap.size + 1, 0, none⟩ = some (.int .i64 (x)) ∧ w'.cell? ⟨w.heap.size + 1, 1, none⟩ = some (.int .i64 (y)) ∧ w'.cell? ⟨w.heap.size + 1, 2, none⟩ = some (.int .i64 (z)) ∧ w'.cell? ⟨w.heap.size + 1, 3, none⟩ = some (.int .i64 (u)))) (by kernel_rfl) (by exact ⟨(RBox.box bA3.out).c0, (RBox.box bA3.out).c1, (RBox.box bA3.out).c2, (RBox.box bA3.out).c3, (RBox.box bB3.out).c0, (RBox.box bB3.out).c1, (RBox.box bB3.out).c2, (RBox.box bB3.out).c3⟩) (fun hHeld => ?_)
  have hA := hid (RBox.drew bA3.out)
  have hB := hid (RBox.drew bB3.out)
  have hQ := hid (RBox.drew bQ3.out)
  have hR := hid (RBox.drew bR3.out)
  have hbel := hid (Below.drew bel3.out)
  clear bA3 bB3 bQ3 bR3 bel3
  generalize w3.drew = W1 at *
  refine wpAnyH_take (i := 0) (oi := ?oi13) (v := ?v13) (fuel := 3) ?hi13 ?hs13 ?hf13 ?hr13 ?hq13 (Or.inl ⟨?hw13, ?hy13⟩) hHeld ?rest13
  case hi13 => rw [List.getElem?_toArray]; rfl
  case hq13 => exact fun _ _ _ h => h
  case hs13 => kernel_rfl
  case hf13 => kernel_rfl
  case hr13 => kernel_rfl
  case hw13 => rfl
  case hy13 => (intro w1 hSw; (try dsimp only at hSw); go_simp; try with_reducible rfl)
  (try simp only [Act.put, List.setIfInBounds_toArray, List.set_cons_zero, List.set_cons_succ])
  refine wpAnyH_take (i := 1) (oi := ?oi14) (v := ?v14) (fuel := 2) ?hi14 ?hs14 ?hf14 ?hr14 ?hq14 (Or.inl ⟨?hw14, ?hy14⟩) hHeld ?rest14
  case hi14 => rw [List.getElem?_toArray]; rfl
  case hq14 => exact fun _ _ _ h => h
  case hs14 => kernel_rfl
  case hf14 => kernel_rfl
  case hr14 => kernel_rfl
  case hw14 => rfl
  case hy14 => (intro w1 hSw; (try dsimp only at hSw); go_simp; try with_reducible rfl)
  (try simp only [Act.put, List.setIfInBounds_toArray, List.set_cons_zero, List.set_cons_succ])
  refine wpAnyH_ready (fuel := 1) (rs := [2]) (by kernel_rfl) (by simp) ?_
  refine AllReadyH.cons (o := ?oi15) ?hi15 (fun K hK => ?st15) AllReadyH.nil
  case hi15 => rw [List.getElem?_toArray]; rfl
  obtain ⟨g0, g1, g2, g3⟩ := RBox.box hQ.out
  have fq := RBox.frozen hQ.out
  go_simp
  clear g0 g1 g2 g3 fq
  replace hA := hid (hA.out.st4o (k := w.heap.size + 2) (by first | omega | (have := RBox.lt hA.out; omega)) (x') (y') (z') (u'))
  replace hB := hid (hB.out.st4o (k := w.heap.size + 2) (by first | omega | (have := RBox.lt hB.out; omega)) (x') (y') (z') (u'))
  replace hR := hid (hR.out.st4o (k := w.heap.size + 2) (by first | omega | (have := RBox.lt hR.out; omega)) (x') (y') (z') (u'))
  replace hQ := hid (hQ.out.st4 (x' := x') (y' := y') (z' := z') (u' := u'))
  replace hbel := hid (st4_below (w.heap.size + 2) (x') (y') (z') (u') hbel.out (by omega))
  unfold Go.Proofs.Ytcopcajleonndaa.st4 at hbel hA hB hQ hR
  generalize ((((W1.setCell ⟨w.heap.size + 2, 0, none⟩ (.int .i64 (x'))).setCell ⟨w.heap.size + 2, 1, none⟩ (.int .i64 (y'))).setCell ⟨w.heap.size + 2, 2, none⟩ (.int .i64 (z'))).setCell ⟨w.heap.size + 2, 3, none⟩ (.int .i64 (u'))) = ws2 at *
  refine hK.out _ _ ?hS15 (fun hHeld => ?re15)
  case hS15 => exact ⟨(RBox.box hA.out).c0, (RBox.box hA.out).c1, (RBox.box hA.out).c2, (RBox.box hA.out).c3, (RBox.box hB.out).c0, (RBox.box hB.out).c1, (RBox.box hB.out).c2, (RBox.box hB.out).c3⟩
  clear hK K
  (try simp only [Act.put, List.setIfInBounds_toArray, List.set_cons_zero, List.set_cons_succ])
  refine wpAnyH_ready (fuel := 0) (rs := [3]) (by kernel_rfl) (by simp) ?_
  refine AllReadyH.cons (o := ?oi16) ?hi16 (fun K hK => ?st16) AllReadyH.nil
  case hi16 => rw [List.getElem?_toArray]; rfl
  obtain ⟨g0, g1, g2, g3⟩ := RBox.box hR.out
  have fq := RBox.frozen hR.out
  go_simp
  clear g0 g1 g2 g3 fq
  replace hA := hid (hA.out.st4o (k := w.heap.size + 3) (by first | omega | (have := RBox.lt hA.out; omega)) (x) (y) (z) (u))
  replace hB := hid (hB.out.st4o (k := w.heap.size + 3) (by first | omega | (have := RBox.lt hB.out; omega)) (x) (y) (z) (u))
  replace hQ := hid (hQ.out.st4o (k := w.heap.size + 3) (by first | omega | (have := RBox.lt hQ.out; omega)) (x) (y) (z) (u))
  replace hR := hid (hR.out.st4 (x' := x) (y' := y) (z' := z) (u' := u))
  replace hbel := hid (st4_below (w.heap.size + 3) (x) (y) (z) (u) hbel.out (by omega))
  unfold Go.Proofs.Ytcopcajleonndaa.st4 at hbel hA hB hQ hR
  generalize ((((ws2.setCell ⟨w.heap.size + 3, 0, none⟩ (.int .i64 (x))).setCell ⟨w.heap.size + 3, 1, none⟩ (.int .i64 (y))).setCell ⟨w.heap.size + 3, 2, none⟩ (.int .i64 (z))).setCell ⟨w.heap.size + 3, 3, none⟩ (.int .i64 (u))) = ws3 at *
  refine hK.out _ _ ?hS16 (fun hHeld => ?re16)
  case hS16 => exact ⟨(RBox.box hA.out).c0, (RBox.box hA.out).c1, (RBox.box hA.out).c2, (RBox.box hA.out).c3, (RBox.box hB.out).c0, (RBox.box hB.out).c1, (RBox.box hB.out).c2, (RBox.box hB.out).c3⟩
  clear hK K
  (try simp only [Act.put, List.setIfInBounds_toArray, List.set_cons_zero, List.set_cons_succ])
  refine wpAnyH_done (by kernel_rfl) ?_ _
  clear hHeld
  generalize ws3 = w4 at *
  have bA4 := hA
  have bB4 := hB
  have bQ4 := hQ
  have bR4 := hR
  have bel4 := hbel
  clear hbel hA hB hQ hR
  go_wp2_with fail
  obtain ⟨p0, p1, p2, p3⟩ := RBox.box bQ4.out
  obtain ⟨q0, q1, q2, q3⟩ := RBox.box bR4.out
  refine bodyPost_ret (v := .tuple #[rv x' y' z' u', rv x y z u]) (by simp [results, Try.results54, go_sem, p0, p1, p2, p3, q0, q1, q2, q3]) rfl ⟨rfl, bel4.out⟩

set_option maxRecDepth 100000 in
set_option maxHeartbeats 2000000 in
theorem w_part_same (a b c d e f g h : Int) (x y z u : Int) (q : Bool) (w : World) (tP : Hid (∀ w, Calls Try.prog 66 #[rv a b c d, rv e f g h] w fun ee w' => ee = .returned (.tuple #[rv x y z u, .bool q]) ∧ Below w.heap.size w w')) :
    Calls Try.prog 54 #[.int .i64 12, rv a b c d, rv e f g h, .bool true] w fun ee w' => ee = .returned (.tuple #[rv x y z u, rv x y z u]) ∧ Below w.heap.size w w' := by
  have bA0 : Hid (RBox ((((w.alloc (cellsR4 a b c d)).alloc (cellsR4 e f g h)).alloc (cellsR4 0 0 0 0)).alloc (cellsR4 0 0 0 0)) w.heap.size a b c d) := fourA w a b c d e f g h
  have bB0 : Hid (RBox ((((w.alloc (cellsR4 a b c d)).alloc (cellsR4 e f g h)).alloc (cellsR4 0 0 0 0)).alloc (cellsR4 0 0 0 0)) (w.heap.size + 1) e f g h) := fourB w a b c d e f g h
  have bQ0 : Hid (RBox ((((w.alloc (cellsR4 a b c d)).alloc (cellsR4 e f g h)).alloc (cellsR4 0 0 0 0)).alloc (cellsR4 0 0 0 0)) (w.heap.size + 2) 0 0 0 0) := fourQ w a b c d e f g h
  have bR0 : Hid (RBox ((((w.alloc (cellsR4 a b c d)).alloc (cellsR4 e f g h)).alloc (cellsR4 0 0 0 0)).alloc (cellsR4 0 0 0 0)) (w.heap.size + 3) 0 0 0 0) := fourR w a b c d e f g h
  have bel0 : Hid (Below w.heap.size w ((((w.alloc (cellsR4 a b c d)).alloc (cellsR4 e f g h)).alloc (cellsR4 0 0 0 0)).alloc (cellsR4 0 0 0 0))) := fourW w a b c d e f g h
  go_enter Try.func54, Try.ntmps54
  go_wp2_with fail
  refine (tP.out _).mono ?_
  rintro ee w1 ⟨rfl, hb1⟩
  have bA1 := hid (bA0.out.below hb1)
  have bB1 := hid (bB0.out.below hb1)
  have bQ1 := hid (bQ0.out.below hb1)
  have bR1 := hid (bR0.out.below hb1)
  have bel1 := hid (bel0.out.trans (hb1.mono bel0.out.size))
  clear hb1 bA0 bB0 bQ0 bR0 bel0
  go_wp2_with fail
  have mkOA := RBox.lt bA1.out
  have mkOB := RBox.lt bB1.out
  have mkOQ := RBox.lt bQ1.out
  have mkOR := RBox.lt bR1.out
  have bA2 := hid (bA1.out.alloc (cellsR4 (x) (y) (z) (u)))
  have bB2 := hid (bB1.out.alloc (cellsR4 (x) (y) (z) (u)))
  have bQ2 := hid (bQ1.out.alloc (cellsR4 (x) (y) (z) (u)))
  have bR2 := hid (bR1.out.alloc (cellsR4 (x) (y) (z) (u)))
  have bO2 := hid (RBox.new w1 (x) (y) (z) (u))
  have bel2 := hid (bel1.out.alloc bel1.out.size (cellsR4 (x) (y) (z) (u)))
  clear bA1 bB1 bQ1 bR1 bel1
  generalize w1.alloc (cellsR4 (x) (y) (z) (u)) = w2 at *
  refine wp_region_held_drew (S := (fun w' => w'.cell? ⟨w1.heap.size, 0, none⟩ = some (.int .i64 (x)) ∧ w'.cell? ⟨w1.heap.size, 1, none⟩ = some (.int .i64 (y)) ∧ w'.cell? ⟨w1.heap.size, 2, none⟩ = some (.int .i64 (z)) ∧ w'.cell? ⟨w1.heap.size, 3, none⟩ = some (.int .i64 (u)))) (by kernel_rfl) (by exact ⟨(RBox.box bO2.out).c0, (RBox.box bO2.out).c1, (RBox.box bO2.out).c2, (RBox.box bO2.out).c3⟩) (fun hHeld => ?_)
  have hA := hid (RBox.drew bA2.out)
  have hB := hid (RBox.drew bB2.out)
  have hQ := hid (RBox.drew bQ2.out)
  have hR := hid (RBox.drew bR2.out)
  have hO := hid (RBox.drew bO2.out)
  have hbel := hid (Below.drew bel2.out)
  clear bA2 bB2 bQ2 bR2 bO2 bel2
  generalize w2.drew = W1 at *
  refine wpAnyH_take (i := 0) (oi := ?oi17) (v := ?v17) (fuel := 3) ?hi17 ?hs17 ?hf17 ?hr17 ?hq17 (Or.inl ⟨?hw17, ?hy17⟩) hHeld ?rest17
  case hi17 => rw [List.getElem?_toArray]; rfl
  case hq17 => exact fun _ _ _ h => h
  case hs17 => kernel_rfl
  case hf17 => kernel_rfl
  case hr17 => kernel_rfl
  case hw17 => rfl
  case hy17 => (intro w1 hSw; (try dsimp only at hSw); go_simp; try with_reducible rfl)
  (try simp only [Act.put, List.setIfInBounds_toArray, List.set_cons_zero, List.set_cons_succ])
  refine wpAnyH_take (i := 1) (oi := ?oi18) (v := ?v18) (fuel := 2) ?hi18 ?hs18 ?hf18 ?hr18 ?hq18 (Or.inl ⟨?hw18, ?hy18⟩) hHeld ?rest18
  case hi18 => rw [List.getElem?_toArray]; rfl
  case hq18 => exact fun _ _ _ h => h
  case hs18 => kernel_rfl
  case hf18 => kernel_rfl
  case hr18 => kernel_rfl
  case hw18 => rfl
  case hy18 => (intro w1 hSw; (try dsimp only at hSw); go_simp; try with_reducible rfl)
  (try simp only [Act.put, List.setIfInBounds_toArray, List.set_cons_zero, List.set_cons_succ])
  refine wpAnyH_ready (fuel := 1) (rs := [2]) (by kernel_rfl) (by simp) ?_
  refine AllReadyH.cons (o := ?oi19) ?hi19 (fun K hK => ?st19) AllReadyH.nil
  case hi19 => rw [List.getElem?_toArray]; rfl
  obtain ⟨g0, g1, g2, g3⟩ := RBox.box hQ.out
  have fq := RBox.frozen hQ.out
  go_simp
  clear g0 g1 g2 g3 fq
  replace hA := hid (hA.out.st4o (k := w.heap.size + 2) (by first | omega | (have := RBox.lt hA.out; omega)) (x) (y) (z) (u))
  replace hB := hid (hB.out.st4o (k := w.heap.size + 2) (by first | omega | (have := RBox.lt hB.out; omega)) (x) (y) (z) (u))
  replace hR := hid (hR.out.st4o (k := w.heap.size + 2) (by first | omega | (have := RBox.lt hR.out; omega)) (x) (y) (z) (u))
  replace hO := hid (hO.out.st4o (k := w.heap.size + 2) (by first | omega | (have := RBox.lt hO.out; omega)) (x) (y) (z) (u))
  replace hQ := hid (hQ.out.st4 (x' := x) (y' := y) (z' := z) (u' := u))
  replace hbel := hid (st4_below (w.heap.size + 2) (x) (y) (z) (u) hbel.out (by omega))
  unfold Go.Proofs.Ytcopcajleonndaa.st4 at hbel hA hB hQ hR hO
  generalize ((((W1.setCell ⟨w.heap.size + 2, 0, none⟩ (.int .i64 (x))).setCell ⟨w.heap.size + 2, 1, none⟩ (.int .i64 (y))).setCell ⟨w.heap.size + 2, 2, none⟩ (.int .i64 (z))).setCell ⟨w.heap.size + 2, 3, none⟩ (.int .i64 (u))) = ws2 at *
  refine hK.out _ _ ?hS19 (fun hHeld => ?re19)
  case hS19 => exact ⟨(RBox.box hO.out).c0, (RBox.box hO.out).c1, (RBox.box hO.out).c2, (RBox.box hO.out).c3⟩
  clear hK K
  (try simp only [Act.put, List.setIfInBounds_toArray, List.set_cons_zero, List.set_cons_succ])
  refine wpAnyH_ready (fuel := 0) (rs := [3]) (by kernel_rfl) (by simp) ?_
  refine AllReadyH.cons (o := ?oi20) ?hi20 (fun K hK => ?st20) AllReadyH.nil
  case hi20 => rw [List.getElem?_toArray]; rfl
  obtain ⟨g0, g1, g2, g3⟩ := RBox.box hR.out
  have fq := RBox.frozen hR.out
  go_simp
  clear g0 g1 g2 g3 fq
  replace hA := hid (hA.out.st4o (k := w.heap.size + 3) (by first | omega | (have := RBox.lt hA.out; omega)) (x) (y) (z) (u))
  replace hB := hid (hB.out.st4o (k := w.heap.size + 3) (by first | omega | (have := RBox.lt hB.out; omega)) (x) (y) (z) (u))
  replace hQ := hid (hQ.out.st4o (k := w.heap.size + 3) (by first | omega | (have := RBox.lt hQ.out; omega)) (x) (y) (z) (u))
  replace hO := hid (hO.out.st4o (k := w.heap.size + 3) (by first | omega | (have := RBox.lt hO.out; omega)) (x) (y) (z) (u))
  replace hR := hid (hR.out.st4 (x' := x) (y' := y) (z' := z) (u' := u))
  replace hbel := hid (st4_below (w.heap.size + 3) (x) (y) (z) (u) hbel.out (by omega))
  unfold Go.Proofs.Ytcopcajleonndaa.st4 at hbel hA hB hQ hR hO
  generalize ((((ws2.setCell ⟨w.heap.size + 3, 0, none⟩ (.int .i64 (x))).setCell ⟨w.heap.size + 3, 1, none⟩ (.int .i64 (y))).setCell ⟨w.heap.size + 3, 2, none⟩ (.int .i64 (z))).setCell ⟨w.heap.size + 3, 3, none⟩ (.int .i64 (u))) = ws3 at *
  refine hK.out _ _ ?hS20 (fun hHeld => ?re20)
  case hS20 => exact ⟨(RBox.box hO.out).c0, (RBox.box hO.out).c1, (RBox.box hO.out).c2, (RBox.box hO.out).c3⟩
  clear hK K
  (try simp only [Act.put, List.setIfInBounds_toArray, List.set_cons_zero, List.set_cons_succ])
  refine wpAnyH_done (by kernel_rfl) ?_ _
  clear hHeld
  generalize ws3 = w3 at *
  have bA3 := hA
  have bB3 := hB
  have bQ3 := hQ
  have bR3 := hR
  have bO3 := hO
  have bel3 := hbel
  clear hbel hA hB hQ hR hO
  go_wp2_with fail
  obtain ⟨p0, p1, p2, p3⟩ := RBox.box bQ3.out
  obtain ⟨q0, q1, q2, q3⟩ := RBox.box bR3.out
  refine bodyPost_ret (v := .tuple #[rv x y z u, rv x y z u]) (by simp [results, Try.results54, go_sem, p0, p1, p2, p3, q0, q1, q2, q3]) rfl ⟨rfl, bel3.out⟩

set_option maxRecDepth 100000 in
set_option maxHeartbeats 2000000 in
theorem w_part_same2 (a b c d e f g h : Int) (x y z u : Int) (q : Bool) (w : World) (tP : Hid (∀ w, Calls Try.prog 66 #[rv a b c d, rv e f g h] w fun ee w' => ee = .returned (.tuple #[rv x y z u, .bool q]) ∧ Below w.heap.size w w')) :
    Calls Try.prog 54 #[.int .i64 13, rv a b c d, rv e f g h, .bool false] w fun ee w' => ee = .returned (.tuple #[rv x y z u, rv x y z u]) ∧ Below w.heap.size w w' := by
  have bA0 : Hid (RBox ((((w.alloc (cellsR4 a b c d)).alloc (cellsR4 e f g h)).alloc (cellsR4 0 0 0 0)).alloc (cellsR4 0 0 0 0)) w.heap.size a b c d) := fourA w a b c d e f g h
  have bB0 : Hid (RBox ((((w.alloc (cellsR4 a b c d)).alloc (cellsR4 e f g h)).alloc (cellsR4 0 0 0 0)).alloc (cellsR4 0 0 0 0)) (w.heap.size + 1) e f g h) := fourB w a b c d e f g h
  have bQ0 : Hid (RBox ((((w.alloc (cellsR4 a b c d)).alloc (cellsR4 e f g h)).alloc (cellsR4 0 0 0 0)).alloc (cellsR4 0 0 0 0)) (w.heap.size + 2) 0 0 0 0) := fourQ w a b c d e f g h
  have bR0 : Hid (RBox ((((w.alloc (cellsR4 a b c d)).alloc (cellsR4 e f g h)).alloc (cellsR4 0 0 0 0)).alloc (cellsR4 0 0 0 0)) (w.heap.size + 3) 0 0 0 0) := fourR w a b c d e f g h
  have bel0 : Hid (Below w.heap.size w ((((w.alloc (cellsR4 a b c d)).alloc (cellsR4 e f g h)).alloc (cellsR4 0 0 0 0)).alloc (cellsR4 0 0 0 0))) := fourW w a b c d e f g h
  go_enter Try.func54, Try.ntmps54
  go_wp2_with fail
  refine (tP.out _).mono ?_
  rintro ee w1 ⟨rfl, hb1⟩
  have bA1 := hid (bA0.out.below hb1)
  have bB1 := hid (bB0.out.below hb1)
  have bQ1 := hid (bQ0.out.below hb1)
  have bR1 := hid (bR0.out.below hb1)
  have bel1 := hid (bel0.out.trans (hb1.mono bel0.out.size))
  clear hb1 bA0 bB0 bQ0 bR0 bel0
  go_wp2_with fail
  have mkOA := RBox.lt bA1.out
  have mkOB := RBox.lt bB1.out
  have mkOQ := RBox.lt bQ1.out
  have mkOR := RBox.lt bR1.out
  have bA2 := hid (bA1.out.alloc (cellsR4 (x) (y) (z) (u)))
  have bB2 := hid (bB1.out.alloc (cellsR4 (x) (y) (z) (u)))
  have bQ2 := hid (bQ1.out.alloc (cellsR4 (x) (y) (z) (u)))
  have bR2 := hid (bR1.out.alloc (cellsR4 (x) (y) (z) (u)))
  have bO2 := hid (RBox.new w1 (x) (y) (z) (u))
  have bel2 := hid (bel1.out.alloc bel1.out.size (cellsR4 (x) (y) (z) (u)))
  clear bA1 bB1 bQ1 bR1 bel1
  generalize w1.alloc (cellsR4 (x) (y) (z) (u)) = w2 at *
  refine wp_region_held_drew (S := (fun w' => w'.cell? ⟨w1.heap.size, 0, none⟩ = some (.int .i64 (x)) ∧ w'.cell? ⟨w1.heap.size, 1, none⟩ = some (.int .i64 (y)) ∧ w'.cell? ⟨w1.heap.size, 2, none⟩ = some (.int .i64 (z)) ∧ w'.cell? ⟨w1.heap.size, 3, none⟩ = some (.int .i64 (u)))) (by kernel_rfl) (by exact ⟨(RBox.box bO2.out).c0, (RBox.box bO2.out).c1, (RBox.box bO2.out).c2, (RBox.box bO2.out).c3⟩) (fun hHeld => ?_)
  have hA := hid (RBox.drew bA2.out)
  have hB := hid (RBox.drew bB2.out)
  have hQ := hid (RBox.drew bQ2.out)
  have hR := hid (RBox.drew bR2.out)
  have hO := hid (RBox.drew bO2.out)
  have hbel := hid (Below.drew bel2.out)
  clear bA2 bB2 bQ2 bR2 bO2 bel2
  generalize w2.drew = W1 at *
  refine wpAnyH_take (i := 0) (oi := ?oi21) (v := ?v21) (fuel := 3) ?hi21 ?hs21 ?hf21 ?hr21 ?hq21 (Or.inl ⟨?hw21, ?hy21⟩) hHeld ?rest21
  case hi21 => rw [List.getElem?_toArray]; rfl
  case hq21 => exact fun _ _ _ h => h
  case hs21 => kernel_rfl
  case hf21 => kernel_rfl
  case hr21 => kernel_rfl
  case hw21 => rfl
  case hy21 => (intro w1 hSw; (try dsimp only at hSw); go_simp; try with_reducible rfl)
  (try simp only [Act.put, List.setIfInBounds_toArray, List.set_cons_zero, List.set_cons_succ])
  refine wpAnyH_take (i := 1) (oi := ?oi22) (v := ?v22) (fuel := 2) ?hi22 ?hs22 ?hf22 ?hr22 ?hq22 (Or.inl ⟨?hw22, ?hy22⟩) hHeld ?rest22
  case hi22 => rw [List.getElem?_toArray]; rfl
  case hq22 => exact fun _ _ _ h => h
  case hs22 => kernel_rfl
  case hf22 => kernel_rfl
  case hr22 => kernel_rfl
  case hw22 => rfl
  case hy22 => (intro w1 hSw; (try dsimp only at hSw); go_simp; try with_reducible rfl)
  (try simp only [Act.put, List.setIfInBounds_toArray, List.set_cons_zero, List.set_cons_succ])
  refine wpAnyH_ready (fuel := 1) (rs := [2]) (by kernel_rfl) (by simp) ?_
  refine AllReadyH.cons (o := ?oi23) ?hi23 (fun K hK => ?st23) AllReadyH.nil
  case hi23 => rw [List.getElem?_toArray]; rfl
  obtain ⟨g0, g1, g2, g3⟩ := RBox.box hQ.out
  have fq := RBox.frozen hQ.out
  go_simp
  clear g0 g1 g2 g3 fq
  replace hA := hid (hA.out.st4o (k := w.heap.size + 2) (by first | omega | (have := RBox.lt hA.out; omega)) (x) (y) (z) (u))
  replace hB := hid (hB.out.st4o (k := w.heap.size + 2) (by first | omega | (have := RBox.lt hB.out; omega)) (x) (y) (z) (u))
  replace hR := hid (hR.out.st4o (k := w.heap.size + 2) (by first | omega | (have := RBox.lt hR.out; omega)) (x) (y) (z) (u))
  replace hO := hid (hO.out.st4o (k := w.heap.size + 2) (by first | omega | (have := RBox.lt hO.out; omega)) (x) (y) (z) (u))
  replace hQ := hid (hQ.out.st4 (x' := x) (y' := y) (z' := z) (u' := u))
  replace hbel := hid (st4_below (w.heap.size + 2) (x) (y) (z) (u) hbel.out (by omega))
  unfold Go.Proofs.Ytcopcajleonndaa.st4 at hbel hA hB hQ hR hO
  generalize ((((W1.setCell ⟨w.heap.size + 2, 0, none⟩ (.int .i64 (x))).setCell ⟨w.heap.size + 2, 1, none⟩ (.int .i64 (y))).setCell ⟨w.heap.size + 2, 2, none⟩ (.int .i64 (z))).setCell ⟨w.heap.size + 2, 3, none⟩ (.int .i64 (u))) = ws2 at *
  refine hK.out _ _ ?hS23 (fun hHeld => ?re23)
  case hS23 => exact ⟨(RBox.box hO.out).c0, (RBox.box hO.out).c1, (RBox.box hO.out).c2, (RBox.box hO.out).c3⟩
  clear hK K
  (try simp only [Act.put, List.setIfInBounds_toArray, List.set_cons_zero, List.set_cons_succ])
  refine wpAnyH_ready (fuel := 0) (rs := [3]) (by kernel_rfl) (by simp) ?_
  refine AllReadyH.cons (o := ?oi24) ?hi24 (fun K hK => ?st24) AllReadyH.nil
  case hi24 => rw [List.getElem?_toArray]; rfl
  obtain ⟨g0, g1, g2, g3⟩ := RBox.box hR.out
  have fq := RBox.frozen hR.out
  go_simp
  clear g0 g1 g2 g3 fq
  replace hA := hid (hA.out.st4o (k := w.heap.size + 3) (by first | omega | (have := RBox.lt hA.out; omega)) (x) (y) (z) (u))
  replace hB := hid (hB.out.st4o (k := w.heap.size + 3) (by first | omega | (have := RBox.lt hB.out; omega)) (x) (y) (z) (u))
  replace hQ := hid (hQ.out.st4o (k := w.heap.size + 3) (by first | omega | (have := RBox.lt hQ.out; omega)) (x) (y) (z) (u))
  replace hO := hid (hO.out.st4o (k := w.heap.size + 3) (by first | omega | (have := RBox.lt hO.out; omega)) (x) (y) (z) (u))
  replace hR := hid (hR.out.st4 (x' := x) (y' := y) (z' := z) (u' := u))
  replace hbel := hid (st4_below (w.heap.size + 3) (x) (y) (z) (u) hbel.out (by omega))
  unfold Go.Proofs.Ytcopcajleonndaa.st4 at hbel hA hB hQ hR hO
  generalize ((((ws2.setCell ⟨w.heap.size + 3, 0, none⟩ (.int .i64 (x))).setCell ⟨w.heap.size + 3, 1, none⟩ (.int .i64 (y))).setCell ⟨w.heap.size + 3, 2, none⟩ (.int .i64 (z))).setCell ⟨w.heap.size + 3, 3, none⟩ (.int .i64 (u))) = ws3 at *
  refine hK.out _ _ ?hS24 (fun hHeld => ?re24)
  case hS24 => exact ⟨(RBox.box hO.out).c0, (RBox.box hO.out).c1, (RBox.box hO.out).c2, (RBox.box hO.out).c3⟩
  clear hK K
  (try simp only [Act.put, List.setIfInBounds_toArray, List.set_cons_zero, List.set_cons_succ])
  refine wpAnyH_done (by kernel_rfl) ?_ _
  clear hHeld
  generalize ws3 = w3 at *
  have bA3 := hA
  have bB3 := hB
  have bQ3 := hQ
  have bR3 := hR
  have bO3 := hO
  have bel3 := hbel
  clear hbel hA hB hQ hR hO
  go_wp2_with fail
  obtain ⟨p0, p1, p2, p3⟩ := RBox.box bQ3.out
  obtain ⟨q0, q1, q2, q3⟩ := RBox.box bR3.out
  refine bodyPost_ret (v := .tuple #[rv x y z u, rv x y z u]) (by simp [results, Try.results54, go_sem, p0, p1, p2, p3, q0, q1, q2, q3]) rfl ⟨rfl, bel3.out⟩

set_option maxRecDepth 100000 in
set_option maxHeartbeats 2000000 in
theorem w_part_other (a b c d e f g h : Int) (x y z u x' y' z' u' : Int) (w : World) (tP : Hid (∀ w, Calls Try.prog 67 #[rv a b c d, rv e f g h] w fun ee w' => ee = .returned (rv x y z u) ∧ Below w.heap.size w w')) (tQ : Hid (∀ w, Calls Try.prog 67 #[rv e f g h, rv a b c d] w fun ee w' => ee = .returned (rv x' y' z' u') ∧ Below w.heap.size w w')) :
    Calls Try.prog 54 #[.int .i64 12, rv a b c d, rv e f g h, .bool false] w fun ee w' => ee = .returned (.tuple #[rv x y z u, rv x' y' z' u']) ∧ Below w.heap.size w w' := by
  have bA0 : Hid (RBox ((((w.alloc (cellsR4 a b c d)).alloc (cellsR4 e f g h)).alloc (cellsR4 0 0 0 0)).alloc (cellsR4 0 0 0 0)) w.heap.size a b c d) := fourA w a b c d e f g h
  have bB0 : Hid (RBox ((((w.alloc (cellsR4 a b c d)).alloc (cellsR4 e f g h)).alloc (cellsR4 0 0 0 0)).alloc (cellsR4 0 0 0 0)) (w.heap.size + 1) e f g h) := fourB w a b c d e f g h
  have bQ0 : Hid (RBox ((((w.alloc (cellsR4 a b c d)).alloc (cellsR4 e f g h)).alloc (cellsR4 0 0 0 0)).alloc (cellsR4 0 0 0 0)) (w.heap.size + 2) 0 0 0 0) := fourQ w a b c d e f g h
  have bR0 : Hid (RBox ((((w.alloc (cellsR4 a b c d)).alloc (cellsR4 e f g h)).alloc (cellsR4 0 0 0 0)).alloc (cellsR4 0 0 0 0)) (w.heap.size + 3) 0 0 0 0) := fourR w a b c d e f g h
  have bel0 : Hid (Below w.heap.size w ((((w.alloc (cellsR4 a b c d)).alloc (cellsR4 e f g h)).alloc (cellsR4 0 0 0 0)).alloc (cellsR4 0 0 0 0))) := fourW w a b c d e f g h
  go_enter Try.func54, Try.ntmps54
  go_wp2_with fail
  generalize (((w.alloc (cellsR4 a b c d)).alloc (cellsR4 e f g h)).alloc (cellsR4 0 0 0 0)).alloc (cellsR4 0 0 0 0) = w0 at *
  obtain ⟨cA0, cA1, cA2, cA3⟩ := RBox.box bA0.out
  obtain ⟨cB0, cB1, cB2, cB3⟩ := RBox.box bB0.out
  refine wp_region_held_drew (S := (fun w' => w'.cell? ⟨w.heap.size, 0, none⟩ = some (.int .i64 (a)) ∧ w'.cell? ⟨w.heap.size, 1, none⟩ = some (.int .i64 (b)) ∧ w'.cell? ⟨w.heap.size, 2, none⟩ = some (.int .i64 (c)) ∧ w'.cell? ⟨w.heap.size, 3, none⟩ = some (.int .i64 (d)) ∧ w'.cell? ⟨w.heap.size + 1, 0, none⟩ = some (.int .i64 (e)) ∧ w'.cell? ⟨w.heap.size + 1, 1, none⟩ = some (.int .i64 (f)) ∧ w'.cell? ⟨w.heap.size + 1, 2, none⟩ = some (.int .i64 (g)) ∧ w'.cell? ⟨w.heap.size + 1, 3, none⟩ = some (.int .i64 (h)))) (by kernel_rfl) (by exact ⟨(RBox.box bA0.out).c0, (RBox.box bA0.out).c1, (RBox.box bA0.out).c2, (RBox.box bA0.out).c3, (RBox.box bB0.out).c0, (RBox.box bB0.out).c1, (RBox.box bB0.out).c2, (RBox.box bB0.out).c3⟩) (fun hHeld => ?_)
  have hA := hid (RBox.drew bA0.out)
  have hB := hid (RBox.drew bB0.out)
  have hQ := hid (RBox.drew bQ0.out)
  have hR := hid (RBox.drew bR0.out)
  have hbel := hid (Below.drew bel0.out)
  clear bA0 bB0 bQ0 bR0 bel0
  generalize w0.drew = W1 at *
  refine wpAnyH_take (i := 0) (oi := ?oi25) (v := ?v25) (fuel := 7) ?hi25 ?hs25 ?hf25 ?hr25 ?hq25 (Or.inl ⟨?hw25, ?hy25⟩) hHeld ?rest25
  case hi25 => rw [List.getElem?_toArray]; rfl
  case hq25 => exact fun _ _ _ h => h
  case hs25 => kernel_rfl
  case hf25 => kernel_rfl
  case hr25 => kernel_rfl
  case hw25 => rfl
  case hy25 => (intro w1 hSw; (try dsimp only at hSw); go_simp; try with_reducible rfl)
  (try simp only [Act.put, List.setIfInBounds_toArray, List.set_cons_zero, List.set_cons_succ])
  refine wpAnyH_take (i := 1) (oi := ?oi26) (v := ?v26) (fuel := 6) ?hi26 ?hs26 ?hf26 ?hr26 ?hq26 (Or.inl ⟨?hw26, ?hy26⟩) hHeld ?rest26
  case hi26 => rw [List.getElem?_toArray]; rfl
  case hq26 => exact fun _ _ _ h => h
  case hs26 => kernel_rfl
  case hf26 => kernel_rfl
  case hr26 => kernel_rfl
  case hw26 => rfl
  case hy26 => (intro w1 hSw; (try dsimp only at hSw); go_simp; try with_reducible rfl)
  (try simp only [Act.put, List.setIfInBounds_toArray, List.set_cons_zero, List.set_cons_succ])
  refine wpAnyH_take (i := 3) (oi := ?oi27) (v := ?v27) (fuel := 5) ?hi27 ?hs27 ?hf27 ?hr27 ?hq27 (Or.inl ⟨?hw27, ?hy27⟩) hHeld ?rest27
  case hi27 => rw [List.getElem?_toArray]; rfl
  case hq27 => exact fun _ _ _ h => h
  case hs27 => kernel_rfl
  case hf27 => kernel_rfl
  case hr27 => kernel_rfl
  case hw27 => rfl
  case hy27 => (intro w1 hSw; (try dsimp only at hSw); go_simp; try with_reducible rfl)
  (try simp only [Act.put, List.setIfInBounds_toArray, List.set_cons_zero, List.set_cons_succ])
  refine wpAnyH_take (i := 4) (oi := ?oi28) (v := ?v28) (fuel := 4) ?hi28 ?hs28 ?hf28 ?hr28 ?hq28 (Or.inl ⟨?hw28, ?hy28⟩) hHeld ?rest28
  case hi28 => rw [List.getElem?_toArray]; rfl
  case hq28 => exact fun _ _ _ h => h
  case hs28 => kernel_rfl
  case hf28 => kernel_rfl
  case hr28 => kernel_rfl
  case hw28 => rfl
  case hy28 => (intro w1 hSw; (try dsimp only at hSw); go_simp; try with_reducible rfl)
  (try simp only [Act.put, List.setIfInBounds_toArray, List.set_cons_zero, List.set_cons_succ])
  refine wpAnyH_ready (fuel := 3) (rs := [2]) (by kernel_rfl) (by simp) ?_
  refine AllReadyH.cons (o := ?oi29) ?hi29 (fun K hK => ?st29) AllReadyH.nil
  case hi29 => rw [List.getElem?_toArray]; rfl
  go_simp
  refine (tP.out _).mono ?_
  rintro ee wr2 ⟨rfl, hbn⟩
  replace hA := hid (hA.out.below hbn)
  replace hB := hid (hB.out.below hbn)
  replace hQ := hid (hQ.out.below hbn)
  replace hR := hid (hR.out.below hbn)
  replace hbel := hid (hbel.out.trans (hbn.mono hbel.out.size))
  clear hbn
  go_wp2_with fail
  refine hK.out _ _ ?hS29 (fun hHeld => ?re29)
  case hS29 => exact ⟨(RBox.box hA.out).c0, (RBox.box hA.out).c1, (RBox.box hA.out).c2, (RBox.box hA.out).c3, (RBox.box hB.out).c0, (RBox.box hB.out).c1, (RBox.box hB.out).c2, (RBox.box hB.out).c3⟩
  clear hK K
  (try simp only [Act.put, List.setIfInBounds_toArray, List.set_cons_zero, List.set_cons_succ])
  refine wpAnyH_ready (fuel := 2) (rs := [5]) (by kernel_rfl) (by simp) ?_
  refine AllReadyH.cons (o := ?oi30) ?hi30 (fun K hK => ?st30) AllReadyH.nil
  case hi30 => rw [List.getElem?_toArray]; rfl
  go_simp
  refine (tQ.out _).mono ?_
  rintro ee wr5 ⟨rfl, hbn⟩
  replace hA := hid (hA.out.below hbn)
  replace hB := hid (hB.out.below hbn)
  replace hQ := hid (hQ.out.below hbn)
  replace hR := hid (hR.out.below hbn)
  replace hbel := hid (hbel.out.trans (hbn.mono hbel.out.size))
  clear hbn
  go_wp2_with fail
  refine hK.out _ _ ?hS30 (fun hHeld => ?re30)
  case hS30 => exact ⟨(RBox.box hA.out).c0, (RBox.box hA.out).c1, (RBox.box hA.out).c2, (RBox.box hA.out).c3, (RBox.box hB.out).c0, (RBox.box hB.out).c1, (RBox.box hB.out).c2, (RBox.box hB.out).c3⟩
  clear hK K
  (try simp only [Act.put, List.setIfInBounds_toArray, List.set_cons_zero, List.set_cons_succ])
  refine wpAnyH_ready (fuel := 1) (rs := [6]) (by kernel_rfl) (by simp) ?_
  refine AllReadyH.cons (o := ?oi31) ?hi31 (fun K hK => ?st31) AllReadyH.nil
  case hi31 => rw [List.getElem?_toArray]; rfl
  obtain ⟨g0, g1, g2, g3⟩ := RBox.box hQ.out
  have fq := RBox.frozen hQ.out
  go_simp
  clear g0 g1 g2 g3 fq
  replace hA := hid (hA.out.st4o (k := w.heap.size + 2) (by first | omega | (have := RBox.lt hA.out; omega)) (x) (y) (z) (u))
  replace hB := hid (hB.out.st4o (k := w.heap.size + 2) (by first | omega | (have := RBox.lt hB.out; omega)) (x) (y) (z) (u))
  replace hR := hid (hR.out.st4o (k := w.heap.size + 2) (by first | omega | (have := RBox.lt hR.out; omega)) (x) (y) (z) (u))
  replace hQ := hid (hQ.out.st4 (x' := x) (y' := y) (z' := z) (u' := u))
  replace hbel := hid (st4_below (w.heap.size + 2) (x) (y) (z) (u) hbel.out (by omega))
  unfold Go.Proofs.Ytcopcajleonndaa.st4 at hbel hA hB hQ hR
  generalize ((((wr5.setCell ⟨w.heap.size + 2, 0, none⟩ (.int .i64 (x))).setCell ⟨w.heap.size + 2, 1, none⟩ (.int .i64 (y))).setCell ⟨w.heap.size + 2, 2, none⟩ (.int .i64 (z))).setCell ⟨w.heap.size + 2, 3, none⟩ (.int .i64 (u))) = ws6 at *
  refine hK.out _ _ ?hS31 (fun hHeld => ?re31)
  case hS31 => exact ⟨(RBox.box hA.out).c0, (RBox.box hA.out).c1, (RBox.box hA.out).c2, (RBox.box hA.out).c3, (RBox.box hB.out).c0, (RBox.box hB.out).c1, (RBox.box hB.out).c2, (RBox.box hB.out).c3⟩
  clear hK K
  (try simp only [Act.put, List.setIfInBounds_toArray, List.set_cons_zero, List.set_cons_succ])
  refine wpAnyH_ready (fuel := 0) (rs := [7]) (by kernel_rfl) (by simp) ?_
  refine AllReadyH.cons (o := ?oi32) ?hi32 (fun K hK => ?st32) AllReadyH.nil
  case hi32 => rw [List.getElem?_toArray]; rfl
  obtain ⟨g0, g1, g2, g3⟩ := RBox.box hR.out
  have fq := RBox.frozen hR.out
  go_simp
  clear g0 g1 g2 g3 fq
  replace hA := hid (hA.out.st4o (k := w.heap.size + 3) (by first | omega | (have := RBox.lt hA.out; omega)) (x') (y') (z') (u'))
  replace hB := hid (hB.out.st4o (k := w.heap.size + 3) (by first | omega | (have := RBox.lt hB.out; omega)) (x') (y') (z') (u'))
  replace hQ := hid (hQ.out.st4o (k := w.heap.size + 3) (by first | omega | (have := RBox.lt hQ.out; omega)) (x') (y') (z') (u'))
  replace hR := hid (hR.out.st4 (x' := x') (y' := y') (z' := z') (u' := u'))
  replace hbel := hid (st4_below (w.heap.size + 3) (x') (y') (z') (u') hbel.out (by omega))
  unfold Go.Proofs.Ytcopcajleonndaa.st4 at hbel hA hB hQ hR
  generalize ((((ws6.setCell ⟨w.heap.size + 3, 0, none⟩ (.int .i64 (x'))).setCell ⟨w.heap.size + 3, 1, none⟩ (.int .i64 (y'))).setCell ⟨w.heap.size + 3, 2, none⟩ (.int .i64 (z'))).setCell ⟨w.heap.size + 3, 3, none⟩ (.int .i64 (u'))) = ws7 at *
  refine hK.out _ _ ?hS32 (fun hHeld => ?re32)
  case hS32 => exact ⟨(RBox.box hA.out).c0, (RBox.box hA.out).c1, (RBox.box hA.out).c2, (RBox.box hA.out).c3, (RBox.box hB.out).c0, (RBox.box hB.out).c1, (RBox.box hB.out).c2, (RBox.box hB.out).c3⟩
  clear hK K
  (try simp only [Act.put, List.setIfInBounds_toArray, List.set_cons_zero, List.set_cons_succ])
  refine wpAnyH_done (by kernel_rfl) ?_ _
  clear hHeld
  generalize ws7 = w1 at *
  have bA1 := hA
  have bB1 := hB
  have bQ1 := hQ
  have bR1 := hR
  have bel1 := hbel
  clear hbel hA hB hQ hR
  clear cA0 cA1 cA2 cA3 cB0 cB1 cB2 cB3
  go_wp2_with fail
  obtain ⟨p0, p1, p2, p3⟩ := RBox.box bQ1.out
  obtain ⟨q0, q1, q2, q3⟩ := RBox.box bR1.out
  refine bodyPost_ret (v := .tuple #[rv x y z u, rv x' y' z' u']) (by simp [results, Try.results54, go_sem, p0, p1, p2, p3, q0, q1, q2, q3]) rfl ⟨rfl, bel1.out⟩

set_option maxRecDepth 100000 in
set_option maxHeartbeats 2000000 in
theorem w_part_other2 (a b c d e f g h : Int) (x y z u x' y' z' u' : Int) (w : World) (tP : Hid (∀ w, Calls Try.prog 67 #[rv a b c d, rv e f g h] w fun ee w' => ee = .returned (rv x y z u) ∧ Below w.heap.size w w')) (tQ : Hid (∀ w, Calls Try.prog 67 #[rv e f g h, rv a b c d] w fun ee w' => ee = .returned (rv x' y' z' u') ∧ Below w.heap.size w w')) :
    Calls Try.prog 54 #[.int .i64 13, rv a b c d, rv e f g h, .bool true] w fun ee w' => ee = .returned (.tuple #[rv x y z u, rv x' y' z' u']) ∧ Below w.heap.size w w' := by
  have bA0 : Hid (RBox ((((w.alloc (cellsR4 a b c d)).alloc (cellsR4 e f g h)).alloc (cellsR4 0 0 0 0)).alloc (cellsR4 0 0 0 0)) w.heap.size a b c d) := fourA w a b c d e f g h
  have bB0 : Hid (RBox ((((w.alloc (cellsR4 a b c d)).alloc (cellsR4 e f g h)).alloc (cellsR4 0 0 0 0)).alloc (cellsR4 0 0 0 0)) (w.heap.size + 1) e f g h) := fourB w a b c d e f g h
  have bQ0 : Hid (RBox ((((w.alloc (cellsR4 a b c d)).alloc (cellsR4 e f g h)).alloc (cellsR4 0 0 0 0)).alloc (cellsR4 0 0 0 0)) (w.heap.size + 2) 0 0 0 0) := fourQ w a b c d e f g h
  have bR0 : Hid (RBox ((((w.alloc (cellsR4 a b c d)).alloc (cellsR4 e f g h)).alloc (cellsR4 0 0 0 0)).alloc (cellsR4 0 0 0 0)) (w.heap.size + 3) 0 0 0 0) := fourR w a b c d e f g h
  have bel0 : Hid (Below w.heap.size w ((((w.alloc (cellsR4 a b c d)).alloc (cellsR4 e f g h)).alloc (cellsR4 0 0 0 0)).alloc (cellsR4 0 0 0 0))) := fourW w a b c d e f g h
  go_enter Try.func54, Try.ntmps54
  go_wp2_with fail
  generalize (((w.alloc (cellsR4 a b c d)).alloc (cellsR4 e f g h)).alloc (cellsR4 0 0 0 0)).alloc (cellsR4 0 0 0 0) = w0 at *
  obtain ⟨cA0, cA1, cA2, cA3⟩ := RBox.box bA0.out
  obtain ⟨cB0, cB1, cB2, cB3⟩ := RBox.box bB0.out
  refine wp_region_held_drew (S := (fun w' => w'.cell? ⟨w.heap.size, 0, none⟩ = some (.int .i64 (a)) ∧ w'.cell? ⟨w.heap.size, 1, none⟩ = some (.int .i64 (b)) ∧ w'.cell? ⟨w.heap.size, 2, none⟩ = some (.int .i64 (c)) ∧ w'.cell? ⟨w.heap.size, 3, none⟩ = some (.int .i64 (d)) ∧ w'.cell? ⟨w.heap.size + 1, 0, none⟩ = some (.int .i64 (e)) ∧ w'.cell? ⟨w.heap.size + 1, 1, none⟩ = some (.int .i64 (f)) ∧ w'.cell? ⟨w.heap.size + 1, 2, none⟩ = some (.int .i64 (g)) ∧ w'.cell? ⟨w.heap.size + 1, 3, none⟩ = some (.int .i64 (h)))) (by kernel_rfl) (by exact ⟨(RBox.box bA0.out).c0, (RBox.box bA0.out).c1, (RBox.box bA0.out).c2, (RBox.box bA0.out).c3, (RBox.box bB0.out).c0, (RBox.box bB0.out).c1, (RBox.box bB0.out).c2, (RBox.box bB0.out).c3⟩) (fun hHeld => ?_)
  have hA := hid (RBox.drew bA0.out)
  have hB := hid (RBox.drew bB0.out)
  have hQ := hid (RBox.drew bQ0.out)
  have hR := hid (RBox.drew bR0.out)
  have hbel := hid (Below.drew bel0.out)
  clear bA0 bB0 bQ0 bR0 bel0
  generalize w0.drew = W1 at *
  refine wpAnyH_take (i := 0) (oi := ?oi33) (v := ?v33) (fuel := 7) ?hi33 ?hs33 ?hf33 ?hr33 ?hq33 (Or.inl ⟨?hw33, ?hy33⟩) hHeld ?rest33
  case hi33 => rw [List.getElem?_toArray]; rfl
  case hq33 => exact fun _ _ _ h => h
  case hs33 => kernel_rfl
  case hf33 => kernel_rfl
  case hr33 => kernel_rfl
  case hw33 => rfl
  case hy33 => (intro w1 hSw; (try dsimp only at hSw); go_simp; try with_reducible rfl)
  (try simp only [Act.put, List.setIfInBounds_toArray, List.set_cons_zero, List.set_cons_succ])
  refine wpAnyH_take (i := 1) (oi := ?oi34) (v := ?v34) (fuel := 6) ?hi34 ?hs34 ?hf34 ?hr34 ?hq34 (Or.inl ⟨?hw34, ?hy34⟩) hHeld ?rest34
  case hi34 => rw [List.getElem?_toArray]; rfl
  case hq34 => exact fun _ _ _ h => h
  case hs34 => kernel_rfl
  case hf34 => kernel_rfl
  case hr34 => kernel_rfl
  case hw34 => rfl
  case hy34 => (intro w1 hSw; (try dsimp only at hSw); go_simp; try with_reducible rfl)
  (try simp only [Act.put, List.setIfInBounds_toArray, List.set_cons_zero, List.set_cons_succ])
  refine wpAnyH_take (i := 3) (oi := ?oi35) (v := ?v35) (fuel := 5) ?hi35 ?hs35 ?hf35 ?hr35 ?hq35 (Or.inl ⟨?hw35, ?hy35⟩) hHeld ?rest35
  case hi35 => rw [List.getElem?_toArray]; rfl
  case hq35 => exact fun _ _ _ h => h
  case hs35 => kernel_rfl
  case hf35 => kernel_rfl
  case hr35 => kernel_rfl
  case hw35 => rfl
  case hy35 => (intro w1 hSw; (try dsimp only at hSw); go_simp; try with_reducible rfl)
  (try simp only [Act.put, List.setIfInBounds_toArray, List.set_cons_zero, List.set_cons_succ])
  refine wpAnyH_take (i := 4) (oi := ?oi36) (v := ?v36) (fuel := 4) ?hi36 ?hs36 ?hf36 ?hr36 ?hq36 (Or.inl ⟨?hw36, ?hy36⟩) hHeld ?rest36
  case hi36 => rw [List.getElem?_toArray]; rfl
  case hq36 => exact fun _ _ _ h => h
  case hs36 => kernel_rfl
  case hf36 => kernel_rfl
  case hr36 => kernel_rfl
  case hw36 => rfl
  case hy36 => (intro w1 hSw; (try dsimp only at hSw); go_simp; try with_reducible rfl)
  (try simp only [Act.put, List.setIfInBounds_toArray, List.set_cons_zero, List.set_cons_succ])
  refine wpAnyH_ready (fuel := 3) (rs := [2]) (by kernel_rfl) (by simp) ?_
  refine AllReadyH.cons (o := ?oi37) ?hi37 (fun K hK => ?st37) AllReadyH.nil
  case hi37 => rw [List.getElem?_toArray]; rfl
  go_simp
  refine (tP.out _).mono ?_
  rintro ee wr2 ⟨rfl, hbn⟩
  replace hA := hid (hA.out.below hbn)
  replace hB := hid (hB.out.below hbn)
  replace hQ := hid (hQ.out.below hbn)
  replace hR := hid (hR.out.below hbn)
  replace hbel := hid (hbel.out.trans (hbn.mono hbel.out.size))
  clear hbn
  go_wp2_with fail
  refine hK.out _ _ ?hS37 (fun hHeld => ?re37)
  case hS37 => exact ⟨(RBox.box hA.out).c0, (RBox.box hA.out).c1, (RBox.box hA.out).c2, (RBox.box hA.out).c3, (RBox.box hB.out).c0, (RBox.box hB.out).c1, (RBox.box hB.out).c2, (RBox.box hB.out).c3⟩
  clear hK K
  (try simp only [Act.put, List.setIfInBounds_toArray, List.set_cons_zero, List.set_cons_succ])
  refine wpAnyH_ready (fuel := 2) (rs := [5]) (by kernel_rfl) (by simp) ?_
  refine AllReadyH.cons (o := ?oi38) ?hi38 (fun K hK => ?st38) AllReadyH.nil
  case hi38 => rw [List.getElem?_toArray]; rfl
  go_simp
  refine (tQ.out _).mono ?_
  rintro ee wr5 ⟨rfl, hbn⟩
  replace hA := hid (hA.out.below hbn)
  replace hB := hid (hB.out.below hbn)
  replace hQ := hid (hQ.out.below hbn)
  replace hR := hid (hR.out.below hbn)
  replace hbel := hid (hbel.out.trans (hbn.mono hbel.out.size))
  clear hbn
  go_wp2_with fail
  refine hK.out _ _ ?hS38 (fun hHeld => ?re38)
  case hS38 => exact ⟨(RBox.box hA.out).c0, (RBox.box hA.out).c1, (RBox.box hA.out).c2, (RBox.box hA.out).c3, (RBox.box hB.out).c0, (RBox.box hB.out).c1, (RBox.box hB.out).c2, (RBox.box hB.out).c3⟩
  clear hK K
  (try simp only [Act.put, List.setIfInBounds_toArray, List.set_cons_zero, List.set_cons_succ])
  refine wpAnyH_ready (fuel := 1) (rs := [6]) (by kernel_rfl) (by simp) ?_
  refine AllReadyH.cons (o := ?oi39) ?hi39 (fun K hK => ?st39) AllReadyH.nil
  case hi39 => rw [List.getElem?_toArray]; rfl
  obtain ⟨g0, g1, g2, g3⟩ := RBox.box hQ.out
  have fq := RBox.frozen hQ.out
  go_simp
  clear g0 g1 g2 g3 fq
  replace hA := hid (hA.out.st4o (k := w.heap.size + 2) (by first | omega | (have := RBox.lt hA.out; omega)) (x) (y) (z) (u))
  replace hB := hid (hB.out.st4o (k := w.heap.size + 2) (by first | omega | (have := RBox.lt hB.out; omega)) (x) (y) (z) (u))
  replace hR := hid (hR.out.st4o (k := w.heap.size + 2) (by first | omega | (have := RBox.lt hR.out; omega)) (x) (y) (z) (u))
  replace hQ := hid (hQ.out.st4 (x' := x) (y' := y) (z' := z) (u' := u))
  replace hbel := hid (st4_below (w.heap.size + 2) (x) (y) (z) (u) hbel.out (by omega))
  unfold Go.Proofs.Ytcopcajleonndaa.st4 at hbel hA hB hQ hR
  generalize ((((wr5.setCell ⟨w.heap.size + 2, 0, none⟩ (.int .i64 (x))).setCell ⟨w.heap.size + 2, 1, none⟩ (.int .i64 (y))).setCell ⟨w.heap.size + 2, 2, none⟩ (.int .i64 (z))).setCell ⟨w.heap.size + 2, 3, none⟩ (.int .i64 (u))) = ws6 at *
  refine hK.out _ _ ?hS39 (fun hHeld => ?re39)
  case hS39 => exact ⟨(RBox.box hA.out).c0, (RBox.box hA.out).c1, (RBox.box hA.out).c2, (RBox.box hA.out).c3, (RBox.box hB.out).c0, (RBox.box hB.out).c1, (RBox.box hB.out).c2, (RBox.box hB.out).c3⟩
  clear hK K
  (try simp only [Act.put, List.setIfInBounds_toArray, List.set_cons_zero, List.set_cons_succ])
  refine wpAnyH_ready (fuel := 0) (rs := [7]) (by kernel_rfl) (by simp) ?_
  refine AllReadyH.cons (o := ?oi40) ?hi40 (fun K hK => ?st40) AllReadyH.nil
  case hi40 => rw [List.getElem?_toArray]; rfl
  obtain ⟨g0, g1, g2, g3⟩ := RBox.box hR.out
  have fq := RBox.frozen hR.out
  go_simp
  clear g0 g1 g2 g3 fq
  replace hA := hid (hA.out.st4o (k := w.heap.size + 3) (by first | omega | (have := RBox.lt hA.out; omega)) (x') (y') (z') (u'))
  replace hB := hid (hB.out.st4o (k := w.heap.size + 3) (by first | omega | (have := RBox.lt hB.out; omega)) (x') (y') (z') (u'))
  replace hQ := hid (hQ.out.st4o (k := w.heap.size + 3) (by first | omega | (have := RBox.lt hQ.out; omega)) (x') (y') (z') (u'))
  replace hR := hid (hR.out.st4 (x' := x') (y' := y') (z' := z') (u' := u'))
  replace hbel := hid (st4_below (w.heap.size + 3) (x') (y') (z') (u') hbel.out (by omega))
  unfold Go.Proofs.Ytcopcajleonndaa.st4 at hbel hA hB hQ hR
  generalize ((((ws6.setCell ⟨w.heap.size + 3, 0, none⟩ (.int .i64 (x'))).setCell ⟨w.heap.size + 3, 1, none⟩ (.int .i64 (y'))).setCell ⟨w.heap.size + 3, 2, none⟩ (.int .i64 (z'))).setCell ⟨w.heap.size + 3, 3, none⟩ (.int .i64 (u'))) = ws7 at *
  refine hK.out _ _ ?hS40 (fun hHeld => ?re40)
  case hS40 => exact ⟨(RBox.box hA.out).c0, (RBox.box hA.out).c1, (RBox.box hA.out).c2, (RBox.box hA.out).c3, (RBox.box hB.out).c0, (RBox.box hB.out).c1, (RBox.box hB.out).c2, (RBox.box hB.out).c3⟩
  clear hK K
  (try simp only [Act.put, List.setIfInBounds_toArray, List.set_cons_zero, List.set_cons_succ])
  refine wpAnyH_done (by kernel_rfl) ?_ _
  clear hHeld
  generalize ws7 = w1 at *
  have bA1 := hA
  have bB1 := hB
  have bQ1 := hQ
  have bR1 := hR
  have bel1 := hbel
  clear hbel hA hB hQ hR
  clear cA0 cA1 cA2 cA3 cB0 cB1 cB2 cB3
  go_wp2_with fail
  obtain ⟨p0, p1, p2, p3⟩ := RBox.box bQ1.out
  obtain ⟨q0, q1, q2, q3⟩ := RBox.box bR1.out
  refine bodyPost_ret (v := .tuple #[rv x y z u, rv x' y' z' u']) (by simp [results, Try.results54, go_sem, p0, p1, p2, p3, q0, q1, q2, q3]) rfl ⟨rfl, bel1.out⟩

end Go.Proofs.Ytcopcajleonndaa
