/- Contracts for branches: the specification's l2Branch. -/
import Derived.Test.YtcopcajleonndaaQBE
namespace Go.Proofs.Ytcopcajleonndaa
open Go.RowKit
set_option linter.unusedVariables false
set_option linter.unusedSimpArgs false

set_option maxRecDepth 100000 in
set_option maxHeartbeats 2000000 in
theorem w_SB_same (a b c d e f g h : Int) (x y z u : Int) (q : Bool) (w : World) (tP : Hid (∀ w, Calls Try.prog 58 #[rv a b c d, rv e f g h] w fun ee w' => ee = .returned (.tuple #[rv x y z u, .bool q]) ∧ Below w.heap.size w w')) :
    Calls Try.prog 49 #[.int .i64 12, rv a b c d, rv e f g h, .bool true] w fun ee w' => ee = .returned (.tuple #[rv x y z u, rv x y z u, .bool q]) ∧ Below w.heap.size w w' := by
  have bA0 : Hid (RBox ((((w.alloc (cellsR4 a b c d)).alloc (cellsR4 e f g h)).alloc (cellsR4 0 0 0 0)).alloc (cellsR4 0 0 0 0)) w.heap.size a b c d) := fourA w a b c d e f g h
  have bB0 : Hid (RBox ((((w.alloc (cellsR4 a b c d)).alloc (cellsR4 e f g h)).alloc (cellsR4 0 0 0 0)).alloc (cellsR4 0 0 0 0)) (w.heap.size + 1) e f g h) := fourB w a b c d e f g h
  have bQ0 : Hid (RBox ((((w.alloc (cellsR4 a b c d)).alloc (cellsR4 e f g h)).alloc (cellsR4 0 0 0 0)).alloc (cellsR4 0 0 0 0)) (w.heap.size + 2) 0 0 0 0) := fourQ w a b c d e f g h
  have bR0 : Hid (RBox ((((w.alloc (cellsR4 a b c d)).alloc (cellsR4 e f g h)).alloc (cellsR4 0 0 0 0)).alloc (cellsR4 0 0 0 0)) (w.heap.size + 3) 0 0 0 0) := fourR w a b c d e f g h
  have bel0 : Hid (Below w.heap.size w ((((w.alloc (cellsR4 a b c d)).alloc (cellsR4 e f g h)).alloc (cellsR4 0 0 0 0)).alloc (cellsR4 0 0 0 0))) := fourW w a b c d e f g h
  go_enter Try.func49, Try.ntmps49
  go_wp2_with fail
  refine (tP.out _).mono ?_
  rintro ee w1 ⟨rfl, hb1⟩
  have bA1 := hid (bA0.out.below hb1)
  have bB1 := hid (bB0.out.below hb1)
  have bQ1 := hid (bQ0.out.below hb1)
  have bR1 := hid (bR0.out.below hb1)
  have bel1 := hid (bel0.out.trans (hb1.mono bel0.out.size))
  clear hb1 bA0 bB0 bQ0 bR0 bel0
  go_wp2_with fail
  have mkOA := RBox.lt bA1.out
  have mkOB := RBox.lt bB1.out
  have mkOQ := RBox.lt bQ1.out
  have mkOR := RBox.lt bR1.out
  have bA2 := hid (bA1.out.alloc (cellsR4 (x) (y) (z) (u)))
  have bB2 := hid (bB1.out.alloc (cellsR4 (x) (y) (z) (u)))
  have bQ2 := hid (bQ1.out.alloc (cellsR4 (x) (y) (z) (u)))
  have bR2 := hid (bR1.out.alloc (cellsR4 (x) (y) (z) (u)))
  have bO2 := hid (RBox.new w1 (x) (y) (z) (u))
  have bel2 := hid (bel1.out.alloc bel1.out.size (cellsR4 (x) (y) (z) (u)))
  clear bA1 bB1 bQ1 bR1 bel1
  generalize w1.alloc (cellsR4 (x) (y) (z) (u)) = w2 at *
  refine wp_region_held_drew (S := (fun w' => w'.cell? ⟨w1.heap.size, 0, none⟩ = some (.int .i64 (x)) ∧ w'.cell? ⟨w1.heap.size, 1, none⟩ = some (.int .i64 (y)) ∧ w'.cell? ⟨w1.heap.size, 2, none⟩ = some (.int .i64 (z)) ∧ w'.cell? ⟨w1.heap.size, 3, none⟩ = some (.int .i64 (u)))) (by kernel_rfl) (by exact ⟨(RBox.box bO2.out).c0, (RBox.box bO2.out).c1, (RBox.box bO2.out).c2, (RBox.box bO2.out).c3⟩) (fun hHeld => ?_)
  have hA := hid (RBox.drew bA2.out)
  have hB := hid (RBox.drew bB2.out)
  have hQ := hid (RBox.drew bQ2.out)
  have hR := hid (RBox.drew bR2.out)
  have hO := hid (RBox.drew bO2.out)
  have hbel := hid (Below.drew bel2.out)
  clear bA2 bB2 bQ2 bR2 bO2 bel2
  generalize w2.drew = W1 at *
  refine wpAnyH_take (i := 0) (oi := ?oi41) (v := ?v41) (fuel := 5) ?hi41 ?hs41 ?hf41 ?hr41 ?hq41 (Or.inl ⟨?hw41, ?hy41⟩) hHeld ?rest41
  case hi41 => rw [List.getElem?_toArray]; rfl
  case hq41 => exact fun _ _ _ h => h
  case hs41 => kernel_rfl
  case hf41 => kernel_rfl
  case hr41 => kernel_rfl
  case hw41 => rfl
  case hy41 => (intro w1 hSw; (try dsimp only at hSw); go_simp; try with_reducible rfl)
  (try simp only [Act.put, List.setIfInBounds_toArray, List.set_cons_zero, List.set_cons_succ])
  refine wpAnyH_take (i := 1) (oi := ?oi42) (v := ?v42) (fuel := 4) ?hi42 ?hs42 ?hf42 ?hr42 ?hq42 (Or.inl ⟨?hw42, ?hy42⟩) hHeld ?rest42
  case hi42 => rw [List.getElem?_toArray]; rfl
  case hq42 => exact fun _ _ _ h => h
  case hs42 => kernel_rfl
  case hf42 => kernel_rfl
  case hr42 => kernel_rfl
  case hw42 => rfl
  case hy42 => (intro w1 hSw; (try dsimp only at hSw); go_simp; try with_reducible rfl)
  (try simp only [Act.put, List.setIfInBounds_toArray, List.set_cons_zero, List.set_cons_succ])
  refine wpAnyH_take (i := 2) (oi := ?oi43) (v := ?v43) (fuel := 3) ?hi43 ?hs43 ?hf43 ?hr43 ?hq43 (Or.inl ⟨?hw43, ?hy43⟩) hHeld ?rest43
  case hi43 => rw [List.getElem?_toArray]; rfl
  case hq43 => exact fun _ _ _ h => h
  case hs43 => kernel_rfl
  case hf43 => kernel_rfl
  case hr43 => kernel_rfl
  case hw43 => rfl
  case hy43 => (intro w1 hSw; (try dsimp only at hSw); go_simp; try with_reducible rfl)
  (try simp only [Act.put, List.setIfInBounds_toArray, List.set_cons_zero, List.set_cons_succ])
  refine wpAnyH_ready (fuel := 2) (rs := [3]) (by kernel_rfl) (by simp) ?_
  refine AllReadyH.cons (o := ?oi44) ?hi44 (fun K hK => ?st44) AllReadyH.nil
  case hi44 => rw [List.getElem?_toArray]; rfl
  obtain ⟨g0, g1, g2, g3⟩ := RBox.box hQ.out
  have fq := RBox.frozen hQ.out
  go_simp
  clear g0 g1 g2 g3 fq
  replace hA := hid (hA.out.st4o (k := w.heap.size + 2) (by first | omega | (have := RBox.lt hA.out; omega)) (x) (y) (z) (u))
  replace hB := hid (hB.out.st4o (k := w.heap.size + 2) (by first | omega | (have := RBox.lt hB.out; omega)) (x) (y) (z) (u))
  replace hR := hid (hR.out.st4o (k := w.heap.size + 2) (by first | omega | (have := RBox.lt hR.out; omega)) (x) (y) (z) (u))
  replace hO := hid (hO.out.st4o (k := w.heap.size + 2) (by first | omega | (have := RBox.lt hO.out; omega)) (x) (y) (z) (u))
  replace hQ := hid (hQ.out.st4 (x' := x) (y' := y) (z' := z) (u' := u))
  replace hbel := hid (st4_below (w.heap.size + 2) (x) (y) (z) (u) hbel.out (by omega))
  unfold Go.Proofs.Ytcopcajleonndaa.st4 at hbel hA hB hQ hR hO
  generalize ((((W1.setCell ⟨w.heap.size + 2, 0, none⟩ (.int .i64 (x))).setCell ⟨w.heap.size + 2, 1, none⟩ (.int .i64 (y))).setCell ⟨w.heap.size + 2, 2, none⟩ (.int .i64 (z))).setCell ⟨w.heap.size + 2, 3, none⟩ (.int .i64 (u))) = ws3 at *
  refine hK.out _ _ ?hS44 (fun hHeld => ?re44)
  case hS44 => exact ⟨(RBox.box hO.out).c0, (RBox.box hO.out).c1, (RBox.box hO.out).c2, (RBox.box hO.out).c3⟩
  clear hK K
  (try simp only [Act.put, List.setIfInBounds_toArray, List.set_cons_zero, List.set_cons_succ])
  refine wpAnyH_ready (fuel := 1) (rs := [4]) (by kernel_rfl) (by simp) ?_
  refine AllReadyH.cons (o := ?oi45) ?hi45 (fun K hK => ?st45) AllReadyH.nil
  case hi45 => rw [List.getElem?_toArray]; rfl
  obtain ⟨g0, g1, g2, g3⟩ := RBox.box hR.out
  have fq := RBox.frozen hR.out
  go_simp
  clear g0 g1 g2 g3 fq
  replace hA := hid (hA.out.st4o (k := w.heap.size + 3) (by first | omega | (have := RBox.lt hA.out; omega)) (x) (y) (z) (u))
  replace hB := hid (hB.out.st4o (k := w.heap.size + 3) (by first | omega | (have := RBox.lt hB.out; omega)) (x) (y) (z) (u))
  replace hQ := hid (hQ.out.st4o (k := w.heap.size + 3) (by first | omega | (have := RBox.lt hQ.out; omega)) (x) (y) (z) (u))
  replace hO := hid (hO.out.st4o (k := w.heap.size + 3) (by first | omega | (have := RBox.lt hO.out; omega)) (x) (y) (z) (u))
  replace hR := hid (hR.out.st4 (x' := x) (y' := y) (z' := z) (u' := u))
  replace hbel := hid (st4_below (w.heap.size + 3) (x) (y) (z) (u) hbel.out (by omega))
  unfold Go.Proofs.Ytcopcajleonndaa.st4 at hbel hA hB hQ hR hO
  generalize ((((ws3.setCell ⟨w.heap.size + 3, 0, none⟩ (.int .i64 (x))).setCell ⟨w.heap.size + 3, 1, none⟩ (.int .i64 (y))).setCell ⟨w.heap.size + 3, 2, none⟩ (.int .i64 (z))).setCell ⟨w.heap.size + 3, 3, none⟩ (.int .i64 (u))) = ws4 at *
  refine hK.out _ _ ?hS45 (fun hHeld => ?re45)
  case hS45 => exact ⟨(RBox.box hO.out).c0, (RBox.box hO.out).c1, (RBox.box hO.out).c2, (RBox.box hO.out).c3⟩
  clear hK K
  (try simp only [Act.put, List.setIfInBounds_toArray, List.set_cons_zero, List.set_cons_succ])
  refine wpAnyH_take (i := 5) (oi := ?oi46) (v := ?v46) (fuel := 0) ?hi46 ?hs46 ?hf46 ?hr46 ?hq46 (Or.inl ⟨?hw46, ?hy46⟩) hHeld ?rest46
  case hi46 => rw [List.getElem?_toArray]; rfl
  case hq46 => exact fun _ _ _ h => h
  case hs46 => kernel_rfl
  case hf46 => kernel_rfl
  case hr46 => kernel_rfl
  case hw46 => rfl
  case hy46 => (intro w1 hSw; (try dsimp only at hSw); go_simp; try with_reducible rfl)
  (try simp only [Act.put, List.setIfInBounds_toArray, List.set_cons_zero, List.set_cons_succ])
  refine wpAnyH_done (by kernel_rfl) ?_ _
  clear hHeld
  generalize ws4 = w3 at *
  have bA3 := hA
  have bB3 := hB
  have bQ3 := hQ
  have bR3 := hR
  have bO3 := hO
  have bel3 := hbel
  clear hbel hA hB hQ hR hO
  go_wp2_with fail
  obtain ⟨p0, p1, p2, p3⟩ := RBox.box bQ3.out
  obtain ⟨q0, q1, q2, q3⟩ := RBox.box bR3.out
  refine bodyPost_ret (v := .tuple #[rv x y z u, rv x y z u, .bool q]) (by simp [results, Try.results49, go_sem, p0, p1, p2, p3, q0, q1, q2, q3]) rfl ⟨rfl, bel3.out⟩

set_option maxRecDepth 100000 in
set_option maxHeartbeats 2000000 in
theorem w_SB_same2 (a b c d e f g h : Int) (x y z u : Int) (q : Bool) (w : World) (tP : Hid (∀ w, Calls Try.prog 58 #[rv a b c d, rv e f g h] w fun ee w' => ee = .returned (.tuple #[rv x y z u, .bool q]) ∧ Below w.heap.size w w')) :
    Calls Try.prog 49 #[.int .i64 13, rv a b c d, rv e f g h, .bool false] w fun ee w' => ee = .returned (.tuple #[rv x y z u, rv x y z u, .bool q]) ∧ Below w.heap.size w w' := by
  have bA0 : Hid (RBox ((((w.alloc (cellsR4 a b c d)).alloc (cellsR4 e f g h)).alloc (cellsR4 0 0 0 0)).alloc (cellsR4 0 0 0 0)) w.heap.size a b c d) := fourA w a b c d e f g h
  have bB0 : Hid (RBox ((((w.alloc (cellsR4 a b c d)).alloc (cellsR4 e f g h)).alloc (cellsR4 0 0 0 0)).alloc (cellsR4 0 0 0 0)) (w.heap.size + 1) e f g h) := fourB w a b c d e f g h
  have bQ0 : Hid (RBox ((((w.alloc (cellsR4 a b c d)).alloc (cellsR4 e f g h)).alloc (cellsR4 0 0 0 0)).alloc (cellsR4 0 0 0 0)) (w.heap.size + 2) 0 0 0 0) := fourQ w a b c d e f g h
  have bR0 : Hid (RBox ((((w.alloc (cellsR4 a b c d)).alloc (cellsR4 e f g h)).alloc (cellsR4 0 0 0 0)).alloc (cellsR4 0 0 0 0)) (w.heap.size + 3) 0 0 0 0) := fourR w a b c d e f g h
  have bel0 : Hid (Below w.heap.size w ((((w.alloc (cellsR4 a b c d)).alloc (cellsR4 e f g h)).alloc (cellsR4 0 0 0 0)).alloc (cellsR4 0 0 0 0))) := fourW w a b c d e f g h
  go_enter Try.func49, Try.ntmps49
  go_wp2_with fail
  refine (tP.out _).mono ?_
  rintro ee w1 ⟨rfl, hb1⟩
  have bA1 := hid (bA0.out.below hb1)
  have bB1 := hid (bB0.out.below hb1)
  have bQ1 := hid (bQ0.out.below hb1)
  have bR1 := hid (bR0.out.below hb1)
  have bel1 := hid (bel0.out.trans (hb1.mono bel0.out.size))
  clear hb1 bA0 bB0 bQ0 bR0 bel0
  go_wp2_with fail
  have mkOA := RBox.lt bA1.out
  have mkOB := RBox.lt bB1.out
  have mkOQ := RBox.lt bQ1.out
  have mkOR := RBox.lt bR1.out
  have bA2 := hid (bA1.out.alloc (cellsR4 (x) (y) (z) (u)))
  have bB2 := hid (bB1.out.alloc (cellsR4 (x) (y) (z) (u)))
  have bQ2 := hid (bQ1.out.alloc (cellsR4 (x) (y) (z) (u)))
  have bR2 := hid (bR1.out.alloc (cellsR4 (x) (y) (z) (u)))
  have bO2 := hid (RBox.new w1 (x) (y) (z) (u))
  have bel2 := hid (bel1.out.alloc bel1.out.size (cellsR4 (x) (y) (z) (u)))
  clear bA1 bB1 bQ1 bR1 bel1
  generalize w1.alloc (cellsR4 (x) (y) (z) (u)) = w2 at *
  refine wp_region_held_drew (S := (fun w' => w'.cell? ⟨w1.heap.size, 0, none⟩ = some (.int .i64 (x)) ∧ w'.cell? ⟨w1.heap.size, 1, none⟩ = some (.int .i64 (y)) ∧ w'.cell? ⟨w1.heap.size, 2, none⟩ = some (.int .i64 (z)) ∧ w'.cell? ⟨w1.heap.size, 3, none⟩ = some (.int .i64 (u)))) (by kernel_rfl) (by exact ⟨(RBox.box bO2.out).c0, (RBox.box bO2.out).c1, (RBox.box bO2.out).c2, (RBox.box bO2.out).c3⟩) (fun hHeld => ?_)
  have hA := hid (RBox.drew bA2.out)
  have hB := hid (RBox.drew bB2.out)
  have hQ := hid (RBox.drew bQ2.out)
  have hR := hid (RBox.drew bR2.out)
  have hO := hid (RBox.drew bO2.out)
  have hbel := hid (Below.drew bel2.out)
  clear bA2 bB2 bQ2 bR2 bO2 bel2
  generalize w2.drew = W1 at *
  refine wpAnyH_take (i := 0) (oi := ?oi47) (v := ?v47) (fuel := 5) ?hi47 ?hs47 ?hf47 ?hr47 ?hq47 (Or.inl ⟨?hw47, ?hy47⟩) hHeld ?rest47
  case hi47 => rw [List.getElem?_toArray]; rfl
  case hq47 => exact fun _ _ _ h => h
  case hs47 => kernel_rfl
  case hf47 => kernel_rfl
  case hr47 => kernel_rfl
  case hw47 => rfl
  case hy47 => (intro w1 hSw; (try dsimp only at hSw); go_simp; try with_reducible rfl)
  (try simp only [Act.put, List.setIfInBounds_toArray, List.set_cons_zero, List.set_cons_succ])
  refine wpAnyH_take (i := 1) (oi := ?oi48) (v := ?v48) (fuel := 4) ?hi48 ?hs48 ?hf48 ?hr48 ?hq48 (Or.inl ⟨?hw48, ?hy48⟩) hHeld ?rest48
  case hi48 => rw [List.getElem?_toArray]; rfl
  case hq48 => exact fun _ _ _ h => h
  case hs48 => kernel_rfl
  case hf48 => kernel_rfl
  case hr48 => kernel_rfl
  case hw48 => rfl
  case hy48 => (intro w1 hSw; (try dsimp only at hSw); go_simp; try with_reducible rfl)
  (try simp only [Act.put, List.setIfInBounds_toArray, List.set_cons_zero, List.set_cons_succ])
  refine wpAnyH_take (i := 2) (oi := ?oi49) (v := ?v49) (fuel := 3) ?hi49 ?hs49 ?hf49 ?hr49 ?hq49 (Or.inl ⟨?hw49, ?hy49⟩) hHeld ?rest49
  case hi49 => rw [List.getElem?_toArray]; rfl
  case hq49 => exact fun _ _ _ h => h
  case hs49 => kernel_rfl
  case hf49 => kernel_rfl
  case hr49 => kernel_rfl
  case hw49 => rfl
  case hy49 => (intro w1 hSw; (try dsimp only at hSw); go_simp; try with_reducible rfl)
  (try simp only [Act.put, List.setIfInBounds_toArray, List.set_cons_zero, List.set_cons_succ])
  refine wpAnyH_ready (fuel := 2) (rs := [3]) (by kernel_rfl) (by simp) ?_
  refine AllReadyH.cons (o := ?oi50) ?hi50 (fun K hK => ?st50) AllReadyH.nil
  case hi50 => rw [List.getElem?_toArray]; rfl
  obtain ⟨g0, g1, g2, g3⟩ := RBox.box hQ.out
  have fq := RBox.frozen hQ.out
  go_simp
  clear g0 g1 g2 g3 fq
  replace hA := hid (hA.out.st4o (k := w.heap.size + 2) (by first | omega | (have := RBox.lt hA.out; omega)) (x) (y) (z) (u))
  replace hB := hid (hB.out.st4o (k := w.heap.size + 2) (by first | omega | (have := RBox.lt hB.out; omega)) (x) (y) (z) (u))
  replace hR := hid (hR.out.st4o (k := w.heap.size + 2) (by first | omega | (have := RBox.lt hR.out; omega)) (x) (y) (z) (u))
  replace hO := hid (hO.out.st4o (k := w.heap.size + 2) (by first | omega | (have := RBox.lt hO.out; omega)) (x) (y) (z) (u))
  replace hQ := hid (hQ.out.st4 (x' := x) (y' := y) (z' := z) (u' := u))
  replace hbel := hid (st4_below (w.heap.size + 2) (x) (y) (z) (u) hbel.out (by omega))
  unfold Go.Proofs.Ytcopcajleonndaa.st4 at hbel hA hB hQ hR hO
  generalize ((((W1.setCell ⟨w.heap.size + 2, 0, none⟩ (.int .i64 (x))).setCell ⟨w.heap.size + 2, 1, none⟩ (.int .i64 (y))).setCell ⟨w.heap.size + 2, 2, none⟩ (.int .i64 (z))).setCell ⟨w.heap.size + 2, 3, none⟩ (.int .i64 (u))) = ws3 at *
  refine hK.out _ _ ?hS50 (fun hHeld => ?re50)
  case hS50 => exact ⟨(RBox.box hO.out).c0, (RBox.box hO.out).c1, (RBox.box hO.out).c2, (RBox.box hO.out).c3⟩
  clear hK K
  (try simp only [Act.put, List.setIfInBounds_toArray, List.set_cons_zero, List.set_cons_succ])
  refine wpAnyH_ready (fuel := 1) (rs := [4]) (by kernel_rfl) (by simp) ?_
  refine AllReadyH.cons (o := ?oi51) ?hi51 (fun K hK => ?st51) AllReadyH.nil
  case hi51 => rw [List.getElem?_toArray]; rfl
  obtain ⟨g0, g1, g2, g3⟩ := RBox.box hR.out
  have fq := RBox.frozen hR.out
  go_simp
  clear g0 g1 g2 g3 fq
  replace hA := hid (hA.out.st4o (k := w.heap.size + 3) (by first | omega | (have := RBox.lt hA.out; omega)) (x) (y) (z) (u))
  replace hB := hid (hB.out.st4o (k := w.heap.size + 3) (by first | omega | (have := RBox.lt hB.out; omega)) (x) (y) (z) (u))
  replace hQ := hid (hQ.out.st4o (k := w.heap.size + 3) (by first | omega | (have := RBox.lt hQ.out; omega)) (x) (y) (z) (u))
  replace hO := hid (hO.out.st4o (k := w.heap.size + 3) (by first | omega | (have := RBox.lt hO.out; omega)) (x) (y) (z) (u))
  replace hR := hid (hR.out.st4 (x' := x) (y' := y) (z' := z) (u' := u))
  replace hbel := hid (st4_below (w.heap.size + 3) (x) (y) (z) (u) hbel.out (by omega))
  unfold Go.Proofs.Ytcopcajleonndaa.st4 at hbel hA hB hQ hR hO
  generalize ((((ws3.setCell ⟨w.heap.size + 3, 0, none⟩ (.int .i64 (x))).setCell ⟨w.heap.size + 3, 1, none⟩ (.int .i64 (y))).setCell ⟨w.heap.size + 3, 2, none⟩ (.int .i64 (z))).setCell ⟨w.heap.size + 3, 3, none⟩ (.int .i64 (u))) = ws4 at *
  refine hK.out _ _ ?hS51 (fun hHeld => ?re51)
  case hS51 => exact ⟨(RBox.box hO.out).c0, (RBox.box hO.out).c1, (RBox.box hO.out).c2, (RBox.box hO.out).c3⟩
  clear hK K
  (try simp only [Act.put, List.setIfInBounds_toArray, List.set_cons_zero, List.set_cons_succ])
  refine wpAnyH_take (i := 5) (oi := ?oi52) (v := ?v52) (fuel := 0) ?hi52 ?hs52 ?hf52 ?hr52 ?hq52 (Or.inl ⟨?hw52, ?hy52⟩) hHeld ?rest52
  case hi52 => rw [List.getElem?_toArray]; rfl
  case hq52 => exact fun _ _ _ h => h
  case hs52 => kernel_rfl
  case hf52 => kernel_rfl
  case hr52 => kernel_rfl
  case hw52 => rfl
  case hy52 => (intro w1 hSw; (try dsimp only at hSw); go_simp; try with_reducible rfl)
  (try simp only [Act.put, List.setIfInBounds_toArray, List.set_cons_zero, List.set_cons_succ])
  refine wpAnyH_done (by kernel_rfl) ?_ _
  clear hHeld
  generalize ws4 = w3 at *
  have bA3 := hA
  have bB3 := hB
  have bQ3 := hQ
  have bR3 := hR
  have bO3 := hO
  have bel3 := hbel
  clear hbel hA hB hQ hR hO
  go_wp2_with fail
  obtain ⟨p0, p1, p2, p3⟩ := RBox.box bQ3.out
  obtain ⟨q0, q1, q2, q3⟩ := RBox.box bR3.out
  refine bodyPost_ret (v := .tuple #[rv x y z u, rv x y z u, .bool q]) (by simp [results, Try.results49, go_sem, p0, p1, p2, p3, q0, q1, q2, q3]) rfl ⟨rfl, bel3.out⟩

set_option maxRecDepth 100000 in
set_option maxHeartbeats 2000000 in
theorem w_SB_other_no1 (a b c d e f g h : Int) (x y z u x' y' z' u' : Int) (q' : Bool) (w : World) (tP : Hid (∀ w, Calls Try.prog 59 #[rv a b c d, rv e f g h] w fun ee w' => ee = .returned (.tuple #[rv x y z u, .bool false]) ∧ Below w.heap.size w w')) (tQ : Hid (∀ w, Calls Try.prog 59 #[rv e f g h, rv a b c d] w fun ee w' => ee = .returned (.tuple #[rv x' y' z' u', .bool q']) ∧ Below w.heap.size w w')) :
    Calls Try.prog 49 #[.int .i64 12, rv a b c d, rv e f g h, .bool false] w fun ee w' => ee = .returned (.tuple #[rv 1 0 0 0, rv 1 0 0 0, .bool false]) ∧ Below w.heap.size w w' := by
  have bA0 : Hid (RBox ((((w.alloc (cellsR4 a b c d)).alloc (cellsR4 e f g h)).alloc (cellsR4 0 0 0 0)).alloc (cellsR4 0 0 0 0)) w.heap.size a b c d) := fourA w a b c d e f g h
  have bB0 : Hid (RBox ((((w.alloc (cellsR4 a b c d)).alloc (cellsR4 e f g h)).alloc (cellsR4 0 0 0 0)).alloc (cellsR4 0 0 0 0)) (w.heap.size + 1) e f g h) := fourB w a b c d e f g h
  have bQ0 : Hid (RBox ((((w.alloc (cellsR4 a b c d)).alloc (cellsR4 e f g h)).alloc (cellsR4 0 0 0 0)).alloc (cellsR4 0 0 0 0)) (w.heap.size + 2) 0 0 0 0) := fourQ w a b c d e f g h
  have bR0 : Hid (RBox ((((w.alloc (cellsR4 a b c d)).alloc (cellsR4 e f g h)).alloc (cellsR4 0 0 0 0)).alloc (cellsR4 0 0 0 0)) (w.heap.size + 3) 0 0 0 0) := fourR w a b c d e f g h
  have bel0 : Hid (Below w.heap.size w ((((w.alloc (cellsR4 a b c d)).alloc (cellsR4 e f g h)).alloc (cellsR4 0 0 0 0)).alloc (cellsR4 0 0 0 0))) := fourW w a b c d e f g h
  go_enter Try.func49, Try.ntmps49
  go_wp2_with fail
  refine (tP.out _).mono ?_
  rintro ee w1 ⟨rfl, hb1⟩
  have bA1 := hid (bA0.out.below hb1)
  have bB1 := hid (bB0.out.below hb1)
  have bQ1 := hid (bQ0.out.below hb1)
  have bR1 := hid (bR0.out.below hb1)
  have bel1 := hid (bel0.out.trans (hb1.mono bel0.out.size))
  clear hb1 bA0 bB0 bQ0 bR0 bel0
  obtain ⟨cA0, cA1, cA2, cA3⟩ := RBox.box bA1.out
  obtain ⟨cB0, cB1, cB2, cB3⟩ := RBox.box bB1.out
  have ltA := RBox.lt bA1.out
  have ltB := RBox.lt bB1.out
  go_wp2_with fail
  have mkOA := RBox.lt bA1.out
  have mkOB := RBox.lt bB1.out
  have mkOQ := RBox.lt bQ1.out
  have mkOR := RBox.lt bR1.out
  have bA2 := hid (bA1.out.alloc (cellsR4 (x) (y) (z) (u)))
  have bB2 := hid (bB1.out.alloc (cellsR4 (x) (y) (z) (u)))
  have bQ2 := hid (bQ1.out.alloc (cellsR4 (x) (y) (z) (u)))
  have bR2 := hid (bR1.out.alloc (cellsR4 (x) (y) (z) (u)))
  have bO2 := hid (RBox.new w1 (x) (y) (z) (u))
  have bel2 := hid (bel1.out.alloc bel1.out.size (cellsR4 (x) (y) (z) (u)))
  clear bA1 bB1 bQ1 bR1 bel1
  generalize w1.alloc (cellsR4 (x) (y) (z) (u)) = w2 at *
  clear cA0 cA1 cA2 cA3 cB0 cB1 cB2 cB3
  obtain ⟨cA0, cA1, cA2, cA3⟩ := RBox.box bA2.out
  obtain ⟨cB0, cB1, cB2, cB3⟩ := RBox.box bB2.out
  refine (tQ.out _).mono ?_
  rintro ee w3 ⟨rfl, hb3⟩
  have bA3 := hid (bA2.out.below hb3)
  have bB3 := hid (bB2.out.below hb3)
  have bQ3 := hid (bQ2.out.below hb3)
  have bR3 := hid (bR2.out.below hb3)
  have bO3 := hid (bO2.out.below hb3)
  have bel3 := hid (bel2.out.trans (hb3.mono bel2.out.size))
  clear hb3 bA2 bB2 bQ2 bR2 bO2 bel2
  clear cA0 cA1 cA2 cA3 cB0 cB1 cB2 cB3
  obtain ⟨cQ0, cQ1, cQ2, cQ3⟩ := RBox.box bQ3.out
  obtain ⟨cR0, cR1, cR2, cR3⟩ := RBox.box bR3.out
  have frQ := RBox.frozen bQ3.out
  have frR := RBox.frozen bR3.out
  have ltQ := RBox.lt bQ3.out
  have ltR := RBox.lt bR3.out
  go_wp2_with fail
  have bA4 := hid (bA3.out.st4o (k := w.heap.size + 2) (by first | omega | (have := RBox.lt bA3.out; omega)) (1) (0) (0) (0))
  have bB4 := hid (bB3.out.st4o (k := w.heap.size + 2) (by first | omega | (have := RBox.lt bB3.out; omega)) (1) (0) (0) (0))
  have bQ4 := hid (bQ3.out.st4 (x' := 1) (y' := 0) (z' := 0) (u' := 0))
  have bR4 := hid (bR3.out.st4o (k := w.heap.size + 2) (by first | omega | (have := RBox.lt bR3.out; omega)) (1) (0) (0) (0))
  have bO4 := hid (bO3.out.st4o (k := w.heap.size + 2) (by first | omega | (have := RBox.lt bO3.out; omega)) (1) (0) (0) (0))
  have bel4 := hid (st4_below (w.heap.size + 2) (1) (0) (0) (0) bel3.out (by omega))
  clear bA3 bB3 bQ3 bR3 bO3 bel3
  unfold Go.Proofs.Ytcopcajleonndaa.st4 at bel4 bA4 bB4 bQ4 bR4 bO4
  generalize ((((w3.setCell ⟨w.heap.size + 2, 0, none⟩ (.int .i64 (1))).setCell ⟨w.heap.size + 2, 1, none⟩ (.int .i64 (0))).setCell ⟨w.heap.size + 2, 2, none⟩ (.int .i64 (0))).setCell ⟨w.heap.size + 2, 3, none⟩ (.int .i64 (0))) = w4 at *
  have bA5 := hid (bA4.out.st4o (k := w.heap.size + 3) (by first | omega | (have := RBox.lt bA4.out; omega)) (1) (0) (0) (0))
  have bB5 := hid (bB4.out.st4o (k := w.heap.size + 3) (by first | omega | (have := RBox.lt bB4.out; omega)) (1) (0) (0) (0))
  have bQ5 := hid (bQ4.out.st4o (k := w.heap.size + 3) (by first | omega | (have := RBox.lt bQ4.out; omega)) (1) (0) (0) (0))
  have bR5 := hid (bR4.out.st4 (x' := 1) (y' := 0) (z' := 0) (u' := 0))
  have bO5 := hid (bO4.out.st4o (k := w.heap.size + 3) (by first | omega | (have := RBox.lt bO4.out; omega)) (1) (0) (0) (0))
  have bel5 := hid (st4_below (w.heap.size + 3) (1) (0) (0) (0) bel4.out (by omega))
  clear bA4 bB4 bQ4 bR4 bO4 bel4
  unfold Go.Proofs.Ytcopcajleonndaa.st4 at bel5 bA5 bB5 bQ5 bR5 bO5
  generalize ((((w4.setCell ⟨w.heap.size + 3, 0, none⟩ (.int .i64 (1))).setCell ⟨w.heap.size + 3, 1, none⟩ (.int .i64 (0))).setCell ⟨w.heap.size + 3, 2, none⟩ (.int .i64 (0))).setCell ⟨w.heap.size + 3, 3, none⟩ (.int .i64 (0))) = w5 at *
  clear cQ0 cQ1 cQ2 cQ3 cR0 cR1 cR2 cR3
  clear frQ frR
  have mkPA := RBox.lt bA5.out
  have mkPB := RBox.lt bB5.out
  have mkPQ := RBox.lt bQ5.out
  have mkPR := RBox.lt bR5.out
  have mkPO := RBox.lt bO5.out
  have bA6 := hid (bA5.out.alloc (cellsR4 (x') (y') (z') (u')))
  have bB6 := hid (bB5.out.alloc (cellsR4 (x') (y') (z') (u')))
  have bQ6 := hid (bQ5.out.alloc (cellsR4 (x') (y') (z') (u')))
  have bR6 := hid (bR5.out.alloc (cellsR4 (x') (y') (z') (u')))
  have bO6 := hid (bO5.out.alloc (cellsR4 (x') (y') (z') (u')))
  have bP6 := hid (RBox.new w5 (x') (y') (z') (u'))
  have bel6 := hid (bel5.out.alloc bel5.out.size (cellsR4 (x') (y') (z') (u')))
  clear bA5 bB5 bQ5 bR5 bO5 bel5
  generalize w5.alloc (cellsR4 (x') (y') (z') (u')) = w6 at *
  obtain ⟨p0, p1, p2, p3⟩ := RBox.box bQ6.out
  obtain ⟨q0, q1, q2, q3⟩ := RBox.box bR6.out
  refine bodyPost_ret (v := .tuple #[rv 1 0 0 0, rv 1 0 0 0, .bool false]) (by simp [results, Try.results49, go_sem, p0, p1, p2, p3, q0, q1, q2, q3]) rfl ⟨rfl, bel6.out⟩

set_option maxRecDepth 100000 in
set_option maxHeartbeats 2000000 in
theorem w_SB_other_no2 (a b c d e f g h : Int) (x y z u x' y' z' u' : Int) (w : World) (tP : Hid (∀ w, Calls Try.prog 59 #[rv a b c d, rv e f g h] w fun ee w' => ee = .returned (.tuple #[rv x y z u, .bool true]) ∧ Below w.heap.size w w')) (tQ : Hid (∀ w, Calls Try.prog 59 #[rv e f g h, rv a b c d] w fun ee w' => ee = .returned (.tuple #[rv x' y' z' u', .bool false]) ∧ Below w.heap.size w w')) :
    Calls Try.prog 49 #[.int .i64 12, rv a b c d, rv e f g h, .bool false] w fun ee w' => ee = .returned (.tuple #[rv 1 0 0 0, rv 1 0 0 0, .bool false]) ∧ Below w.heap.size w w' := by
  have bA0 : Hid (RBox ((((w.alloc (cellsR4 a b c d)).alloc (cellsR4 e f g h)).alloc (cellsR4 0 0 0 0)).alloc (cellsR4 0 0 0 0)) w.heap.size a b c d) := fourA w a b c d e f g h
  have bB0 : Hid (RBox ((((w.alloc (cellsR4 a b c d)).alloc (cellsR4 e f g h)).alloc (cellsR4 0 0 0 0)).alloc (cellsR4 0 0 0 0)) (w.heap.size + 1) e f g h) := fourB w a b c d e f g h
  have bQ0 : Hid (RBox ((((w.alloc (cellsR4 a b c d)).alloc (cellsR4 e f g h)).alloc (cellsR4 0 0 0 0)).alloc (cellsR4 0 0 0 0)) (w.heap.size + 2) 0 0 0 0) := fourQ w a b c d e f g h
  have bR0 : Hid (RBox ((((w.alloc (cellsR4 a b c d)).alloc (cellsR4 e f g h)).alloc (cellsR4 0 0 0 0)).alloc (cellsR4 0 0 0 0)) (w.heap.size + 3) 0 0 0 0) := fourR w a b c d e f g h
  have bel0 : Hid (Below w.heap.size w ((((w.alloc (cellsR4 a b c d)).alloc (cellsR4 e f g h)).alloc (cellsR4 0 0 0 0)).alloc (cellsR4 0 0 0 0))) := fourW w a b c d e f g h
  go_enter Try.func49, Try.ntmps49
  go_wp2_with fail
  refine (tP.out _).mono ?_
  rintro ee w1 ⟨rfl, hb1⟩
  have bA1 := hid (bA0.out.below hb1)
  have bB1 := hid (bB0.out.below hb1)
  have bQ1 := hid (bQ0.out.below hb1)
  have bR1 := hid (bR0.out.below hb1)
  have bel1 := hid (bel0.out.trans (hb1.mono bel0.out.size))
  clear hb1 bA0 bB0 bQ0 bR0 bel0
  obtain ⟨cA0, cA1, cA2, cA3⟩ := RBox.box bA1.out
  obtain ⟨cB0, cB1, cB2, cB3⟩ := RBox.box bB1.out
  have ltA := RBox.lt bA1.out
  have ltB := RBox.lt bB1.out
  go_wp2_with fail
  have mkOA := RBox.lt bA1.out
  have mkOB := RBox.lt bB1.out
  have mkOQ := RBox.lt bQ1.out
  have mkOR := RBox.lt bR1.out
  have bA2 := hid (bA1.out.alloc (cellsR4 (x) (y) (z) (u)))
  have bB2 := hid (bB1.out.alloc (cellsR4 (x) (y) (z) (u)))
  have bQ2 := hid (bQ1.out.alloc (cellsR4 (x) (y) (z) (u)))
  have bR2 := hid (bR1.out.alloc (cellsR4 (x) (y) (z) (u)))
  have bO2 := hid (RBox.new w1 (x) (y) (z) (u))
  have bel2 := hid (bel1.out.alloc bel1.out.size (cellsR4 (x) (y) (z) (u)))
  clear bA1 bB1 bQ1 bR1 bel1
  generalize w1.alloc (cellsR4 (x) (y) (z) (u)) = w2 at *
  clear cA0 cA1 cA2 cA3 cB0 cB1 cB2 cB3
  obtain ⟨cA0, cA1, cA2, cA3⟩ := RBox.box bA2.out
  obtain ⟨cB0, cB1, cB2, cB3⟩ := RBox.box bB2.out
  refine (tQ.out _).mono ?_
  rintro ee w3 ⟨rfl, hb3⟩
  have bA3 := hid (bA2.out.below hb3)
  have bB3 := hid (bB2.out.below hb3)
  have bQ3 := hid (bQ2.out.below hb3)
  have bR3 := hid (bR2.out.below hb3)
  have bO3 := hid (bO2.out.below hb3)
  have bel3 := hid (bel2.out.trans (hb3.mono bel2.out.size))
  clear hb3 bA2 bB2 bQ2 bR2 bO2 bel2
  clear cA0 cA1 cA2 cA3 cB0 cB1 cB2 cB3
  obtain ⟨cQ0, cQ1, cQ2, cQ3⟩ := RBox.box bQ3.out
  obtain ⟨cR0, cR1, cR2, cR3⟩ := RBox.box bR3.out
  have frQ := RBox.frozen bQ3.out
  have frR := RBox.frozen bR3.out
  have ltQ := RBox.lt bQ3.out
  have ltR := RBox.lt bR3.out
  go_wp2_with fail
  have bA4 := hid (bA3.out.st4o (k := w.heap.size + 2) (by first | omega | (have := RBox.lt bA3.out; omega)) (1) (0) (0) (0))
  have bB4 := hid (bB3.out.st4o (k := w.heap.size + 2) (by first | omega | (have := RBox.lt bB3.out; omega)) (1) (0) (0) (0))
  have bQ4 := hid (bQ3.out.st4 (x' := 1) (y' := 0) (z' := 0) (u' := 0))
  have bR4 := hid (bR3.out.st4o (k := w.heap.size + 2) (by first | omega | (have := RBox.lt bR3.out; omega)) (1) (0) (0) (0))
  have bO4 := hid (bO3.out.st4o (k := w.heap.size + 2) (by first | omega | (have := RBox.lt bO3.out; omega)) (1) (0) (0) (0))
  have bel4 := hid (st4_below (w.heap.size + 2) (1) (0) (0) (0) bel3.out (by omega))
  clear bA3 bB3 bQ3 bR3 bO3 bel3
  unfold Go.Proofs.Ytcopcajleonndaa.st4 at bel4 bA4 bB4 bQ4 bR4 bO4
  generalize ((((w3.setCell ⟨w.heap.size + 2, 0, none⟩ (.int .i64 (1))).setCell ⟨w.heap.size + 2, 1, none⟩ (.int .i64 (0))).setCell ⟨w.heap.size + 2, 2, none⟩ (.int .i64 (0))).setCell ⟨w.heap.size + 2, 3, none⟩ (.int .i64 (0))) = w4 at *
  have bA5 := hid (bA4.out.st4o (k := w.heap.size + 3) (by first | omega | (have := RBox.lt bA4.out; omega)) (1) (0) (0) (0))
  have bB5 := hid (bB4.out.st4o (k := w.heap.size + 3) (by first | omega | (have := RBox.lt bB4.out; omega)) (1) (0) (0) (0))
  have bQ5 := hid (bQ4.out.st4o (k := w.heap.size + 3) (by first | omega | (have := RBox.lt bQ4.out; omega)) (1) (0) (0) (0))
  have bR5 := hid (bR4.out.st4 (x' := 1) (y' := 0) (z' := 0) (u' := 0))
  have bO5 := hid (bO4.out.st4o (k := w.heap.size + 3) (by first | omega | (have := RBox.lt bO4.out; omega)) (1) (0) (0) (0))
  have bel5 := hid (st4_below (w.heap.size + 3) (1) (0) (0) (0) bel4.out (by omega))
  clear bA4 bB4 bQ4 bR4 bO4 bel4
  unfold Go.Proofs.Ytcopcajleonndaa.st4 at bel5 bA5 bB5 bQ5 bR5 bO5
  generalize ((((w4.setCell ⟨w.heap.size + 3, 0, none⟩ (.int .i64 (1))).setCell ⟨w.heap.size + 3, 1, none⟩ (.int .i64 (0))).setCell ⟨w.heap.size + 3, 2, none⟩ (.int .i64 (0))).setCell ⟨w.heap.size + 3, 3, none⟩ (.int .i64 (0))) = w5 at *
  clear cQ0 cQ1 cQ2 cQ3 cR0 cR1 cR2 cR3
  clear frQ frR
  have mkPA := RBox.lt bA5.out
  have mkPB := RBox.lt bB5.out
  have mkPQ := RBox.lt bQ5.out
  have mkPR := RBox.lt bR5.out
  have mkPO := RBox.lt bO5.out
  have bA6 := hid (bA5.out.alloc (cellsR4 (x') (y') (z') (u')))
  have bB6 := hid (bB5.out.alloc (cellsR4 (x') (y') (z') (u')))
  have bQ6 := hid (bQ5.out.alloc (cellsR4 (x') (y') (z') (u')))
  have bR6 := hid (bR5.out.alloc (cellsR4 (x') (y') (z') (u')))
  have bO6 := hid (bO5.out.alloc (cellsR4 (x') (y') (z') (u')))
  have bP6 := hid (RBox.new w5 (x') (y') (z') (u'))
  have bel6 := hid (bel5.out.alloc bel5.out.size (cellsR4 (x') (y') (z') (u')))
  clear bA5 bB5 bQ5 bR5 bO5 bel5
  generalize w5.alloc (cellsR4 (x') (y') (z') (u')) = w6 at *
  obtain ⟨p0, p1, p2, p3⟩ := RBox.box bQ6.out
  obtain ⟨q0, q1, q2, q3⟩ := RBox.box bR6.out
  refine bodyPost_ret (v := .tuple #[rv 1 0 0 0, rv 1 0 0 0, .bool false]) (by simp [results, Try.results49, go_sem, p0, p1, p2, p3, q0, q1, q2, q3]) rfl ⟨rfl, bel6.out⟩

set_option maxRecDepth 100000 in
set_option maxHeartbeats 2000000 in
theorem w_SB_other_yes (a b c d e f g h : Int) (x y z u x' y' z' u' : Int) (w : World) (tP : Hid (∀ w, Calls Try.prog 59 #[rv a b c d, rv e f g h] w fun ee w' => ee = .returned (.tuple #[rv x y z u, .bool true]) ∧ Below w.heap.size w w')) (tQ : Hid (∀ w, Calls Try.prog 59 #[rv e f g h, rv a b c d] w fun ee w' => ee = .returned (.tuple #[rv x' y' z' u', .bool true]) ∧ Below w.heap.size w w')) :
    Calls Try.prog 49 #[.int .i64 12, rv a b c d, rv e f g h, .bool false] w fun ee w' => ee = .returned (.tuple #[rv x y z u, rv x' y' z' u', .bool true]) ∧ Below w.heap.size w w' := by
  have bA0 : Hid (RBox ((((w.alloc (cellsR4 a b c d)).alloc (cellsR4 e f g h)).alloc (cellsR4 0 0 0 0)).alloc (cellsR4 0 0 0 0)) w.heap.size a b c d) := fourA w a b c d e f g h
  have bB0 : Hid (RBox ((((w.alloc (cellsR4 a b c d)).alloc (cellsR4 e f g h)).alloc (cellsR4 0 0 0 0)).alloc (cellsR4 0 0 0 0)) (w.heap.size + 1) e f g h) := fourB w a b c d e f g h
  have bQ0 : Hid (RBox ((((w.alloc (cellsR4 a b c d)).alloc (cellsR4 e f g h)).alloc (cellsR4 0 0 0 0)).alloc (cellsR4 0 0 0 0)) (w.heap.size + 2) 0 0 0 0) := fourQ w a b c d e f g h
  have bR0 : Hid (RBox ((((w.alloc (cellsR4 a b c d)).alloc (cellsR4 e f g h)).alloc (cellsR4 0 0 0 0)).alloc (cellsR4 0 0 0 0)) (w.heap.size + 3) 0 0 0 0) := fourR w a b c d e f g h
  have bel0 : Hid (Below w.heap.size w ((((w.alloc (cellsR4 a b c d)).alloc (cellsR4 e f g h)).alloc (cellsR4 0 0 0 0)).alloc (cellsR4 0 0 0 0))) := fourW w a b c d e f g h
  go_enter Try.func49, Try.ntmps49
  go_wp2_with fail
  refine (tP.out _).mono ?_
  rintro ee w1 ⟨rfl, hb1⟩
  have bA1 := hid (bA0.out.below hb1)
  have bB1 := hid (bB0.out.below hb1)
  have bQ1 := hid (bQ0.out.below hb1)
  have bR1 := hid (bR0.out.below hb1)
  have bel1 := hid (bel0.out.trans (hb1.mono bel0.out.size))
  clear hb1 bA0 bB0 bQ0 bR0 bel0
  obtain ⟨cA0, cA1, cA2, cA3⟩ := RBox.box bA1.out
  obtain ⟨cB0, cB1, cB2, cB3⟩ := RBox.box bB1.out
  have ltA := RBox.lt bA1.out
  have ltB := RBox.lt bB1.out
  go_wp2_with fail
  have mkOA := RBox.lt bA1.out
  have mkOB := RBox.lt bB1.out
  have mkOQ := RBox.lt bQ1.out
  have mkOR := RBox.lt bR1.out
  have bA2 := hid (bA1.out.alloc (cellsR4 (x) (y) (z) (u)))
  have bB2 := hid (bB1.out.alloc (cellsR4 (x) (y) (z) (u)))
  have bQ2 := hid (bQ1.out.alloc (cellsR4 (x) (y) (z) (u)))
  have bR2 := hid (bR1.out.alloc (cellsR4 (x) (y) (z) (u)))
  have bO2 := hid (RBox.new w1 (x) (y) (z) (u))
  have bel2 := hid (bel1.out.alloc bel1.out.size (cellsR4 (x) (y) (z) (u)))
  clear bA1 bB1 bQ1 bR1 bel1
  generalize w1.alloc (cellsR4 (x) (y) (z) (u)) = w2 at *
  clear cA0 cA1 cA2 cA3 cB0 cB1 cB2 cB3
  obtain ⟨cA0, cA1, cA2, cA3⟩ := RBox.box bA2.out
  obtain ⟨cB0, cB1, cB2, cB3⟩ := RBox.box bB2.out
  refine (tQ.out _).mono ?_
  rintro ee w3 ⟨rfl, hb3⟩
  have bA3 := hid (bA2.out.below hb3)
  have bB3 := hid (bB2.out.below hb3)
  have bQ3 := hid (bQ2.out.below hb3)
  have bR3 := hid (bR2.out.below hb3)
  have bO3 := hid (bO2.out.below hb3)
  have bel3 := hid (bel2.out.trans (hb3.mono bel2.out.size))
  clear hb3 bA2 bB2 bQ2 bR2 bO2 bel2
  clear cA0 cA1 cA2 cA3 cB0 cB1 cB2 cB3
  go_wp2_with fail
  have mkPA := RBox.lt bA3.out
  have mkPB := RBox.lt bB3.out
  have mkPQ := RBox.lt bQ3.out
  have mkPR := RBox.lt bR3.out
  have mkPO := RBox.lt bO3.out
  have bA4 := hid (bA3.out.alloc (cellsR4 (x') (y') (z') (u')))
  have bB4 := hid (bB3.out.alloc (cellsR4 (x') (y') (z') (u')))
  have bQ4 := hid (bQ3.out.alloc (cellsR4 (x') (y') (z') (u')))
  have bR4 := hid (bR3.out.alloc (cellsR4 (x') (y') (z') (u')))
  have bO4 := hid (bO3.out.alloc (cellsR4 (x') (y') (z') (u')))
  have bP4 := hid (RBox.new w3 (x') (y') (z') (u'))
  have bel4 := hid (bel3.out.alloc bel3.out.size (cellsR4 (x') (y') (z') (u')))
  clear bA3 bB3 bQ3 bR3 bO3 bel3
  generalize w3.alloc (cellsR4 (x') (y') (z') (u')) = w4 at *
  refine wp_region_held_drew (S := (fun w' => w'.cell? ⟨w1.heap.size, 0, none⟩ = some (.int .i64 (x)) ∧ w'.cell? ⟨w1.heap.size, 1, none⟩ = some (.int .i64 (y)) ∧ w'.cell? ⟨w1.heap.size, 2, none⟩ = some (.int .i64 (z)) ∧ w'.cell? ⟨w1.heap.size, 3, none⟩ = some (.int .i64 (u)) ∧ w'.cell? ⟨w3.heap.size, 0, none⟩ = some (.int .i64 (x')) ∧ w'.cell? ⟨w3.heap.size, 1, none⟩ = some (.int .i64 (y')) ∧ w'.cell? ⟨w3.heap.size, 2, none⟩ = some (.int .i64 (z')) ∧ w'.cell? ⟨w3.heap.size, 3, none⟩ = some (.int .i64 (u')))) (by kernel_rfl) (by exact ⟨(RBox.box bO4.out).c0, (RBox.box bO4.out).c1, (RBox.box bO4.out).c2, (RBox.box bO4.out).c3, (RBox.box bP4.out).c0, (RBox.box bP4.out).c1, (RBox.box bP4.out).c2, (RBox.box bP4.out).c3⟩) (fun hHeld => ?_)
  have hA := hid (RBox.drew bA4.out)
  have hB := hid (RBox.drew bB4.out)
  have hQ := hid (RBox.drew bQ4.out)
  have hR := hid (RBox.drew bR4.out)
  have hO := hid (RBox.drew bO4.out)
  have hP := hid (RBox.drew bP4.out)
  have hbel := hid (Below.drew bel4.out)
  clear bA4 bB4 bQ4 bR4 bO4 bP4 bel4
  generalize w4.drew = W1 at *
  refine wpAnyH_take (i := 0) (oi := ?oi53) (v := ?v53) (fuel := 4) ?hi53 ?hs53 ?hf53 ?hr53 ?hq53 (Or.inl ⟨?hw53, ?hy53⟩) hHeld ?rest53
  case hi53 => rw [List.getElem?_toArray]; rfl
  case hq53 => exact fun _ _ _ h => h
  case hs53 => kernel_rfl
  case hf53 => kernel_rfl
  case hr53 => kernel_rfl
  case hw53 => rfl
  case hy53 => (intro w1 hSw; (try dsimp only at hSw); go_simp; try with_reducible rfl)
  (try simp only [Act.put, List.setIfInBounds_toArray, List.set_cons_zero, List.set_cons_succ])
  refine wpAnyH_take (i := 1) (oi := ?oi54) (v := ?v54) (fuel := 3) ?hi54 ?hs54 ?hf54 ?hr54 ?hq54 (Or.inl ⟨?hw54, ?hy54⟩) hHeld ?rest54
  case hi54 => rw [List.getElem?_toArray]; rfl
  case hq54 => exact fun _ _ _ h => h
  case hs54 => kernel_rfl
  case hf54 => kernel_rfl
  case hr54 => kernel_rfl
  case hw54 => rfl
  case hy54 => (intro w1 hSw; (try dsimp only at hSw); go_simp; try with_reducible rfl)
  (try simp only [Act.put, List.setIfInBounds_toArray, List.set_cons_zero, List.set_cons_succ])
  refine wpAnyH_ready (fuel := 2) (rs := [2]) (by kernel_rfl) (by simp) ?_
  refine AllReadyH.cons (o := ?oi55) ?hi55 (fun K hK => ?st55) AllReadyH.nil
  case hi55 => rw [List.getElem?_toArray]; rfl
  obtain ⟨g0, g1, g2, g3⟩ := RBox.box hQ.out
  have fq := RBox.frozen hQ.out
  go_simp
  clear g0 g1 g2 g3 fq
  replace hA := hid (hA.out.st4o (k := w.heap.size + 2) (by first | omega | (have := RBox.lt hA.out; omega)) (x) (y) (z) (u))
  replace hB := hid (hB.out.st4o (k := w.heap.size + 2) (by first | omega | (have := RBox.lt hB.out; omega)) (x) (y) (z) (u))
  replace hR := hid (hR.out.st4o (k := w.heap.size + 2) (by first | omega | (have := RBox.lt hR.out; omega)) (x) (y) (z) (u))
  replace hO := hid (hO.out.st4o (k := w.heap.size + 2) (by first | omega | (have := RBox.lt hO.out; omega)) (x) (y) (z) (u))
  replace hP := hid (hP.out.st4o (k := w.heap.size + 2) (by first | omega | (have := RBox.lt hP.out; omega)) (x) (y) (z) (u))
  replace hQ := hid (hQ.out.st4 (x' := x) (y' := y) (z' := z) (u' := u))
  replace hbel := hid (st4_below (w.heap.size + 2) (x) (y) (z) (u) hbel.out (by omega))
  unfold Go.Proofs.Ytcopcajleonndaa.st4 at hbel hA hB hQ hR hO hP
  generalize ((((W1.setCell ⟨w.heap.size + 2, 0, none⟩ (.int .i64 (x))).setCell ⟨w.heap.size + 2, 1, none⟩ (.int .i64 (y))).setCell ⟨w.heap.size + 2, 2, none⟩ (.int .i64 (z))).setCell ⟨w.heap.size + 2, 3, none⟩ (.int .i64 (u))) = ws2 at *
  refine hK.out _ _ ?hS55 (fun hHeld => ?re55)
  case hS55 => exact ⟨(RBox.box hO.out).c0, (RBox.box hO.out).c1, (RBox.box hO.out).c2, (RBox.box hO.out).c3, (RBox.box hP.out).c0, (RBox.box hP.out).c1, (RBox.box hP.out).c2, (RBox.box hP.out).c3⟩
  clear hK K
  (try simp only [Act.put, List.setIfInBounds_toArray, List.set_cons_zero, List.set_cons_succ])
  refine wpAnyH_ready (fuel := 1) (rs := [3]) (by kernel_rfl) (by simp) ?_
  refine AllReadyH.cons (o := ?oi56) ?hi56 (fun K hK => ?st56) AllReadyH.nil
  case hi56 => rw [List.getElem?_toArray]; rfl
  obtain ⟨g0, g1, g2, g3⟩ := RBox.box hR.out
  have fq := RBox.frozen hR.out
  go_simp
  clear g0 g1 g2 g3 fq
  replace hA := hid (hA.out.st4o (k := w.heap.size + 3) (by first | omega | (have := RBox.lt hA.out; omega)) (x') (y') (z') (u'))
  replace hB := hid (hB.out.st4o (k := w.heap.size + 3) (by first | omega | (have := RBox.lt hB.out; omega)) (x') (y') (z') (u'))
  replace hQ := hid (hQ.out.st4o (k := w.heap.size + 3) (by first | omega | (have := RBox.lt hQ.out; omega)) (x') (y') (z') (u'))
  replace hO := hid (hO.out.st4o (k := w.heap.size + 3) (by first | omega | (have := RBox.lt hO.out; omega)) (x') (y') (z') (u'))
  replace hP := hid (hP.out.st4o (k := w.heap.size + 3) (by first | omega | (have := RBox.lt hP.out; omega)) (x') (y') (z') (u'))
  replace hR := hid (hR.out.st4 (x' := x') (y' := y') (z' := z') (u' := u'))
  replace hbel := hid (st4_below (w.heap.size + 3) (x') (y') (z') (u') hbel.out (by omega))
  unfold Go.Proofs.Ytcopcajleonndaa.st4 at hbel hA hB hQ hR hO hP
  generalize ((((ws2.setCell ⟨w.heap.size + 3, 0, none⟩ (.int .i64 (x'))).setCell ⟨w.heap.size + 3, 1, none⟩ (.int .i64 (y'))).setCell ⟨w.heap.size + 3, 2, none⟩ (.int .i64 (z'))).setCell ⟨w.heap.size + 3, 3, none⟩ (.int .i64 (u'))) = ws3 at *
  refine hK.out _ _ ?hS56 (fun hHeld => ?re56)
  case hS56 => exact ⟨(RBox.box hO.out).c0, (RBox.box hO.out).c1, (RBox.box hO.out).c2, (RBox.box hO.out).c3, (RBox.box hP.out).c0, (RBox.box hP.out).c1, (RBox.box hP.out).c2, (RBox.box hP.out).c3⟩
  clear hK K
  (try simp only [Act.put, List.setIfInBounds_toArray, List.set_cons_zero, List.set_cons_succ])
  refine wpAnyH_take (i := 4) (oi := ?oi57) (v := ?v57) (fuel := 0) ?hi57 ?hs57 ?hf57 ?hr57 ?hq57 (Or.inl ⟨?hw57, ?hy57⟩) hHeld ?rest57
  case hi57 => rw [List.getElem?_toArray]; rfl
  case hq57 => exact fun _ _ _ h => h
  case hs57 => kernel_rfl
  case hf57 => kernel_rfl
  case hr57 => kernel_rfl
  case hw57 => rfl
  case hy57 => (intro w1 hSw; (try dsimp only at hSw); go_simp; try with_reducible rfl)
  (try simp only [Act.put, List.setIfInBounds_toArray, List.set_cons_zero, List.set_cons_succ])
  refine wpAnyH_done (by kernel_rfl) ?_ _
  clear hHeld
  generalize ws3 = w5 at *
  have bA5 := hA
  have bB5 := hB
  have bQ5 := hQ
  have bR5 := hR
  have bO5 := hO
  have bP5 := hP
  have bel5 := hbel
  clear hbel hA hB hQ hR hO hP
  go_wp2_with fail
  obtain ⟨p0, p1, p2, p3⟩ := RBox.box bQ5.out
  obtain ⟨q0, q1, q2, q3⟩ := RBox.box bR5.out
  refine bodyPost_ret (v := .tuple #[rv x y z u, rv x' y' z' u', .bool true]) (by simp [results, Try.results49, go_sem, p0, p1, p2, p3, q0, q1, q2, q3]) rfl ⟨rfl, bel5.out⟩

set_option maxRecDepth 100000 in
set_option maxHeartbeats 2000000 in
theorem w_SB_other2_no1 (a b c d e f g h : Int) (x y z u x' y' z' u' : Int) (q' : Bool) (w : World) (tP : Hid (∀ w, Calls Try.prog 59 #[rv a b c d, rv e f g h] w fun ee w' => ee = .returned (.tuple #[rv x y z u, .bool false]) ∧ Below w.heap.size w w')) (tQ : Hid (∀ w, Calls Try.prog 59 #[rv e f g h, rv a b c d] w fun ee w' => ee = .returned (.tuple #[rv x' y' z' u', .bool q']) ∧ Below w.heap.size w w')) :
    Calls Try.prog 49 #[.int .i64 13, rv a b c d, rv e f g h, .bool true] w fun ee w' => ee = .returned (.tuple #[rv 1 0 0 0, rv 1 0 0 0, .bool false]) ∧ Below w.heap.size w w' := by
  have bA0 : Hid (RBox ((((w.alloc (cellsR4 a b c d)).alloc (cellsR4 e f g h)).alloc (cellsR4 0 0 0 0)).alloc (cellsR4 0 0 0 0)) w.heap.size a b c d) := fourA w a b c d e f g h
  have bB0 : Hid (RBox ((((w.alloc (cellsR4 a b c d)).alloc (cellsR4 e f g h)).alloc (cellsR4 0 0 0 0)).alloc (cellsR4 0 0 0 0)) (w.heap.size + 1) e f g h) := fourB w a b c d e f g h
  have bQ0 : Hid (RBox ((((w.alloc (cellsR4 a b c d)).alloc (cellsR4 e f g h)).alloc (cellsR4 0 0 0 0)).alloc (cellsR4 0 0 0 0)) (w.heap.size + 2) 0 0 0 0) := fourQ w a b c d e f g h
  have bR0 : Hid (RBox ((((w.alloc (cellsR4 a b c d)).alloc (cellsR4 e f g h)).alloc (cellsR4 0 0 0 0)).alloc (cellsR4 0 0 0 0)) (w.heap.size + 3) 0 0 0 0) := fourR w a b c d e f g h
  have bel0 : Hid (Below w.heap.size w ((((w.alloc (cellsR4 a b c d)).alloc (cellsR4 e f g h)).alloc (cellsR4 0 0 0 0)).alloc (cellsR4 0 0 0 0))) := fourW w a b c d e f g h
  go_enter Try.func49, Try.ntmps49
  go_wp2_with fail
  refine (tP.out _).mono ?_
  rintro ee w1 ⟨rfl, hb1⟩
  have bA1 := hid (bA0.out.below hb1)
  have bB1 := hid (bB0.out.below hb1)
  have bQ1 := hid (bQ0.out.below hb1)
  have bR1 := hid (bR0.out.below hb1)
  have bel1 := hid (bel0.out.trans (hb1.mono bel0.out.size))
  clear hb1 bA0 bB0 bQ0 bR0 bel0
  obtain ⟨cA0, cA1, cA2, cA3⟩ := RBox.box bA1.out
  obtain ⟨cB0, cB1, cB2, cB3⟩ := RBox.box bB1.out
  have ltA := RBox.lt bA1.out
  have ltB := RBox.lt bB1.out
  go_wp2_with fail
  have mkOA := RBox.lt bA1.out
  have mkOB := RBox.lt bB1.out
  have mkOQ := RBox.lt bQ1.out
  have mkOR := RBox.lt bR1.out
  have bA2 := hid (bA1.out.alloc (cellsR4 (x) (y) (z) (u)))
  have bB2 := hid (bB1.out.alloc (cellsR4 (x) (y) (z) (u)))
  have bQ2 := hid (bQ1.out.alloc (cellsR4 (x) (y) (z) (u)))
  have bR2 := hid (bR1.out.alloc (cellsR4 (x) (y) (z) (u)))
  have bO2 := hid (RBox.new w1 (x) (y) (z) (u))
  have bel2 := hid (bel1.out.alloc bel1.out.size (cellsR4 (x) (y) (z) (u)))
  clear bA1 bB1 bQ1 bR1 bel1
  generalize w1.alloc (cellsR4 (x) (y) (z) (u)) = w2 at *
  clear cA0 cA1 cA2 cA3 cB0 cB1 cB2 cB3
  obtain ⟨cA0, cA1, cA2, cA3⟩ := RBox.box bA2.out
  obtain ⟨cB0, cB1, cB2, cB3⟩ := RBox.box bB2.out
  refine (tQ.out _).mono ?_
  rintro ee w3 ⟨rfl, hb3⟩
  have bA3 := hid (bA2.out.below hb3)
  have bB3 := hid (bB2.out.below hb3)
  have bQ3 := hid (bQ2.out.below hb3)
  have bR3 := hid (bR2.out.below hb3)
  have bO3 := hid (bO2.out.below hb3)
  have bel3 := hid (bel2.out.trans (hb3.mono bel2.out.size))
  clear hb3 bA2 bB2 bQ2 bR2 bO2 bel2
  clear cA0 cA1 cA2 cA3 cB0 cB1 cB2 cB3
  obtain ⟨cQ0, cQ1, cQ2, cQ3⟩ := RBox.box bQ3.out
  obtain ⟨cR0, cR1, cR2, cR3⟩ := RBox.box bR3.out
  have frQ := RBox.frozen bQ3.out
  have frR := RBox.frozen bR3.out
  have ltQ := RBox.lt bQ3.out
  have ltR := RBox.lt bR3.out
  go_wp2_with fail
  have bA4 := hid (bA3.out.st4o (k := w.heap.size + 2) (by first | omega | (have := RBox.lt bA3.out; omega)) (1) (0) (0) (0))
  have bB4 := hid (bB3.out.st4o (k := w.heap.size + 2) (by first | omega | (have := RBox.lt bB3.out; omega)) (1) (0) (0) (0))
  have bQ4 := hid (bQ3.out.st4 (x' := 1) (y' := 0) (z' := 0) (u' := 0))
  have bR4 := hid (bR3.out.st4o (k := w.heap.size + 2) (by first | omega | (have := RBox.lt bR3.out; omega)) (1) (0) (0) (0))
  have bO4 := hid (bO3.out.st4o (k := w.heap.size + 2) (by first | omega | (have := RBox.lt bO3.out; omega)) (1) (0) (0) (0))
  have bel4 := hid (st4_below (w.heap.size + 2) (1) (0) (0) (0) bel3.out (by omega))
  clear bA3 bB3 bQ3 bR3 bO3 bel3
  unfold Go.Proofs.Ytcopcajleonndaa.st4 at bel4 bA4 bB4 bQ4 bR4 bO4
  generalize ((((w3.setCell ⟨w.heap.size + 2, 0, none⟩ (.int .i64 (1))).setCell ⟨w.heap.size + 2, 1, none⟩ (.int .i64 (0))).setCell ⟨w.heap.size + 2, 2, none⟩ (.int .i64 (0))).setCell ⟨w.heap.size + 2, 3, none⟩ (.int .i64 (0))) = w4 at *
  have bA5 := hid (bA4.out.st4o (k := w.heap.size + 3) (by first | omega | (have := RBox.lt bA4.out; omega)) (1) (0) (0) (0))
  have bB5 := hid (bB4.out.st4o (k := w.heap.size + 3) (by first | omega | (have := RBox.lt bB4.out; omega)) (1) (0) (0) (0))
  have bQ5 := hid (bQ4.out.st4o (k := w.heap.size + 3) (by first | omega | (have := RBox.lt bQ4.out; omega)) (1) (0) (0) (0))
  have bR5 := hid (bR4.out.st4 (x' := 1) (y' := 0) (z' := 0) (u' := 0))
  have bO5 := hid (bO4.out.st4o (k := w.heap.size + 3) (by first | omega | (have := RBox.lt bO4.out; omega)) (1) (0) (0) (0))
  have bel5 := hid (st4_below (w.heap.size + 3) (1) (0) (0) (0) bel4.out (by omega))
  clear bA4 bB4 bQ4 bR4 bO4 bel4
  unfold Go.Proofs.Ytcopcajleonndaa.st4 at bel5 bA5 bB5 bQ5 bR5 bO5
  generalize ((((w4.setCell ⟨w.heap.size + 3, 0, none⟩ (.int .i64 (1))).setCell ⟨w.heap.size + 3, 1, none⟩ (.int .i64 (0))).setCell ⟨w.heap.size + 3, 2, none⟩ (.int .i64 (0))).setCell ⟨w.heap.size + 3, 3, none⟩ (.int .i64 (0))) = w5 at *
  clear cQ0 cQ1 cQ2 cQ3 cR0 cR1 cR2 cR3
  clear frQ frR
  have mkPA := RBox.lt bA5.out
  have mkPB := RBox.lt bB5.out
  have mkPQ := RBox.lt bQ5.out
  have mkPR := RBox.lt bR5.out
  have mkPO := RBox.lt bO5.out
  have bA6 := hid (bA5.out.alloc (cellsR4 (x') (y') (z') (u')))
  have bB6 := hid (bB5.out.alloc (cellsR4 (x') (y') (z') (u')))
  have bQ6 := hid (bQ5.out.alloc (cellsR4 (x') (y') (z') (u')))
  have bR6 := hid (bR5.out.alloc (cellsR4 (x') (y') (z') (u')))
  have bO6 := hid (bO5.out.alloc (cellsR4 (x') (y') (z') (u')))
  have bP6 := hid (RBox.new w5 (x') (y') (z') (u'))
  have bel6 := hid (bel5.out.alloc bel5.out.size (cellsR4 (x') (y') (z') (u')))
  clear bA5 bB5 bQ5 bR5 bO5 bel5
  generalize w5.alloc (cellsR4 (x') (y') (z') (u')) = w6 at *
  obtain ⟨p0, p1, p2, p3⟩ := RBox.box bQ6.out
  obtain ⟨q0, q1, q2, q3⟩ := RBox.box bR6.out
  refine bodyPost_ret (v := .tuple #[rv 1 0 0 0, rv 1 0 0 0, .bool false]) (by simp [results, Try.results49, go_sem, p0, p1, p2, p3, q0, q1, q2, q3]) rfl ⟨rfl, bel6.out⟩

set_option maxRecDepth 100000 in
set_option maxHeartbeats 2000000 in
theorem w_SB_other2_no2 (a b c d e f g h : Int) (x y z u x' y' z' u' : Int) (w : World) (tP : Hid (∀ w, Calls Try.prog 59 #[rv a b c d, rv e f g h] w fun ee w' => ee = .returned (.tuple #[rv x y z u, .bool true]) ∧ Below w.heap.size w w')) (tQ : Hid (∀ w, Calls Try.prog 59 #[rv e f g h, rv a b c d] w fun ee w' => ee = .returned (.tuple #[rv x' y' z' u', .bool false]) ∧ Below w.heap.size w w')) :
    Calls Try.prog 49 #[.int .i64 13, rv a b c d, rv e f g h, .bool true] w fun ee w' => ee = .returned (.tuple #[rv 1 0 0 0, rv 1 0 0 0, .bool false]) ∧ Below w.heap.size w w' := by
  have bA0 : Hid (RBox ((((w.alloc (cellsR4 a b c d)).alloc (cellsR4 e f g h)).alloc (cellsR4 0 0 0 0)).alloc (cellsR4 0 0 0 0)) w.heap.size a b c d) := fourA w a b c d e f g h
  have bB0 : Hid (RBox ((((w.alloc (cellsR4 a b c d)).alloc (cellsR4 e f g h)).alloc (cellsR4 0 0 0 0)).alloc (cellsR4 0 0 0 0)) (w.heap.size + 1) e f g h) := fourB w a b c d e f g h
  have bQ0 : Hid (RBox ((((w.alloc (cellsR4 a b c d)).alloc (cellsR4 e f g h)).alloc (cellsR4 0 0 0 0)).alloc (cellsR4 0 0 0 0)) (w.heap.size + 2) 0 0 0 0) := fourQ w a b c d e f g h
  have bR0 : Hid (RBox ((((w.alloc (cellsR4 a b c d)).alloc (cellsR4 e f g h)).alloc (cellsR4 0 0 0 0)).alloc (cellsR4 0 0 0 0)) (w.heap.size + 3) 0 0 0 0) := fourR w a b c d e f g h
  have bel0 : Hid (Below w.heap.size w ((((w.alloc (cellsR4 a b c d)).alloc (cellsR4 e f g h)).alloc (cellsR4 0 0 0 0)).alloc (cellsR4 0 0 0 0))) := fourW w a b c d e f g h
  go_enter Try.func49, Try.ntmps49
  go_wp2_with fail
  refine (tP.out _).mono ?_
  rintro ee w1 ⟨rfl, hb1⟩
  have bA1 := hid (bA0.out.below hb1)
  have bB1 := hid (bB0.out.below hb1)
  have bQ1 := hid (bQ0.out.below hb1)
  have bR1 := hid (bR0.out.below hb1)
  have bel1 := hid (bel0.out.trans (hb1.mono bel0.out.size))
  clear hb1 bA0 bB0 bQ0 bR0 bel0
  obtain ⟨cA0, cA1, cA2, cA3⟩ := RBox.box bA1.out
  obtain ⟨cB0, cB1, cB2, cB3⟩ := RBox.box bB1.out
  have ltA := RBox.lt bA1.out
  have ltB := RBox.lt bB1.out
  go_wp2_with fail
  have mkOA := RBox.lt bA1.out
  have mkOB := RBox.lt bB1.out
  have mkOQ := RBox.lt bQ1.out
  have mkOR := RBox.lt bR1.out
  have bA2 := hid (bA1.out.alloc (cellsR4 (x) (y) (z) (u)))
  have bB2 := hid (bB1.out.alloc (cellsR4 (x) (y) (z) (u)))
  have bQ2 := hid (bQ1.out.alloc (cellsR4 (x) (y) (z) (u)))
  have bR2 := hid (bR1.out.alloc (cellsR4 (x) (y) (z) (u)))
  have bO2 := hid (RBox.new w1 (x) (y) (z) (u))
  have bel2 := hid (bel1.out.alloc bel1.out.size (cellsR4 (x) (y) (z) (u)))
  clear bA1 bB1 bQ1 bR1 bel1
  generalize w1.alloc (cellsR4 (x) (y) (z) (u)) = w2 at *
  clear cA0 cA1 cA2 cA3 cB0 cB1 cB2 cB3
  obtain ⟨cA0, cA1, cA2, cA3⟩ := RBox.box bA2.out
  obtain ⟨cB0, cB1, cB2, cB3⟩ := RBox.box bB2.out
  refine (tQ.out _).mono ?_
  rintro ee w3 ⟨rfl, hb3⟩
  have bA3 := hid (bA2.out.below hb3)
  have bB3 := hid (bB2.out.below hb3)
  have bQ3 := hid (bQ2.out.below hb3)
  have bR3 := hid (bR2.out.below hb3)
  have bO3 := hid (bO2.out.below hb3)
  have bel3 := hid (bel2.out.trans (hb3.mono bel2.out.size))
  clear hb3 bA2 bB2 bQ2 bR2 bO2 bel2
  clear cA0 cA1 cA2 cA3 cB0 cB1 cB2 cB3
  obtain ⟨cQ0, cQ1, cQ2, cQ3⟩ := RBox.box bQ3.out
  obtain ⟨cR0, cR1, cR2, cR3⟩ := RBox.box bR3.out
  have frQ := RBox.frozen bQ3.out
  have frR := RBox.frozen bR3.out
  have ltQ := RBox.lt bQ3.out
  have ltR := RBox.lt bR3.out
  go_wp2_with fail
  have bA4 := hid (bA3.out.st4o (k := w.heap.size + 2) (by first | omega | (have := RBox.lt bA3.out; omega)) (1) (0) (0) (0))
  have bB4 := hid (bB3.out.st4o (k := w.heap.size + 2) (by first | omega | (have := RBox.lt bB3.out; omega)) (1) (0) (0) (0))
  have bQ4 := hid (bQ3.out.st4 (x' := 1) (y' := 0) (z' := 0) (u' := 0))
  have bR4 := hid (bR3.out.st4o (k := w.heap.size + 2) (by first | omega | (have := RBox.lt bR3.out; omega)) (1) (0) (0) (0))
  have bO4 := hid (bO3.out.st4o (k := w.heap.size + 2) (by first | omega | (have := RBox.lt bO3.out; omega)) (1) (0) (0) (0))
  have bel4 := hid (st4_below (w.heap.size + 2) (1) (0) (0) (0) bel3.out (by omega))
  clear bA3 bB3 bQ3 bR3 bO3 bel3
  unfold Go.Proofs.Ytcopcajleonndaa.st4 at bel4 bA4 bB4 bQ4 bR4 bO4
  generalize ((((w3.setCell ⟨w.heap.size + 2, 0, none⟩ (.int .i64 (1))).setCell ⟨w.heap.size + 2, 1, none⟩ (.int .i64 (0))).setCell ⟨w.heap.size + 2, 2, none⟩ (.int .i64 (0))).setCell ⟨w.heap.size + 2, 3, none⟩ (.int .i64 (0))) = w4 at *
  have bA5 := hid (bA4.out.st4o (k := w.heap.size + 3) (by first | omega | (have := RBox.lt bA4.out; omega)) (1) (0) (0) (0))
  have bB5 := hid (bB4.out.st4o (k := w.heap.size + 3) (by first | omega | (have := RBox.lt bB4.out; omega)) (1) (0) (0) (0))
  have bQ5 := hid (bQ4.out.st4o (k := w.heap.size + 3) (by first | omega | (have := RBox.lt bQ4.out; omega)) (1) (0) (0) (0))
  have bR5 := hid (bR4.out.st4 (x' := 1) (y' := 0) (z' := 0) (u' := 0))
  have bO5 := hid (bO4.out.st4o (k := w.heap.size + 3) (by first | omega | (have := RBox.lt bO4.out; omega)) (1) (0) (0) (0))
  have bel5 := hid (st4_below (w.heap.size + 3) (1) (0) (0) (0) bel4.out (by omega))
  clear bA4 bB4 bQ4 bR4 bO4 bel4
  unfold Go.Proofs.Ytcopcajleonndaa.st4 at bel5 bA5 bB5 bQ5 bR5 bO5
  generalize ((((w4.setCell ⟨w.heap.size + 3, 0, none⟩ (.int .i64 (1))).setCell ⟨w.heap.size + 3, 1, none⟩ (.int .i64 (0))).setCell ⟨w.heap.size + 3, 2, none⟩ (.int .i64 (0))).setCell ⟨w.heap.size + 3, 3, none⟩ (.int .i64 (0))) = w5 at *
  clear cQ0 cQ1 cQ2 cQ3 cR0 cR1 cR2 cR3
  clear frQ frR
  have mkPA := RBox.lt bA5.out
  have mkPB := RBox.lt bB5.out
  have mkPQ := RBox.lt bQ5.out
  have mkPR := RBox.lt bR5.out
  have mkPO := RBox.lt bO5.out
  have bA6 := hid (bA5.out.alloc (cellsR4 (x') (y') (z') (u')))
  have bB6 := hid (bB5.out.alloc (cellsR4 (x') (y') (z') (u')))
  have bQ6 := hid (bQ5.out.alloc (cellsR4 (x') (y') (z') (u')))
  have bR6 := hid (bR5.out.alloc (cellsR4 (x') (y') (z') (u')))
  have bO6 := hid (bO5.out.alloc (cellsR4 (x') (y') (z') (u')))
  have bP6 := hid (RBox.new w5 (x') (y') (z') (u'))
  have bel6 := hid (bel5.out.alloc bel5.out.size (cellsR4 (x') (y') (z') (u')))
  clear bA5 bB5 bQ5 bR5 bO5 bel5
  generalize w5.alloc (cellsR4 (x') (y') (z') (u')) = w6 at *
  obtain ⟨p0, p1, p2, p3⟩ := RBox.box bQ6.out
  obtain ⟨q0, q1, q2, q3⟩ := RBox.box bR6.out
  refine bodyPost_ret (v := .tuple #[rv 1 0 0 0, rv 1 0 0 0, .bool false]) (by simp [results, Try.results49, go_sem, p0, p1, p2, p3, q0, q1, q2, q3]) rfl ⟨rfl, bel6.out⟩

set_option maxRecDepth 100000 in
set_option maxHeartbeats 2000000 in
theorem w_SB_other2_yes (a b c d e f g h : Int) (x y z u x' y' z' u' : Int) (w : World) (tP : Hid (∀ w, Calls Try.prog 59 #[rv a b c d, rv e f g h] w fun ee w' => ee = .returned (.tuple #[rv x y z u, .bool true]) ∧ Below w.heap.size w w')) (tQ : Hid (∀ w, Calls Try.prog 59 #[rv e f g h, rv a b c d] w fun ee w' => ee = .returned (.tuple #[rv x' y' z' u', .bool true]) ∧ Below w.heap.size w w')) :
    Calls Try.prog 49 #[.int .i64 13, rv a b c d, rv e f g h, .bool true] w fun ee w' => ee = .returned (.tuple #[rv x y z u, rv x' y' z' u', .bool true]) ∧ Below w.heap.size w w' := by
  have bA0 : Hid (RBox ((((w.alloc (cellsR4 a b c d)).alloc (cellsR4 e f g h)).alloc (cellsR4 0 0 0 0)).alloc (cellsR4 0 0 0 0)) w.heap.size a b c d) := fourA w a b c d e f g h
  have bB0 : Hid (RBox ((((w.alloc (cellsR4 a b c d)).alloc (cellsR4 e f g h)).alloc (cellsR4 0 0 0 0)).alloc (cellsR4 0 0 0 0)) (w.heap.size + 1) e f g h) := fourB w a b c d e f g h
  have bQ0 : Hid (RBox ((((w.alloc (cellsR4 a b c d)).alloc (cellsR4 e f g h)).alloc (cellsR4 0 0 0 0)).alloc (cellsR4 0 0 0 0)) (w.heap.size + 2) 0 0 0 0) := fourQ w a b c d e f g h
  have bR0 : Hid (RBox ((((w.alloc (cellsR4 a b c d)).alloc (cellsR4 e f g h)).alloc (cellsR4 0 0 0 0)).alloc (cellsR4 0 0 0 0)) (w.heap.size + 3) 0 0 0 0) := fourR w a b c d e f g h
  have bel0 : Hid (Below w.heap.size w ((((w.alloc (cellsR4 a b c d)).alloc (cellsR4 e f g h)).alloc (cellsR4 0 0 0 0)).alloc (cellsR4 0 0 0 0))) := fourW w a b c d e f g h
  go_enter Try.func49, Try.ntmps49
  go_wp2_with fail
  refine (tP.out _).mono ?_
  rintro ee w1 ⟨rfl, hb1⟩
  have bA1 := hid (bA0.out.below hb1)
  have bB1 := hid (bB0.out.below hb1)
  have bQ1 := hid (bQ0.out.below hb1)
  have bR1 := hid (bR0.out.below hb1)
  have bel1 := hid (bel0.out.trans (hb1.mono bel0.out.size))
  clear hb1 bA0 bB0 bQ0 bR0 bel0
  obtain ⟨cA0, cA1, cA2, cA3⟩ := RBox.box bA1.out
  obtain ⟨cB0, cB1, cB2, cB3⟩ := RBox.box bB1.out
  have ltA := RBox.lt bA1.out
  have ltB := RBox.lt bB1.out
  go_wp2_with fail
  have mkOA := RBox.lt bA1.out
  have mkOB := RBox.lt bB1.out
  have mkOQ := RBox.lt bQ1.out
  have mkOR := RBox.lt bR1.out
  have bA2 := hid (bA1.out.alloc (cellsR4 (x) (y) (z) (u)))
  have bB2 := hid (bB1.out.alloc (cellsR4 (x) (y) (z) (u)))
  have bQ2 := hid (bQ1.out.alloc (cellsR4 (x) (y) (z) (u)))
  have bR2 := hid (bR1.out.alloc (cellsR4 (x) (y) (z) (u)))
  have bO2 := hid (RBox.new w1 (x) (y) (z) (u))
  have bel2 := hid (bel1.out.alloc bel1.out.size (cellsR4 (x) (y) (z) (u)))
  clear bA1 bB1 bQ1 bR1 bel1
  generalize w1.alloc (cellsR4 (x) (y) (z) (u)) = w2 at *
  clear cA0 cA1 cA2 cA3 cB0 cB1 cB2 cB3
  obtain ⟨cA0, cA1, cA2, cA3⟩ := RBox.box bA2.out
  obtain ⟨cB0, cB1, cB2, cB3⟩ := RBox.box bB2.out
  refine (tQ.out _).mono ?_
  rintro ee w3 ⟨rfl, hb3⟩
  have bA3 := hid (bA2.out.below hb3)
  have bB3 := hid (bB2.out.below hb3)
  have bQ3 := hid (bQ2.out.below hb3)
  have bR3 := hid (bR2.out.below hb3)
  have bO3 := hid (bO2.out.below hb3)
  have bel3 := hid (bel2.out.trans (hb3.mono bel2.out.size))
  clear hb3 bA2 bB2 bQ2 bR2 bO2 bel2
  clear cA0 cA1 cA2 cA3 cB0 cB1 cB2 cB3
  go_wp2_with fail
  have mkPA := RBox.lt bA3.out
  have mkPB := RBox.lt bB3.out
  have mkPQ := RBox.lt bQ3.out
  have mkPR := RBox.lt bR3.out
  have mkPO := RBox.lt bO3.out
  have bA4 := hid (bA3.out.alloc (cellsR4 (x') (y') (z') (u')))
  have bB4 := hid (bB3.out.alloc (cellsR4 (x') (y') (z') (u')))
  have bQ4 := hid (bQ3.out.alloc (cellsR4 (x') (y') (z') (u')))
  have bR4 := hid (bR3.out.alloc (cellsR4 (x') (y') (z') (u')))
  have bO4 := hid (bO3.out.alloc (cellsR4 (x') (y') (z') (u')))
  have bP4 := hid (RBox.new w3 (x') (y') (z') (u'))
  have bel4 := hid (bel3.out.alloc bel3.out.size (cellsR4 (x') (y') (z') (u')))
  clear bA3 bB3 bQ3 bR3 bO3 bel3
  generalize w3.alloc (cellsR4 (x') (y') (z') (u')) = w4 at *
  refine wp_region_held_drew (S := (fun w' => w'.cell? ⟨w1.heap.size, 0, none⟩ = some (.int .i64 (x)) ∧ w'.cell? ⟨w1.heap.size, 1, none⟩ = some (.int .i64 (y)) ∧ w'.cell? ⟨w1.heap.size, 2, none⟩ = some (.int .i64 (z)) ∧ w'.cell? ⟨w1.heap.size, 3, none⟩ = some (.int .i64 (u)) ∧ w'.cell? ⟨w3.heap.size, 0, none⟩ = some (.int .i64 (x')) ∧ w'.cell? ⟨w3.heap.size, 1, none⟩ = some (.int .i64 (y')) ∧ w'.cell? ⟨w3.heap.size, 2, none⟩ = some (.int .i64 (z')) ∧ w'.cell? ⟨w3.heap.size, 3, none⟩ = some (.int .i64 (u')))) (by kernel_rfl) (by exact ⟨(RBox.box bO4.out).c0, (RBox.box bO4.out).c1, (RBox.box bO4.out).c2, (RBox.box bO4.out).c3, (RBox.box bP4.out).c0, (RBox.box bP4.out).c1, (RBox.box bP4.out).c2, (RBox.box bP4.out).c3⟩) (fun hHeld => ?_)
  have hA := hid (RBox.drew bA4.out)
  have hB := hid (RBox.drew bB4.out)
  have hQ := hid (RBox.drew bQ4.out)
  have hR := hid (RBox.drew bR4.out)
  have hO := hid (RBox.drew bO4.out)
  have hP := hid (RBox.drew bP4.out)
  have hbel := hid (Below.drew bel4.out)
  clear bA4 bB4 bQ4 bR4 bO4 bP4 bel4
  generalize w4.drew = W1 at *
  refine wpAnyH_take (i := 0) (oi := ?oi58) (v := ?v58) (fuel := 4) ?hi58 ?hs58 ?hf58 ?hr58 ?hq58 (Or.inl ⟨?hw58, ?hy58⟩) hHeld ?rest58
  case hi58 => rw [List.getElem?_toArray]; rfl
  case hq58 => exact fun _ _ _ h => h
  case hs58 => kernel_rfl
  case hf58 => kernel_rfl
  case hr58 => kernel_rfl
  case hw58 => rfl
  case hy58 => (intro w1 hSw; (try dsimp only at hSw); go_simp; try with_reducible rfl)
  (try simp only [Act.put, List.setIfInBounds_toArray, List.set_cons_zero, List.set_cons_succ])
  refine wpAnyH_take (i := 1) (oi := ?oi59) (v := ?v59) (fuel := 3) ?hi59 ?hs59 ?hf59 ?hr59 ?hq59 (Or.inl ⟨?hw59, ?hy59⟩) hHeld ?rest59
  case hi59 => rw [List.getElem?_toArray]; rfl
  case hq59 => exact fun _ _ _ h => h
  case hs59 => kernel_rfl
  case hf59 => kernel_rfl
  case hr59 => kernel_rfl
  case hw59 => rfl
  case hy59 => (intro w1 hSw; (try dsimp only at hSw); go_simp; try with_reducible rfl)
  (try simp only [Act.put, List.setIfInBounds_toArray, List.set_cons_zero, List.set_cons_succ])
  refine wpAnyH_ready (fuel := 2) (rs := [2]) (by kernel_rfl) (by simp) ?_
  refine AllReadyH.cons (o := ?oi60) ?hi60 (fun K hK => ?st60) AllReadyH.nil
  case hi60 => rw [List.getElem?_toArray]; rfl
  obtain ⟨g0, g1, g2, g3⟩ := RBox.box hQ.out
  have fq := RBox.frozen hQ.out
  go_simp
  clear g0 g1 g2 g3 fq
  replace hA := hid (hA.out.st4o (k := w.heap.size + 2) (by first | omega | (have := RBox.lt hA.out; omega)) (x) (y) (z) (u))
  replace hB := hid (hB.out.st4o (k := w.heap.size + 2) (by first | omega | (have := RBox.lt hB.out; omega)) (x) (y) (z) (u))
  replace hR := hid (hR.out.st4o (k := w.heap.size + 2) (by first | omega | (have := RBox.lt hR.out; omega)) (x) (y) (z) (u))
  replace hO := hid (hO.out.st4o (k := w.heap.size + 2) (by first | omega | (have := RBox.lt hO.out; omega)) (x) (y) (z) (u))
  replace hP := hid (hP.out.st4o (k := w.heap.size + 2) (by first | omega | (have := RBox.lt hP.out; omega)) (x) (y) (z) (u))
  replace hQ := hid (hQ.out.st4 (x' := x) (y' := y) (z' := z) (u' := u))
  replace hbel := hid (st4_below (w.heap.size + 2) (x) (y) (z) (u) hbel.out (by omega))
  unfold Go.Proofs.Ytcopcajleonndaa.st4 at hbel hA hB hQ hR hO hP
  generalize ((((W1.setCell ⟨w.heap.size + 2, 0, none⟩ (.int .i64 (x))).setCell ⟨w.heap.size + 2, 1, none⟩ (.int .i64 (y))).setCell ⟨w.heap.size + 2, 2, none⟩ (.int .i64 (z))).setCell ⟨w.heap.size + 2, 3, none⟩ (.int .i64 (u))) = ws2 at *
  refine hK.out _ _ ?hS60 (fun hHeld => ?re60)
  case hS60 => exact ⟨(RBox.box hO.out).c0, (RBox.box hO.out).c1, (RBox.box hO.out).c2, (RBox.box hO.out).c3, (RBox.box hP.out).c0, (RBox.box hP.out).c1, (RBox.box hP.out).c2, (RBox.box hP.out).c3⟩
  clear hK K
  (try simp only [Act.put, List.setIfInBounds_toArray, List.set_cons_zero, List.set_cons_succ])
  refine wpAnyH_ready (fuel := 1) (rs := [3]) (by kernel_rfl) (by simp) ?_
  refine AllReadyH.cons (o := ?oi61) ?hi61 (fun K hK => ?st61) AllReadyH.nil
  case hi61 => rw [List.getElem?_toArray]; rfl
  obtain ⟨g0, g1, g2, g3⟩ := RBox.box hR.out
  have fq := RBox.frozen hR.out
  go_simp
  clear g0 g1 g2 g3 fq
  replace hA := hid (hA.out.st4o (k := w.heap.size + 3) (by first | omega | (have := RBox.lt hA.out; omega)) (x') (y') (z') (u'))
  replace hB := hid (hB.out.st4o (k := w.heap.size + 3) (by first | omega | (have := RBox.lt hB.out; omega)) (x') (y') (z') (u'))
  replace hQ := hid (hQ.out.st4o (k := w.heap.size + 3) (by first | omega | (have := RBox.lt hQ.out; omega)) (x') (y') (z') (u'))
  replace hO := hid (hO.out.st4o (k := w.heap.size + 3) (by first | omega | (have := RBox.lt hO.out; omega)) (x') (y') (z') (u'))
  replace hP := hid (hP.out.st4o (k := w.heap.size + 3) (by first | omega | (have := RBox.lt hP.out; omega)) (x') (y') (z') (u'))
  replace hR := hid (hR.out.st4 (x' := x') (y' := y') (z' := z') (u' := u'))
  replace hbel := hid (st4_below (w.heap.size + 3) (x') (y') (z') (u') hbel.out (by omega))
  unfold Go.Proofs.Ytcopcajleonndaa.st4 at hbel hA hB hQ hR hO hP
  generalize ((((ws2.setCell ⟨w.heap.size + 3, 0, none⟩ (.int .i64 (x'))).setCell ⟨w.heap.size + 3, 1, none⟩ (.int .i64 (y'))).setCell ⟨w.heap.size + 3, 2, none⟩ (.int .i64 (z'))).setCell ⟨w.heap.size + 3, 3, none⟩ (.int .i64 (u'))) = ws3 at *
  refine hK.out _ _ ?hS61 (fun hHeld => ?re61)
  case hS61 => exact ⟨(RBox.box hO.out).c0, (RBox.box hO.out).c1, (RBox.box hO.out).c2, (RBox.box hO.out).c3, (RBox.box hP.out).c0, (RBox.box hP.out).c1, (RBox.box hP.out).c2, (RBox.box hP.out).c3⟩
  clear hK K
  (try simp only [Act.put, List.setIfInBounds_toArray, List.set_cons_zero, List.set_cons_succ])
  refine wpAnyH_take (i := 4) (oi := ?oi62) (v := ?v62) (fuel := 0) ?hi62 ?hs62 ?hf62 ?hr62 ?hq62 (Or.inl ⟨?hw62, ?hy62⟩) hHeld ?rest62
  case hi62 => rw [List.getElem?_toArray]; rfl
  case hq62 => exact fun _ _ _ h => h
  case hs62 => kernel_rfl
  case hf62 => kernel_rfl
  case hr62 => kernel_rfl
  case hw62 => rfl
  case hy62 => (intro w1 hSw; (try dsimp only at hSw); go_simp; try with_reducible rfl)
  (try simp only [Act.put, List.setIfInBounds_toArray, List.set_cons_zero, List.set_cons_succ])
  refine wpAnyH_done (by kernel_rfl) ?_ _
  clear hHeld
  generalize ws3 = w5 at *
  have bA5 := hA
  have bB5 := hB
  have bQ5 := hQ
  have bR5 := hR
  have bO5 := hO
  have bP5 := hP
  have bel5 := hbel
  clear hbel hA hB hQ hR hO hP
  go_wp2_with fail
  obtain ⟨p0, p1, p2, p3⟩ := RBox.box bQ5.out
  obtain ⟨q0, q1, q2, q3⟩ := RBox.box bR5.out
  refine bodyPost_ret (v := .tuple #[rv x y z u, rv x' y' z' u', .bool true]) (by simp [results, Try.results49, go_sem, p0, p1, p2, p3, q0, q1, q2, q3]) rfl ⟨rfl, bel5.out⟩

set_option maxRecDepth 100000 in
set_option maxHeartbeats 2000000 in
theorem w_SB_less (a b c d e f g h : Int) (x y z u x' y' z' u' : Int) (q : Bool) (w : World) (tP : Hid (∀ w, Calls Try.prog 60 #[rv a b c d, rv e f g h, .int .i64 1] w fun ee w' => ee = .returned (.tuple #[rv x y z u, rv x' y' z' u', .bool q]) ∧ Below w.heap.size w w')) :
    Calls Try.prog 49 #[.int .i64 14, rv a b c d, rv e f g h, .bool true] w fun ee w' => ee = .returned (.tuple #[rv x y z u, rv x' y' z' u', .bool q]) ∧ Below w.heap.size w w' := by
  have bA0 : Hid (RBox ((((w.alloc (cellsR4 a b c d)).alloc (cellsR4 e f g h)).alloc (cellsR4 0 0 0 0)).alloc (cellsR4 0 0 0 0)) w.heap.size a b c d) := fourA w a b c d e f g h
  have bB0 : Hid (RBox ((((w.alloc (cellsR4 a b c d)).alloc (cellsR4 e f g h)).alloc (cellsR4 0 0 0 0)).alloc (cellsR4 0 0 0 0)) (w.heap.size + 1) e f g h) := fourB w a b c d e f g h
  have bQ0 : Hid (RBox ((((w.alloc (cellsR4 a b c d)).alloc (cellsR4 e f g h)).alloc (cellsR4 0 0 0 0)).alloc (cellsR4 0 0 0 0)) (w.heap.size + 2) 0 0 0 0) := fourQ w a b c d e f g h
  have bR0 : Hid (RBox ((((w.alloc (cellsR4 a b c d)).alloc (cellsR4 e f g h)).alloc (cellsR4 0 0 0 0)).alloc (cellsR4 0 0 0 0)) (w.heap.size + 3) 0 0 0 0) := fourR w a b c d e f g h
  have bel0 : Hid (Below w.heap.size w ((((w.alloc (cellsR4 a b c d)).alloc (cellsR4 e f g h)).alloc (cellsR4 0 0 0 0)).alloc (cellsR4 0 0 0 0))) := fourW w a b c d e f g h
  go_enter Try.func49, Try.ntmps49
  go_wp2_with fail
  refine (tP.out _).mono ?_
  rintro ee w1 ⟨rfl, hb1⟩
  have bA1 := hid (bA0.out.below hb1)
  have bB1 := hid (bB0.out.below hb1)
  have bQ1 := hid (bQ0.out.below hb1)
  have bR1 := hid (bR0.out.below hb1)
  have bel1 := hid (bel0.out.trans (hb1.mono bel0.out.size))
  clear hb1 bA0 bB0 bQ0 bR0 bel0
  obtain ⟨cQ0, cQ1, cQ2, cQ3⟩ := RBox.box bQ1.out
  obtain ⟨cR0, cR1, cR2, cR3⟩ := RBox.box bR1.out
  have frQ := RBox.frozen bQ1.out
  have frR := RBox.frozen bR1.out
  go_wp2_with fail
  have bA2 := hid (bA1.out.st4o (k := w.heap.size + 2) (by first | omega | (have := RBox.lt bA1.out; omega)) (x) (y) (z) (u))
  have bB2 := hid (bB1.out.st4o (k := w.heap.size + 2) (by first | omega | (have := RBox.lt bB1.out; omega)) (x) (y) (z) (u))
  have bQ2 := hid (bQ1.out.st4 (x' := x) (y' := y) (z' := z) (u' := u))
  have bR2 := hid (bR1.out.st4o (k := w.heap.size + 2) (by first | omega | (have := RBox.lt bR1.out; omega)) (x) (y) (z) (u))
  have bel2 := hid (st4_below (w.heap.size + 2) (x) (y) (z) (u) bel1.out (by omega))
  clear bA1 bB1 bQ1 bR1 bel1
  unfold Go.Proofs.Ytcopcajleonndaa.st4 at bel2 bA2 bB2 bQ2 bR2
  generalize ((((w1.setCell ⟨w.heap.size + 2, 0, none⟩ (.int .i64 (x))).setCell ⟨w.heap.size + 2, 1, none⟩ (.int .i64 (y))).setCell ⟨w.heap.size + 2, 2, none⟩ (.int .i64 (z))).setCell ⟨w.heap.size + 2, 3, none⟩ (.int .i64 (u))) = w2 at *
  have bA3 := hid (bA2.out.st4o (k := w.heap.size + 3) (by first | omega | (have := RBox.lt bA2.out; omega)) (x') (y') (z') (u'))
  have bB3 := hid (bB2.out.st4o (k := w.heap.size + 3) (by first | omega | (have := RBox.lt bB2.out; omega)) (x') (y') (z') (u'))
  have bQ3 := hid (bQ2.out.st4o (k := w.heap.size + 3) (by first | omega | (have := RBox.lt bQ2.out; omega)) (x') (y') (z') (u'))
  have bR3 := hid (bR2.out.st4 (x' := x') (y' := y') (z' := z') (u' := u'))
  have bel3 := hid (st4_below (w.heap.size + 3) (x') (y') (z') (u') bel2.out (by omega))
  clear bA2 bB2 bQ2 bR2 bel2
  unfold Go.Proofs.Ytcopcajleonndaa.st4 at bel3 bA3 bB3 bQ3 bR3
  generalize ((((w2.setCell ⟨w.heap.size + 3, 0, none⟩ (.int .i64 (x'))).setCell ⟨w.heap.size + 3, 1, none⟩ (.int .i64 (y'))).setCell ⟨w.heap.size + 3, 2, none⟩ (.int .i64 (z'))).setCell ⟨w.heap.size + 3, 3, none⟩ (.int .i64 (u'))) = w3 at *
  clear cQ0 cQ1 cQ2 cQ3 cR0 cR1 cR2 cR3
  clear frQ frR
  obtain ⟨p0, p1, p2, p3⟩ := RBox.box bQ3.out
  obtain ⟨q0, q1, q2, q3⟩ := RBox.box bR3.out
  refine bodyPost_ret (v := .tuple #[rv x y z u, rv x' y' z' u', .bool q]) (by simp [results, Try.results49, go_sem, p0, p1, p2, p3, q0, q1, q2, q3]) rfl ⟨rfl, bel3.out⟩

set_option maxRecDepth 100000 in
set_option maxHeartbeats 2000000 in
theorem w_SB_notmore (a b c d e f g h : Int) (x y z u x' y' z' u' : Int) (q : Bool) (w : World) (tP : Hid (∀ w, Calls Try.prog 60 #[rv a b c d, rv e f g h, .int .i64 0] w fun ee w' => ee = .returned (.tuple #[rv x y z u, rv x' y' z' u', .bool q]) ∧ Below w.heap.size w w')) :
    Calls Try.prog 49 #[.int .i64 15, rv a b c d, rv e f g h, .bool false] w fun ee w' => ee = .returned (.tuple #[rv x y z u, rv x' y' z' u', .bool q]) ∧ Below w.heap.size w w' := by
  have bA0 : Hid (RBox ((((w.alloc (cellsR4 a b c d)).alloc (cellsR4 e f g h)).alloc (cellsR4 0 0 0 0)).alloc (cellsR4 0 0 0 0)) w.heap.size a b c d) := fourA w a b c d e f g h
  have bB0 : Hid (RBox ((((w.alloc (cellsR4 a b c d)).alloc (cellsR4 e f g h)).alloc (cellsR4 0 0 0 0)).alloc (cellsR4 0 0 0 0)) (w.heap.size + 1) e f g h) := fourB w a b c d e f g h
  have bQ0 : Hid (RBox ((((w.alloc (cellsR4 a b c d)).alloc (cellsR4 e f g h)).alloc (cellsR4 0 0 0 0)).alloc (cellsR4 0 0 0 0)) (w.heap.size + 2) 0 0 0 0) := fourQ w a b c d e f g h
  have bR0 : Hid (RBox ((((w.alloc (cellsR4 a b c d)).alloc (cellsR4 e f g h)).alloc (cellsR4 0 0 0 0)).alloc (cellsR4 0 0 0 0)) (w.heap.size + 3) 0 0 0 0) := fourR w a b c d e f g h
  have bel0 : Hid (Below w.heap.size w ((((w.alloc (cellsR4 a b c d)).alloc (cellsR4 e f g h)).alloc (cellsR4 0 0 0 0)).alloc (cellsR4 0 0 0 0))) := fourW w a b c d e f g h
  go_enter Try.func49, Try.ntmps49
  go_wp2_with fail
  refine (tP.out _).mono ?_
  rintro ee w1 ⟨rfl, hb1⟩
  have bA1 := hid (bA0.out.below hb1)
  have bB1 := hid (bB0.out.below hb1)
  have bQ1 := hid (bQ0.out.below hb1)
  have bR1 := hid (bR0.out.below hb1)
  have bel1 := hid (bel0.out.trans (hb1.mono bel0.out.size))
  clear hb1 bA0 bB0 bQ0 bR0 bel0
  obtain ⟨cQ0, cQ1, cQ2, cQ3⟩ := RBox.box bQ1.out
  obtain ⟨cR0, cR1, cR2, cR3⟩ := RBox.box bR1.out
  have frQ := RBox.frozen bQ1.out
  have frR := RBox.frozen bR1.out
  go_wp2_with fail
  have bA2 := hid (bA1.out.st4o (k := w.heap.size + 2) (by first | omega | (have := RBox.lt bA1.out; omega)) (x) (y) (z) (u))
  have bB2 := hid (bB1.out.st4o (k := w.heap.size + 2) (by first | omega | (have := RBox.lt bB1.out; omega)) (x) (y) (z) (u))
  have bQ2 := hid (bQ1.out.st4 (x' := x) (y' := y) (z' := z) (u' := u))
  have bR2 := hid (bR1.out.st4o (k := w.heap.size + 2) (by first | omega | (have := RBox.lt bR1.out; omega)) (x) (y) (z) (u))
  have bel2 := hid (st4_below (w.heap.size + 2) (x) (y) (z) (u) bel1.out (by omega))
  clear bA1 bB1 bQ1 bR1 bel1
  unfold Go.Proofs.Ytcopcajleonndaa.st4 at bel2 bA2 bB2 bQ2 bR2
  generalize ((((w1.setCell ⟨w.heap.size + 2, 0, none⟩ (.int .i64 (x))).setCell ⟨w.heap.size + 2, 1, none⟩ (.int .i64 (y))).setCell ⟨w.heap.size + 2, 2, none⟩ (.int .i64 (z))).setCell ⟨w.heap.size + 2, 3, none⟩ (.int .i64 (u))) = w2 at *
  have bA3 := hid (bA2.out.st4o (k := w.heap.size + 3) (by first | omega | (have := RBox.lt bA2.out; omega)) (x') (y') (z') (u'))
  have bB3 := hid (bB2.out.st4o (k := w.heap.size + 3) (by first | omega | (have := RBox.lt bB2.out; omega)) (x') (y') (z') (u'))
  have bQ3 := hid (bQ2.out.st4o (k := w.heap.size + 3) (by first | omega | (have := RBox.lt bQ2.out; omega)) (x') (y') (z') (u'))
  have bR3 := hid (bR2.out.st4 (x' := x') (y' := y') (z' := z') (u' := u'))
  have bel3 := hid (st4_below (w.heap.size + 3) (x') (y') (z') (u') bel2.out (by omega))
  clear bA2 bB2 bQ2 bR2 bel2
  unfold Go.Proofs.Ytcopcajleonndaa.st4 at bel3 bA3 bB3 bQ3 bR3
  generalize ((((w2.setCell ⟨w.heap.size + 3, 0, none⟩ (.int .i64 (x'))).setCell ⟨w.heap.size + 3, 1, none⟩ (.int .i64 (y'))).setCell ⟨w.heap.size + 3, 2, none⟩ (.int .i64 (z'))).setCell ⟨w.heap.size + 3, 3, none⟩ (.int .i64 (u'))) = w3 at *
  clear cQ0 cQ1 cQ2 cQ3 cR0 cR1 cR2 cR3
  clear frQ frR
  obtain ⟨p0, p1, p2, p3⟩ := RBox.box bQ3.out
  obtain ⟨q0, q1, q2, q3⟩ := RBox.box bR3.out
  refine bodyPost_ret (v := .tuple #[rv x y z u, rv x' y' z' u', .bool q]) (by simp [results, Try.results49, go_sem, p0, p1, p2, p3, q0, q1, q2, q3]) rfl ⟨rfl, bel3.out⟩

set_option maxRecDepth 100000 in
set_option maxHeartbeats 2000000 in
theorem w_SB_notless (a b c d e f g h : Int) (x y z u x' y' z' u' : Int) (q : Bool) (w : World) (tP : Hid (∀ w, Calls Try.prog 60 #[rv e f g h, rv a b c d, .int .i64 0] w fun ee w' => ee = .returned (.tuple #[rv x y z u, rv x' y' z' u', .bool q]) ∧ Below w.heap.size w w')) :
    Calls Try.prog 49 #[.int .i64 14, rv a b c d, rv e f g h, .bool false] w fun ee w' => ee = .returned (.tuple #[rv x' y' z' u', rv x y z u, .bool q]) ∧ Below w.heap.size w w' := by
  have bA0 : Hid (RBox ((((w.alloc (cellsR4 a b c d)).alloc (cellsR4 e f g h)).alloc (cellsR4 0 0 0 0)).alloc (cellsR4 0 0 0 0)) w.heap.size a b c d) := fourA w a b c d e f g h
  have bB0 : Hid (RBox ((((w.alloc (cellsR4 a b c d)).alloc (cellsR4 e f g h)).alloc (cellsR4 0 0 0 0)).alloc (cellsR4 0 0 0 0)) (w.heap.size + 1) e f g h) := fourB w a b c d e f g h
  have bQ0 : Hid (RBox ((((w.alloc (cellsR4 a b c d)).alloc (cellsR4 e f g h)).alloc (cellsR4 0 0 0 0)).alloc (cellsR4 0 0 0 0)) (w.heap.size + 2) 0 0 0 0) := fourQ w a b c d e f g h
  have bR0 : Hid (RBox ((((w.alloc (cellsR4 a b c d)).alloc (cellsR4 e f g h)).alloc (cellsR4 0 0 0 0)).alloc (cellsR4 0 0 0 0)) (w.heap.size + 3) 0 0 0 0) := fourR w a b c d e f g h
  have bel0 : Hid (Below w.heap.size w ((((w.alloc (cellsR4 a b c d)).alloc (cellsR4 e f g h)).alloc (cellsR4 0 0 0 0)).alloc (cellsR4 0 0 0 0))) := fourW w a b c d e f g h
  go_enter Try.func49, Try.ntmps49
  go_wp2_with fail
  refine (tP.out _).mono ?_
  rintro ee w1 ⟨rfl, hb1⟩
  have bA1 := hid (bA0.out.below hb1)
  have bB1 := hid (bB0.out.below hb1)
  have bQ1 := hid (bQ0.out.below hb1)
  have bR1 := hid (bR0.out.below hb1)
  have bel1 := hid (bel0.out.trans (hb1.mono bel0.out.size))
  clear hb1 bA0 bB0 bQ0 bR0 bel0
  go_wp2_with fail
  have mkOA := RBox.lt bA1.out
  have mkOB := RBox.lt bB1.out
  have mkOQ := RBox.lt bQ1.out
  have mkOR := RBox.lt bR1.out
  have bA2 := hid ((bA1.out.alloc (cellsR4 (x) (y) (z) (u))).alloc (cellsR4 (x') (y') (z') (u')))
  have bB2 := hid ((bB1.out.alloc (cellsR4 (x) (y) (z) (u))).alloc (cellsR4 (x') (y') (z') (u')))
  have bQ2 := hid ((bQ1.out.alloc (cellsR4 (x) (y) (z) (u))).alloc (cellsR4 (x') (y') (z') (u')))
  have bR2 := hid ((bR1.out.alloc (cellsR4 (x) (y) (z) (u))).alloc (cellsR4 (x') (y') (z') (u')))
  have bO2 := hid ((RBox.new w1 (x) (y) (z) (u)).alloc (cellsR4 (x') (y') (z') (u')))
  have bP2 : Hid (RBox ((w1.alloc (cellsR4 (x) (y) (z) (u))).alloc (cellsR4 (x') (y') (z') (u'))) (w1.heap.size + 1) (x') (y') (z') (u')) := by have h0 := RBox.new (w1.alloc (cellsR4 (x) (y) (z) (u))) (x') (y') (z') (u'); simp only [World.size_alloc] at h0; exact h0
  have bel2 := hid ((bel1.out.alloc bel1.out.size (cellsR4 (x) (y) (z) (u))).alloc (bel1.out.alloc bel1.out.size (cellsR4 (x) (y) (z) (u))).size (cellsR4 (x') (y') (z') (u')))
  clear bA1 bB1 bQ1 bR1 bel1
  generalize (w1.alloc (cellsR4 (x) (y) (z) (u))).alloc (cellsR4 (x') (y') (z') (u')) = w2 at *
  refine wp_region_held_drew (S := (fun w' => w'.cell? ⟨w1.heap.size, 0, none⟩ = some (.int .i64 (x)) ∧ w'.cell? ⟨w1.heap.size, 1, none⟩ = some (.int .i64 (y)) ∧ w'.cell? ⟨w1.heap.size, 2, none⟩ = some (.int .i64 (z)) ∧ w'.cell? ⟨w1.heap.size, 3, none⟩ = some (.int .i64 (u)) ∧ w'.cell? ⟨w1.heap.size + 1, 0, none⟩ = some (.int .i64 (x')) ∧ w'.cell? ⟨w1.heap.size + 1, 1, none⟩ = some (.int .i64 (y')) ∧ w'.cell? ⟨w1.heap.size + 1, 2, none⟩ = some (.int .i64 (z')) ∧ w'.cell? ⟨w1.heap.size + 1, 3, none⟩ = some (.int .i64 (u')))) (by kernel_rfl) (by exact ⟨(RBox.box bO2.out).c0, (RBox.box bO2.out).c1, (RBox.box bO2.out).c2, (RBox.box bO2.out).c3, (RBox.box bP2.out).c0, (RBox.box bP2.out).c1, (RBox.box bP2.out).c2, (RBox.box bP2.out).c3⟩) (fun hHeld => ?_)
  have hA := hid (RBox.drew bA2.out)
  have hB := hid (RBox.drew bB2.out)
  have hQ := hid (RBox.drew bQ2.out)
  have hR := hid (RBox.drew bR2.out)
  have hO := hid (RBox.drew bO2.out)
  have hP := hid (RBox.drew bP2.out)
  have hbel := hid (Below.drew bel2.out)
  clear bA2 bB2 bQ2 bR2 bO2 bP2 bel2
  generalize w2.drew = W1 at *
  refine wpAnyH_take (i := 0) (oi := ?oi63) (v := ?v63) (fuel := 5) ?hi63 ?hs63 ?hf63 ?hr63 ?hq63 (Or.inl ⟨?hw63, ?hy63⟩) hHeld ?rest63
  case hi63 => rw [List.getElem?_toArray]; rfl
  case hq63 => exact fun _ _ _ h => h
  case hs63 => kernel_rfl
  case hf63 => kernel_rfl
  case hr63 => kernel_rfl
  case hw63 => rfl
  case hy63 => (intro w1 hSw; (try dsimp only at hSw); go_simp; try with_reducible rfl)
  (try simp only [Act.put, List.setIfInBounds_toArray, List.set_cons_zero, List.set_cons_succ])
  refine wpAnyH_take (i := 1) (oi := ?oi64) (v := ?v64) (fuel := 4) ?hi64 ?hs64 ?hf64 ?hr64 ?hq64 (Or.inl ⟨?hw64, ?hy64⟩) hHeld ?rest64
  case hi64 => rw [List.getElem?_toArray]; rfl
  case hq64 => exact fun _ _ _ h => h
  case hs64 => kernel_rfl
  case hf64 => kernel_rfl
  case hr64 => kernel_rfl
  case hw64 => rfl
  case hy64 => (intro w1 hSw; (try dsimp only at hSw); go_simp; try with_reducible rfl)
  (try simp only [Act.put, List.setIfInBounds_toArray, List.set_cons_zero, List.set_cons_succ])
  refine wpAnyH_take (i := 2) (oi := ?oi65) (v := ?v65) (fuel := 3) ?hi65 ?hs65 ?hf65 ?hr65 ?hq65 (Or.inl ⟨?hw65, ?hy65⟩) hHeld ?rest65
  case hi65 => rw [List.getElem?_toArray]; rfl
  case hq65 => exact fun _ _ _ h => h
  case hs65 => kernel_rfl
  case hf65 => kernel_rfl
  case hr65 => kernel_rfl
  case hw65 => rfl
  case hy65 => (intro w1 hSw; (try dsimp only at hSw); go_simp; try with_reducible rfl)
  (try simp only [Act.put, List.setIfInBounds_toArray, List.set_cons_zero, List.set_cons_succ])
  refine wpAnyH_ready (fuel := 2) (rs := [3]) (by kernel_rfl) (by simp) ?_
  refine AllReadyH.cons (o := ?oi66) ?hi66 (fun K hK => ?st66) AllReadyH.nil
  case hi66 => rw [List.getElem?_toArray]; rfl
  obtain ⟨g0, g1, g2, g3⟩ := RBox.box hQ.out
  have fq := RBox.frozen hQ.out
  go_simp
  clear g0 g1 g2 g3 fq
  replace hA := hid (hA.out.st4o (k := w.heap.size + 2) (by first | omega | (have := RBox.lt hA.out; omega)) (x') (y') (z') (u'))
  replace hB := hid (hB.out.st4o (k := w.heap.size + 2) (by first | omega | (have := RBox.lt hB.out; omega)) (x') (y') (z') (u'))
  replace hR := hid (hR.out.st4o (k := w.heap.size + 2) (by first | omega | (have := RBox.lt hR.out; omega)) (x') (y') (z') (u'))
  replace hO := hid (hO.out.st4o (k := w.heap.size + 2) (by first | omega | (have := RBox.lt hO.out; omega)) (x') (y') (z') (u'))
  replace hP := hid (hP.out.st4o (k := w.heap.size + 2) (by first | omega | (have := RBox.lt hP.out; omega)) (x') (y') (z') (u'))
  replace hQ := hid (hQ.out.st4 (x' := x') (y' := y') (z' := z') (u' := u'))
  replace hbel := hid (st4_below (w.heap.size + 2) (x') (y') (z') (u') hbel.out (by omega))
  unfold Go.Proofs.Ytcopcajleonndaa.st4 at hbel hA hB hQ hR hO hP
  generalize ((((W1.setCell ⟨w.heap.size + 2, 0, none⟩ (.int .i64 (x'))).setCell ⟨w.heap.size + 2, 1, none⟩ (.int .i64 (y'))).setCell ⟨w.heap.size + 2, 2, none⟩ (.int .i64 (z'))).setCell ⟨w.heap.size + 2, 3, none⟩ (.int .i64 (u'))) = ws3 at *
  refine hK.out _ _ ?hS66 (fun hHeld => ?re66)
  case hS66 => exact ⟨(RBox.box hO.out).c0, (RBox.box hO.out).c1, (RBox.box hO.out).c2, (RBox.box hO.out).c3, (RBox.box hP.out).c0, (RBox.box hP.out).c1, (RBox.box hP.out).c2, (RBox.box hP.out).c3⟩
  clear hK K
  (try simp only [Act.put, List.setIfInBounds_toArray, List.set_cons_zero, List.set_cons_succ])
  refine wpAnyH_ready (fuel := 1) (rs := [4]) (by kernel_rfl) (by simp) ?_
  refine AllReadyH.cons (o := ?oi67) ?hi67 (fun K hK => ?st67) AllReadyH.nil
  case hi67 => rw [List.getElem?_toArray]; rfl
  obtain ⟨g0, g1, g2, g3⟩ := RBox.box hR.out
  have fq := RBox.frozen hR.out
  go_simp
  clear g0 g1 g2 g3 fq
  replace hA := hid (hA.out.st4o (k := w.heap.size + 3) (by first | omega | (have := RBox.lt hA.out; omega)) (x) (y) (z) (u))
  replace hB := hid (hB.out.st4o (k := w.heap.size + 3) (by first | omega | (have := RBox.lt hB.out; omega)) (x) (y) (z) (u))
  replace hQ := hid (hQ.out.st4o (k := w.heap.size + 3) (by first | omega | (have := RBox.lt hQ.out; omega)) (x) (y) (z) (u))
  replace hO := hid (hO.out.st4o (k := w.heap.size + 3) (by first | omega | (have := RBox.lt hO.out; omega)) (x) (y) (z) (u))
  replace hP := hid (hP.out.st4o (k := w.heap.size + 3) (by first | omega | (have := RBox.lt hP.out; omega)) (x) (y) (z) (u))
  replace hR := hid (hR.out.st4 (x' := x) (y' := y) (z' := z) (u' := u))
  replace hbel := hid (st4_below (w.heap.size + 3) (x) (y) (z) (u) hbel.out (by omega))
  unfold Go.Proofs.Ytcopcajleonndaa.st4 at hbel hA hB hQ hR hO hP
  generalize ((((ws3.setCell ⟨w.heap.size + 3, 0, none⟩ (.int .i64 (x))).setCell ⟨w.heap.size + 3, 1, none⟩ (.int .i64 (y))).setCell ⟨w.heap.size + 3, 2, none⟩ (.int .i64 (z))).setCell ⟨w.heap.size + 3, 3, none⟩ (.int .i64 (u))) = ws4 at *
  refine hK.out _ _ ?hS67 (fun hHeld => ?re67)
  case hS67 => exact ⟨(RBox.box hO.out).c0, (RBox.box hO.out).c1, (RBox.box hO.out).c2, (RBox.box hO.out).c3, (RBox.box hP.out).c0, (RBox.box hP.out).c1, (RBox.box hP.out).c2, (RBox.box hP.out).c3⟩
  clear hK K
  (try simp only [Act.put, List.setIfInBounds_toArray, List.set_cons_zero, List.set_cons_succ])
  refine wpAnyH_take (i := 5) (oi := ?oi68) (v := ?v68) (fuel := 0) ?hi68 ?hs68 ?hf68 ?hr68 ?hq68 (Or.inl ⟨?hw68, ?hy68⟩) hHeld ?rest68
  case hi68 => rw [List.getElem?_toArray]; rfl
  case hq68 => exact fun _ _ _ h => h
  case hs68 => kernel_rfl
  case hf68 => kernel_rfl
  case hr68 => kernel_rfl
  case hw68 => rfl
  case hy68 => (intro w1 hSw; (try dsimp only at hSw); go_simp; try with_reducible rfl)
  (try simp only [Act.put, List.setIfInBounds_toArray, List.set_cons_zero, List.set_cons_succ])
  refine wpAnyH_done (by kernel_rfl) ?_ _
  clear hHeld
  generalize ws4 = w3 at *
  have bA3 := hA
  have bB3 := hB
  have bQ3 := hQ
  have bR3 := hR
  have bO3 := hO
  have bP3 := hP
  have bel3 := hbel
  clear hbel hA hB hQ hR hO hP
  go_wp2_with fail
  obtain ⟨p0, p1, p2, p3⟩ := RBox.box bQ3.out
  obtain ⟨q0, q1, q2, q3⟩ := RBox.box bR3.out
  refine bodyPost_ret (v := .tuple #[rv x' y' z' u', rv x y z u, .bool q]) (by simp [results, Try.results49, go_sem, p0, p1, p2, p3, q0, q1, q2, q3]) rfl ⟨rfl, bel3.out⟩

set_option maxRecDepth 100000 in
set_option maxHeartbeats 2000000 in
theorem w_SB_more (a b c d e f g h : Int) (x y z u x' y' z' u' : Int) (q : Bool) (w : World) (tP : Hid (∀ w, Calls Try.prog 60 #[rv e f g h, rv a b c d, .int .i64 1] w fun ee w' => ee = .returned (.tuple #[rv x y z u, rv x' y' z' u', .bool q]) ∧ Below w.heap.size w w')) :
    Calls Try.prog 49 #[.int .i64 15, rv a b c d, rv e f g h, .bool true] w fun ee w' => ee = .returned (.tuple #[rv x' y' z' u', rv x y z u, .bool q]) ∧ Below w.heap.size w w' := by
  have bA0 : Hid (RBox ((((w.alloc (cellsR4 a b c d)).alloc (cellsR4 e f g h)).alloc (cellsR4 0 0 0 0)).alloc (cellsR4 0 0 0 0)) w.heap.size a b c d) := fourA w a b c d e f g h
  have bB0 : Hid (RBox ((((w.alloc (cellsR4 a b c d)).alloc (cellsR4 e f g h)).alloc (cellsR4 0 0 0 0)).alloc (cellsR4 0 0 0 0)) (w.heap.size + 1) e f g h) := fourB w a b c d e f g h
  have bQ0 : Hid (RBox ((((w.alloc (cellsR4 a b c d)).alloc (cellsR4 e f g h)).alloc (cellsR4 0 0 0 0)).alloc (cellsR4 0 0 0 0)) (w.heap.size + 2) 0 0 0 0) := fourQ w a b c d e f g h
  have bR0 : Hid (RBox ((((w.alloc (cellsR4 a b c d)).alloc (cellsR4 e f g h)).alloc (cellsR4 0 0 0 0)).alloc (cellsR4 0 0 0 0)) (w.heap.size + 3) 0 0 0 0) := fourR w a b c d e f g h
  have bel0 : Hid (Below w.heap.size w ((((w.alloc (cellsR4 a b c d)).alloc (cellsR4 e f g h)).alloc (cellsR4 0 0 0 0)).alloc (cellsR4 0 0 0 0))) := fourW w a b c d e f g h
  go_enter Try.func49, Try.ntmps49
  go_wp2_with fail
  refine (tP.out _).mono ?_
  rintro ee w1 ⟨rfl, hb1⟩
  have bA1 := hid (bA0.out.below hb1)
  have bB1 := hid (bB0.out.below hb1)
  have bQ1 := hid (bQ0.out.below hb1)
  have bR1 := hid (bR0.out.below hb1)
  have bel1 := hid (bel0.out.trans (hb1.mono bel0.out.size))
  clear hb1 bA0 bB0 bQ0 bR0 bel0
  go_wp2_with fail
  have mkOA := RBox.lt bA1.out
  have mkOB := RBox.lt bB1.out
  have mkOQ := RBox.lt bQ1.out
  have mkOR := RBox.lt bR1.out
  have bA2 := hid ((bA1.out.alloc (cellsR4 (x) (y) (z) (u))).alloc (cellsR4 (x') (y') (z') (u')))
  have bB2 := hid ((bB1.out.alloc (cellsR4 (x) (y) (z) (u))).alloc (cellsR4 (x') (y') (z') (u')))
  have bQ2 := hid ((bQ1.out.alloc (cellsR4 (x) (y) (z) (u))).alloc (cellsR4 (x') (y') (z') (u')))
  have bR2 := hid ((bR1.out.alloc (cellsR4 (x) (y) (z) (u))).alloc (cellsR4 (x') (y') (z') (u')))
  have bO2 := hid ((RBox.new w1 (x) (y) (z) (u)).alloc (cellsR4 (x') (y') (z') (u')))
  have bP2 : Hid (RBox ((w1.alloc (cellsR4 (x) (y) (z) (u))).alloc (cellsR4 (x') (y') (z') (u'))) (w1.heap.size + 1) (x') (y') (z') (u')) := by have h0 := RBox.new (w1.alloc (cellsR4 (x) (y) (z) (u))) (x') (y') (z') (u'); simp only [World.size_alloc] at h0; exact h0
  have bel2 := hid ((bel1.out.alloc bel1.out.size (cellsR4 (x) (y) (z) (u))).alloc (bel1.out.alloc bel1.out.size (cellsR4 (x) (y) (z) (u))).size (cellsR4 (x') (y') (z') (u')))
  clear bA1 bB1 bQ1 bR1 bel1
  generalize (w1.alloc (cellsR4 (x) (y) (z) (u))).alloc (cellsR4 (x') (y') (z') (u')) = w2 at *
  refine wp_region_held_drew (S := (fun w' => w'.cell? ⟨w1.heap.size, 0, none⟩ = some (.int .i64 (x)) ∧ w'.cell? ⟨w1.heap.size, 1, none⟩ = some (.int .i64 (y)) ∧ w'.cell? ⟨w1.heap.size, 2, none⟩ = some (.int .i64 (z)) ∧ w'.cell? ⟨w1.heap.size, 3, none⟩ = some (.int .i64 (u)) ∧ w'.cell? ⟨w1.heap.size + 1, 0, none⟩ = some (.int .i64 (x')) ∧ w'.cell? ⟨w1.heap.size + 1, 1, none⟩ = some (.int .i64 (y')) ∧ w'.cell? ⟨w1.heap.size + 1, 2, none⟩ = some (.int .i64 (z')) ∧ w'.cell? ⟨w1.heap.size + 1, 3, none⟩ = some (.int .i64 (u')))) (by kernel_rfl) (by exact ⟨(RBox.box bO2.out).c0, (RBox.box bO2.out).c1, (RBox.box bO2.out).c2, (RBox.box bO2.out).c3, (RBox.box bP2.out).c0, (RBox.box bP2.out).c1, (RBox.box bP2.out).c2, (RBox.box bP2.out).c3⟩) (fun hHeld => ?_)
  have hA := hid (RBox.drew bA2.out)
  have hB := hid (RBox.drew bB2.out)
  have hQ := hid (RBox.drew bQ2.out)
  have hR := hid (RBox.drew bR2.out)
  have hO := hid (RBox.drew bO2.out)
  have hP := hid (RBox.drew bP2.out)
  have hbel := hid (Below.drew bel2.out)
  clear bA2 bB2 bQ2 bR2 bO2 bP2 bel2
  generalize w2.drew = W1 at *
  refine wpAnyH_take (i := 0) (oi := ?oi69) (v := ?v69) (fuel := 5) ?hi69 ?hs69 ?hf69 ?hr69 ?hq69 (Or.inl ⟨?hw69, ?hy69⟩) hHeld ?rest69
  case hi69 => rw [List.getElem?_toArray]; rfl
  case hq69 => exact fun _ _ _ h => h
  case hs69 => kernel_rfl
  case hf69 => kernel_rfl
  case hr69 => kernel_rfl
  case hw69 => rfl
  case hy69 => (intro w1 hSw; (try dsimp only at hSw); go_simp; try with_reducible rfl)
  (try simp only [Act.put, List.setIfInBounds_toArray, List.set_cons_zero, List.set_cons_succ])
  refine wpAnyH_take (i := 1) (oi := ?oi70) (v := ?v70) (fuel := 4) ?hi70 ?hs70 ?hf70 ?hr70 ?hq70 (Or.inl ⟨?hw70, ?hy70⟩) hHeld ?rest70
  case hi70 => rw [List.getElem?_toArray]; rfl
  case hq70 => exact fun _ _ _ h => h
  case hs70 => kernel_rfl
  case hf70 => kernel_rfl
  case hr70 => kernel_rfl
  case hw70 => rfl
  case hy70 => (intro w1 hSw; (try dsimp only at hSw); go_simp; try with_reducible rfl)
  (try simp only [Act.put, List.setIfInBounds_toArray, List.set_cons_zero, List.set_cons_succ])
  refine wpAnyH_take (i := 2) (oi := ?oi71) (v := ?v71) (fuel := 3) ?hi71 ?hs71 ?hf71 ?hr71 ?hq71 (Or.inl ⟨?hw71, ?hy71⟩) hHeld ?rest71
  case hi71 => rw [List.getElem?_toArray]; rfl
  case hq71 => exact fun _ _ _ h => h
  case hs71 => kernel_rfl
  case hf71 => kernel_rfl
  case hr71 => kernel_rfl
  case hw71 => rfl
  case hy71 => (intro w1 hSw; (try dsimp only at hSw); go_simp; try with_reducible rfl)
  (try simp only [Act.put, List.setIfInBounds_toArray, List.set_cons_zero, List.set_cons_succ])
  refine wpAnyH_ready (fuel := 2) (rs := [3]) (by kernel_rfl) (by simp) ?_
  refine AllReadyH.cons (o := ?oi72) ?hi72 (fun K hK => ?st72) AllReadyH.nil
  case hi72 => rw [List.getElem?_toArray]; rfl
  obtain ⟨g0, g1, g2, g3⟩ := RBox.box hQ.out
  have fq := RBox.frozen hQ.out
  go_simp
  clear g0 g1 g2 g3 fq
  replace hA := hid (hA.out.st4o (k := w.heap.size + 2) (by first | omega | (have := RBox.lt hA.out; omega)) (x') (y') (z') (u'))
  replace hB := hid (hB.out.st4o (k := w.heap.size + 2) (by first | omega | (have := RBox.lt hB.out; omega)) (x') (y') (z') (u'))
  replace hR := hid (hR.out.st4o (k := w.heap.size + 2) (by first | omega | (have := RBox.lt hR.out; omega)) (x') (y') (z') (u'))
  replace hO := hid (hO.out.st4o (k := w.heap.size + 2) (by first | omega | (have := RBox.lt hO.out; omega)) (x') (y') (z') (u'))
  replace hP := hid (hP.out.st4o (k := w.heap.size + 2) (by first | omega | (have := RBox.lt hP.out; omega)) (x') (y') (z') (u'))
  replace hQ := hid (hQ.out.st4 (x' := x') (y' := y') (z' := z') (u' := u'))
  replace hbel := hid (st4_below (w.heap.size + 2) (x') (y') (z') (u') hbel.out (by omega))
  unfold Go.Proofs.Ytcopcajleonndaa.st4 at hbel hA hB hQ hR hO hP
  generalize ((((W1.setCell ⟨w.heap.size + 2, 0, none⟩ (.int .i64 (x'))).setCell ⟨w.heap.size + 2, 1, none⟩ (.int .i64 (y'))).setCell ⟨w.heap.size + 2, 2, none⟩ (.int .i64 (z'))).setCell ⟨w.heap.size + 2, 3, none⟩ (.int .i64 (u'))) = ws3 at *
  refine hK.out _ _ ?hS72 (fun hHeld => ?re72)
  case hS72 => exact ⟨(RBox.box hO.out).c0, (RBox.box hO.out).c1, (RBox.box hO.out).c2, (RBox.box hO.out).c3, (RBox.box hP.out).c0, (RBox.box hP.out).c1, (RBox.box hP.out).c2, (RBox.box hP.out).c3⟩
  clear hK K
  (try simp only [Act.put, List.setIfInBounds_toArray, List.set_cons_zero, List.set_cons_succ])
  refine wpAnyH_ready (fuel := 1) (rs := [4]) (by kernel_rfl) (by simp) ?_
  refine AllReadyH.cons (o := ?oi73) ?hi73 (fun K hK => ?st73) AllReadyH.nil
  case hi73 => rw [List.getElem?_toArray]; rfl
  obtain ⟨g0, g1, g2, g3⟩ := RBox.box hR.out
  have fq := RBox.frozen hR.out
  go_simp
  clear g0 g1 g2 g3 fq
  replace hA := hid (hA.out.st4o (k := w.heap.size + 3) (by first | omega | (have := RBox.lt hA.out; omega)) (x) (y) (z) (u))
  replace hB := hid (hB.out.st4o (k := w.heap.size + 3) (by first | omega | (have := RBox.lt hB.out; omega)) (x) (y) (z) (u))
  replace hQ := hid (hQ.out.st4o (k := w.heap.size + 3) (by first | omega | (have := RBox.lt hQ.out; omega)) (x) (y) (z) (u))
  replace hO := hid (hO.out.st4o (k := w.heap.size + 3) (by first | omega | (have := RBox.lt hO.out; omega)) (x) (y) (z) (u))
  replace hP := hid (hP.out.st4o (k := w.heap.size + 3) (by first | omega | (have := RBox.lt hP.out; omega)) (x) (y) (z) (u))
  replace hR := hid (hR.out.st4 (x' := x) (y' := y) (z' := z) (u' := u))
  replace hbel := hid (st4_below (w.heap.size + 3) (x) (y) (z) (u) hbel.out (by omega))
  unfold Go.Proofs.Ytcopcajleonndaa.st4 at hbel hA hB hQ hR hO hP
  generalize ((((ws3.setCell ⟨w.heap.size + 3, 0, none⟩ (.int .i64 (x))).setCell ⟨w.heap.size + 3, 1, none⟩ (.int .i64 (y))).setCell ⟨w.heap.size + 3, 2, none⟩ (.int .i64 (z))).setCell ⟨w.heap.size + 3, 3, none⟩ (.int .i64 (u))) = ws4 at *
  refine hK.out _ _ ?hS73 (fun hHeld => ?re73)
  case hS73 => exact ⟨(RBox.box hO.out).c0, (RBox.box hO.out).c1, (RBox.box hO.out).c2, (RBox.box hO.out).c3, (RBox.box hP.out).c0, (RBox.box hP.out).c1, (RBox.box hP.out).c2, (RBox.box hP.out).c3⟩
  clear hK K
  (try simp only [Act.put, List.setIfInBounds_toArray, List.set_cons_zero, List.set_cons_succ])
  refine wpAnyH_take (i := 5) (oi := ?oi74) (v := ?v74) (fuel := 0) ?hi74 ?hs74 ?hf74 ?hr74 ?hq74 (Or.inl ⟨?hw74, ?hy74⟩) hHeld ?rest74
  case hi74 => rw [List.getElem?_toArray]; rfl
  case hq74 => exact fun _ _ _ h => h
  case hs74 => kernel_rfl
  case hf74 => kernel_rfl
  case hr74 => kernel_rfl
  case hw74 => rfl
  case hy74 => (intro w1 hSw; (try dsimp only at hSw); go_simp; try with_reducible rfl)
  (try simp only [Act.put, List.setIfInBounds_toArray, List.set_cons_zero, List.set_cons_succ])
  refine wpAnyH_done (by kernel_rfl) ?_ _
  clear hHeld
  generalize ws4 = w3 at *
  have bA3 := hA
  have bB3 := hB
  have bQ3 := hQ
  have bR3 := hR
  have bO3 := hO
  have bP3 := hP
  have bel3 := hbel
  clear hbel hA hB hQ hR hO hP
  go_wp2_with fail
  obtain ⟨p0, p1, p2, p3⟩ := RBox.box bQ3.out
  obtain ⟨q0, q1, q2, q3⟩ := RBox.box bR3.out
  refine bodyPost_ret (v := .tuple #[rv x' y' z' u', rv x y z u, .bool q]) (by simp [results, Try.results49, go_sem, p0, p1, p2, p3, q0, q1, q2, q3]) rfl ⟨rfl, bel3.out⟩

end Go.Proofs.Ytcopcajleonndaa
