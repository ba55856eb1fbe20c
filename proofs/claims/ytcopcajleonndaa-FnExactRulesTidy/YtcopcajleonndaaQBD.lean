/- Contracts for branches: RangeBranch of the program. -/
import Derived.Test.YtcopcajleonndaaQBC
namespace Go.Proofs.Ytcopcajleonndaa
open Go.RowKit
set_option linter.unusedVariables false
set_option linter.unusedSimpArgs false

set_option maxHeartbeats 400000 in
theorem c_asksB (k : Int) (w : World) :
    Calls Try.prog 40 #[.int .i64 k] w fun e w' => e = .returned (.bool (inB k 12 15)) ∧ w' = w := by
  go_enter Try.func40, Try.ntmps40
  go_wp2
  all_goals (go_ret; exact ⟨ret_bool (by rw [Bool.eq_iff_iff]; simp [inB]; omega), rfl⟩)

set_option maxRecDepth 100000 in
set_option maxHeartbeats 2000000 in
theorem w_Br_no4 (op a b c d e f g h : Int) (hl : Bool) (k1 k2 k3 k4 m1 m2 m3 m4 : Int) (x y z u x' y' z' u' : Int) (w : World) (hop : inB op 12 15 = true) (h1 : someI a b c d = true) (h2 : someI e f g h = true) (tA : Hid (∀ w, Calls Try.prog 51 #[rv a b c d] w fun ee w' => ee = .returned (rv k1 k2 k3 k4) ∧ Below w.heap.size w w')) (tB : Hid (∀ w, Calls Try.prog 51 #[rv e f g h] w fun ee w' => ee = .returned (rv m1 m2 m3 m4) ∧ Below w.heap.size w w')) (tP : Hid (∀ w, Calls Try.prog 54 #[.int .i64 op, rv k1 k2 k3 k4, rv m1 m2 m3 m4, .bool hl] w fun ee w' => ee = .returned (.tuple #[rv x y z u, rv x' y' z' u']) ∧ Below w.heap.size w w')) (s1 : someI x y z u = false) :
    Calls Try.prog 37 #[.int .i64 op, rv a b c d, rv e f g h, .bool hl] w fun ee w' => ee = .returned (.tuple #[rv 1 0 0 0, rv 1 0 0 0, .bool false]) ∧ Below w.heap.size w w' := by
  have bA0 : Hid (RBox ((((w.alloc (cellsR4 a b c d)).alloc (cellsR4 e f g h)).alloc (cellsR4 0 0 0 0)).alloc (cellsR4 0 0 0 0)) w.heap.size a b c d) := fourA w a b c d e f g h
  have bB0 : Hid (RBox ((((w.alloc (cellsR4 a b c d)).alloc (cellsR4 e f g h)).alloc (cellsR4 0 0 0 0)).alloc (cellsR4 0 0 0 0)) (w.heap.size + 1) e f g h) := fourB w a b c d e f g h
  have bQ0 : Hid (RBox ((((w.alloc (cellsR4 a b c d)).alloc (cellsR4 e f g h)).alloc (cellsR4 0 0 0 0)).alloc (cellsR4 0 0 0 0)) (w.heap.size + 2) 0 0 0 0) := fourQ w a b c d e f g h
  have bR0 : Hid (RBox ((((w.alloc (cellsR4 a b c d)).alloc (cellsR4 e f g h)).alloc (cellsR4 0 0 0 0)).alloc (cellsR4 0 0 0 0)) (w.heap.size + 3) 0 0 0 0) := fourR w a b c d e f g h
  have bel0 : Hid (Below w.heap.size w ((((w.alloc (cellsR4 a b c d)).alloc (cellsR4 e f g h)).alloc (cellsR4 0 0 0 0)).alloc (cellsR4 0 0 0 0))) := fourW w a b c d e f g h
  go_enter Try.func37, Try.ntmps37
  go_wp2_with fail
  refine (c_asksB _ _).mono ?_
  rintro ee w1 ⟨rfl, hw1⟩
  rw [hw1]; clear hw1 w1
  rw [hop]
  go_wp2_with fail
  refine (c_RangeSomeI _ _ _ _ _).mono ?_
  rintro ee w1 ⟨rfl, hb1⟩
  have bA1 := hid (bA0.out.below hb1)
  have bB1 := hid (bB0.out.below hb1)
  have bQ1 := hid (bQ0.out.below hb1)
  have bR1 := hid (bR0.out.below hb1)
  have bel1 := hid (bel0.out.trans (hb1.mono bel0.out.size))
  clear hb1 bA0 bB0 bQ0 bR0 bel0
  rw [h1]
  obtain ⟨cA0, cA1, cA2, cA3⟩ := RBox.box bA1.out
  obtain ⟨cB0, cB1, cB2, cB3⟩ := RBox.box bB1.out
  go_wp2_with fail
  refine (c_RangeSomeI _ _ _ _ _).mono ?_
  rintro ee w2 ⟨rfl, hb2⟩
  have bA2 := hid (bA1.out.below hb2)
  have bB2 := hid (bB1.out.below hb2)
  have bQ2 := hid (bQ1.out.below hb2)
  have bR2 := hid (bR1.out.below hb2)
  have bel2 := hid (bel1.out.trans (hb2.mono bel1.out.size))
  clear hb2 bA1 bB1 bQ1 bR1 bel1
  rw [h2]
  clear cA0 cA1 cA2 cA3 cB0 cB1 cB2 cB3
  obtain ⟨cA0, cA1, cA2, cA3⟩ := RBox.box bA2.out
  obtain ⟨cB0, cB1, cB2, cB3⟩ := RBox.box bB2.out
  go_wp2_with fail
  clear cA0 cA1 cA2 cA3 cB0 cB1 cB2 cB3
  clear h1 h2 hop
  refine wp_region_held_drew (S := (fun _ => True)) (by kernel_rfl) (trivial) (fun hHeld => ?_)
  have hA := hid (RBox.drew bA2.out)
  have hB := hid (RBox.drew bB2.out)
  have hQ := hid (RBox.drew bQ2.out)
  have hR := hid (RBox.drew bR2.out)
  have hbel := hid (Below.drew bel2.out)
  clear bA2 bB2 bQ2 bR2 bel2
  generalize w2.drew = W1 at *
  refine wpAnyH_take (i := 0) (oi := ?oi41) (v := ?v41) (fuel := 11) ?hi41 ?hs41 ?hf41 ?hr41 ?hq41 (Or.inl ⟨?hw41, ?hy41⟩) hHeld ?rest41
  case hi41 => rw [List.getElem?_toArray]; rfl
  case hq41 => exact fun _ _ _ h => h
  case hs41 => kernel_rfl
  case hf41 => kernel_rfl
  case hr41 => kernel_rfl
  case hw41 => rfl
  case hy41 => (intro w1 hSw; (try dsimp only at hSw); go_simp; try with_reducible rfl)
  (try simp only [Act.put, List.setIfInBounds_toArray, List.set_cons_zero, List.set_cons_succ])
  refine wpAnyH_take (i := 5) (oi := ?oi42) (v := ?v42) (fuel := 10) ?hi42 ?hs42 ?hf42 ?hr42 ?hq42 (Or.inl ⟨?hw42, ?hy42⟩) hHeld ?rest42
  case hi42 => rw [List.getElem?_toArray]; rfl
  case hq42 => exact fun _ _ _ h => h
  case hs42 => kernel_rfl
  case hf42 => kernel_rfl
  case hr42 => kernel_rfl
  case hw42 => rfl
  case hy42 => (intro w1 hSw; (try dsimp only at hSw); go_simp; try with_reducible rfl)
  (try simp only [Act.put, List.setIfInBounds_toArray, List.set_cons_zero, List.set_cons_succ])
  refine wpAnyH_ready (fuel := 9) (rs := [1, 3]) (by kernel_rfl) (by simp) ?_
  refine AllReadyH.cons (o := ?oi43) ?hi43 (fun K hK => ?st43) ?mo43
  case hi43 => rw [List.getElem?_toArray]; rfl
  case st43 =>
    obtain ⟨i0, i1, i2, i3⟩ := RBox.box hA.out
    go_simp
    clear i0 i1 i2 i3
    refine hK.out _ _ ?hS43 (fun hHeld => ?re43)
    case hS43 => trivial
    clear hK K
    (try simp only [Act.put, List.setIfInBounds_toArray, List.set_cons_zero, List.set_cons_succ])
    refine wpAnyH_ready (fuel := 8) (rs := [2, 3]) (by kernel_rfl) (by simp) ?_
    refine AllReadyH.cons (o := ?oi44) ?hi44 (fun K hK => ?st44) ?mo44
    case hi44 => rw [List.getElem?_toArray]; rfl
    case st44 =>
      go_simp
      refine (tA.out _).mono ?_
      rintro ee wr2 ⟨rfl, hbn⟩
      replace hA := hid (hA.out.below hbn)
      replace hB := hid (hB.out.below hbn)
      replace hQ := hid (hQ.out.below hbn)
      replace hR := hid (hR.out.below hbn)
      replace hbel := hid (hbel.out.trans (hbn.mono hbel.out.size))
      clear hbn
      go_wp2_with fail
      refine hK.out _ _ ?hS44 (fun hHeld => ?re44)
      case hS44 => trivial
      clear hK K
      (try simp only [Act.put, List.setIfInBounds_toArray, List.set_cons_zero, List.set_cons_succ])
      refine wpAnyH_ready (fuel := 7) (rs := [3]) (by kernel_rfl) (by simp) ?_
      refine AllReadyH.cons (o := ?oi45) ?hi45 (fun K hK => ?st45) AllReadyH.nil
      case hi45 => rw [List.getElem?_toArray]; rfl
      obtain ⟨i0, i1, i2, i3⟩ := RBox.box hB.out
      go_simp
      clear i0 i1 i2 i3
      refine hK.out _ _ ?hS45 (fun hHeld => ?re45)
      case hS45 => trivial
      clear hK K
      (try simp only [Act.put, List.setIfInBounds_toArray, List.set_cons_zero, List.set_cons_succ])
      refine wpAnyH_ready (fuel := 6) (rs := [4]) (by kernel_rfl) (by simp) ?_
      refine AllReadyH.cons (o := ?oi46) ?hi46 (fun K hK => ?st46) AllReadyH.nil
      case hi46 => rw [List.getElem?_toArray]; rfl
      go_simp
      refine (tB.out _).mono ?_
      rintro ee wr4 ⟨rfl, hbn⟩
      replace hA := hid (hA.out.below hbn)
      replace hB := hid (hB.out.below hbn)
      replace hQ := hid (hQ.out.below hbn)
      replace hR := hid (hR.out.below hbn)
      replace hbel := hid (hbel.out.trans (hbn.mono hbel.out.size))
      clear hbn
      go_wp2_with fail
      refine hK.out _ _ ?hS46 (fun hHeld => ?re46)
      case hS46 => trivial
      clear hK K
      (try simp only [Act.put, List.setIfInBounds_toArray, List.set_cons_zero, List.set_cons_succ])
      refine wpAnyH_ready (fuel := 5) (rs := [6]) (by kernel_rfl) (by simp) ?_
      refine AllReadyH.cons (o := ?oi47) ?hi47 (fun K hK => ?st47) AllReadyH.nil
      case hi47 => rw [List.getElem?_toArray]; rfl
      go_simp
      refine (tP.out _).mono ?_
      rintro ee wr6 ⟨rfl, hbn⟩
      replace hA := hid (hA.out.below hbn)
      replace hB := hid (hB.out.below hbn)
      replace hQ := hid (hQ.out.below hbn)
      replace hR := hid (hR.out.below hbn)
      replace hbel := hid (hbel.out.trans (hbn.mono hbel.out.size))
      clear hbn
      go_wp2_with fail
      refine hK.out _ _ ?hS47 (fun hHeld => ?re47)
      case hS47 => trivial
      clear hK K
      (try simp only [Act.put, List.setIfInBounds_toArray, List.set_cons_zero, List.set_cons_succ])
      refine wpAnyH_take (i := 7) (oi := ?oi48) (v := ?v48) (fuel := 4) ?hi48 ?hs48 ?hf48 ?hr48 ?hq48 (Or.inl ⟨?hw48, ?hy48⟩) hHeld ?rest48
      case hi48 => rw [List.getElem?_toArray]; rfl
      case hq48 => exact fun _ _ _ h => h
      case hs48 => kernel_rfl
      case hf48 => kernel_rfl
      case hr48 => kernel_rfl
      case hw48 => rfl
      case hy48 => (intro w1 hSw; (try dsimp only at hSw); go_simp; try with_reducible rfl)
      (try simp only [Act.put, List.setIfInBounds_toArray, List.set_cons_zero, List.set_cons_succ])
      refine wpAnyH_take (i := 8) (oi := ?oi49) (v := ?v49) (fuel := 3) ?hi49 ?hs49 ?hf49 ?hr49 ?hq49 (Or.inl ⟨?hw49, ?hy49⟩) hHeld ?rest49
      case hi49 => rw [List.getElem?_toArray]; rfl
      case hq49 => exact fun _ _ _ h => h
      case hs49 => kernel_rfl
      case hf49 => kernel_rfl
      case hr49 => kernel_rfl
      case hw49 => rfl
      case hy49 => (intro w1 hSw; (try dsimp only at hSw); go_simp; try with_reducible rfl)
      (try simp only [Act.put, List.setIfInBounds_toArray, List.set_cons_zero, List.set_cons_succ])
      refine wpAnyH_take (i := 9) (oi := ?oi50) (v := ?v50) (fuel := 2) ?hi50 ?hs50 ?hf50 ?hr50 ?hq50 (Or.inl ⟨?hw50, ?hy50⟩) hHeld ?rest50
      case hi50 => rw [List.getElem?_toArray]; rfl
      case hq50 => exact fun _ _ _ h => h
      case hs50 => kernel_rfl
      case hf50 => kernel_rfl
      case hr50 => kernel_rfl
      case hw50 => rfl
      case hy50 => (intro w1 hSw; (try dsimp only at hSw); go_simp; try with_reducible rfl)
      (try simp only [Act.put, List.setIfInBounds_toArray, List.set_cons_zero, List.set_cons_succ])
      refine wpAnyH_ready (fuel := 1) (rs := [10]) (by kernel_rfl) (by simp) ?_
      refine AllReadyH.cons (o := ?oi51) ?hi51 (fun K hK => ?st51) AllReadyH.nil
      case hi51 => rw [List.getElem?_toArray]; rfl
      obtain ⟨g0, g1, g2, g3⟩ := RBox.box hA.out
      have fq := RBox.frozen hA.out
      go_simp
      clear g0 g1 g2 g3 fq
      replace hB := hid (hB.out.st4o (k := w.heap.size) (by first | omega | (have := RBox.lt hB.out; omega)) (x) (y) (z) (u))
      replace hQ := hid (hQ.out.st4o (k := w.heap.size) (by first | omega | (have := RBox.lt hQ.out; omega)) (x) (y) (z) (u))
      replace hR := hid (hR.out.st4o (k := w.heap.size) (by first | omega | (have := RBox.lt hR.out; omega)) (x) (y) (z) (u))
      replace hA := hid (hA.out.st4 (x' := x) (y' := y) (z' := z) (u' := u))
      replace hbel := hid (st4_below (w.heap.size) (x) (y) (z) (u) hbel.out (by omega))
      unfold Go.Proofs.Ytcopcajleonndaa.st4 at hbel hA hB hQ hR
      generalize ((((wr6.setCell ⟨w.heap.size, 0, none⟩ (.int .i64 (x))).setCell ⟨w.heap.size, 1, none⟩ (.int .i64 (y))).setCell ⟨w.heap.size, 2, none⟩ (.int .i64 (z))).setCell ⟨w.heap.size, 3, none⟩ (.int .i64 (u))) = ws10 at *
      refine hK.out _ _ ?hS51 (fun hHeld => ?re51)
      case hS51 => trivial
      clear hK K
      (try simp only [Act.put, List.setIfInBounds_toArray, List.set_cons_zero, List.set_cons_succ])
      refine wpAnyH_ready (fuel := 0) (rs := [11]) (by kernel_rfl) (by simp) ?_
      refine AllReadyH.cons (o := ?oi52) ?hi52 (fun K hK => ?st52) AllReadyH.nil
      case hi52 => rw [List.getElem?_toArray]; rfl
      obtain ⟨g0, g1, g2, g3⟩ := RBox.box hB.out
      have fq := RBox.frozen hB.out
      go_simp
      clear g0 g1 g2 g3 fq
      replace hA := hid (hA.out.st4o (k := w.heap.size + 1) (by first | omega | (have := RBox.lt hA.out; omega)) (x') (y') (z') (u'))
      replace hQ := hid (hQ.out.st4o (k := w.heap.size + 1) (by first | omega | (have := RBox.lt hQ.out; omega)) (x') (y') (z') (u'))
      replace hR := hid (hR.out.st4o (k := w.heap.size + 1) (by first | omega | (have := RBox.lt hR.out; omega)) (x') (y') (z') (u'))
      replace hB := hid (hB.out.st4 (x' := x') (y' := y') (z' := z') (u' := u'))
      replace hbel := hid (st4_below (w.heap.size + 1) (x') (y') (z') (u') hbel.out (by omega))
      unfold Go.Proofs.Ytcopcajleonndaa.st4 at hbel hA hB hQ hR
      generalize ((((ws10.setCell ⟨w.heap.size + 1, 0, none⟩ (.int .i64 (x'))).setCell ⟨w.heap.size + 1, 1, none⟩ (.int .i64 (y'))).setCell ⟨w.heap.size + 1, 2, none⟩ (.int .i64 (z'))).setCell ⟨w.heap.size + 1, 3, none⟩ (.int .i64 (u'))) = ws11 at *
      refine hK.out _ _ ?hS52 (fun hHeld => ?re52)
      case hS52 => trivial
      clear hK K
      (try simp only [Act.put, List.setIfInBounds_toArray, List.set_cons_zero, List.set_cons_succ])
      refine wpAnyH_done (by kernel_rfl) ?_ _
      clear hHeld
      generalize ws11 = w3 at *
      have bA3 := hA
      have bB3 := hB
      have bQ3 := hQ
      have bR3 := hR
      have bel3 := hbel
      clear hbel hA hB hQ hR
      obtain ⟨cA0, cA1, cA2, cA3⟩ := RBox.box bA3.out
      obtain ⟨cB0, cB1, cB2, cB3⟩ := RBox.box bB3.out
      go_wp2_with fail
      refine (c_RangeSomeI _ _ _ _ _).mono ?_
      rintro ee w4 ⟨rfl, hb4⟩
      have bA4 := hid (bA3.out.below hb4)
      have bB4 := hid (bB3.out.below hb4)
      have bQ4 := hid (bQ3.out.below hb4)
      have bR4 := hid (bR3.out.below hb4)
      have bel4 := hid (bel3.out.trans (hb4.mono bel3.out.size))
      clear hb4 bA3 bB3 bQ3 bR3 bel3
      rw [s1]
      clear cA0 cA1 cA2 cA3 cB0 cB1 cB2 cB3
      go_wp2_with fail
      refine (c_noRange _).mono ?_
      rintro ee w5 ⟨rfl, hb5⟩
      have bA5 := hid (bA4.out.below hb5)
      have bB5 := hid (bB4.out.below hb5)
      have bQ5 := hid (bQ4.out.below hb5)
      have bR5 := hid (bR4.out.below hb5)
      have bel5 := hid (bel4.out.trans (hb5.mono bel4.out.size))
      clear hb5 bA4 bB4 bQ4 bR4 bel4
      go_wp2_with fail
      refine (c_noRange _).mono ?_
      rintro ee w6 ⟨rfl, hb6⟩
      have bA6 := hid (bA5.out.below hb6)
      have bB6 := hid (bB5.out.below hb6)
      have bQ6 := hid (bQ5.out.below hb6)
      have bR6 := hid (bR5.out.below hb6)
      have bel6 := hid (bel5.out.trans (hb6.mono bel5.out.size))
      clear hb6 bA5 bB5 bQ5 bR5 bel5
      obtain ⟨cQ0, cQ1, cQ2, cQ3⟩ := RBox.box bQ6.out
      obtain ⟨cR0, cR1, cR2, cR3⟩ := RBox.box bR6.out
      have frQ := RBox.frozen bQ6.out
      have frR := RBox.frozen bR6.out
      go_wp2_with fail
      have bA7 := hid (bA6.out.st4o (k := w.heap.size + 2) (by first | omega | (have := RBox.lt bA6.out; omega)) (1) (0) (0) (0))
      have bB7 := hid (bB6.out.st4o (k := w.heap.size + 2) (by first | omega | (have := RBox.lt bB6.out; omega)) (1) (0) (0) (0))
      have bQ7 := hid (bQ6.out.st4 (x' := 1) (y' := 0) (z' := 0) (u' := 0))
      have bR7 := hid (bR6.out.st4o (k := w.heap.size + 2) (by first | omega | (have := RBox.lt bR6.out; omega)) (1) (0) (0) (0))
      have bel7 := hid (st4_below (w.heap.size + 2) (1) (0) (0) (0) bel6.out (by omega))
      clear bA6 bB6 bQ6 bR6 bel6
      unfold Go.Proofs.Ytcopcajleonndaa.st4 at bel7 bA7 bB7 bQ7 bR7
      generalize ((((w6.setCell ⟨w.heap.size + 2, 0, none⟩ (.int .i64 (1))).setCell ⟨w.heap.size + 2, 1, none⟩ (.int .i64 (0))).setCell ⟨w.heap.size + 2, 2, none⟩ (.int .i64 (0))).setCell ⟨w.heap.size + 2, 3, none⟩ (.int .i64 (0))) = w7 at *
      have bA8 := hid (bA7.out.st4o (k := w.heap.size + 3) (by first | omega | (have := RBox.lt bA7.out; omega)) (1) (0) (0) (0))
      have bB8 := hid (bB7.out.st4o (k := w.heap.size + 3) (by first | omega | (have := RBox.lt bB7.out; omega)) (1) (0) (0) (0))
      have bQ8 := hid (bQ7.out.st4o (k := w.heap.size + 3) (by first | omega | (have := RBox.lt bQ7.out; omega)) (1) (0) (0) (0))
      have bR8 := hid (bR7.out.st4 (x' := 1) (y' := 0) (z' := 0) (u' := 0))
      have bel8 := hid (st4_below (w.heap.size + 3) (1) (0) (0) (0) bel7.out (by omega))
      clear bA7 bB7 bQ7 bR7 bel7
      unfold Go.Proofs.Ytcopcajleonndaa.st4 at bel8 bA8 bB8 bQ8 bR8
      generalize ((((w7.setCell ⟨w.heap.size + 3, 0, none⟩ (.int .i64 (1))).setCell ⟨w.heap.size + 3, 1, none⟩ (.int .i64 (0))).setCell ⟨w.heap.size + 3, 2, none⟩ (.int .i64 (0))).setCell ⟨w.heap.size + 3, 3, none⟩ (.int .i64 (0))) = w8 at *
      clear cQ0 cQ1 cQ2 cQ3 cR0 cR1 cR2 cR3
      clear frQ frR
      obtain ⟨p0, p1, p2, p3⟩ := RBox.box bQ8.out
      obtain ⟨q0, q1, q2, q3⟩ := RBox.box bR8.out
      refine bodyPost_ret (v := .tuple #[rv 1 0 0 0, rv 1 0 0 0, .bool false]) (by simp [results, Try.results37, go_sem, p0, p1, p2, p3, q0, q1, q2, q3]) rfl ⟨rfl, bel8.out⟩
    refine AllReadyH.cons (o := ?oi53) ?hi53 (fun K hK => ?st53) ?mo53
    case hi53 => rw [List.getElem?_toArray]; rfl
    case st53 =>
      obtain ⟨i0, i1, i2, i3⟩ := RBox.box hB.out
      go_simp
      clear i0 i1 i2 i3
      refine hK.out _ _ ?hS53 (fun hHeld => ?re53)
      case hS53 => trivial
      clear hK K
      (try simp only [Act.put, List.setIfInBounds_toArray, List.set_cons_zero, List.set_cons_succ])
      refine wpAnyH_ready (fuel := 7) (rs := [2]) (by kernel_rfl) (by simp) ?_
      refine AllReadyH.cons (o := ?oi54) ?hi54 (fun K hK => ?st54) AllReadyH.nil
      case hi54 => rw [List.getElem?_toArray]; rfl
      go_simp
      refine (tA.out _).mono ?_
      rintro ee wr2 ⟨rfl, hbn⟩
      replace hA := hid (hA.out.below hbn)
      replace hB := hid (hB.out.below hbn)
      replace hQ := hid (hQ.out.below hbn)
      replace hR := hid (hR.out.below hbn)
      replace hbel := hid (hbel.out.trans (hbn.mono hbel.out.size))
      clear hbn
      go_wp2_with fail
      refine hK.out _ _ ?hS54 (fun hHeld => ?re54)
      case hS54 => trivial
      clear hK K
      (try simp only [Act.put, List.setIfInBounds_toArray, List.set_cons_zero, List.set_cons_succ])
      refine wpAnyH_ready (fuel := 6) (rs := [4]) (by kernel_rfl) (by simp) ?_
      refine AllReadyH.cons (o := ?oi55) ?hi55 (fun K hK => ?st55) AllReadyH.nil
      case hi55 => rw [List.getElem?_toArray]; rfl
      go_simp
      refine (tB.out _).mono ?_
      rintro ee wr4 ⟨rfl, hbn⟩
      replace hA := hid (hA.out.below hbn)
      replace hB := hid (hB.out.below hbn)
      replace hQ := hid (hQ.out.below hbn)
      replace hR := hid (hR.out.below hbn)
      replace hbel := hid (hbel.out.trans (hbn.mono hbel.out.size))
      clear hbn
      go_wp2_with fail
      refine hK.out _ _ ?hS55 (fun hHeld => ?re55)
      case hS55 => trivial
      clear hK K
      (try simp only [Act.put, List.setIfInBounds_toArray, List.set_cons_zero, List.set_cons_succ])
      refine wpAnyH_ready (fuel := 5) (rs := [6]) (by kernel_rfl) (by simp) ?_
      refine AllReadyH.cons (o := ?oi56) ?hi56 (fun K hK => ?st56) AllReadyH.nil
      case hi56 => rw [List.getElem?_toArray]; rfl
      go_simp
      refine (tP.out _).mono ?_
      rintro ee wr6 ⟨rfl, hbn⟩
      replace hA := hid (hA.out.below hbn)
      replace hB := hid (hB.out.below hbn)
      replace hQ := hid (hQ.out.below hbn)
      replace hR := hid (hR.out.below hbn)
      replace hbel := hid (hbel.out.trans (hbn.mono hbel.out.size))
      clear hbn
      go_wp2_with fail
      refine hK.out _ _ ?hS56 (fun hHeld => ?re56)
      case hS56 => trivial
      clear hK K
      (try simp only [Act.put, List.setIfInBounds_toArray, List.set_cons_zero, List.set_cons_succ])
      refine wpAnyH_take (i := 7) (oi := ?oi57) (v := ?v57) (fuel := 4) ?hi57 ?hs57 ?hf57 ?hr57 ?hq57 (Or.inl ⟨?hw57, ?hy57⟩) hHeld ?rest57
      case hi57 => rw [List.getElem?_toArray]; rfl
      case hq57 => exact fun _ _ _ h => h
      case hs57 => kernel_rfl
      case hf57 => kernel_rfl
      case hr57 => kernel_rfl
      case hw57 => rfl
      case hy57 => (intro w1 hSw; (try dsimp only at hSw); go_simp; try with_reducible rfl)
      (try simp only [Act.put, List.setIfInBounds_toArray, List.set_cons_zero, List.set_cons_succ])
      refine wpAnyH_take (i := 8) (oi := ?oi58) (v := ?v58) (fuel := 3) ?hi58 ?hs58 ?hf58 ?hr58 ?hq58 (Or.inl ⟨?hw58, ?hy58⟩) hHeld ?rest58
      case hi58 => rw [List.getElem?_toArray]; rfl
      case hq58 => exact fun _ _ _ h => h
      case hs58 => kernel_rfl
      case hf58 => kernel_rfl
      case hr58 => kernel_rfl
      case hw58 => rfl
      case hy58 => (intro w1 hSw; (try dsimp only at hSw); go_simp; try with_reducible rfl)
      (try simp only [Act.put, List.setIfInBounds_toArray, List.set_cons_zero, List.set_cons_succ])
      refine wpAnyH_take (i := 9) (oi := ?oi59) (v := ?v59) (fuel := 2) ?hi59 ?hs59 ?hf59 ?hr59 ?hq59 (Or.inl ⟨?hw59, ?hy59⟩) hHeld ?rest59
      case hi59 => rw [List.getElem?_toArray]; rfl
      case hq59 => exact fun _ _ _ h => h
      case hs59 => kernel_rfl
      case hf59 => kernel_rfl
      case hr59 => kernel_rfl
      case hw59 => rfl
      case hy59 => (intro w1 hSw; (try dsimp only at hSw); go_simp; try with_reducible rfl)
      (try simp only [Act.put, List.setIfInBounds_toArray, List.set_cons_zero, List.set_cons_succ])
      refine wpAnyH_ready (fuel := 1) (rs := [10]) (by kernel_rfl) (by simp) ?_
      refine AllReadyH.cons (o := ?oi60) ?hi60 (fun K hK => ?st60) AllReadyH.nil
      case hi60 => rw [List.getElem?_toArray]; rfl
      obtain ⟨g0, g1, g2, g3⟩ := RBox.box hA.out
      have fq := RBox.frozen hA.out
      go_simp
      clear g0 g1 g2 g3 fq
      replace hB := hid (hB.out.st4o (k := w.heap.size) (by first | omega | (have := RBox.lt hB.out; omega)) (x) (y) (z) (u))
      replace hQ := hid (hQ.out.st4o (k := w.heap.size) (by first | omega | (have := RBox.lt hQ.out; omega)) (x) (y) (z) (u))
      replace hR := hid (hR.out.st4o (k := w.heap.size) (by first | omega | (have := RBox.lt hR.out; omega)) (x) (y) (z) (u))
      replace hA := hid (hA.out.st4 (x' := x) (y' := y) (z' := z) (u' := u))
      replace hbel := hid (st4_below (w.heap.size) (x) (y) (z) (u) hbel.out (by omega))
      unfold Go.Proofs.Ytcopcajleonndaa.st4 at hbel hA hB hQ hR
      generalize ((((wr6.setCell ⟨w.heap.size, 0, none⟩ (.int .i64 (x))).setCell ⟨w.heap.size, 1, none⟩ (.int .i64 (y))).setCell ⟨w.heap.size, 2, none⟩ (.int .i64 (z))).setCell ⟨w.heap.size, 3, none⟩ (.int .i64 (u))) = ws10 at *
      refine hK.out _ _ ?hS60 (fun hHeld => ?re60)
      case hS60 => trivial
      clear hK K
      (try simp only [Act.put, List.setIfInBounds_toArray, List.set_cons_zero, List.set_cons_succ])
      refine wpAnyH_ready (fuel := 0) (rs := [11]) (by kernel_rfl) (by simp) ?_
      refine AllReadyH.cons (o := ?oi61) ?hi61 (fun K hK => ?st61) AllReadyH.nil
      case hi61 => rw [List.getElem?_toArray]; rfl
      obtain ⟨g0, g1, g2, g3⟩ := RBox.box hB.out
      have fq := RBox.frozen hB.out
      go_simp
      clear g0 g1 g2 g3 fq
      replace hA := hid (hA.out.st4o (k := w.heap.size + 1) (by first | omega | (have := RBox.lt hA.out; omega)) (x') (y') (z') (u'))
      replace hQ := hid (hQ.out.st4o (k := w.heap.size + 1) (by first | omega | (have := RBox.lt hQ.out; omega)) (x') (y') (z') (u'))
      replace hR := hid (hR.out.st4o (k := w.heap.size + 1) (by first | omega | (have := RBox.lt hR.out; omega)) (x') (y') (z') (u'))
      replace hB := hid (hB.out.st4 (x' := x') (y' := y') (z' := z') (u' := u'))
      replace hbel := hid (st4_below (w.heap.size + 1) (x') (y') (z') (u') hbel.out (by omega))
      unfold Go.Proofs.Ytcopcajleonndaa.st4 at hbel hA hB hQ hR
      generalize ((((ws10.setCell ⟨w.heap.size + 1, 0, none⟩ (.int .i64 (x'))).setCell ⟨w.heap.size + 1, 1, none⟩ (.int .i64 (y'))).setCell ⟨w.heap.size + 1, 2, none⟩ (.int .i64 (z'))).setCell ⟨w.heap.size + 1, 3, none⟩ (.int .i64 (u'))) = ws11 at *
      refine hK.out _ _ ?hS61 (fun hHeld => ?re61)
      case hS61 => trivial
      clear hK K
      (try simp only [Act.put, List.setIfInBounds_toArray, List.set_cons_zero, List.set_cons_succ])
      refine wpAnyH_done (by kernel_rfl) ?_ _
      clear hHeld
      generalize ws11 = w3 at *
      have bA3 := hA
      have bB3 := hB
      have bQ3 := hQ
      have bR3 := hR
      have bel3 := hbel
      clear hbel hA hB hQ hR
      obtain ⟨cA0, cA1, cA2, cA3⟩ := RBox.box bA3.out
      obtain ⟨cB0, cB1, cB2, cB3⟩ := RBox.box bB3.out
      go_wp2_with fail
      refine (c_RangeSomeI _ _ _ _ _).mono ?_
      rintro ee w4 ⟨rfl, hb4⟩
      have bA4 := hid (bA3.out.below hb4)
      have bB4 := hid (bB3.out.below hb4)
      have bQ4 := hid (bQ3.out.below hb4)
      have bR4 := hid (bR3.out.below hb4)
      have bel4 := hid (bel3.out.trans (hb4.mono bel3.out.size))
      clear hb4 bA3 bB3 bQ3 bR3 bel3
      rw [s1]
      clear cA0 cA1 cA2 cA3 cB0 cB1 cB2 cB3
      go_wp2_with fail
      refine (c_noRange _).mono ?_
      rintro ee w5 ⟨rfl, hb5⟩
      have bA5 := hid (bA4.out.below hb5)
      have bB5 := hid (bB4.out.below hb5)
      have bQ5 := hid (bQ4.out.below hb5)
      have bR5 := hid (bR4.out.below hb5)
      have bel5 := hid (bel4.out.trans (hb5.mono bel4.out.size))
      clear hb5 bA4 bB4 bQ4 bR4 bel4
      go_wp2_with fail
      refine (c_noRange _).mono ?_
      rintro ee w6 ⟨rfl, hb6⟩
      have bA6 := hid (bA5.out.below hb6)
      have bB6 := hid (bB5.out.below hb6)
      have bQ6 := hid (bQ5.out.below hb6)
      have bR6 := hid (bR5.out.below hb6)
      have bel6 := hid (bel5.out.trans (hb6.mono bel5.out.size))
      clear hb6 bA5 bB5 bQ5 bR5 bel5
      obtain ⟨cQ0, cQ1, cQ2, cQ3⟩ := RBox.box bQ6.out
      obtain ⟨cR0, cR1, cR2, cR3⟩ := RBox.box bR6.out
      have frQ := RBox.frozen bQ6.out
      have frR := RBox.frozen bR6.out
      go_wp2_with fail
      have bA7 := hid (bA6.out.st4o (k := w.heap.size + 2) (by first | omega | (have := RBox.lt bA6.out; omega)) (1) (0) (0) (0))
      have bB7 := hid (bB6.out.st4o (k := w.heap.size + 2) (by first | omega | (have := RBox.lt bB6.out; omega)) (1) (0) (0) (0))
      have bQ7 := hid (bQ6.out.st4 (x' := 1) (y' := 0) (z' := 0) (u' := 0))
      have bR7 := hid (bR6.out.st4o (k := w.heap.size + 2) (by first | omega | (have := RBox.lt bR6.out; omega)) (1) (0) (0) (0))
      have bel7 := hid (st4_below (w.heap.size + 2) (1) (0) (0) (0) bel6.out (by omega))
      clear bA6 bB6 bQ6 bR6 bel6
      unfold Go.Proofs.Ytcopcajleonndaa.st4 at bel7 bA7 bB7 bQ7 bR7
      generalize ((((w6.setCell ⟨w.heap.size + 2, 0, none⟩ (.int .i64 (1))).setCell ⟨w.heap.size + 2, 1, none⟩ (.int .i64 (0))).setCell ⟨w.heap.size + 2, 2, none⟩ (.int .i64 (0))).setCell ⟨w.heap.size + 2, 3, none⟩ (.int .i64 (0))) = w7 at *
      have bA8 := hid (bA7.out.st4o (k := w.heap.size + 3) (by first | omega | (have := RBox.lt bA7.out; omega)) (1) (0) (0) (0))
      have bB8 := hid (bB7.out.st4o (k := w.heap.size + 3) (by first | omega | (have := RBox.lt bB7.out; omega)) (1) (0) (0) (0))
      have bQ8 := hid (bQ7.out.st4o (k := w.heap.size + 3) (by first | omega | (have := RBox.lt bQ7.out; omega)) (1) (0) (0) (0))
      have bR8 := hid (bR7.out.st4 (x' := 1) (y' := 0) (z' := 0) (u' := 0))
      have bel8 := hid (st4_below (w.heap.size + 3) (1) (0) (0) (0) bel7.out (by omega))
      clear bA7 bB7 bQ7 bR7 bel7
      unfold Go.Proofs.Ytcopcajleonndaa.st4 at bel8 bA8 bB8 bQ8 bR8
      generalize ((((w7.setCell ⟨w.heap.size + 3, 0, none⟩ (.int .i64 (1))).setCell ⟨w.heap.size + 3, 1, none⟩ (.int .i64 (0))).setCell ⟨w.heap.size + 3, 2, none⟩ (.int .i64 (0))).setCell ⟨w.heap.size + 3, 3, none⟩ (.int .i64 (0))) = w8 at *
      clear cQ0 cQ1 cQ2 cQ3 cR0 cR1 cR2 cR3
      clear frQ frR
      obtain ⟨p0, p1, p2, p3⟩ := RBox.box bQ8.out
      obtain ⟨q0, q1, q2, q3⟩ := RBox.box bR8.out
      refine bodyPost_ret (v := .tuple #[rv 1 0 0 0, rv 1 0 0 0, .bool false]) (by simp [results, Try.results37, go_sem, p0, p1, p2, p3, q0, q1, q2, q3]) rfl ⟨rfl, bel8.out⟩
    exact AllReadyH.nil
  refine AllReadyH.cons (o := ?oi62) ?hi62 (fun K hK => ?st62) ?mo62
  case hi62 => rw [List.getElem?_toArray]; rfl
  case st62 =>
    obtain ⟨i0, i1, i2, i3⟩ := RBox.box hB.out
    go_simp
    clear i0 i1 i2 i3
    refine hK.out _ _ ?hS62 (fun hHeld => ?re62)
    case hS62 => trivial
    clear hK K
    (try simp only [Act.put, List.setIfInBounds_toArray, List.set_cons_zero, List.set_cons_succ])
    refine wpAnyH_ready (fuel := 8) (rs := [1]) (by kernel_rfl) (by simp) ?_
    refine AllReadyH.cons (o := ?oi63) ?hi63 (fun K hK => ?st63) AllReadyH.nil
    case hi63 => rw [List.getElem?_toArray]; rfl
    obtain ⟨i0, i1, i2, i3⟩ := RBox.box hA.out
    go_simp
    clear i0 i1 i2 i3
    refine hK.out _ _ ?hS63 (fun hHeld => ?re63)
    case hS63 => trivial
    clear hK K
    (try simp only [Act.put, List.setIfInBounds_toArray, List.set_cons_zero, List.set_cons_succ])
    refine wpAnyH_ready (fuel := 7) (rs := [2]) (by kernel_rfl) (by simp) ?_
    refine AllReadyH.cons (o := ?oi64) ?hi64 (fun K hK => ?st64) AllReadyH.nil
    case hi64 => rw [List.getElem?_toArray]; rfl
    go_simp
    refine (tA.out _).mono ?_
    rintro ee wr2 ⟨rfl, hbn⟩
    replace hA := hid (hA.out.below hbn)
    replace hB := hid (hB.out.below hbn)
    replace hQ := hid (hQ.out.below hbn)
    replace hR := hid (hR.out.below hbn)
    replace hbel := hid (hbel.out.trans (hbn.mono hbel.out.size))
    clear hbn
    go_wp2_with fail
    refine hK.out _ _ ?hS64 (fun hHeld => ?re64)
    case hS64 => trivial
    clear hK K
    (try simp only [Act.put, List.setIfInBounds_toArray, List.set_cons_zero, List.set_cons_succ])
    refine wpAnyH_ready (fuel := 6) (rs := [4]) (by kernel_rfl) (by simp) ?_
    refine AllReadyH.cons (o := ?oi65) ?hi65 (fun K hK => ?st65) AllReadyH.nil
    case hi65 => rw [List.getElem?_toArray]; rfl
    go_simp
    refine (tB.out _).mono ?_
    rintro ee wr4 ⟨rfl, hbn⟩
    replace hA := hid (hA.out.below hbn)
    replace hB := hid (hB.out.below hbn)
    replace hQ := hid (hQ.out.below hbn)
    replace hR := hid (hR.out.below hbn)
    replace hbel := hid (hbel.out.trans (hbn.mono hbel.out.size))
    clear hbn
    go_wp2_with fail
    refine hK.out _ _ ?hS65 (fun hHeld => ?re65)
    case hS65 => trivial
    clear hK K
    (try simp only [Act.put, List.setIfInBounds_toArray, List.set_cons_zero, List.set_cons_succ])
    refine wpAnyH_ready (fuel := 5) (rs := [6]) (by kernel_rfl) (by simp) ?_
    refine AllReadyH.cons (o := ?oi66) ?hi66 (fun K hK => ?st66) AllReadyH.nil
    case hi66 => rw [List.getElem?_toArray]; rfl
    go_simp
    refine (tP.out _).mono ?_
    rintro ee wr6 ⟨rfl, hbn⟩
    replace hA := hid (hA.out.below hbn)
    replace hB := hid (hB.out.below hbn)
    replace hQ := hid (hQ.out.below hbn)
    replace hR := hid (hR.out.below hbn)
    replace hbel := hid (hbel.out.trans (hbn.mono hbel.out.size))
    clear hbn
    go_wp2_with fail
    refine hK.out _ _ ?hS66 (fun hHeld => ?re66)
    case hS66 => trivial
    clear hK K
    (try simp only [Act.put, List.setIfInBounds_toArray, List.set_cons_zero, List.set_cons_succ])
    refine wpAnyH_take (i := 7) (oi := ?oi67) (v := ?v67) (fuel := 4) ?hi67 ?hs67 ?hf67 ?hr67 ?hq67 (Or.inl ⟨?hw67, ?hy67⟩) hHeld ?rest67
    case hi67 => rw [List.getElem?_toArray]; rfl
    case hq67 => exact fun _ _ _ h => h
    case hs67 => kernel_rfl
    case hf67 => kernel_rfl
    case hr67 => kernel_rfl
    case hw67 => rfl
    case hy67 => (intro w1 hSw; (try dsimp only at hSw); go_simp; try with_reducible rfl)
    (try simp only [Act.put, List.setIfInBounds_toArray, List.set_cons_zero, List.set_cons_succ])
    refine wpAnyH_take (i := 8) (oi := ?oi68) (v := ?v68) (fuel := 3) ?hi68 ?hs68 ?hf68 ?hr68 ?hq68 (Or.inl ⟨?hw68, ?hy68⟩) hHeld ?rest68
    case hi68 => rw [List.getElem?_toArray]; rfl
    case hq68 => exact fun _ _ _ h => h
    case hs68 => kernel_rfl
    case hf68 => kernel_rfl
    case hr68 => kernel_rfl
    case hw68 => rfl
    case hy68 => (intro w1 hSw; (try dsimp only at hSw); go_simp; try with_reducible rfl)
    (try simp only [Act.put, List.setIfInBounds_toArray, List.set_cons_zero, List.set_cons_succ])
    refine wpAnyH_take (i := 9) (oi := ?oi69) (v := ?v69) (fuel := 2) ?hi69 ?hs69 ?hf69 ?hr69 ?hq69 (Or.inl ⟨?hw69, ?hy69⟩) hHeld ?rest69
    case hi69 => rw [List.getElem?_toArray]; rfl
    case hq69 => exact fun _ _ _ h => h
    case hs69 => kernel_rfl
    case hf69 => kernel_rfl
    case hr69 => kernel_rfl
    case hw69 => rfl
    case hy69 => (intro w1 hSw; (try dsimp only at hSw); go_simp; try with_reducible rfl)
    (try simp only [Act.put, List.setIfInBounds_toArray, List.set_cons_zero, List.set_cons_succ])
    refine wpAnyH_ready (fuel := 1) (rs := [10]) (by kernel_rfl) (by simp) ?_
    refine AllReadyH.cons (o := ?oi70) ?hi70 (fun K hK => ?st70) AllReadyH.nil
    case hi70 => rw [List.getElem?_toArray]; rfl
    obtain ⟨g0, g1, g2, g3⟩ := RBox.box hA.out
    have fq := RBox.frozen hA.out
    go_simp
    clear g0 g1 g2 g3 fq
    replace hB := hid (hB.out.st4o (k := w.heap.size) (by first | omega | (have := RBox.lt hB.out; omega)) (x) (y) (z) (u))
    replace hQ := hid (hQ.out.st4o (k := w.heap.size) (by first | omega | (have := RBox.lt hQ.out; omega)) (x) (y) (z) (u))
    replace hR := hid (hR.out.st4o (k := w.heap.size) (by first | omega | (have := RBox.lt hR.out; omega)) (x) (y) (z) (u))
    replace hA := hid (hA.out.st4 (x' := x) (y' := y) (z' := z) (u' := u))
    replace hbel := hid (st4_below (w.heap.size) (x) (y) (z) (u) hbel.out (by omega))
    unfold Go.Proofs.Ytcopcajleonndaa.st4 at hbel hA hB hQ hR
    generalize ((((wr6.setCell ⟨w.heap.size, 0, none⟩ (.int .i64 (x))).setCell ⟨w.heap.size, 1, none⟩ (.int .i64 (y))).setCell ⟨w.heap.size, 2, none⟩ (.int .i64 (z))).setCell ⟨w.heap.size, 3, none⟩ (.int .i64 (u))) = ws10 at *
    refine hK.out _ _ ?hS70 (fun hHeld => ?re70)
    case hS70 => trivial
    clear hK K
    (try simp only [Act.put, List.setIfInBounds_toArray, List.set_cons_zero, List.set_cons_succ])
    refine wpAnyH_ready (fuel := 0) (rs := [11]) (by kernel_rfl) (by simp) ?_
    refine AllReadyH.cons (o := ?oi71) ?hi71 (fun K hK => ?st71) AllReadyH.nil
    case hi71 => rw [List.getElem?_toArray]; rfl
    obtain ⟨g0, g1, g2, g3⟩ := RBox.box hB.out
    have fq := RBox.frozen hB.out
    go_simp
    clear g0 g1 g2 g3 fq
    replace hA := hid (hA.out.st4o (k := w.heap.size + 1) (by first | omega | (have := RBox.lt hA.out; omega)) (x') (y') (z') (u'))
    replace hQ := hid (hQ.out.st4o (k := w.heap.size + 1) (by first | omega | (have := RBox.lt hQ.out; omega)) (x') (y') (z') (u'))
    replace hR := hid (hR.out.st4o (k := w.heap.size + 1) (by first | omega | (have := RBox.lt hR.out; omega)) (x') (y') (z') (u'))
    replace hB := hid (hB.out.st4 (x' := x') (y' := y') (z' := z') (u' := u'))
    replace hbel := hid (st4_below (w.heap.size + 1) (x') (y') (z') (u') hbel.out (by omega))
    unfold Go.Proofs.Ytcopcajleonndaa.st4 at hbel hA hB hQ hR
    generalize ((((ws10.setCell ⟨w.heap.size + 1, 0, none⟩ (.int .i64 (x'))).setCell ⟨w.heap.size + 1, 1, none⟩ (.int .i64 (y'))).setCell ⟨w.heap.size + 1, 2, none⟩ (.int .i64 (z'))).setCell ⟨w.heap.size + 1, 3, none⟩ (.int .i64 (u'))) = ws11 at *
    refine hK.out _ _ ?hS71 (fun hHeld => ?re71)
    case hS71 => trivial
    clear hK K
    (try simp only [Act.put, List.setIfInBounds_toArray, List.set_cons_zero, List.set_cons_succ])
    refine wpAnyH_done (by kernel_rfl) ?_ _
    clear hHeld
    generalize ws11 = w3 at *
    have bA3 := hA
    have bB3 := hB
    have bQ3 := hQ
    have bR3 := hR
    have bel3 := hbel
    clear hbel hA hB hQ hR
    obtain ⟨cA0, cA1, cA2, cA3⟩ := RBox.box bA3.out
    obtain ⟨cB0, cB1, cB2, cB3⟩ := RBox.box bB3.out
    go_wp2_with fail
    refine (c_RangeSomeI _ _ _ _ _).mono ?_
    rintro ee w4 ⟨rfl, hb4⟩
    have bA4 := hid (bA3.out.below hb4)
    have bB4 := hid (bB3.out.below hb4)
    have bQ4 := hid (bQ3.out.below hb4)
    have bR4 := hid (bR3.out.below hb4)
    have bel4 := hid (bel3.out.trans (hb4.mono bel3.out.size))
    clear hb4 bA3 bB3 bQ3 bR3 bel3
    rw [s1]
    clear cA0 cA1 cA2 cA3 cB0 cB1 cB2 cB3
    go_wp2_with fail
    refine (c_noRange _).mono ?_
    rintro ee w5 ⟨rfl, hb5⟩
    have bA5 := hid (bA4.out.below hb5)
    have bB5 := hid (bB4.out.below hb5)
    have bQ5 := hid (bQ4.out.below hb5)
    have bR5 := hid (bR4.out.below hb5)
    have bel5 := hid (bel4.out.trans (hb5.mono bel4.out.size))
    clear hb5 bA4 bB4 bQ4 bR4 bel4
    go_wp2_with fail
    refine (c_noRange _).mono ?_
    rintro ee w6 ⟨rfl, hb6⟩
    have bA6 := hid (bA5.out.below hb6)
    have bB6 := hid (bB5.out.below hb6)
    have bQ6 := hid (bQ5.out.below hb6)
    have bR6 := hid (bR5.out.below hb6)
    have bel6 := hid (bel5.out.trans (hb6.mono bel5.out.size))
    clear hb6 bA5 bB5 bQ5 bR5 bel5
    obtain ⟨cQ0, cQ1, cQ2, cQ3⟩ := RBox.box bQ6.out
    obtain ⟨cR0, cR1, cR2, cR3⟩ := RBox.box bR6.out
    have frQ := RBox.frozen bQ6.out
    have frR := RBox.frozen bR6.out
    go_wp2_with fail
    have bA7 := hid (bA6.out.st4o (k := w.heap.size + 2) (by first | omega | (have := RBox.lt bA6.out; omega)) (1) (0) (0) (0))
    have bB7 := hid (bB6.out.st4o (k := w.heap.size + 2) (by first | omega | (have := RBox.lt bB6.out; omega)) (1) (0) (0) (0))
    have bQ7 := hid (bQ6.out.st4 (x' := 1) (y' := 0) (z' := 0) (u' := 0))
    have bR7 := hid (bR6.out.st4o (k := w.heap.size + 2) (by first | omega | (have := RBox.lt bR6.out; omega)) (1) (0) (0) (0))
    have bel7 := hid (st4_below (w.heap.size + 2) (1) (0) (0) (0) bel6.out (by omega))
    clear bA6 bB6 bQ6 bR6 bel6
    unfold Go.Proofs.Ytcopcajleonndaa.st4 at bel7 bA7 bB7 bQ7 bR7
    generalize ((((w6.setCell ⟨w.heap.size + 2, 0, none⟩ (.int .i64 (1))).setCell ⟨w.heap.size + 2, 1, none⟩ (.int .i64 (0))).setCell ⟨w.heap.size + 2, 2, none⟩ (.int .i64 (0))).setCell ⟨w.heap.size + 2, 3, none⟩ (.int .i64 (0))) = w7 at *
    have bA8 := hid (bA7.out.st4o (k := w.heap.size + 3) (by first | omega | (have := RBox.lt bA7.out; omega)) (1) (0) (0) (0))
    have bB8 := hid (bB7.out.st4o (k := w.heap.size + 3) (by first | omega | (have := RBox.lt bB7.out; omega)) (1) (0) (0) (0))
    have bQ8 := hid (bQ7.out.st4o (k := w.heap.size + 3) (by first | omega | (have := RBox.lt bQ7.out; omega)) (1) (0) (0) (0))
    have bR8 := hid (bR7.out.st4 (x' := 1) (y' := 0) (z' := 0) (u' := 0))
    have bel8 := hid (st4_below (w.heap.size + 3) (1) (0) (0) (0) bel7.out (by omega))
    clear bA7 bB7 bQ7 bR7 bel7
    unfold Go.Proofs.Ytcopcajleonndaa.st4 at bel8 bA8 bB8 bQ8 bR8
    generalize ((((w7.setCell ⟨w.heap.size + 3, 0, none⟩ (.int .i64 (1))).setCell ⟨w.heap.size + 3, 1, none⟩ (.int .i64 (0))).setCell ⟨w.heap.size + 3, 2, none⟩ (.int .i64 (0))).setCell ⟨w.heap.size + 3, 3, none⟩ (.int .i64 (0))) = w8 at *
    clear cQ0 cQ1 cQ2 cQ3 cR0 cR1 cR2 cR3
    clear frQ frR
    obtain ⟨p0, p1, p2, p3⟩ := RBox.box bQ8.out
    obtain ⟨q0, q1, q2, q3⟩ := RBox.box bR8.out
    refine bodyPost_ret (v := .tuple #[rv 1 0 0 0, rv 1 0 0 0, .bool false]) (by simp [results, Try.results37, go_sem, p0, p1, p2, p3, q0, q1, q2, q3]) rfl ⟨rfl, bel8.out⟩
  exact AllReadyH.nil

set_option maxRecDepth 100000 in
set_option maxHeartbeats 2000000 in
theorem w_Br_no5 (op a b c d e f g h : Int) (hl : Bool) (k1 k2 k3 k4 m1 m2 m3 m4 : Int) (x y z u x' y' z' u' : Int) (w : World) (hop : inB op 12 15 = true) (h1 : someI a b c d = true) (h2 : someI e f g h = true) (tA : Hid (∀ w, Calls Try.prog 51 #[rv a b c d] w fun ee w' => ee = .returned (rv k1 k2 k3 k4) ∧ Below w.heap.size w w')) (tB : Hid (∀ w, Calls Try.prog 51 #[rv e f g h] w fun ee w' => ee = .returned (rv m1 m2 m3 m4) ∧ Below w.heap.size w w')) (tP : Hid (∀ w, Calls Try.prog 54 #[.int .i64 op, rv k1 k2 k3 k4, rv m1 m2 m3 m4, .bool hl] w fun ee w' => ee = .returned (.tuple #[rv x y z u, rv x' y' z' u']) ∧ Below w.heap.size w w')) (s1 : someI x y z u = true) (s2 : someI x' y' z' u' = false) :
    Calls Try.prog 37 #[.int .i64 op, rv a b c d, rv e f g h, .bool hl] w fun ee w' => ee = .returned (.tuple #[rv 1 0 0 0, rv 1 0 0 0, .bool false]) ∧ Below w.heap.size w w' := by
  have bA0 : Hid (RBox ((((w.alloc (cellsR4 a b c d)).alloc (cellsR4 e f g h)).alloc (cellsR4 0 0 0 0)).alloc (cellsR4 0 0 0 0)) w.heap.size a b c d) := fourA w a b c d e f g h
  have bB0 : Hid (RBox ((((w.alloc (cellsR4 a b c d)).alloc (cellsR4 e f g h)).alloc (cellsR4 0 0 0 0)).alloc (cellsR4 0 0 0 0)) (w.heap.size + 1) e f g h) := fourB w a b c d e f g h
  have bQ0 : Hid (RBox ((((w.alloc (cellsR4 a b c d)).alloc (cellsR4 e f g h)).alloc (cellsR4 0 0 0 0)).alloc (cellsR4 0 0 0 0)) (w.heap.size + 2) 0 0 0 0) := fourQ w a b c d e f g h
  have bR0 : Hid (RBox ((((w.alloc (cellsR4 a b c d)).alloc (cellsR4 e f g h)).alloc (cellsR4 0 0 0 0)).alloc (cellsR4 0 0 0 0)) (w.heap.size + 3) 0 0 0 0) := fourR w a b c d e f g h
  have bel0 : Hid (Below w.heap.size w ((((w.alloc (cellsR4 a b c d)).alloc (cellsR4 e f g h)).alloc (cellsR4 0 0 0 0)).alloc (cellsR4 0 0 0 0))) := fourW w a b c d e f g h
  go_enter Try.func37, Try.ntmps37
  go_wp2_with fail
  refine (c_asksB _ _).mono ?_
  rintro ee w1 ⟨rfl, hw1⟩
  rw [hw1]; clear hw1 w1
  rw [hop]
  go_wp2_with fail
  refine (c_RangeSomeI _ _ _ _ _).mono ?_
  rintro ee w1 ⟨rfl, hb1⟩
  have bA1 := hid (bA0.out.below hb1)
  have bB1 := hid (bB0.out.below hb1)
  have bQ1 := hid (bQ0.out.below hb1)
  have bR1 := hid (bR0.out.below hb1)
  have bel1 := hid (bel0.out.trans (hb1.mono bel0.out.size))
  clear hb1 bA0 bB0 bQ0 bR0 bel0
  rw [h1]
  obtain ⟨cA0, cA1, cA2, cA3⟩ := RBox.box bA1.out
  obtain ⟨cB0, cB1, cB2, cB3⟩ := RBox.box bB1.out
  go_wp2_with fail
  refine (c_RangeSomeI _ _ _ _ _).mono ?_
  rintro ee w2 ⟨rfl, hb2⟩
  have bA2 := hid (bA1.out.below hb2)
  have bB2 := hid (bB1.out.below hb2)
  have bQ2 := hid (bQ1.out.below hb2)
  have bR2 := hid (bR1.out.below hb2)
  have bel2 := hid (bel1.out.trans (hb2.mono bel1.out.size))
  clear hb2 bA1 bB1 bQ1 bR1 bel1
  rw [h2]
  clear cA0 cA1 cA2 cA3 cB0 cB1 cB2 cB3
  obtain ⟨cA0, cA1, cA2, cA3⟩ := RBox.box bA2.out
  obtain ⟨cB0, cB1, cB2, cB3⟩ := RBox.box bB2.out
  go_wp2_with fail
  clear cA0 cA1 cA2 cA3 cB0 cB1 cB2 cB3
  clear h1 h2 hop
  refine wp_region_held_drew (S := (fun _ => True)) (by kernel_rfl) (trivial) (fun hHeld => ?_)
  have hA := hid (RBox.drew bA2.out)
  have hB := hid (RBox.drew bB2.out)
  have hQ := hid (RBox.drew bQ2.out)
  have hR := hid (RBox.drew bR2.out)
  have hbel := hid (Below.drew bel2.out)
  clear bA2 bB2 bQ2 bR2 bel2
  generalize w2.drew = W1 at *
  refine wpAnyH_take (i := 0) (oi := ?oi72) (v := ?v72) (fuel := 11) ?hi72 ?hs72 ?hf72 ?hr72 ?hq72 (Or.inl ⟨?hw72, ?hy72⟩) hHeld ?rest72
  case hi72 => rw [List.getElem?_toArray]; rfl
  case hq72 => exact fun _ _ _ h => h
  case hs72 => kernel_rfl
  case hf72 => kernel_rfl
  case hr72 => kernel_rfl
  case hw72 => rfl
  case hy72 => (intro w1 hSw; (try dsimp only at hSw); go_simp; try with_reducible rfl)
  (try simp only [Act.put, List.setIfInBounds_toArray, List.set_cons_zero, List.set_cons_succ])
  refine wpAnyH_take (i := 5) (oi := ?oi73) (v := ?v73) (fuel := 10) ?hi73 ?hs73 ?hf73 ?hr73 ?hq73 (Or.inl ⟨?hw73, ?hy73⟩) hHeld ?rest73
  case hi73 => rw [List.getElem?_toArray]; rfl
  case hq73 => exact fun _ _ _ h => h
  case hs73 => kernel_rfl
  case hf73 => kernel_rfl
  case hr73 => kernel_rfl
  case hw73 => rfl
  case hy73 => (intro w1 hSw; (try dsimp only at hSw); go_simp; try with_reducible rfl)
  (try simp only [Act.put, List.setIfInBounds_toArray, List.set_cons_zero, List.set_cons_succ])
  refine wpAnyH_ready (fuel := 9) (rs := [1, 3]) (by kernel_rfl) (by simp) ?_
  refine AllReadyH.cons (o := ?oi74) ?hi74 (fun K hK => ?st74) ?mo74
  case hi74 => rw [List.getElem?_toArray]; rfl
  case st74 =>
    obtain ⟨i0, i1, i2, i3⟩ := RBox.box hA.out
    go_simp
    clear i0 i1 i2 i3
    refine hK.out _ _ ?hS74 (fun hHeld => ?re74)
    case hS74 => trivial
    clear hK K
    (try simp only [Act.put, List.setIfInBounds_toArray, List.set_cons_zero, List.set_cons_succ])
    refine wpAnyH_ready (fuel := 8) (rs := [2, 3]) (by kernel_rfl) (by simp) ?_
    refine AllReadyH.cons (o := ?oi75) ?hi75 (fun K hK => ?st75) ?mo75
    case hi75 => rw [List.getElem?_toArray]; rfl
    case st75 =>
      go_simp
      refine (tA.out _).mono ?_
      rintro ee wr2 ⟨rfl, hbn⟩
      replace hA := hid (hA.out.below hbn)
      replace hB := hid (hB.out.below hbn)
      replace hQ := hid (hQ.out.below hbn)
      replace hR := hid (hR.out.below hbn)
      replace hbel := hid (hbel.out.trans (hbn.mono hbel.out.size))
      clear hbn
      go_wp2_with fail
      refine hK.out _ _ ?hS75 (fun hHeld => ?re75)
      case hS75 => trivial
      clear hK K
      (try simp only [Act.put, List.setIfInBounds_toArray, List.set_cons_zero, List.set_cons_succ])
      refine wpAnyH_ready (fuel := 7) (rs := [3]) (by kernel_rfl) (by simp) ?_
      refine AllReadyH.cons (o := ?oi76) ?hi76 (fun K hK => ?st76) AllReadyH.nil
      case hi76 => rw [List.getElem?_toArray]; rfl
      obtain ⟨i0, i1, i2, i3⟩ := RBox.box hB.out
      go_simp
      clear i0 i1 i2 i3
      refine hK.out _ _ ?hS76 (fun hHeld => ?re76)
      case hS76 => trivial
      clear hK K
      (try simp only [Act.put, List.setIfInBounds_toArray, List.set_cons_zero, List.set_cons_succ])
      refine wpAnyH_ready (fuel := 6) (rs := [4]) (by kernel_rfl) (by simp) ?_
      refine AllReadyH.cons (o := ?oi77) ?hi77 (fun K hK => ?st77) AllReadyH.nil
      case hi77 => rw [List.getElem?_toArray]; rfl
      go_simp
      refine (tB.out _).mono ?_
      rintro ee wr4 ⟨rfl, hbn⟩
      replace hA := hid (hA.out.below hbn)
      replace hB := hid (hB.out.below hbn)
      replace hQ := hid (hQ.out.below hbn)
      replace hR := hid (hR.out.below hbn)
      replace hbel := hid (hbel.out.trans (hbn.mono hbel.out.size))
      clear hbn
      go_wp2_with fail
      refine hK.out _ _ ?hS77 (fun hHeld => ?re77)
      case hS77 => trivial
      clear hK K
      (try simp only [Act.put, List.setIfInBounds_toArray, List.set_cons_zero, List.set_cons_succ])
      refine wpAnyH_ready (fuel := 5) (rs := [6]) (by kernel_rfl) (by simp) ?_
      refine AllReadyH.cons (o := ?oi78) ?hi78 (fun K hK => ?st78) AllReadyH.nil
      case hi78 => rw [List.getElem?_toArray]; rfl
      go_simp
      refine (tP.out _).mono ?_
      rintro ee wr6 ⟨rfl, hbn⟩
      replace hA := hid (hA.out.below hbn)
      replace hB := hid (hB.out.below hbn)
      replace hQ := hid (hQ.out.below hbn)
      replace hR := hid (hR.out.below hbn)
      replace hbel := hid (hbel.out.trans (hbn.mono hbel.out.size))
      clear hbn
      go_wp2_with fail
      refine hK.out _ _ ?hS78 (fun hHeld => ?re78)
      case hS78 => trivial
      clear hK K
      (try simp only [Act.put, List.setIfInBounds_toArray, List.set_cons_zero, List.set_cons_succ])
      refine wpAnyH_take (i := 7) (oi := ?oi79) (v := ?v79) (fuel := 4) ?hi79 ?hs79 ?hf79 ?hr79 ?hq79 (Or.inl ⟨?hw79, ?hy79⟩) hHeld ?rest79
      case hi79 => rw [List.getElem?_toArray]; rfl
      case hq79 => exact fun _ _ _ h => h
      case hs79 => kernel_rfl
      case hf79 => kernel_rfl
      case hr79 => kernel_rfl
      case hw79 => rfl
      case hy79 => (intro w1 hSw; (try dsimp only at hSw); go_simp; try with_reducible rfl)
      (try simp only [Act.put, List.setIfInBounds_toArray, List.set_cons_zero, List.set_cons_succ])
      refine wpAnyH_take (i := 8) (oi := ?oi80) (v := ?v80) (fuel := 3) ?hi80 ?hs80 ?hf80 ?hr80 ?hq80 (Or.inl ⟨?hw80, ?hy80⟩) hHeld ?rest80
      case hi80 => rw [List.getElem?_toArray]; rfl
      case hq80 => exact fun _ _ _ h => h
      case hs80 => kernel_rfl
      case hf80 => kernel_rfl
      case hr80 => kernel_rfl
      case hw80 => rfl
      case hy80 => (intro w1 hSw; (try dsimp only at hSw); go_simp; try with_reducible rfl)
      (try simp only [Act.put, List.setIfInBounds_toArray, List.set_cons_zero, List.set_cons_succ])
      refine wpAnyH_take (i := 9) (oi := ?oi81) (v := ?v81) (fuel := 2) ?hi81 ?hs81 ?hf81 ?hr81 ?hq81 (Or.inl ⟨?hw81, ?hy81⟩) hHeld ?rest81
      case hi81 => rw [List.getElem?_toArray]; rfl
      case hq81 => exact fun _ _ _ h => h
      case hs81 => kernel_rfl
      case hf81 => kernel_rfl
      case hr81 => kernel_rfl
      case hw81 => rfl
      case hy81 => (intro w1 hSw; (try dsimp only at hSw); go_simp; try with_reducible rfl)
      (try simp only [Act.put, List.setIfInBounds_toArray, List.set_cons_zero, List.set_cons_succ])
      refine wpAnyH_ready (fuel := 1) (rs := [10]) (by kernel_rfl) (by simp) ?_
      refine AllReadyH.cons (o := ?oi82) ?hi82 (fun K hK => ?st82) AllReadyH.nil
      case hi82 => rw [List.getElem?_toArray]; rfl
      obtain ⟨g0, g1, g2, g3⟩ := RBox.box hA.out
      have fq := RBox.frozen hA.out
      go_simp
      clear g0 g1 g2 g3 fq
      replace hB := hid (hB.out.st4o (k := w.heap.size) (by first | omega | (have := RBox.lt hB.out; omega)) (x) (y) (z) (u))
      replace hQ := hid (hQ.out.st4o (k := w.heap.size) (by first | omega | (have := RBox.lt hQ.out; omega)) (x) (y) (z) (u))
      replace hR := hid (hR.out.st4o (k := w.heap.size) (by first | omega | (have := RBox.lt hR.out; omega)) (x) (y) (z) (u))
      replace hA := hid (hA.out.st4 (x' := x) (y' := y) (z' := z) (u' := u))
      replace hbel := hid (st4_below (w.heap.size) (x) (y) (z) (u) hbel.out (by omega))
      unfold Go.Proofs.Ytcopcajleonndaa.st4 at hbel hA hB hQ hR
      generalize ((((wr6.setCell ⟨w.heap.size, 0, none⟩ (.int .i64 (x))).setCell ⟨w.heap.size, 1, none⟩ (.int .i64 (y))).setCell ⟨w.heap.size, 2, none⟩ (.int .i64 (z))).setCell ⟨w.heap.size, 3, none⟩ (.int .i64 (u))) = ws10 at *
      refine hK.out _ _ ?hS82 (fun hHeld => ?re82)
      case hS82 => trivial
      clear hK K
      (try simp only [Act.put, List.setIfInBounds_toArray, List.set_cons_zero, List.set_cons_succ])
      refine wpAnyH_ready (fuel := 0) (rs := [11]) (by kernel_rfl) (by simp) ?_
      refine AllReadyH.cons (o := ?oi83) ?hi83 (fun K hK => ?st83) AllReadyH.nil
      case hi83 => rw [List.getElem?_toArray]; rfl
      obtain ⟨g0, g1, g2, g3⟩ := RBox.box hB.out
      have fq := RBox.frozen hB.out
      go_simp
      clear g0 g1 g2 g3 fq
      replace hA := hid (hA.out.st4o (k := w.heap.size + 1) (by first | omega | (have := RBox.lt hA.out; omega)) (x') (y') (z') (u'))
      replace hQ := hid (hQ.out.st4o (k := w.heap.size + 1) (by first | omega | (have := RBox.lt hQ.out; omega)) (x') (y') (z') (u'))
      replace hR := hid (hR.out.st4o (k := w.heap.size + 1) (by first | omega | (have := RBox.lt hR.out; omega)) (x') (y') (z') (u'))
      replace hB := hid (hB.out.st4 (x' := x') (y' := y') (z' := z') (u' := u'))
      replace hbel := hid (st4_below (w.heap.size + 1) (x') (y') (z') (u') hbel.out (by omega))
      unfold Go.Proofs.Ytcopcajleonndaa.st4 at hbel hA hB hQ hR
      generalize ((((ws10.setCell ⟨w.heap.size + 1, 0, none⟩ (.int .i64 (x'))).setCell ⟨w.heap.size + 1, 1, none⟩ (.int .i64 (y'))).setCell ⟨w.heap.size + 1, 2, none⟩ (.int .i64 (z'))).setCell ⟨w.heap.size + 1, 3, none⟩ (.int .i64 (u'))) = ws11 at *
      refine hK.out _ _ ?hS83 (fun hHeld => ?re83)
      case hS83 => trivial
      clear hK K
      (try simp only [Act.put, List.setIfInBounds_toArray, List.set_cons_zero, List.set_cons_succ])
      refine wpAnyH_done (by kernel_rfl) ?_ _
      clear hHeld
      generalize ws11 = w3 at *
      have bA3 := hA
      have bB3 := hB
      have bQ3 := hQ
      have bR3 := hR
      have bel3 := hbel
      clear hbel hA hB hQ hR
      obtain ⟨cA0, cA1, cA2, cA3⟩ := RBox.box bA3.out
      obtain ⟨cB0, cB1, cB2, cB3⟩ := RBox.box bB3.out
      go_wp2_with fail
      refine (c_RangeSomeI _ _ _ _ _).mono ?_
      rintro ee w4 ⟨rfl, hb4⟩
      have bA4 := hid (bA3.out.below hb4)
      have bB4 := hid (bB3.out.below hb4)
      have bQ4 := hid (bQ3.out.below hb4)
      have bR4 := hid (bR3.out.below hb4)
      have bel4 := hid (bel3.out.trans (hb4.mono bel3.out.size))
      clear hb4 bA3 bB3 bQ3 bR3 bel3
      rw [s1]
      clear cA0 cA1 cA2 cA3 cB0 cB1 cB2 cB3
      obtain ⟨cA0, cA1, cA2, cA3⟩ := RBox.box bA4.out
      obtain ⟨cB0, cB1, cB2, cB3⟩ := RBox.box bB4.out
      go_wp2_with fail
      refine (c_RangeSomeI _ _ _ _ _).mono ?_
      rintro ee w5 ⟨rfl, hb5⟩
      have bA5 := hid (bA4.out.below hb5)
      have bB5 := hid (bB4.out.below hb5)
      have bQ5 := hid (bQ4.out.below hb5)
      have bR5 := hid (bR4.out.below hb5)
      have bel5 := hid (bel4.out.trans (hb5.mono bel4.out.size))
      clear hb5 bA4 bB4 bQ4 bR4 bel4
      rw [s2]
      clear cA0 cA1 cA2 cA3 cB0 cB1 cB2 cB3
      go_wp2_with fail
      refine (c_noRange _).mono ?_
      rintro ee w6 ⟨rfl, hb6⟩
      have bA6 := hid (bA5.out.below hb6)
      have bB6 := hid (bB5.out.below hb6)
      have bQ6 := hid (bQ5.out.below hb6)
      have bR6 := hid (bR5.out.below hb6)
      have bel6 := hid (bel5.out.trans (hb6.mono bel5.out.size))
      clear hb6 bA5 bB5 bQ5 bR5 bel5
      go_wp2_with fail
      refine (c_noRange _).mono ?_
      rintro ee w7 ⟨rfl, hb7⟩
      have bA7 := hid (bA6.out.below hb7)
      have bB7 := hid (bB6.out.below hb7)
      have bQ7 := hid (bQ6.out.below hb7)
      have bR7 := hid (bR6.out.below hb7)
      have bel7 := hid (bel6.out.trans (hb7.mono bel6.out.size))
      clear hb7 bA6 bB6 bQ6 bR6 bel6
      obtain ⟨cQ0, cQ1, cQ2, cQ3⟩ := RBox.box bQ7.out
      obtain ⟨cR0, cR1, cR2, cR3⟩ := RBox.box bR7.out
      have frQ := RBox.frozen bQ7.out
      have frR := RBox.frozen bR7.out
      go_wp2_with fail
      have bA8 := hid (bA7.out.st4o (k := w.heap.size + 2) (by first | omega | (have := RBox.lt bA7.out; omega)) (1) (0) (0) (0))
      have bB8 := hid (bB7.out.st4o (k := w.heap.size + 2) (by first | omega | (have := RBox.lt bB7.out; omega)) (1) (0) (0) (0))
      have bQ8 := hid (bQ7.out.st4 (x' := 1) (y' := 0) (z' := 0) (u' := 0))
      have bR8 := hid (bR7.out.st4o (k := w.heap.size + 2) (by first | omega | (have := RBox.lt bR7.out; omega)) (1) (0) (0) (0))
      have bel8 := hid (st4_below (w.heap.size + 2) (1) (0) (0) (0) bel7.out (by omega))
      clear bA7 bB7 bQ7 bR7 bel7
      unfold Go.Proofs.Ytcopcajleonndaa.st4 at bel8 bA8 bB8 bQ8 bR8
      generalize ((((w7.setCell ⟨w.heap.size + 2, 0, none⟩ (.int .i64 (1))).setCell ⟨w.heap.size + 2, 1, none⟩ (.int .i64 (0))).setCell ⟨w.heap.size + 2, 2, none⟩ (.int .i64 (0))).setCell ⟨w.heap.size + 2, 3, none⟩ (.int .i64 (0))) = w8 at *
      have bA9 := hid (bA8.out.st4o (k := w.heap.size + 3) (by first | omega | (have := RBox.lt bA8.out; omega)) (1) (0) (0) (0))
      have bB9 := hid (bB8.out.st4o (k := w.heap.size + 3) (by first | omega | (have := RBox.lt bB8.out; omega)) (1) (0) (0) (0))
      have bQ9 := hid (bQ8.out.st4o (k := w.heap.size + 3) (by first | omega | (have := RBox.lt bQ8.out; omega)) (1) (0) (0) (0))
      have bR9 := hid (bR8.out.st4 (x' := 1) (y' := 0) (z' := 0) (u' := 0))
      have bel9 := hid (st4_below (w.heap.size + 3) (1) (0) (0) (0) bel8.out (by omega))
      clear bA8 bB8 bQ8 bR8 bel8
      unfold Go.Proofs.Ytcopcajleonndaa.st4 at bel9 bA9 bB9 bQ9 bR9
      generalize ((((w8.setCell ⟨w.heap.size + 3, 0, none⟩ (.int .i64 (1))).setCell ⟨w.heap.size + 3, 1, none⟩ (.int .i64 (0))).setCell ⟨w.heap.size + 3, 2, none⟩ (.int .i64 (0))).setCell ⟨w.heap.size + 3, 3, none⟩ (.int .i64 (0))) = w9 at *
      clear cQ0 cQ1 cQ2 cQ3 cR0 cR1 cR2 cR3
      clear frQ frR
      obtain ⟨p0, p1, p2, p3⟩ := RBox.box bQ9.out
      obtain ⟨q0, q1, q2, q3⟩ := RBox.box bR9.out
      refine bodyPost_ret (v := .tuple #[rv 1 0 0 0, rv 1 0 0 0, .bool false]) (by simp [results, Try.results37, go_sem, p0, p1, p2, p3, q0, q1, q2, q3]) rfl ⟨rfl, bel9.out⟩
    refine AllReadyH.cons (o := ?oi84) ?hi84 (fun K hK => ?st84) ?mo84
    case hi84 => rw [List.getElem?_toArray]; rfl
    case st84 =>
      obtain ⟨i0, i1, i2, i3⟩ := RBox.box hB.out
      go_simp
      clear i0 i1 i2 i3
      refine hK.out _ _ ?hS84 (fun hHeld => ?re84)
      case hS84 => trivial
      clear hK K
      (try simp only [Act.put, List.setIfInBounds_toArray, List.set_cons_zero, List.set_cons_succ])
      refine wpAnyH_ready (fuel := 7) (rs := [2]) (by kernel_rfl) (by simp) ?_
      refine AllReadyH.cons (o := ?oi85) ?hi85 (fun K hK => ?st85) AllReadyH.nil
      case hi85 => rw [List.getElem?_toArray]; rfl
      go_simp
      refine (tA.out _).mono ?_
      rintro ee wr2 ⟨rfl, hbn⟩
      replace hA := hid (hA.out.below hbn)
      replace hB := hid (hB.out.below hbn)
      replace hQ := hid (hQ.out.below hbn)
      replace hR := hid (hR.out.below hbn)
      replace hbel := hid (hbel.out.trans (hbn.mono hbel.out.size))
      clear hbn
      go_wp2_with fail
      refine hK.out _ _ ?hS85 (fun hHeld => ?re85)
      case hS85 => trivial
      clear hK K
      (try simp only [Act.put, List.setIfInBounds_toArray, List.set_cons_zero, List.set_cons_succ])
      refine wpAnyH_ready (fuel := 6) (rs := [4]) (by kernel_rfl) (by simp) ?_
      refine AllReadyH.cons (o := ?oi86) ?hi86 (fun K hK => ?st86) AllReadyH.nil
      case hi86 => rw [List.getElem?_toArray]; rfl
      go_simp
      refine (tB.out _).mono ?_
      rintro ee wr4 ⟨rfl, hbn⟩
      replace hA := hid (hA.out.below hbn)
      replace hB := hid (hB.out.below hbn)
      replace hQ := hid (hQ.out.below hbn)
      replace hR := hid (hR.out.below hbn)
      replace hbel := hid (hbel.out.trans (hbn.mono hbel.out.size))
      clear hbn
      go_wp2_with fail
      refine hK.out _ _ ?hS86 (fun hHeld => ?re86)
      case hS86 => trivial
      clear hK K
      (try simp only [Act.put, List.setIfInBounds_toArray, List.set_cons_zero, List.set_cons_succ])
      refine wpAnyH_ready (fuel := 5) (rs := [6]) (by kernel_rfl) (by simp) ?_
      refine AllReadyH.cons (o := ?oi87) ?hi87 (fun K hK => ?st87) AllReadyH.nil
      case hi87 => rw [List.getElem?_toArray]; rfl
      go_simp
      refine (tP.out _).mono ?_
      rintro ee wr6 ⟨rfl, hbn⟩
      replace hA := hid (hA.out.below hbn)
      replace hB := hid (hB.out.below hbn)
      replace hQ := hid (hQ.out.below hbn)
      replace hR := hid (hR.out.below hbn)
      replace hbel := hid (hbel.out.trans (hbn.mono hbel.out.size))
      clear hbn
      go_wp2_with fail
      refine hK.out _ _ ?hS87 (fun hHeld => ?re87)
      case hS87 => trivial
      clear hK K
      (try simp only [Act.put, List.setIfInBounds_toArray, List.set_cons_zero, List.set_cons_succ])
      refine wpAnyH_take (i := 7) (oi := ?oi88) (v := ?v88) (fuel := 4) ?hi88 ?hs88 ?hf88 ?hr88 ?hq88 (Or.inl ⟨?hw88, ?hy88⟩) hHeld ?rest88
      case hi88 => rw [List.getElem?_toArray]; rfl
      case hq88 => exact fun _ _ _ h => h
      case hs88 => kernel_rfl
      case hf88 => kernel_rfl
      case hr88 => kernel_rfl
      case hw88 => rfl
      case hy88 => (intro w1 hSw; (try dsimp only at hSw); go_simp; try with_reducible rfl)
      (try simp only [Act.put, List.setIfInBounds_toArray, List.set_cons_zero, List.set_cons_succ])
      refine wpAnyH_take (i := 8) (oi := ?oi89) (v := ?v89) (fuel := 3) ?hi89 ?hs89 ?hf89 ?hr89 ?hq89 (Or.inl ⟨?hw89, ?hy89⟩) hHeld ?rest89
      case hi89 => rw [List.getElem?_toArray]; rfl
      case hq89 => exact fun _ _ _ h => h
      case hs89 => kernel_rfl
      case hf89 => kernel_rfl
      case hr89 => kernel_rfl
      case hw89 => rfl
      case hy89 => (intro w1 hSw; (try dsimp only at hSw); go_simp; try with_reducible rfl)
      (try simp only [Act.put, List.setIfInBounds_toArray, List.set_cons_zero, List.set_cons_succ])
      refine wpAnyH_take (i := 9) (oi := ?oi90) (v := ?v90) (fuel := 2) ?hi90 ?hs90 ?hf90 ?hr90 ?hq90 (Or.inl ⟨?hw90, ?hy90⟩) hHeld ?rest90
      case hi90 => rw [List.getElem?_toArray]; rfl
      case hq90 => exact fun _ _ _ h => h
      case hs90 => kernel_rfl
      case hf90 => kernel_rfl
      case hr90 => kernel_rfl
      case hw90 => rfl
      case hy90 => (intro w1 hSw; (try dsimp only at hSw); go_simp; try with_reducible rfl)
      (try simp only [Act.put, List.setIfInBounds_toArray, List.set_cons_zero, List.set_cons_succ])
      refine wpAnyH_ready (fuel := 1) (rs := [10]) (by kernel_rfl) (by simp) ?_
      refine AllReadyH.cons (o := ?oi91) ?hi91 (fun K hK => ?st91) AllReadyH.nil
      case hi91 => rw [List.getElem?_toArray]; rfl
      obtain ⟨g0, g1, g2, g3⟩ := RBox.box hA.out
      have fq := RBox.frozen hA.out
      go_simp
      clear g0 g1 g2 g3 fq
      replace hB := hid (hB.out.st4o (k := w.heap.size) (by first | omega | (have := RBox.lt hB.out; omega)) (x) (y) (z) (u))
      replace hQ := hid (hQ.out.st4o (k := w.heap.size) (by first | omega | (have := RBox.lt hQ.out; omega)) (x) (y) (z) (u))
      replace hR := hid (hR.out.st4o (k := w.heap.size) (by first | omega | (have := RBox.lt hR.out; omega)) (x) (y) (z) (u))
      replace hA := hid (hA.out.st4 (x' := x) (y' := y) (z' := z) (u' := u))
      replace hbel := hid (st4_below (w.heap.size) (x) (y) (z) (u) hbel.out (by omega))
      unfold Go.Proofs.Ytcopcajleonndaa.st4 at hbel hA hB hQ hR
      generalize ((((wr6.setCell ⟨w.heap.size, 0, none⟩ (.int .i64 (x))).setCell ⟨w.heap.size, 1, none⟩ (.int .i64 (y))).setCell ⟨w.heap.size, 2, none⟩ (.int .i64 (z))).setCell ⟨w.heap.size, 3, none⟩ (.int .i64 (u))) = ws10 at *
      refine hK.out _ _ ?hS91 (fun hHeld => ?re91)
      case hS91 => trivial
      clear hK K
      (try simp only [Act.put, List.setIfInBounds_toArray, List.set_cons_zero, List.set_cons_succ])
      refine wpAnyH_ready (fuel := 0) (rs := [11]) (by kernel_rfl) (by simp) ?_
      refine AllReadyH.cons (o := ?oi92) ?hi92 (fun K hK => ?st92) AllReadyH.nil
      case hi92 => rw [List.getElem?_toArray]; rfl
      obtain ⟨g0, g1, g2, g3⟩ := RBox.box hB.out
      have fq := RBox.frozen hB.out
      go_simp
      clear g0 g1 g2 g3 fq
      replace hA := hid (hA.out.st4o (k := w.heap.size + 1) (by first | omega | (have := RBox.lt hA.out; omega)) (x') (y') (z') (u'))
      replace hQ := hid (hQ.out.st4o (k := w.heap.size + 1) (by first | omega | (have := RBox.lt hQ.out; omega)) (x') (y') (z') (u'))
      replace hR := hid (hR.out.st4o (k := w.heap.size + 1) (by first | omega | (have := RBox.lt hR.out; omega)) (x') (y') (z') (u'))
      replace hB := hid (hB.out.st4 (x' := x') (y' := y') (z' := z') (u' := u'))
      replace hbel := hid (st4_below (w.heap.size + 1) (x') (y') (z') (u') hbel.out (by omega))
      unfold Go.Proofs.Ytcopcajleonndaa.st4 at hbel hA hB hQ hR
      generalize ((((ws10.setCell ⟨w.heap.size + 1, 0, none⟩ (.int .i64 (x'))).setCell ⟨w.heap.size + 1, 1, none⟩ (.int .i64 (y'))).setCell ⟨w.heap.size + 1, 2, none⟩ (.int .i64 (z'))).setCell ⟨w.heap.size + 1, 3, none⟩ (.int .i64 (u'))) = ws11 at *
      refine hK.out _ _ ?hS92 (fun hHeld => ?re92)
      case hS92 => trivial
      clear hK K
      (try simp only [Act.put, List.setIfInBounds_toArray, List.set_cons_zero, List.set_cons_succ])
      refine wpAnyH_done (by kernel_rfl) ?_ _
      clear hHeld
      generalize ws11 = w3 at *
      have bA3 := hA
      have bB3 := hB
      have bQ3 := hQ
      have bR3 := hR
      have bel3 := hbel
      clear hbel hA hB hQ hR
      obtain ⟨cA0, cA1, cA2, cA3⟩ := RBox.box bA3.out
      obtain ⟨cB0, cB1, cB2, cB3⟩ := RBox.box bB3.out
      go_wp2_with fail
      refine (c_RangeSomeI _ _ _ _ _).mono ?_
      rintro ee w4 ⟨rfl, hb4⟩
      have bA4 := hid (bA3.out.below hb4)
      have bB4 := hid (bB3.out.below hb4)
      have bQ4 := hid (bQ3.out.below hb4)
      have bR4 := hid (bR3.out.below hb4)
      have bel4 := hid (bel3.out.trans (hb4.mono bel3.out.size))
      clear hb4 bA3 bB3 bQ3 bR3 bel3
      rw [s1]
      clear cA0 cA1 cA2 cA3 cB0 cB1 cB2 cB3
      obtain ⟨cA0, cA1, cA2, cA3⟩ := RBox.box bA4.out
      obtain ⟨cB0, cB1, cB2, cB3⟩ := RBox.box bB4.out
      go_wp2_with fail
      refine (c_RangeSomeI _ _ _ _ _).mono ?_
      rintro ee w5 ⟨rfl, hb5⟩
      have bA5 := hid (bA4.out.below hb5)
      have bB5 := hid (bB4.out.below hb5)
      have bQ5 := hid (bQ4.out.below hb5)
      have bR5 := hid (bR4.out.below hb5)
      have bel5 := hid (bel4.out.trans (hb5.mono bel4.out.size))
      clear hb5 bA4 bB4 bQ4 bR4 bel4
      rw [s2]
      clear cA0 cA1 cA2 cA3 cB0 cB1 cB2 cB3
      go_wp2_with fail
      refine (c_noRange _).mono ?_
      rintro ee w6 ⟨rfl, hb6⟩
      have bA6 := hid (bA5.out.below hb6)
      have bB6 := hid (bB5.out.below hb6)
      have bQ6 := hid (bQ5.out.below hb6)
      have bR6 := hid (bR5.out.below hb6)
      have bel6 := hid (bel5.out.trans (hb6.mono bel5.out.size))
      clear hb6 bA5 bB5 bQ5 bR5 bel5
      go_wp2_with fail
      refine (c_noRange _).mono ?_
      rintro ee w7 ⟨rfl, hb7⟩
      have bA7 := hid (bA6.out.below hb7)
      have bB7 := hid (bB6.out.below hb7)
      have bQ7 := hid (bQ6.out.below hb7)
      have bR7 := hid (bR6.out.below hb7)
      have bel7 := hid (bel6.out.trans (hb7.mono bel6.out.size))
      clear hb7 bA6 bB6 bQ6 bR6 bel6
      obtain ⟨cQ0, cQ1, cQ2, cQ3⟩ := RBox.box bQ7.out
      obtain ⟨cR0, cR1, cR2, cR3⟩ := RBox.box bR7.out
      have frQ := RBox.frozen bQ7.out
      have frR := RBox.frozen bR7.out
      go_wp2_with fail
      have bA8 := hid (bA7.out.st4o (k := w.heap.size + 2) (by first | omega | (have := RBox.lt bA7.out; omega)) (1) (0) (0) (0))
      have bB8 := hid (bB7.out.st4o (k := w.heap.size + 2) (by first | omega | (have := RBox.lt bB7.out; omega)) (1) (0) (0) (0))
      have bQ8 := hid (bQ7.out.st4 (x' := 1) (y' := 0) (z' := 0) (u' := 0))
      have bR8 := hid (bR7.out.st4o (k := w.heap.size + 2) (by first | omega | (have := RBox.lt bR7.out; omega)) (1) (0) (0) (0))
      have bel8 := hid (st4_below (w.heap.size + 2) (1) (0) (0) (0) bel7.out (by omega))
      clear bA7 bB7 bQ7 bR7 bel7
      unfold Go.Proofs.Ytcopcajleonndaa.st4 at bel8 bA8 bB8 bQ8 bR8
      generalize ((((w7.setCell ⟨w.heap.size + 2, 0, none⟩ (.int .i64 (1))).setCell ⟨w.heap.size + 2, 1, none⟩ (.int .i64 (0))).setCell ⟨w.heap.size + 2, 2, none⟩ (.int .i64 (0))).setCell ⟨w.heap.size + 2, 3, none⟩ (.int .i64 (0))) = w8 at *
      have bA9 := hid (bA8.out.st4o (k := w.heap.size + 3) (by first | omega | (have := RBox.lt bA8.out; omega)) (1) (0) (0) (0))
      have bB9 := hid (bB8.out.st4o (k := w.heap.size + 3) (by first | omega | (have := RBox.lt bB8.out; omega)) (1) (0) (0) (0))
      have bQ9 := hid (bQ8.out.st4o (k := w.heap.size + 3) (by first | omega | (have := RBox.lt bQ8.out; omega)) (1) (0) (0) (0))
      have bR9 := hid (bR8.out.st4 (x' := 1) (y' := 0) (z' := 0) (u' := 0))
      have bel9 := hid (st4_below (w.heap.size + 3) (1) (0) (0) (0) bel8.out (by omega))
      clear bA8 bB8 bQ8 bR8 bel8
      unfold Go.Proofs.Ytcopcajleonndaa.st4 at bel9 bA9 bB9 bQ9 bR9
      generalize ((((w8.setCell ⟨w.heap.size + 3, 0, none⟩ (.int .i64 (1))).setCell ⟨w.heap.size + 3, 1, none⟩ (.int .i64 (0))).setCell ⟨w.heap.size + 3, 2, none⟩ (.int .i64 (0))).setCell ⟨w.heap.size + 3, 3, none⟩ (.int .i64 (0))) = w9 at *
      clear cQ0 cQ1 cQ2 cQ3 cR0 cR1 cR2 cR3
      clear frQ frR
      obtain ⟨p0, p1, p2, p3⟩ := RBox.box bQ9.out
      obtain ⟨q0, q1, q2, q3⟩ := RBox.box bR9.out
      refine bodyPost_ret (v := .tuple #[rv 1 0 0 0, rv 1 0 0 0, .bool false]) (by simp [results, Try.results37, go_sem, p0, p1, p2, p3, q0, q1, q2, q3]) rfl ⟨rfl, bel9.out⟩
    exact AllReadyH.nil
  refine AllReadyH.cons (o := ?oi93) ?hi93 (fun K hK => ?st93) ?mo93
  case hi93 => rw [List.getElem?_toArray]; rfl
  case st93 =>
    obtain ⟨i0, i1, i2, i3⟩ := RBox.box hB.out
    go_simp
    clear i0 i1 i2 i3
    refine hK.out _ _ ?hS93 (fun hHeld => ?re93)
    case hS93 => trivial
    clear hK K
    (try simp only [Act.put, List.setIfInBounds_toArray, List.set_cons_zero, List.set_cons_succ])
    refine wpAnyH_ready (fuel := 8) (rs := [1]) (by kernel_rfl) (by simp) ?_
    refine AllReadyH.cons (o := ?oi94) ?hi94 (fun K hK => ?st94) AllReadyH.nil
    case hi94 => rw [List.getElem?_toArray]; rfl
    obtain ⟨i0, i1, i2, i3⟩ := RBox.box hA.out
    go_simp
    clear i0 i1 i2 i3
    refine hK.out _ _ ?hS94 (fun hHeld => ?re94)
    case hS94 => trivial
    clear hK K
    (try simp only [Act.put, List.setIfInBounds_toArray, List.set_cons_zero, List.set_cons_succ])
    refine wpAnyH_ready (fuel := 7) (rs := [2]) (by kernel_rfl) (by simp) ?_
    refine AllReadyH.cons (o := ?oi95) ?hi95 (fun K hK => ?st95) AllReadyH.nil
    case hi95 => rw [List.getElem?_toArray]; rfl
    go_simp
    refine (tA.out _).mono ?_
    rintro ee wr2 ⟨rfl, hbn⟩
    replace hA := hid (hA.out.below hbn)
    replace hB := hid (hB.out.below hbn)
    replace hQ := hid (hQ.out.below hbn)
    replace hR := hid (hR.out.below hbn)
    replace hbel := hid (hbel.out.trans (hbn.mono hbel.out.size))
    clear hbn
    go_wp2_with fail
    refine hK.out _ _ ?hS95 (fun hHeld => ?re95)
    case hS95 => trivial
    clear hK K
    (try simp only [Act.put, List.setIfInBounds_toArray, List.set_cons_zero, List.set_cons_succ])
    refine wpAnyH_ready (fuel := 6) (rs := [4]) (by kernel_rfl) (by simp) ?_
    refine AllReadyH.cons (o := ?oi96) ?hi96 (fun K hK => ?st96) AllReadyH.nil
    case hi96 => rw [List.getElem?_toArray]; rfl
    go_simp
    refine (tB.out _).mono ?_
    rintro ee wr4 ⟨rfl, hbn⟩
    replace hA := hid (hA.out.below hbn)
    replace hB := hid (hB.out.below hbn)
    replace hQ := hid (hQ.out.below hbn)
    replace hR := hid (hR.out.below hbn)
    replace hbel := hid (hbel.out.trans (hbn.mono hbel.out.size))
    clear hbn
    go_wp2_with fail
    refine hK.out _ _ ?hS96 (fun hHeld => ?re96)
    case hS96 => trivial
    clear hK K
    (try simp only [Act.put, List.setIfInBounds_toArray, List.set_cons_zero, List.set_cons_succ])
    refine wpAnyH_ready (fuel := 5) (rs := [6]) (by kernel_rfl) (by simp) ?_
    refine AllReadyH.cons (o := ?oi97) ?hi97 (fun K hK => ?st97) AllReadyH.nil
    case hi97 => rw [List.getElem?_toArray]; rfl
    go_simp
    refine (tP.out _).mono ?_
    rintro ee wr6 ⟨rfl, hbn⟩
    replace hA := hid (hA.out.below hbn)
    replace hB := hid (hB.out.below hbn)
    replace hQ := hid (hQ.out.below hbn)
    replace hR := hid (hR.out.below hbn)
    replace hbel := hid (hbel.out.trans (hbn.mono hbel.out.size))
    clear hbn
    go_wp2_with fail
    refine hK.out _ _ ?hS97 (fun hHeld => ?re97)
    case hS97 => trivial
    clear hK K
    (try simp only [Act.put, List.setIfInBounds_toArray, List.set_cons_zero, List.set_cons_succ])
    refine wpAnyH_take (i := 7) (oi := ?oi98) (v := ?v98) (fuel := 4) ?hi98 ?hs98 ?hf98 ?hr98 ?hq98 (Or.inl ⟨?hw98, ?hy98⟩) hHeld ?rest98
    case hi98 => rw [List.getElem?_toArray]; rfl
    case hq98 => exact fun _ _ _ h => h
    case hs98 => kernel_rfl
    case hf98 => kernel_rfl
    case hr98 => kernel_rfl
    case hw98 => rfl
    case hy98 => (intro w1 hSw; (try dsimp only at hSw); go_simp; try with_reducible rfl)
    (try simp only [Act.put, List.setIfInBounds_toArray, List.set_cons_zero, List.set_cons_succ])
    refine wpAnyH_take (i := 8) (oi := ?oi99) (v := ?v99) (fuel := 3) ?hi99 ?hs99 ?hf99 ?hr99 ?hq99 (Or.inl ⟨?hw99, ?hy99⟩) hHeld ?rest99
    case hi99 => rw [List.getElem?_toArray]; rfl
    case hq99 => exact fun _ _ _ h => h
    case hs99 => kernel_rfl
    case hf99 => kernel_rfl
    case hr99 => kernel_rfl
    case hw99 => rfl
    case hy99 => (intro w1 hSw; (try dsimp only at hSw); go_simp; try with_reducible rfl)
    (try simp only [Act.put, List.setIfInBounds_toArray, List.set_cons_zero, List.set_cons_succ])
    refine wpAnyH_take (i := 9) (oi := ?oi100) (v := ?v100) (fuel := 2) ?hi100 ?hs100 ?hf100 ?hr100 ?hq100 (Or.inl ⟨?hw100, ?hy100⟩) hHeld ?rest100
    case hi100 => rw [List.getElem?_toArray]; rfl
    case hq100 => exact fun _ _ _ h => h
    case hs100 => kernel_rfl
    case hf100 => kernel_rfl
    case hr100 => kernel_rfl
    case hw100 => rfl
    case hy100 => (intro w1 hSw; (try dsimp only at hSw); go_simp; try with_reducible rfl)
    (try simp only [Act.put, List.setIfInBounds_toArray, List.set_cons_zero, List.set_cons_succ])
    refine wpAnyH_ready (fuel := 1) (rs := [10]) (by kernel_rfl) (by simp) ?_
    refine AllReadyH.cons (o := ?oi101) ?hi101 (fun K hK => ?st101) AllReadyH.nil
    case hi101 => rw [List.getElem?_toArray]; rfl
    obtain ⟨g0, g1, g2, g3⟩ := RBox.box hA.out
    have fq := RBox.frozen hA.out
    go_simp
    clear g0 g1 g2 g3 fq
    replace hB := hid (hB.out.st4o (k := w.heap.size) (by first | omega | (have := RBox.lt hB.out; omega)) (x) (y) (z) (u))
    replace hQ := hid (hQ.out.st4o (k := w.heap.size) (by first | omega | (have := RBox.lt hQ.out; omega)) (x) (y) (z) (u))
    replace hR := hid (hR.out.st4o (k := w.heap.size) (by first | omega | (have := RBox.lt hR.out; omega)) (x) (y) (z) (u))
    replace hA := hid (hA.out.st4 (x' := x) (y' := y) (z' := z) (u' := u))
    replace hbel := hid (st4_below (w.heap.size) (x) (y) (z) (u) hbel.out (by omega))
    unfold Go.Proofs.Ytcopcajleonndaa.st4 at hbel hA hB hQ hR
    generalize ((((wr6.setCell ⟨w.heap.size, 0, none⟩ (.int .i64 (x))).setCell ⟨w.heap.size, 1, none⟩ (.int .i64 (y))).setCell ⟨w.heap.size, 2, none⟩ (.int .i64 (z))).setCell ⟨w.heap.size, 3, none⟩ (.int .i64 (u))) = ws10 at *
    refine hK.out _ _ ?hS101 (fun hHeld => ?re101)
    case hS101 => trivial
    clear hK K
    (try simp only [Act.put, List.setIfInBounds_toArray, List.set_cons_zero, List.set_cons_succ])
    refine wpAnyH_ready (fuel := 0) (rs := [11]) (by kernel_rfl) (by simp) ?_
    refine AllReadyH.cons (o := ?oi102) ?hi102 (fun K hK => ?st102) AllReadyH.nil
    case hi102 => rw [List.getElem?_toArray]; rfl
    obtain ⟨g0, g1, g2, g3⟩ := RBox.box hB.out
    have fq := RBox.frozen hB.out
    go_simp
    clear g0 g1 g2 g3 fq
    replace hA := hid (hA.out.st4o (k := w.heap.size + 1) (by first | omega | (have := RBox.lt hA.out; omega)) (x') (y') (z') (u'))
    replace hQ := hid (hQ.out.st4o (k := w.heap.size + 1) (by first | omega | (have := RBox.lt hQ.out; omega)) (x') (y') (z') (u'))
    replace hR := hid (hR.out.st4o (k := w.heap.size + 1) (by first | omega | (have := RBox.lt hR.out; omega)) (x') (y') (z') (u'))
    replace hB := hid (hB.out.st4 (x' := x') (y' := y') (z' := z') (u' := u'))
    replace hbel := hid (st4_below (w.heap.size + 1) (x') (y') (z') (u') hbel.out (by omega))
    unfold Go.Proofs.Ytcopcajleonndaa.st4 at hbel hA hB hQ hR
    generalize ((((ws10.setCell ⟨w.heap.size + 1, 0, none⟩ (.int .i64 (x'))).setCell ⟨w.heap.size + 1, 1, none⟩ (.int .i64 (y'))).setCell ⟨w.heap.size + 1, 2, none⟩ (.int .i64 (z'))).setCell ⟨w.heap.size + 1, 3, none⟩ (.int .i64 (u'))) = ws11 at *
    refine hK.out _ _ ?hS102 (fun hHeld => ?re102)
    case hS102 => trivial
    clear hK K
    (try simp only [Act.put, List.setIfInBounds_toArray, List.set_cons_zero, List.set_cons_succ])
    refine wpAnyH_done (by kernel_rfl) ?_ _
    clear hHeld
    generalize ws11 = w3 at *
    have bA3 := hA
    have bB3 := hB
    have bQ3 := hQ
    have bR3 := hR
    have bel3 := hbel
    clear hbel hA hB hQ hR
    obtain ⟨cA0, cA1, cA2, cA3⟩ := RBox.box bA3.out
    obtain ⟨cB0, cB1, cB2, cB3⟩ := RBox.box bB3.out
    go_wp2_with fail
    refine (c_RangeSomeI _ _ _ _ _).mono ?_
    rintro ee w4 ⟨rfl, hb4⟩
    have bA4 := hid (bA3.out.below hb4)
    have bB4 := hid (bB3.out.below hb4)
    have bQ4 := hid (bQ3.out.below hb4)
    have bR4 := hid (bR3.out.below hb4)
    have bel4 := hid (bel3.out.trans (hb4.mono bel3.out.size))
    clear hb4 bA3 bB3 bQ3 bR3 bel3
    rw [s1]
    clear cA0 cA1 cA2 cA3 cB0 cB1 cB2 cB3
    obtain ⟨cA0, cA1, cA2, cA3⟩ := RBox.box bA4.out
    obtain ⟨cB0, cB1, cB2, cB3⟩ := RBox.box bB4.out
    go_wp2_with fail
    refine (c_RangeSomeI _ _ _ _ _).mono ?_
    rintro ee w5 ⟨rfl, hb5⟩
    have bA5 := hid (bA4.out.below hb5)
    have bB5 := hid (bB4.out.below hb5)
    have bQ5 := hid (bQ4.out.below hb5)
    have bR5 := hid (bR4.out.below hb5)
    have bel5 := hid (bel4.out.trans (hb5.mono bel4.out.size))
    clear hb5 bA4 bB4 bQ4 bR4 bel4
    rw [s2]
    clear cA0 cA1 cA2 cA3 cB0 cB1 cB2 cB3
    go_wp2_with fail
    refine (c_noRange _).mono ?_
    rintro ee w6 ⟨rfl, hb6⟩
    have bA6 := hid (bA5.out.below hb6)
    have bB6 := hid (bB5.out.below hb6)
    have bQ6 := hid (bQ5.out.below hb6)
    have bR6 := hid (bR5.out.below hb6)
    have bel6 := hid (bel5.out.trans (hb6.mono bel5.out.size))
    clear hb6 bA5 bB5 bQ5 bR5 bel5
    go_wp2_with fail
    refine (c_noRange _).mono ?_
    rintro ee w7 ⟨rfl, hb7⟩
    have bA7 := hid (bA6.out.below hb7)
    have bB7 := hid (bB6.out.below hb7)
    have bQ7 := hid (bQ6.out.below hb7)
    have bR7 := hid (bR6.out.below hb7)
    have bel7 := hid (bel6.out.trans (hb7.mono bel6.out.size))
    clear hb7 bA6 bB6 bQ6 bR6 bel6
    obtain ⟨cQ0, cQ1, cQ2, cQ3⟩ := RBox.box bQ7.out
    obtain ⟨cR0, cR1, cR2, cR3⟩ := RBox.box bR7.out
    have frQ := RBox.frozen bQ7.out
    have frR := RBox.frozen bR7.out
    go_wp2_with fail
    have bA8 := hid (bA7.out.st4o (k := w.heap.size + 2) (by first | omega | (have := RBox.lt bA7.out; omega)) (1) (0) (0) (0))
    have bB8 := hid (bB7.out.st4o (k := w.heap.size + 2) (by first | omega | (have := RBox.lt bB7.out; omega)) (1) (0) (0) (0))
    have bQ8 := hid (bQ7.out.st4 (x' := 1) (y' := 0) (z' := 0) (u' := 0))
    have bR8 := hid (bR7.out.st4o (k := w.heap.size + 2) (by first | omega | (have := RBox.lt bR7.out; omega)) (1) (0) (0) (0))
    have bel8 := hid (st4_below (w.heap.size + 2) (1) (0) (0) (0) bel7.out (by omega))
    clear bA7 bB7 bQ7 bR7 bel7
    unfold Go.Proofs.Ytcopcajleonndaa.st4 at bel8 bA8 bB8 bQ8 bR8
    generalize ((((w7.setCell ⟨w.heap.size + 2, 0, none⟩ (.int .i64 (1))).setCell ⟨w.heap.size + 2, 1, none⟩ (.int .i64 (0))).setCell ⟨w.heap.size + 2, 2, none⟩ (.int .i64 (0))).setCell ⟨w.heap.size + 2, 3, none⟩ (.int .i64 (0))) = w8 at *
    have bA9 := hid (bA8.out.st4o (k := w.heap.size + 3) (by first | omega | (have := RBox.lt bA8.out; omega)) (1) (0) (0) (0))
    have bB9 := hid (bB8.out.st4o (k := w.heap.size + 3) (by first | omega | (have := RBox.lt bB8.out; omega)) (1) (0) (0) (0))
    have bQ9 := hid (bQ8.out.st4o (k := w.heap.size + 3) (by first | omega | (have := RBox.lt bQ8.out; omega)) (1) (0) (0) (0))
    have bR9 := hid (bR8.out.st4 (x' := 1) (y' := 0) (z' := 0) (u' := 0))
    have bel9 := hid (st4_below (w.heap.size + 3) (1) (0) (0) (0) bel8.out (by omega))
    clear bA8 bB8 bQ8 bR8 bel8
    unfold Go.Proofs.Ytcopcajleonndaa.st4 at bel9 bA9 bB9 bQ9 bR9
    generalize ((((w8.setCell ⟨w.heap.size + 3, 0, none⟩ (.int .i64 (1))).setCell ⟨w.heap.size + 3, 1, none⟩ (.int .i64 (0))).setCell ⟨w.heap.size + 3, 2, none⟩ (.int .i64 (0))).setCell ⟨w.heap.size + 3, 3, none⟩ (.int .i64 (0))) = w9 at *
    clear cQ0 cQ1 cQ2 cQ3 cR0 cR1 cR2 cR3
    clear frQ frR
    obtain ⟨p0, p1, p2, p3⟩ := RBox.box bQ9.out
    obtain ⟨q0, q1, q2, q3⟩ := RBox.box bR9.out
    refine bodyPost_ret (v := .tuple #[rv 1 0 0 0, rv 1 0 0 0, .bool false]) (by simp [results, Try.results37, go_sem, p0, p1, p2, p3, q0, q1, q2, q3]) rfl ⟨rfl, bel9.out⟩
  exact AllReadyH.nil

set_option maxRecDepth 100000 in
set_option maxHeartbeats 2000000 in
theorem w_Br_yes (op a b c d e f g h : Int) (hl : Bool) (k1 k2 k3 k4 m1 m2 m3 m4 : Int) (x y z u x' y' z' u' : Int) (w : World) (hop : inB op 12 15 = true) (h1 : someI a b c d = true) (h2 : someI e f g h = true) (tA : Hid (∀ w, Calls Try.prog 51 #[rv a b c d] w fun ee w' => ee = .returned (rv k1 k2 k3 k4) ∧ Below w.heap.size w w')) (tB : Hid (∀ w, Calls Try.prog 51 #[rv e f g h] w fun ee w' => ee = .returned (rv m1 m2 m3 m4) ∧ Below w.heap.size w w')) (tP : Hid (∀ w, Calls Try.prog 54 #[.int .i64 op, rv k1 k2 k3 k4, rv m1 m2 m3 m4, .bool hl] w fun ee w' => ee = .returned (.tuple #[rv x y z u, rv x' y' z' u']) ∧ Below w.heap.size w w')) (s1 : someI x y z u = true) (s2 : someI x' y' z' u' = true) :
    Calls Try.prog 37 #[.int .i64 op, rv a b c d, rv e f g h, .bool hl] w fun ee w' => ee = .returned (.tuple #[rv x y z u, rv x' y' z' u', .bool true]) ∧ Below w.heap.size w w' := by
  have bA0 : Hid (RBox ((((w.alloc (cellsR4 a b c d)).alloc (cellsR4 e f g h)).alloc (cellsR4 0 0 0 0)).alloc (cellsR4 0 0 0 0)) w.heap.size a b c d) := fourA w a b c d e f g h
  have bB0 : Hid (RBox ((((w.alloc (cellsR4 a b c d)).alloc (cellsR4 e f g h)).alloc (cellsR4 0 0 0 0)).alloc (cellsR4 0 0 0 0)) (w.heap.size + 1) e f g h) := fourB w a b c d e f g h
  have bQ0 : Hid (RBox ((((w.alloc (cellsR4 a b c d)).alloc (cellsR4 e f g h)).alloc (cellsR4 0 0 0 0)).alloc (cellsR4 0 0 0 0)) (w.heap.size + 2) 0 0 0 0) := fourQ w a b c d e f g h
  have bR0 : Hid (RBox ((((w.alloc (cellsR4 a b c d)).alloc (cellsR4 e f g h)).alloc (cellsR4 0 0 0 0)).alloc (cellsR4 0 0 0 0)) (w.heap.size + 3) 0 0 0 0) := fourR w a b c d e f g h
  have bel0 : Hid (Below w.heap.size w ((((w.alloc (cellsR4 a b c d)).alloc (cellsR4 e f g h)).alloc (cellsR4 0 0 0 0)).alloc (cellsR4 0 0 0 0))) := fourW w a b c d e f g h
  go_enter Try.func37, Try.ntmps37
  go_wp2_with fail
  refine (c_asksB _ _).mono ?_
  rintro ee w1 ⟨rfl, hw1⟩
  rw [hw1]; clear hw1 w1
  rw [hop]
  go_wp2_with fail
  refine (c_RangeSomeI _ _ _ _ _).mono ?_
  rintro ee w1 ⟨rfl, hb1⟩
  have bA1 := hid (bA0.out.below hb1)
  have bB1 := hid (bB0.out.below hb1)
  have bQ1 := hid (bQ0.out.below hb1)
  have bR1 := hid (bR0.out.below hb1)
  have bel1 := hid (bel0.out.trans (hb1.mono bel0.out.size))
  clear hb1 bA0 bB0 bQ0 bR0 bel0
  rw [h1]
  obtain ⟨cA0, cA1, cA2, cA3⟩ := RBox.box bA1.out
  obtain ⟨cB0, cB1, cB2, cB3⟩ := RBox.box bB1.out
  go_wp2_with fail
  refine (c_RangeSomeI _ _ _ _ _).mono ?_
  rintro ee w2 ⟨rfl, hb2⟩
  have bA2 := hid (bA1.out.below hb2)
  have bB2 := hid (bB1.out.below hb2)
  have bQ2 := hid (bQ1.out.below hb2)
  have bR2 := hid (bR1.out.below hb2)
  have bel2 := hid (bel1.out.trans (hb2.mono bel1.out.size))
  clear hb2 bA1 bB1 bQ1 bR1 bel1
  rw [h2]
  clear cA0 cA1 cA2 cA3 cB0 cB1 cB2 cB3
  obtain ⟨cA0, cA1, cA2, cA3⟩ := RBox.box bA2.out
  obtain ⟨cB0, cB1, cB2, cB3⟩ := RBox.box bB2.out
  go_wp2_with fail
  clear cA0 cA1 cA2 cA3 cB0 cB1 cB2 cB3
  clear h1 h2 hop
  refine wp_region_held_drew (S := (fun _ => True)) (by kernel_rfl) (trivial) (fun hHeld => ?_)
  have hA := hid (RBox.drew bA2.out)
  have hB := hid (RBox.drew bB2.out)
  have hQ := hid (RBox.drew bQ2.out)
  have hR := hid (RBox.drew bR2.out)
  have hbel := hid (Below.drew bel2.out)
  clear bA2 bB2 bQ2 bR2 bel2
  generalize w2.drew = W1 at *
  refine wpAnyH_take (i := 0) (oi := ?oi103) (v := ?v103) (fuel := 11) ?hi103 ?hs103 ?hf103 ?hr103 ?hq103 (Or.inl ⟨?hw103, ?hy103⟩) hHeld ?rest103
  case hi103 => rw [List.getElem?_toArray]; rfl
  case hq103 => exact fun _ _ _ h => h
  case hs103 => kernel_rfl
  case hf103 => kernel_rfl
  case hr103 => kernel_rfl
  case hw103 => rfl
  case hy103 => (intro w1 hSw; (try dsimp only at hSw); go_simp; try with_reducible rfl)
  (try simp only [Act.put, List.setIfInBounds_toArray, List.set_cons_zero, List.set_cons_succ])
  refine wpAnyH_take (i := 5) (oi := ?oi104) (v := ?v104) (fuel := 10) ?hi104 ?hs104 ?hf104 ?hr104 ?hq104 (Or.inl ⟨?hw104, ?hy104⟩) hHeld ?rest104
  case hi104 => rw [List.getElem?_toArray]; rfl
  case hq104 => exact fun _ _ _ h => h
  case hs104 => kernel_rfl
  case hf104 => kernel_rfl
  case hr104 => kernel_rfl
  case hw104 => rfl
  case hy104 => (intro w1 hSw; (try dsimp only at hSw); go_simp; try with_reducible rfl)
  (try simp only [Act.put, List.setIfInBounds_toArray, List.set_cons_zero, List.set_cons_succ])
  refine wpAnyH_ready (fuel := 9) (rs := [1, 3]) (by kernel_rfl) (by simp) ?_
  refine AllReadyH.cons (o := ?oi105) ?hi105 (fun K hK => ?st105) ?mo105
  case hi105 => rw [List.getElem?_toArray]; rfl
  case st105 =>
    obtain ⟨i0, i1, i2, i3⟩ := RBox.box hA.out
    go_simp
    clear i0 i1 i2 i3
    refine hK.out _ _ ?hS105 (fun hHeld => ?re105)
    case hS105 => trivial
    clear hK K
    (try simp only [Act.put, List.setIfInBounds_toArray, List.set_cons_zero, List.set_cons_succ])
    refine wpAnyH_ready (fuel := 8) (rs := [2, 3]) (by kernel_rfl) (by simp) ?_
    refine AllReadyH.cons (o := ?oi106) ?hi106 (fun K hK => ?st106) ?mo106
    case hi106 => rw [List.getElem?_toArray]; rfl
    case st106 =>
      go_simp
      refine (tA.out _).mono ?_
      rintro ee wr2 ⟨rfl, hbn⟩
      replace hA := hid (hA.out.below hbn)
      replace hB := hid (hB.out.below hbn)
      replace hQ := hid (hQ.out.below hbn)
      replace hR := hid (hR.out.below hbn)
      replace hbel := hid (hbel.out.trans (hbn.mono hbel.out.size))
      clear hbn
      go_wp2_with fail
      refine hK.out _ _ ?hS106 (fun hHeld => ?re106)
      case hS106 => trivial
      clear hK K
      (try simp only [Act.put, List.setIfInBounds_toArray, List.set_cons_zero, List.set_cons_succ])
      refine wpAnyH_ready (fuel := 7) (rs := [3]) (by kernel_rfl) (by simp) ?_
      refine AllReadyH.cons (o := ?oi107) ?hi107 (fun K hK => ?st107) AllReadyH.nil
      case hi107 => rw [List.getElem?_toArray]; rfl
      obtain ⟨i0, i1, i2, i3⟩ := RBox.box hB.out
      go_simp
      clear i0 i1 i2 i3
      refine hK.out _ _ ?hS107 (fun hHeld => ?re107)
      case hS107 => trivial
      clear hK K
      (try simp only [Act.put, List.setIfInBounds_toArray, List.set_cons_zero, List.set_cons_succ])
      refine wpAnyH_ready (fuel := 6) (rs := [4]) (by kernel_rfl) (by simp) ?_
      refine AllReadyH.cons (o := ?oi108) ?hi108 (fun K hK => ?st108) AllReadyH.nil
      case hi108 => rw [List.getElem?_toArray]; rfl
      go_simp
      refine (tB.out _).mono ?_
      rintro ee wr4 ⟨rfl, hbn⟩
      replace hA := hid (hA.out.below hbn)
      replace hB := hid (hB.out.below hbn)
      replace hQ := hid (hQ.out.below hbn)
      replace hR := hid (hR.out.below hbn)
      replace hbel := hid (hbel.out.trans (hbn.mono hbel.out.size))
      clear hbn
      go_wp2_with fail
      refine hK.out _ _ ?hS108 (fun hHeld => ?re108)
      case hS108 => trivial
      clear hK K
      (try simp only [Act.put, List.setIfInBounds_toArray, List.set_cons_zero, List.set_cons_succ])
      refine wpAnyH_ready (fuel := 5) (rs := [6]) (by kernel_rfl) (by simp) ?_
      refine AllReadyH.cons (o := ?oi109) ?hi109 (fun K hK => ?st109) AllReadyH.nil
      case hi109 => rw [List.getElem?_toArray]; rfl
      go_simp
      refine (tP.out _).mono ?_
      rintro ee wr6 ⟨rfl, hbn⟩
      replace hA := hid (hA.out.below hbn)
      replace hB := hid (hB.out.below hbn)
      replace hQ := hid (hQ.out.below hbn)
      replace hR := hid (hR.out.below hbn)
      replace hbel := hid (hbel.out.trans (hbn.mono hbel.out.size))
      clear hbn
      go_wp2_with fail
      refine hK.out _ _ ?hS109 (fun hHeld => ?re109)
      case hS109 => trivial
      clear hK K
      (try simp only [Act.put, List.setIfInBounds_toArray, List.set_cons_zero, List.set_cons_succ])
      refine wpAnyH_take (i := 7) (oi := ?oi110) (v := ?v110) (fuel := 4) ?hi110 ?hs110 ?hf110 ?hr110 ?hq110 (Or.inl ⟨?hw110, ?hy110⟩) hHeld ?rest110
      case hi110 => rw [List.getElem?_toArray]; rfl
      case hq110 => exact fun _ _ _ h => h
      case hs110 => kernel_rfl
      case hf110 => kernel_rfl
      case hr110 => kernel_rfl
      case hw110 => rfl
      case hy110 => (intro w1 hSw; (try dsimp only at hSw); go_simp; try with_reducible rfl)
      (try simp only [Act.put, List.setIfInBounds_toArray, List.set_cons_zero, List.set_cons_succ])
      refine wpAnyH_take (i := 8) (oi := ?oi111) (v := ?v111) (fuel := 3) ?hi111 ?hs111 ?hf111 ?hr111 ?hq111 (Or.inl ⟨?hw111, ?hy111⟩) hHeld ?rest111
      case hi111 => rw [List.getElem?_toArray]; rfl
      case hq111 => exact fun _ _ _ h => h
      case hs111 => kernel_rfl
      case hf111 => kernel_rfl
      case hr111 => kernel_rfl
      case hw111 => rfl
      case hy111 => (intro w1 hSw; (try dsimp only at hSw); go_simp; try with_reducible rfl)
      (try simp only [Act.put, List.setIfInBounds_toArray, List.set_cons_zero, List.set_cons_succ])
      refine wpAnyH_take (i := 9) (oi := ?oi112) (v := ?v112) (fuel := 2) ?hi112 ?hs112 ?hf112 ?hr112 ?hq112 (Or.inl ⟨?hw112, ?hy112⟩) hHeld ?rest112
      case hi112 => rw [List.getElem?_toArray]; rfl
      case hq112 => exact fun _ _ _ h => h
      case hs112 => kernel_rfl
      case hf112 => kernel_rfl
      case hr112 => kernel_rfl
      case hw112 => rfl
      case hy112 => (intro w1 hSw; (try dsimp only at hSw); go_simp; try with_reducible rfl)
      (try simp only [Act.put, List.setIfInBounds_toArray, List.set_cons_zero, List.set_cons_succ])
      refine wpAnyH_ready (fuel := 1) (rs := [10]) (by kernel_rfl) (by simp) ?_
      refine AllReadyH.cons (o := ?oi113) ?hi113 (fun K hK => ?st113) AllReadyH.nil
      case hi113 => rw [List.getElem?_toArray]; rfl
      obtain ⟨g0, g1, g2, g3⟩ := RBox.box hA.out
      have fq := RBox.frozen hA.out
      go_simp
      clear g0 g1 g2 g3 fq
      replace hB := hid (hB.out.st4o (k := w.heap.size) (by first | omega | (have := RBox.lt hB.out; omega)) (x) (y) (z) (u))
      replace hQ := hid (hQ.out.st4o (k := w.heap.size) (by first | omega | (have := RBox.lt hQ.out; omega)) (x) (y) (z) (u))
      replace hR := hid (hR.out.st4o (k := w.heap.size) (by first | omega | (have := RBox.lt hR.out; omega)) (x) (y) (z) (u))
      replace hA := hid (hA.out.st4 (x' := x) (y' := y) (z' := z) (u' := u))
      replace hbel := hid (st4_below (w.heap.size) (x) (y) (z) (u) hbel.out (by omega))
      unfold Go.Proofs.Ytcopcajleonndaa.st4 at hbel hA hB hQ hR
      generalize ((((wr6.setCell ⟨w.heap.size, 0, none⟩ (.int .i64 (x))).setCell ⟨w.heap.size, 1, none⟩ (.int .i64 (y))).setCell ⟨w.heap.size, 2, none⟩ (.int .i64 (z))).setCell ⟨w.heap.size, 3, none⟩ (.int .i64 (u))) = ws10 at *
      refine hK.out _ _ ?hS113 (fun hHeld => ?re113)
      case hS113 => trivial
      clear hK K
      (try simp only [Act.put, List.setIfInBounds_toArray, List.set_cons_zero, List.set_cons_succ])
      refine wpAnyH_ready (fuel := 0) (rs := [11]) (by kernel_rfl) (by simp) ?_
      refine AllReadyH.cons (o := ?oi114) ?hi114 (fun K hK => ?st114) AllReadyH.nil
      case hi114 => rw [List.getElem?_toArray]; rfl
      obtain ⟨g0, g1, g2, g3⟩ := RBox.box hB.out
      have fq := RBox.frozen hB.out
      go_simp
      clear g0 g1 g2 g3 fq
      replace hA := hid (hA.out.st4o (k := w.heap.size + 1) (by first | omega | (have := RBox.lt hA.out; omega)) (x') (y') (z') (u'))
      replace hQ := hid (hQ.out.st4o (k := w.heap.size + 1) (by first | omega | (have := RBox.lt hQ.out; omega)) (x') (y') (z') (u'))
      replace hR := hid (hR.out.st4o (k := w.heap.size + 1) (by first | omega | (have := RBox.lt hR.out; omega)) (x') (y') (z') (u'))
      replace hB := hid (hB.out.st4 (x' := x') (y' := y') (z' := z') (u' := u'))
      replace hbel := hid (st4_below (w.heap.size + 1) (x') (y') (z') (u') hbel.out (by omega))
      unfold Go.Proofs.Ytcopcajleonndaa.st4 at hbel hA hB hQ hR
      generalize ((((ws10.setCell ⟨w.heap.size + 1, 0, none⟩ (.int .i64 (x'))).setCell ⟨w.heap.size + 1, 1, none⟩ (.int .i64 (y'))).setCell ⟨w.heap.size + 1, 2, none⟩ (.int .i64 (z'))).setCell ⟨w.heap.size + 1, 3, none⟩ (.int .i64 (u'))) = ws11 at *
      refine hK.out _ _ ?hS114 (fun hHeld => ?re114)
      case hS114 => trivial
      clear hK K
      (try simp only [Act.put, List.setIfInBounds_toArray, List.set_cons_zero, List.set_cons_succ])
      refine wpAnyH_done (by kernel_rfl) ?_ _
      clear hHeld
      generalize ws11 = w3 at *
      have bA3 := hA
      have bB3 := hB
      have bQ3 := hQ
      have bR3 := hR
      have bel3 := hbel
      clear hbel hA hB hQ hR
      obtain ⟨cA0, cA1, cA2, cA3⟩ := RBox.box bA3.out
      obtain ⟨cB0, cB1, cB2, cB3⟩ := RBox.box bB3.out
      go_wp2_with fail
      refine (c_RangeSomeI _ _ _ _ _).mono ?_
      rintro ee w4 ⟨rfl, hb4⟩
      have bA4 := hid (bA3.out.below hb4)
      have bB4 := hid (bB3.out.below hb4)
      have bQ4 := hid (bQ3.out.below hb4)
      have bR4 := hid (bR3.out.below hb4)
      have bel4 := hid (bel3.out.trans (hb4.mono bel3.out.size))
      clear hb4 bA3 bB3 bQ3 bR3 bel3
      rw [s1]
      clear cA0 cA1 cA2 cA3 cB0 cB1 cB2 cB3
      obtain ⟨cA0, cA1, cA2, cA3⟩ := RBox.box bA4.out
      obtain ⟨cB0, cB1, cB2, cB3⟩ := RBox.box bB4.out
      go_wp2_with fail
      refine (c_RangeSomeI _ _ _ _ _).mono ?_
      rintro ee w5 ⟨rfl, hb5⟩
      have bA5 := hid (bA4.out.below hb5)
      have bB5 := hid (bB4.out.below hb5)
      have bQ5 := hid (bQ4.out.below hb5)
      have bR5 := hid (bR4.out.below hb5)
      have bel5 := hid (bel4.out.trans (hb5.mono bel4.out.size))
      clear hb5 bA4 bB4 bQ4 bR4 bel4
      rw [s2]
      clear cA0 cA1 cA2 cA3 cB0 cB1 cB2 cB3
      obtain ⟨cA0, cA1, cA2, cA3⟩ := RBox.box bA5.out
      obtain ⟨cB0, cB1, cB2, cB3⟩ := RBox.box bB5.out
      go_wp2_with fail
      refine wp_region_held_drew (S := (fun w' => w'.cell? ⟨w.heap.size, 0, none⟩ = some (.int .i64 (x)) ∧ w'.cell? ⟨w.heap.size, 1, none⟩ = some (.int .i64 (y)) ∧ w'.cell? ⟨w.heap.size, 2, none⟩ = some (.int .i64 (z)) ∧ w'.cell? ⟨w.heap.size, 3, none⟩ = some (.int .i64 (u)) ∧ w'.cell? ⟨w.heap.size + 1, 0, none⟩ = some (.int .i64 (x')) ∧ w'.cell? ⟨w.heap.size + 1, 1, none⟩ = some (.int .i64 (y')) ∧ w'.cell? ⟨w.heap.size + 1, 2, none⟩ = some (.int .i64 (z')) ∧ w'.cell? ⟨w.heap.size + 1, 3, none⟩ = some (.int .i64 (u')))) (by kernel_rfl) (by exact ⟨(RBox.box bA5.out).c0, (RBox.box bA5.out).c1, (RBox.box bA5.out).c2, (RBox.box bA5.out).c3, (RBox.box bB5.out).c0, (RBox.box bB5.out).c1, (RBox.box bB5.out).c2, (RBox.box bB5.out).c3⟩) (fun hHeld => ?_)
      have hA := hid (RBox.drew bA5.out)
      have hB := hid (RBox.drew bB5.out)
      have hQ := hid (RBox.drew bQ5.out)
      have hR := hid (RBox.drew bR5.out)
      have hbel := hid (Below.drew bel5.out)
      clear bA5 bB5 bQ5 bR5 bel5
      generalize w5.drew = W1 at *
      refine wpAnyH_take (i := 0) (oi := ?oi115) (v := ?v115) (fuel := 4) ?hi115 ?hs115 ?hf115 ?hr115 ?hq115 (Or.inl ⟨?hw115, ?hy115⟩) hHeld ?rest115
      case hi115 => rw [List.getElem?_toArray]; rfl
      case hq115 => exact fun _ _ _ h => h
      case hs115 => kernel_rfl
      case hf115 => kernel_rfl
      case hr115 => kernel_rfl
      case hw115 => rfl
      case hy115 => (intro w1 hSw; (try dsimp only at hSw); go_simp; try with_reducible rfl)
      (try simp only [Act.put, List.setIfInBounds_toArray, List.set_cons_zero, List.set_cons_succ])
      refine wpAnyH_take (i := 1) (oi := ?oi116) (v := ?v116) (fuel := 3) ?hi116 ?hs116 ?hf116 ?hr116 ?hq116 (Or.inl ⟨?hw116, ?hy116⟩) hHeld ?rest116
      case hi116 => rw [List.getElem?_toArray]; rfl
      case hq116 => exact fun _ _ _ h => h
      case hs116 => kernel_rfl
      case hf116 => kernel_rfl
      case hr116 => kernel_rfl
      case hw116 => rfl
      case hy116 => (intro w1 hSw; (try dsimp only at hSw); go_simp; try with_reducible rfl)
      (try simp only [Act.put, List.setIfInBounds_toArray, List.set_cons_zero, List.set_cons_succ])
      refine wpAnyH_ready (fuel := 2) (rs := [2]) (by kernel_rfl) (by simp) ?_
      refine AllReadyH.cons (o := ?oi117) ?hi117 (fun K hK => ?st117) AllReadyH.nil
      case hi117 => rw [List.getElem?_toArray]; rfl
      obtain ⟨g0, g1, g2, g3⟩ := RBox.box hQ.out
      have fq := RBox.frozen hQ.out
      go_simp
      clear g0 g1 g2 g3 fq
      replace hA := hid (hA.out.st4o (k := w.heap.size + 2) (by first | omega | (have := RBox.lt hA.out; omega)) (x) (y) (z) (u))
      replace hB := hid (hB.out.st4o (k := w.heap.size + 2) (by first | omega | (have := RBox.lt hB.out; omega)) (x) (y) (z) (u))
      replace hR := hid (hR.out.st4o (k := w.heap.size + 2) (by first | omega | (have := RBox.lt hR.out; omega)) (x) (y) (z) (u))
      replace hQ := hid (hQ.out.st4 (x' := x) (y' := y) (z' := z) (u' := u))
      replace hbel := hid (st4_below (w.heap.size + 2) (x) (y) (z) (u) hbel.out (by omega))
      unfold Go.Proofs.Ytcopcajleonndaa.st4 at hbel hA hB hQ hR
      generalize ((((W1.setCell ⟨w.heap.size + 2, 0, none⟩ (.int .i64 (x))).setCell ⟨w.heap.size + 2, 1, none⟩ (.int .i64 (y))).setCell ⟨w.heap.size + 2, 2, none⟩ (.int .i64 (z))).setCell ⟨w.heap.size + 2, 3, none⟩ (.int .i64 (u))) = ws2 at *
      refine hK.out _ _ ?hS117 (fun hHeld => ?re117)
      case hS117 => exact ⟨(RBox.box hA.out).c0, (RBox.box hA.out).c1, (RBox.box hA.out).c2, (RBox.box hA.out).c3, (RBox.box hB.out).c0, (RBox.box hB.out).c1, (RBox.box hB.out).c2, (RBox.box hB.out).c3⟩
      clear hK K
      (try simp only [Act.put, List.setIfInBounds_toArray, List.set_cons_zero, List.set_cons_succ])
      refine wpAnyH_ready (fuel := 1) (rs := [3]) (by kernel_rfl) (by simp) ?_
      refine AllReadyH.cons (o := ?oi118) ?hi118 (fun K hK => ?st118) AllReadyH.nil
      case hi118 => rw [List.getElem?_toArray]; rfl
      obtain ⟨g0, g1, g2, g3⟩ := RBox.box hR.out
      have fq := RBox.frozen hR.out
      go_simp
      clear g0 g1 g2 g3 fq
      replace hA := hid (hA.out.st4o (k := w.heap.size + 3) (by first | omega | (have := RBox.lt hA.out; omega)) (x') (y') (z') (u'))
      replace hB := hid (hB.out.st4o (k := w.heap.size + 3) (by first | omega | (have := RBox.lt hB.out; omega)) (x') (y') (z') (u'))
      replace hQ := hid (hQ.out.st4o (k := w.heap.size + 3) (by first | omega | (have := RBox.lt hQ.out; omega)) (x') (y') (z') (u'))
      replace hR := hid (hR.out.st4 (x' := x') (y' := y') (z' := z') (u' := u'))
      replace hbel := hid (st4_below (w.heap.size + 3) (x') (y') (z') (u') hbel.out (by omega))
      unfold Go.Proofs.Ytcopcajleonndaa.st4 at hbel hA hB hQ hR
      generalize ((((ws2.setCell ⟨w.heap.size + 3, 0, none⟩ (.int .i64 (x'))).setCell ⟨w.heap.size + 3, 1, none⟩ (.int .i64 (y'))).setCell ⟨w.heap.size + 3, 2, none⟩ (.int .i64 (z'))).setCell ⟨w.heap.size + 3, 3, none⟩ (.int .i64 (u'))) = ws3 at *
      refine hK.out _ _ ?hS118 (fun hHeld => ?re118)
      case hS118 => exact ⟨(RBox.box hA.out).c0, (RBox.box hA.out).c1, (RBox.box hA.out).c2, (RBox.box hA.out).c3, (RBox.box hB.out).c0, (RBox.box hB.out).c1, (RBox.box hB.out).c2, (RBox.box hB.out).c3⟩
      clear hK K
      (try simp only [Act.put, List.setIfInBounds_toArray, List.set_cons_zero, List.set_cons_succ])
      refine wpAnyH_take (i := 4) (oi := ?oi119) (v := ?v119) (fuel := 0) ?hi119 ?hs119 ?hf119 ?hr119 ?hq119 (Or.inl ⟨?hw119, ?hy119⟩) hHeld ?rest119
      case hi119 => rw [List.getElem?_toArray]; rfl
      case hq119 => exact fun _ _ _ h => h
      case hs119 => kernel_rfl
      case hf119 => kernel_rfl
      case hr119 => kernel_rfl
      case hw119 => rfl
      case hy119 => (intro w1 hSw; (try dsimp only at hSw); go_simp; try with_reducible rfl)
      (try simp only [Act.put, List.setIfInBounds_toArray, List.set_cons_zero, List.set_cons_succ])
      refine wpAnyH_done (by kernel_rfl) ?_ _
      clear hHeld
      generalize ws3 = w6 at *
      have bA6 := hA
      have bB6 := hB
      have bQ6 := hQ
      have bR6 := hR
      have bel6 := hbel
      clear hbel hA hB hQ hR
      clear cA0 cA1 cA2 cA3 cB0 cB1 cB2 cB3
      go_wp2_with fail
      obtain ⟨p0, p1, p2, p3⟩ := RBox.box bQ6.out
      obtain ⟨q0, q1, q2, q3⟩ := RBox.box bR6.out
      refine bodyPost_ret (v := .tuple #[rv x y z u, rv x' y' z' u', .bool true]) (by simp [results, Try.results37, go_sem, p0, p1, p2, p3, q0, q1, q2, q3]) rfl ⟨rfl, bel6.out⟩
    refine AllReadyH.cons (o := ?oi120) ?hi120 (fun K hK => ?st120) ?mo120
    case hi120 => rw [List.getElem?_toArray]; rfl
    case st120 =>
      obtain ⟨i0, i1, i2, i3⟩ := RBox.box hB.out
      go_simp
      clear i0 i1 i2 i3
      refine hK.out _ _ ?hS120 (fun hHeld => ?re120)
      case hS120 => trivial
      clear hK K
      (try simp only [Act.put, List.setIfInBounds_toArray, List.set_cons_zero, List.set_cons_succ])
      refine wpAnyH_ready (fuel := 7) (rs := [2]) (by kernel_rfl) (by simp) ?_
      refine AllReadyH.cons (o := ?oi121) ?hi121 (fun K hK => ?st121) AllReadyH.nil
      case hi121 => rw [List.getElem?_toArray]; rfl
      go_simp
      refine (tA.out _).mono ?_
      rintro ee wr2 ⟨rfl, hbn⟩
      replace hA := hid (hA.out.below hbn)
      replace hB := hid (hB.out.below hbn)
      replace hQ := hid (hQ.out.below hbn)
      replace hR := hid (hR.out.below hbn)
      replace hbel := hid (hbel.out.trans (hbn.mono hbel.out.size))
      clear hbn
      go_wp2_with fail
      refine hK.out _ _ ?hS121 (fun hHeld => ?re121)
      case hS121 => trivial
      clear hK K
      (try simp only [Act.put, List.setIfInBounds_toArray, List.set_cons_zero, List.set_cons_succ])
      refine wpAnyH_ready (fuel := 6) (rs := [4]) (by kernel_rfl) (by simp) ?_
      refine AllReadyH.cons (o := ?oi122) ?hi122 (fun K hK => ?st122) AllReadyH.nil
      case hi122 => rw [List.getElem?_toArray]; rfl
      go_simp
      refine (tB.out _).mono ?_
      rintro ee wr4 ⟨rfl, hbn⟩
      replace hA := hid (hA.out.below hbn)
      replace hB := hid (hB.out.below hbn)
      replace hQ := hid (hQ.out.below hbn)
      replace hR := hid (hR.out.below hbn)
      replace hbel := hid (hbel.out.trans (hbn.mono hbel.out.size))
      clear hbn
      go_wp2_with fail
      refine hK.out _ _ ?hS122 (fun hHeld => ?re122)
      case hS122 => trivial
      clear hK K
      (try simp only [Act.put, List.setIfInBounds_toArray, List.set_cons_zero, List.set_cons_succ])
      refine wpAnyH_ready (fuel := 5) (rs := [6]) (by kernel_rfl) (by simp) ?_
      refine AllReadyH.cons (o := ?oi123) ?hi123 (fun K hK => ?st123) AllReadyH.nil
      case hi123 => rw [List.getElem?_toArray]; rfl
      go_simp
      refine (tP.out _).mono ?_
      rintro ee wr6 ⟨rfl, hbn⟩
      replace hA := hid (hA.out.below hbn)
      replace hB := hid (hB.out.below hbn)
      replace hQ := hid (hQ.out.below hbn)
      replace hR := hid (hR.out.below hbn)
      replace hbel := hid (hbel.out.trans (hbn.mono hbel.out.size))
      clear hbn
      go_wp2_with fail
      refine hK.out _ _ ?hS123 (fun hHeld => ?re123)
      case hS123 => trivial
      clear hK K
      (try simp only [Act.put, List.setIfInBounds_toArray, List.set_cons_zero, List.set_cons_succ])
      refine wpAnyH_take (i := 7) (oi := ?oi124) (v := ?v124) (fuel := 4) ?hi124 ?hs124 ?hf124 ?hr124 ?hq124 (Or.inl ⟨?hw124, ?hy124⟩) hHeld ?rest124
      case hi124 => rw [List.getElem?_toArray]; rfl
      case hq124 => exact fun _ _ _ h => h
      case hs124 => kernel_rfl
      case hf124 => kernel_rfl
      case hr124 => kernel_rfl
      case hw124 => rfl
      case hy124 => (intro w1 hSw; (try dsimp only at hSw); go_simp; try with_reducible rfl)
      (try simp only [Act.put, List.setIfInBounds_toArray, List.set_cons_zero, List.set_cons_succ])
      refine wpAnyH_take (i := 8) (oi := ?oi125) (v := ?v125) (fuel := 3) ?hi125 ?hs125 ?hf125 ?hr125 ?hq125 (Or.inl ⟨?hw125, ?hy125⟩) hHeld ?rest125
      case hi125 => rw [List.getElem?_toArray]; rfl
      case hq125 => exact fun _ _ _ h => h
      case hs125 => kernel_rfl
      case hf125 => kernel_rfl
      case hr125 => kernel_rfl
      case hw125 => rfl
      case hy125 => (intro w1 hSw; (try dsimp only at hSw); go_simp; try with_reducible rfl)
      (try simp only [Act.put, List.setIfInBounds_toArray, List.set_cons_zero, List.set_cons_succ])
      refine wpAnyH_take (i := 9) (oi := ?oi126) (v := ?v126) (fuel := 2) ?hi126 ?hs126 ?hf126 ?hr126 ?hq126 (Or.inl ⟨?hw126, ?hy126⟩) hHeld ?rest126
      case hi126 => rw [List.getElem?_toArray]; rfl
      case hq126 => exact fun _ _ _ h => h
      case hs126 => kernel_rfl
      case hf126 => kernel_rfl
      case hr126 => kernel_rfl
      case hw126 => rfl
      case hy126 => (intro w1 hSw; (try dsimp only at hSw); go_simp; try with_reducible rfl)
      (try simp only [Act.put, List.setIfInBounds_toArray, List.set_cons_zero, List.set_cons_succ])
      refine wpAnyH_ready (fuel := 1) (rs := [10]) (by kernel_rfl) (by simp) ?_
      refine AllReadyH.cons (o := ?oi127) ?hi127 (fun K hK => ?st127) AllReadyH.nil
      case hi127 => rw [List.getElem?_toArray]; rfl
      obtain ⟨g0, g1, g2, g3⟩ := RBox.box hA.out
      have fq := RBox.frozen hA.out
      go_simp
      clear g0 g1 g2 g3 fq
      replace hB := hid (hB.out.st4o (k := w.heap.size) (by first | omega | (have := RBox.lt hB.out; omega)) (x) (y) (z) (u))
      replace hQ := hid (hQ.out.st4o (k := w.heap.size) (by first | omega | (have := RBox.lt hQ.out; omega)) (x) (y) (z) (u))
      replace hR := hid (hR.out.st4o (k := w.heap.size) (by first | omega | (have := RBox.lt hR.out; omega)) (x) (y) (z) (u))
      replace hA := hid (hA.out.st4 (x' := x) (y' := y) (z' := z) (u' := u))
      replace hbel := hid (st4_below (w.heap.size) (x) (y) (z) (u) hbel.out (by omega))
      unfold Go.Proofs.Ytcopcajleonndaa.st4 at hbel hA hB hQ hR
      generalize ((((wr6.setCell ⟨w.heap.size, 0, none⟩ (.int .i64 (x))).setCell ⟨w.heap.size, 1, none⟩ (.int .i64 (y))).setCell ⟨w.heap.size, 2, none⟩ (.int .i64 (z))).setCell ⟨w.heap.size, 3, none⟩ (.int .i64 (u))) = ws10 at *
      refine hK.out _ _ ?hS127 (fun hHeld => ?re127)
      case hS127 => trivial
      clear hK K
      (try simp only [Act.put, List.setIfInBounds_toArray, List.set_cons_zero, List.set_cons_succ])
      refine wpAnyH_ready (fuel := 0) (rs := [11]) (by kernel_rfl) (by simp) ?_
      refine AllReadyH.cons (o := ?oi128) ?hi128 (fun K hK => ?st128) AllReadyH.nil
      case hi128 => rw [List.getElem?_toArray]; rfl
      obtain ⟨g0, g1, g2, g3⟩ := RBox.box hB.out
      have fq := RBox.frozen hB.out
      go_simp
      clear g0 g1 g2 g3 fq
      replace hA := hid (hA.out.st4o (k := w.heap.size + 1) (by first | omega | (have := RBox.lt hA.out; omega)) (x') (y') (z') (u'))
      replace hQ := hid (hQ.out.st4o (k := w.heap.size + 1) (by first | omega | (have := RBox.lt hQ.out; omega)) (x') (y') (z') (u'))
      replace hR := hid (hR.out.st4o (k := w.heap.size + 1) (by first | omega | (have := RBox.lt hR.out; omega)) (x') (y') (z') (u'))
      replace hB := hid (hB.out.st4 (x' := x') (y' := y') (z' := z') (u' := u'))
      replace hbel := hid (st4_below (w.heap.size + 1) (x') (y') (z') (u') hbel.out (by omega))
      unfold Go.Proofs.Ytcopcajleonndaa.st4 at hbel hA hB hQ hR
      generalize ((((ws10.setCell ⟨w.heap.size + 1, 0, none⟩ (.int .i64 (x'))).setCell ⟨w.heap.size + 1, 1, none⟩ (.int .i64 (y'))).setCell ⟨w.heap.size + 1, 2, none⟩ (.int .i64 (z'))).setCell ⟨w.heap.size + 1, 3, none⟩ (.int .i64 (u'))) = ws11 at *
      refine hK.out _ _ ?hS128 (fun hHeld => ?re128)
      case hS128 => trivial
      clear hK K
      (try simp only [Act.put, List.setIfInBounds_toArray, List.set_cons_zero, List.set_cons_succ])
      refine wpAnyH_done (by kernel_rfl) ?_ _
      clear hHeld
      generalize ws11 = w3 at *
      have bA3 := hA
      have bB3 := hB
      have bQ3 := hQ
      have bR3 := hR
      have bel3 := hbel
      clear hbel hA hB hQ hR
      obtain ⟨cA0, cA1, cA2, cA3⟩ := RBox.box bA3.out
      obtain ⟨cB0, cB1, cB2, cB3⟩ := RBox.box bB3.out
      go_wp2_with fail
      refine (c_RangeSomeI _ _ _ _ _).mono ?_
      rintro ee w4 ⟨rfl, hb4⟩
      have bA4 := hid (bA3.out.below hb4)
      have bB4 := hid (bB3.out.below hb4)
      have bQ4 := hid (bQ3.out.below hb4)
      have bR4 := hid (bR3.out.below hb4)
      have bel4 := hid (bel3.out.trans (hb4.mono bel3.out.size))
      clear hb4 bA3 bB3 bQ3 bR3 bel3
      rw [s1]
      clear cA0 cA1 cA2 cA3 cB0 cB1 cB2 cB3
      obtain ⟨cA0, cA1, cA2, cA3⟩ := RBox.box bA4.out
      obtain ⟨cB0, cB1, cB2, cB3⟩ := RBox.box bB4.out
      go_wp2_with fail
      refine (c_RangeSomeI _ _ _ _ _).mono ?_
      rintro ee w5 ⟨rfl, hb5⟩
      have bA5 := hid (bA4.out.below hb5)
      have bB5 := hid (bB4.out.below hb5)
      have bQ5 := hid (bQ4.out.below hb5)
      have bR5 := hid (bR4.out.below hb5)
      have bel5 := hid (bel4.out.trans (hb5.mono bel4.out.size))
      clear hb5 bA4 bB4 bQ4 bR4 bel4
      rw [s2]
      clear cA0 cA1 cA2 cA3 cB0 cB1 cB2 cB3
      obtain ⟨cA0, cA1, cA2, cA3⟩ := RBox.box bA5.out
      obtain ⟨cB0, cB1, cB2, cB3⟩ := RBox.box bB5.out
      go_wp2_with fail
      refine wp_region_held_drew (S := (fun w' => w'.cell? ⟨w.heap.size, 0, none⟩ = some (.int .i64 (x)) ∧ w'.cell? ⟨w.heap.size, 1, none⟩ = some (.int .i64 (y)) ∧ w'.cell? ⟨w.heap.size, 2, none⟩ = some (.int .i64 (z)) ∧ w'.cell? ⟨w.heap.size, 3, none⟩ = some (.int .i64 (u)) ∧ w'.cell? ⟨w.heap.size + 1, 0, none⟩ = some (.int .i64 (x')) ∧ w'.cell? ⟨w.heap.size + 1, 1, none⟩ = some (.int .i64 (y')) ∧ w'.cell? ⟨w.heap.size + 1, 2, none⟩ = some (.int .i64 (z')) ∧ w'.cell? ⟨w.heap.size + 1, 3, none⟩ = some (.int .i64 (u')))) (by kernel_rfl) (by exact ⟨(RBox.box bA5.out).c0, (RBox.box bA5.out).c1, (RBox.box bA5.out).c2, (RBox.box bA5.out).c3, (RBox.box bB5.out).c0, (RBox.box bB5.out).c1, (RBox.box bB5.out).c2, (RBox.box bB5.out).c3⟩) (fun hHeld => ?_)
      have hA := hid (RBox.drew bA5.out)
      have hB := hid (RBox.drew bB5.out)
      have hQ := hid (RBox.drew bQ5.out)
      have hR := hid (RBox.drew bR5.out)
      have hbel := hid (Below.drew bel5.out)
      clear bA5 bB5 bQ5 bR5 bel5
      generalize w5.drew = W1 at *
      refine wpAnyH_take (i := 0) (oi := ?oi129) (v := ?v129) (fuel := 4) ?hi129 ?hs129 ?hf129 ?hr129 ?hq129 (Or.inl ⟨?hw129, ?hy129⟩) hHeld ?rest129
      case hi129 => rw [List.getElem?_toArray]; rfl
      case hq129 => exact fun _ _ _ h => h
      case hs129 => kernel_rfl
      case hf129 => kernel_rfl
      case hr129 => kernel_rfl
      case hw129 => rfl
      case hy129 => (intro w1 hSw; (try dsimp only at hSw); go_simp; try with_reducible rfl)
      (try simp only [Act.put, List.setIfInBounds_toArray, List.set_cons_zero, List.set_cons_succ])
      refine wpAnyH_take (i := 1) (oi := ?oi130) (v := ?v130) (fuel := 3) ?hi130 ?hs130 ?hf130 ?hr130 ?hq130 (Or.inl ⟨?hw130, ?hy130⟩) hHeld ?rest130
      case hi130 => rw [List.getElem?_toArray]; rfl
      case hq130 => exact fun _ _ _ h => h
      case hs130 => kernel_rfl
      case hf130 => kernel_rfl
      case hr130 => kernel_rfl
      case hw130 => rfl
      case hy130 => (intro w1 hSw; (try dsimp only at hSw); go_simp; try with_reducible rfl)
      (try simp only [Act.put, List.setIfInBounds_toArray, List.set_cons_zero, List.set_cons_succ])
      refine wpAnyH_ready (fuel := 2) (rs := [2]) (by kernel_rfl) (by simp) ?_
      refine AllReadyH.cons (o := ?oi131) ?hi131 (fun K hK => ?st131) AllReadyH.nil
      case hi131 => rw [List.getElem?_toArray]; rfl
      obtain ⟨g0, g1, g2, g3⟩ := RBox.box hQ.out
      have fq := RBox.frozen hQ.out
      go_simp
      clear g0 g1 g2 g3 fq
      replace hA := hid (hA.out.st4o (k := w.heap.size + 2) (by first | omega | (have := RBox.lt hA.out; omega)) (x) (y) (z) (u))
      replace hB := hid (hB.out.st4o (k := w.heap.size + 2) (by first | omega | (have := RBox.lt hB.out; omega)) (x) (y) (z) (u))
      replace hR := hid (hR.out.st4o (k := w.heap.size + 2) (by first | omega | (have := RBox.lt hR.out; omega)) (x) (y) (z) (u))
      replace hQ := hid (hQ.out.st4 (x' := x) (y' := y) (z' := z) (u' := u))
      replace hbel := hid (st4_below (w.heap.size + 2) (x) (y) (z) (u) hbel.out (by omega))
      unfold Go.Proofs.Ytcopcajleonndaa.st4 at hbel hA hB hQ hR
      generalize ((((W1.setCell ⟨w.heap.size + 2, 0, none⟩ (.int .i64 (x))).setCell ⟨w.heap.size + 2, 1, none⟩ (.int .i64 (y))).setCell ⟨w.heap.size + 2, 2, none⟩ (.int .i64 (z))).setCell ⟨w.heap.size + 2, 3, none⟩ (.int .i64 (u))) = ws2 at *
      refine hK.out _ _ ?hS131 (fun hHeld => ?re131)
      case hS131 => exact ⟨(RBox.box hA.out).c0, (RBox.box hA.out).c1, (RBox.box hA.out).c2, (RBox.box hA.out).c3, (RBox.box hB.out).c0, (RBox.box hB.out).c1, (RBox.box hB.out).c2, (RBox.box hB.out).c3⟩
      clear hK K
      (try simp only [Act.put, List.setIfInBounds_toArray, List.set_cons_zero, List.set_cons_succ])
      refine wpAnyH_ready (fuel := 1) (rs := [3]) (by kernel_rfl) (by simp) ?_
      refine AllReadyH.cons (o := ?oi132) ?hi132 (fun K hK => ?st132) AllReadyH.nil
      case hi132 => rw [List.getElem?_toArray]; rfl
      obtain ⟨g0, g1, g2, g3⟩ := RBox.box hR.out
      have fq := RBox.frozen hR.out
      go_simp
      clear g0 g1 g2 g3 fq
      replace hA := hid (hA.out.st4o (k := w.heap.size + 3) (by first | omega | (have := RBox.lt hA.out; omega)) (x') (y') (z') (u'))
      replace hB := hid (hB.out.st4o (k := w.heap.size + 3) (by first | omega | (have := RBox.lt hB.out; omega)) (x') (y') (z') (u'))
      replace hQ := hid (hQ.out.st4o (k := w.heap.size + 3) (by first | omega | (have := RBox.lt hQ.out; omega)) (x') (y') (z') (u'))
      replace hR := hid (hR.out.st4 (x' := x') (y' := y') (z' := z') (u' := u'))
      replace hbel := hid (st4_below (w.heap.size + 3) (x') (y') (z') (u') hbel.out (by omega))
      unfold Go.Proofs.Ytcopcajleonndaa.st4 at hbel hA hB hQ hR
      generalize ((((ws2.setCell ⟨w.heap.size + 3, 0, none⟩ (.int .i64 (x'))).setCell ⟨w.heap.size + 3, 1, none⟩ (.int .i64 (y'))).setCell ⟨w.heap.size + 3, 2, none⟩ (.int .i64 (z'))).setCell ⟨w.heap.size + 3, 3, none⟩ (.int .i64 (u'))) = ws3 at *
      refine hK.out _ _ ?hS132 (fun hHeld => ?re132)
      case hS132 => exact ⟨(RBox.box hA.out).c0, (RBox.box hA.out).c1, (RBox.box hA.out).c2, (RBox.box hA.out).c3, (RBox.box hB.out).c0, (RBox.box hB.out).c1, (RBox.box hB.out).c2, (RBox.box hB.out).c3⟩
      clear hK K
      (try simp only [Act.put, List.setIfInBounds_toArray, List.set_cons_zero, List.set_cons_succ])
      refine wpAnyH_take (i := 4) (oi := ?oi133) (v := ?v133) (fuel := 0) ?hi133 ?hs133 ?hf133 ?hr133 ?hq133 (Or.inl ⟨?hw133, ?hy133⟩) hHeld ?rest133
      case hi133 => rw [List.getElem?_toArray]; rfl
      case hq133 => exact fun _ _ _ h => h
      case hs133 => kernel_rfl
      case hf133 => kernel_rfl
      case hr133 => kernel_rfl
      case hw133 => rfl
      case hy133 => (intro w1 hSw; (try dsimp only at hSw); go_simp; try with_reducible rfl)
      (try simp only [Act.put, List.setIfInBounds_toArray, List.set_cons_zero, List.set_cons_succ])
      refine wpAnyH_done (by kernel_rfl) ?_ _
      clear hHeld
      generalize ws3 = w6 at *
      have bA6 := hA
      have bB6 := hB
      have bQ6 := hQ
      have bR6 := hR
      have bel6 := hbel
      clear hbel hA hB hQ hR
      clear cA0 cA1 cA2 cA3 cB0 cB1 cB2 cB3
      go_wp2_with fail
      obtain ⟨p0, p1, p2, p3⟩ := RBox.box bQ6.out
      obtain ⟨q0, q1, q2, q3⟩ := RBox.box bR6.out
      refine bodyPost_ret (v := .tuple #[rv x y z u, rv x' y' z' u', .bool true]) (by simp [results, Try.results37, go_sem, p0, p1, p2, p3, q0, q1, q2, q3]) rfl ⟨rfl, bel6.out⟩
    exact AllReadyH.nil
  refine AllReadyH.cons (o := ?oi134) ?hi134 (fun K hK => ?st134) ?mo134
  case hi134 => rw [List.getElem?_toArray]; rfl
  case st134 =>
    obtain ⟨i0, i1, i2, i3⟩ := RBox.box hB.out
    go_simp
    clear i0 i1 i2 i3
    refine hK.out _ _ ?hS134 (fun hHeld => ?re134)
    case hS134 => trivial
    clear hK K
    (try simp only [Act.put, List.setIfInBounds_toArray, List.set_cons_zero, List.set_cons_succ])
    refine wpAnyH_ready (fuel := 8) (rs := [1]) (by kernel_rfl) (by simp) ?_
    refine AllReadyH.cons (o := ?oi135) ?hi135 (fun K hK => ?st135) AllReadyH.nil
    case hi135 => rw [List.getElem?_toArray]; rfl
    obtain ⟨i0, i1, i2, i3⟩ := RBox.box hA.out
    go_simp
    clear i0 i1 i2 i3
    refine hK.out _ _ ?hS135 (fun hHeld => ?re135)
    case hS135 => trivial
    clear hK K
    (try simp only [Act.put, List.setIfInBounds_toArray, List.set_cons_zero, List.set_cons_succ])
    refine wpAnyH_ready (fuel := 7) (rs := [2]) (by kernel_rfl) (by simp) ?_
    refine AllReadyH.cons (o := ?oi136) ?hi136 (fun K hK => ?st136) AllReadyH.nil
    case hi136 => rw [List.getElem?_toArray]; rfl
    go_simp
    refine (tA.out _).mono ?_
    rintro ee wr2 ⟨rfl, hbn⟩
    replace hA := hid (hA.out.below hbn)
    replace hB := hid (hB.out.below hbn)
    replace hQ := hid (hQ.out.below hbn)
    replace hR := hid (hR.out.below hbn)
    replace hbel := hid (hbel.out.trans (hbn.mono hbel.out.size))
    clear hbn
    go_wp2_with fail
    refine hK.out _ _ ?hS136 (fun hHeld => ?re136)
    case hS136 => trivial
    clear hK K
    (try simp only [Act.put, List.setIfInBounds_toArray, List.set_cons_zero, List.set_cons_succ])
    refine wpAnyH_ready (fuel := 6) (rs := [4]) (by kernel_rfl) (by simp) ?_
    refine AllReadyH.cons (o := ?oi137) ?hi137 (fun K hK => ?st137) AllReadyH.nil
    case hi137 => rw [List.getElem?_toArray]; rfl
    go_simp
    refine (tB.out _).mono ?_
    rintro ee wr4 ⟨rfl, hbn⟩
    replace hA := hid (hA.out.below hbn)
    replace hB := hid (hB.out.below hbn)
    replace hQ := hid (hQ.out.below hbn)
    replace hR := hid (hR.out.below hbn)
    replace hbel := hid (hbel.out.trans (hbn.mono hbel.out.size))
    clear hbn
    go_wp2_with fail
    refine hK.out _ _ ?hS137 (fun hHeld => ?re137)
    case hS137 => trivial
    clear hK K
    (try simp only [Act.put, List.setIfInBounds_toArray, List.set_cons_zero, List.set_cons_succ])
    refine wpAnyH_ready (fuel := 5) (rs := [6]) (by kernel_rfl) (by simp) ?_
    refine AllReadyH.cons (o := ?oi138) ?hi138 (fun K hK => ?st138) AllReadyH.nil
    case hi138 => rw [List.getElem?_toArray]; rfl
    go_simp
    refine (tP.out _).mono ?_
    rintro ee wr6 ⟨rfl, hbn⟩
    replace hA := hid (hA.out.below hbn)
    replace hB := hid (hB.out.below hbn)
    replace hQ := hid (hQ.out.below hbn)
    replace hR := hid (hR.out.below hbn)
    replace hbel := hid (hbel.out.trans (hbn.mono hbel.out.size))
    clear hbn
    go_wp2_with fail
    refine hK.out _ _ ?hS138 (fun hHeld => ?re138)
    case hS138 => trivial
    clear hK K
    (try simp only [Act.put, List.setIfInBounds_toArray, List.set_cons_zero, List.set_cons_succ])
    refine wpAnyH_take (i := 7) (oi := ?oi139) (v := ?v139) (fuel := 4) ?hi139 ?hs139 ?hf139 ?hr139 ?hq139 (Or.inl ⟨?hw139, ?hy139⟩) hHeld ?rest139
    case hi139 => rw [List.getElem?_toArray]; rfl
    case hq139 => exact fun _ _ _ h => h
    case hs139 => kernel_rfl
    case hf139 => kernel_rfl
    case hr139 => kernel_rfl
    case hw139 => rfl
    case hy139 => (intro w1 hSw; (try dsimp only at hSw); go_simp; try with_reducible rfl)
    (try simp only [Act.put, List.setIfInBounds_toArray, List.set_cons_zero, List.set_cons_succ])
    refine wpAnyH_take (i := 8) (oi := ?oi140) (v := ?v140) (fuel := 3) ?hi140 ?hs140 ?hf140 ?hr140 ?hq140 (Or.inl ⟨?hw140, ?hy140⟩) hHeld ?rest140
    case hi140 => rw [List.getElem?_toArray]; rfl
    case hq140 => exact fun _ _ _ h => h
    case hs140 => kernel_rfl
    case hf140 => kernel_rfl
    case hr140 => kernel_rfl
    case hw140 => rfl
    case hy140 => (intro w1 hSw; (try dsimp only at hSw); go_simp; try with_reducible rfl)
    (try simp only [Act.put, List.setIfInBounds_toArray, List.set_cons_zero, List.set_cons_succ])
    refine wpAnyH_take (i := 9) (oi := ?oi141) (v := ?v141) (fuel := 2) ?hi141 ?hs141 ?hf141 ?hr141 ?hq141 (Or.inl ⟨?hw141, ?hy141⟩) hHeld ?rest141
    case hi141 => rw [List.getElem?_toArray]; rfl
    case hq141 => exact fun _ _ _ h => h
    case hs141 => kernel_rfl
    case hf141 => kernel_rfl
    case hr141 => kernel_rfl
    case hw141 => rfl
    case hy141 => (intro w1 hSw; (try dsimp only at hSw); go_simp; try with_reducible rfl)
    (try simp only [Act.put, List.setIfInBounds_toArray, List.set_cons_zero, List.set_cons_succ])
    refine wpAnyH_ready (fuel := 1) (rs := [10]) (by kernel_rfl) (by simp) ?_
    refine AllReadyH.cons (o := ?oi142) ?hi142 (fun K hK => ?st142) AllReadyH.nil
    case hi142 => rw [List.getElem?_toArray]; rfl
    obtain ⟨g0, g1, g2, g3⟩ := RBox.box hA.out
    have fq := RBox.frozen hA.out
    go_simp
    clear g0 g1 g2 g3 fq
    replace hB := hid (hB.out.st4o (k := w.heap.size) (by first | omega | (have := RBox.lt hB.out; omega)) (x) (y) (z) (u))
    replace hQ := hid (hQ.out.st4o (k := w.heap.size) (by first | omega | (have := RBox.lt hQ.out; omega)) (x) (y) (z) (u))
    replace hR := hid (hR.out.st4o (k := w.heap.size) (by first | omega | (have := RBox.lt hR.out; omega)) (x) (y) (z) (u))
    replace hA := hid (hA.out.st4 (x' := x) (y' := y) (z' := z) (u' := u))
    replace hbel := hid (st4_below (w.heap.size) (x) (y) (z) (u) hbel.out (by omega))
    unfold Go.Proofs.Ytcopcajleonndaa.st4 at hbel hA hB hQ hR
    generalize ((((wr6.setCell ⟨w.heap.size, 0, none⟩ (.int .i64 (x))).setCell ⟨w.heap.size, 1, none⟩ (.int .i64 (y))).setCell ⟨w.heap.size, 2, none⟩ (.int .i64 (z))).setCell ⟨w.heap.size, 3, none⟩ (.int .i64 (u))) = ws10 at *
    refine hK.out _ _ ?hS142 (fun hHeld => ?re142)
    case hS142 => trivial
    clear hK K
    (try simp only [Act.put, List.setIfInBounds_toArray, List.set_cons_zero, List.set_cons_succ])
    refine wpAnyH_ready (fuel := 0) (rs := [11]) (by kernel_rfl) (by simp) ?_
    refine AllReadyH.cons (o := ?oi143) ?hi143 (fun K hK => ?st143) AllReadyH.nil
    case hi143 => rw [List.getElem?_toArray]; rfl
    obtain ⟨g0, g1, g2, g3⟩ := RBox.box hB.out
    have fq := RBox.frozen hB.out
    go_simp
    clear g0 g1 g2 g3 fq
    replace hA := hid (hA.out.st4o (k := w.heap.size + 1) (by first | omega | (have := RBox.lt hA.out; omega)) (x') (y') (z') (u'))
    replace hQ := hid (hQ.out.st4o (k := w.heap.size + 1) (by first | omega | (have := RBox.lt hQ.out; omega)) (x') (y') (z') (u'))
    replace hR := hid (hR.out.st4o (k := w.heap.size + 1) (by first | omega | (have := RBox.lt hR.out; omega)) (x') (y') (z') (u'))
    replace hB := hid (hB.out.st4 (x' := x') (y' := y') (z' := z') (u' := u'))
    replace hbel := hid (st4_below (w.heap.size + 1) (x') (y') (z') (u') hbel.out (by omega))
    unfold Go.Proofs.Ytcopcajleonndaa.st4 at hbel hA hB hQ hR
    generalize ((((ws10.setCell ⟨w.heap.size + 1, 0, none⟩ (.int .i64 (x'))).setCell ⟨w.heap.size + 1, 1, none⟩ (.int .i64 (y'))).setCell ⟨w.heap.size + 1, 2, none⟩ (.int .i64 (z'))).setCell ⟨w.heap.size + 1, 3, none⟩ (.int .i64 (u'))) = ws11 at *
    refine hK.out _ _ ?hS143 (fun hHeld => ?re143)
    case hS143 => trivial
    clear hK K
    (try simp only [Act.put, List.setIfInBounds_toArray, List.set_cons_zero, List.set_cons_succ])
    refine wpAnyH_done (by kernel_rfl) ?_ _
    clear hHeld
    generalize ws11 = w3 at *
    have bA3 := hA
    have bB3 := hB
    have bQ3 := hQ
    have bR3 := hR
    have bel3 := hbel
    clear hbel hA hB hQ hR
    obtain ⟨cA0, cA1, cA2, cA3⟩ := RBox.box bA3.out
    obtain ⟨cB0, cB1, cB2, cB3⟩ := RBox.box bB3.out
    go_wp2_with fail
    refine (c_RangeSomeI _ _ _ _ _).mono ?_
    rintro ee w4 ⟨rfl, hb4⟩
    have bA4 := hid (bA3.out.below hb4)
    have bB4 := hid (bB3.out.below hb4)
    have bQ4 := hid (bQ3.out.below hb4)
    have bR4 := hid (bR3.out.below hb4)
    have bel4 := hid (bel3.out.trans (hb4.mono bel3.out.size))
    clear hb4 bA3 bB3 bQ3 bR3 bel3
    rw [s1]
    clear cA0 cA1 cA2 cA3 cB0 cB1 cB2 cB3
    obtain ⟨cA0, cA1, cA2, cA3⟩ := RBox.box bA4.out
    obtain ⟨cB0, cB1, cB2, cB3⟩ := RBox.box bB4.out
    go_wp2_with fail
    refine (c_RangeSomeI _ _ _ _ _).mono ?_
    rintro ee w5 ⟨rfl, hb5⟩
    have bA5 := hid (bA4.out.below hb5)
    have bB5 := hid (bB4.out.below hb5)
    have bQ5 := hid (bQ4.out.below hb5)
    have bR5 := hid (bR4.out.below hb5)
    have bel5 := hid (bel4.out.trans (hb5.mono bel4.out.size))
    clear hb5 bA4 bB4 bQ4 bR4 bel4
    rw [s2]
    clear cA0 cA1 cA2 cA3 cB0 cB1 cB2 cB3
    obtain ⟨cA0, cA1, cA2, cA3⟩ := RBox.box bA5.out
    obtain ⟨cB0, cB1, cB2, cB3⟩ := RBox.box bB5.out
    go_wp2_with fail
    refine wp_region_held_drew (S := (fun w' => w'.cell? ⟨w.heap.size, 0, none⟩ = some (.int .i64 (x)) ∧ w'.cell? ⟨w.heap.size, 1, none⟩ = some (.int .i64 (y)) ∧ w'.cell? ⟨w.heap.size, 2, none⟩ = some (.int .i64 (z)) ∧ w'.cell? ⟨w.heap.size, 3, none⟩ = some (.int .i64 (u)) ∧ w'.cell? ⟨w.heap.size + 1, 0, none⟩ = some (.int .i64 (x')) ∧ w'.cell? ⟨w.heap.size + 1, 1, none⟩ = some (.int .i64 (y')) ∧ w'.cell? ⟨w.heap.size + 1, 2, none⟩ = some (.int .i64 (z')) ∧ w'.cell? ⟨w.heap.size + 1, 3, none⟩ = some (.int .i64 (u')))) (by kernel_rfl) (by exact ⟨(RBox.box bA5.out).c0, (RBox.box bA5.out).c1, (RBox.box bA5.out).c2, (RBox.box bA5.out).c3, (RBox.box bB5.out).c0, (RBox.box bB5.out).c1, (RBox.box bB5.out).c2, (RBox.box bB5.out).c3⟩) (fun hHeld => ?_)
    have hA := hid (RBox.drew bA5.out)
    have hB := hid (RBox.drew bB5.out)
    have hQ := hid (RBox.drew bQ5.out)
    have hR := hid (RBox.drew bR5.out)
    have hbel := hid (Below.drew bel5.out)
    clear bA5 bB5 bQ5 bR5 bel5
    generalize w5.drew = W1 at *
    refine wpAnyH_take (i := 0) (oi := ?oi144) (v := ?v144) (fuel := 4) ?hi144 ?hs144 ?hf144 ?hr144 ?hq144 (Or.inl ⟨?hw144, ?hy144⟩) hHeld ?rest144
    case hi144 => rw [List.getElem?_toArray]; rfl
    case hq144 => exact fun _ _ _ h => h
    case hs144 => kernel_rfl
    case hf144 => kernel_rfl
    case hr144 => kernel_rfl
    case hw144 => rfl
    case hy144 => (intro w1 hSw; (try dsimp only at hSw); go_simp; try with_reducible rfl)
    (try simp only [Act.put, List.setIfInBounds_toArray, List.set_cons_zero, List.set_cons_succ])
    refine wpAnyH_take (i := 1) (oi := ?oi145) (v := ?v145) (fuel := 3) ?hi145 ?hs145 ?hf145 ?hr145 ?hq145 (Or.inl ⟨?hw145, ?hy145⟩) hHeld ?rest145
    case hi145 => rw [List.getElem?_toArray]; rfl
    case hq145 => exact fun _ _ _ h => h
    case hs145 => kernel_rfl
    case hf145 => kernel_rfl
    case hr145 => kernel_rfl
    case hw145 => rfl
    case hy145 => (intro w1 hSw; (try dsimp only at hSw); go_simp; try with_reducible rfl)
    (try simp only [Act.put, List.setIfInBounds_toArray, List.set_cons_zero, List.set_cons_succ])
    refine wpAnyH_ready (fuel := 2) (rs := [2]) (by kernel_rfl) (by simp) ?_
    refine AllReadyH.cons (o := ?oi146) ?hi146 (fun K hK => ?st146) AllReadyH.nil
    case hi146 => rw [List.getElem?_toArray]; rfl
    obtain ⟨g0, g1, g2, g3⟩ := RBox.box hQ.out
    have fq := RBox.frozen hQ.out
    go_simp
    clear g0 g1 g2 g3 fq
    replace hA := hid (hA.out.st4o (k := w.heap.size + 2) (by first | omega | (have := RBox.lt hA.out; omega)) (x) (y) (z) (u))
    replace hB := hid (hB.out.st4o (k := w.heap.size + 2) (by first | omega | (have := RBox.lt hB.out; omega)) (x) (y) (z) (u))
    replace hR := hid (hR.out.st4o (k := w.heap.size + 2) (by first | omega | (have := RBox.lt hR.out; omega)) (x) (y) (z) (u))
    replace hQ := hid (hQ.out.st4 (x' := x) (y' := y) (z' := z) (u' := u))
    replace hbel := hid (st4_below (w.heap.size + 2) (x) (y) (z) (u) hbel.out (by omega))
    unfold Go.Proofs.Ytcopcajleonndaa.st4 at hbel hA hB hQ hR
    generalize ((((W1.setCell ⟨w.heap.size + 2, 0, none⟩ (.int .i64 (x))).setCell ⟨w.heap.size + 2, 1, none⟩ (.int .i64 (y))).setCell ⟨w.heap.size + 2, 2, none⟩ (.int .i64 (z))).setCell ⟨w.heap.size + 2, 3, none⟩ (.int .i64 (u))) = ws2 at *
    refine hK.out _ _ ?hS146 (fun hHeld => ?re146)
    case hS146 => exact ⟨(RBox.box hA.out).c0, (RBox.box hA.out).c1, (RBox.box hA.out).c2, (RBox.box hA.out).c3, (RBox.box hB.out).c0, (RBox.box hB.out).c1, (RBox.box hB.out).c2, (RBox.box hB.out).c3⟩
    clear hK K
    (try simp only [Act.put, List.setIfInBounds_toArray, List.set_cons_zero, List.set_cons_succ])
    refine wpAnyH_ready (fuel := 1) (rs := [3]) (by kernel_rfl) (by simp) ?_
    refine AllReadyH.cons (o := ?oi147) ?hi147 (fun K hK => ?st147) AllReadyH.nil
    case hi147 => rw [List.getElem?_toArray]; rfl
    obtain ⟨g0, g1, g2, g3⟩ := RBox.box hR.out
    have fq := RBox.frozen hR.out
    go_simp
    clear g0 g1 g2 g3 fq
    replace hA := hid (hA.out.st4o (k := w.heap.size + 3) (by first | omega | (have := RBox.lt hA.out; omega)) (x') (y') (z') (u'))
    replace hB := hid (hB.out.st4o (k := w.heap.size + 3) (by first | omega | (have := RBox.lt hB.out; omega)) (x') (y') (z') (u'))
    replace hQ := hid (hQ.out.st4o (k := w.heap.size + 3) (by first | omega | (have := RBox.lt hQ.out; omega)) (x') (y') (z') (u'))
    replace hR := hid (hR.out.st4 (x' := x') (y' := y') (z' := z') (u' := u'))
    replace hbel := hid (st4_below (w.heap.size + 3) (x') (y') (z') (u') hbel.out (by omega))
    unfold Go.Proofs.Ytcopcajleonndaa.st4 at hbel hA hB hQ hR
    generalize ((((ws2.setCell ⟨w.heap.size + 3, 0, none⟩ (.int .i64 (x'))).setCell ⟨w.heap.size + 3, 1, none⟩ (.int .i64 (y'))).setCell ⟨w.heap.size + 3, 2, none⟩ (.int .i64 (z'))).setCell ⟨w.heap.size + 3, 3, none⟩ (.int .i64 (u'))) = ws3 at *
    refine hK.out _ _ ?hS147 (fun hHeld => ?re147)
    case hS147 => exact ⟨(RBox.box hA.out).c0, (RBox.box hA.out).c1, (RBox.box hA.out).c2, (RBox.box hA.out).c3, (RBox.box hB.out).c0, (RBox.box hB.out).c1, (RBox.box hB.out).c2, (RBox.box hB.out).c3⟩
    clear hK K
    (try simp only [Act.put, List.setIfInBounds_toArray, List.set_cons_zero, List.set_cons_succ])
    refine wpAnyH_take (i := 4) (oi := ?oi148) (v := ?v148) (fuel := 0) ?hi148 ?hs148 ?hf148 ?hr148 ?hq148 (Or.inl ⟨?hw148, ?hy148⟩) hHeld ?rest148
    case hi148 => rw [List.getElem?_toArray]; rfl
    case hq148 => exact fun _ _ _ h => h
    case hs148 => kernel_rfl
    case hf148 => kernel_rfl
    case hr148 => kernel_rfl
    case hw148 => rfl
    case hy148 => (intro w1 hSw; (try dsimp only at hSw); go_simp; try with_reducible rfl)
    (try simp only [Act.put, List.setIfInBounds_toArray, List.set_cons_zero, List.set_cons_succ])
    refine wpAnyH_done (by kernel_rfl) ?_ _
    clear hHeld
    generalize ws3 = w6 at *
    have bA6 := hA
    have bB6 := hB
    have bQ6 := hQ
    have bR6 := hR
    have bel6 := hbel
    clear hbel hA hB hQ hR
    clear cA0 cA1 cA2 cA3 cB0 cB1 cB2 cB3
    go_wp2_with fail
    obtain ⟨p0, p1, p2, p3⟩ := RBox.box bQ6.out
    obtain ⟨q0, q1, q2, q3⟩ := RBox.box bR6.out
    refine bodyPost_ret (v := .tuple #[rv x y z u, rv x' y' z' u', .bool true]) (by simp [results, Try.results37, go_sem, p0, p1, p2, p3, q0, q1, q2, q3]) rfl ⟨rfl, bel6.out⟩
  exact AllReadyH.nil

end Go.Proofs.Ytcopcajleonndaa
