/- Contracts of the program's makers of ranges, more. -/
import Derived.Test.YtnebjocnbfoafaaOA
import Derived.Test.YtnebjocnbfoafaaLC
namespace Go.Proofs.Ytnebjocnbfoafaa
open Go.RowKit
set_option linter.unusedVariables false
set_option linter.unusedSimpArgs false

set_option maxHeartbeats 1000000 in
theorem c_isKnown (lo hi b o : Int) (w : World) :
    Calls Try.prog 23 #[rv lo hi b o] w fun e w' => e = .returned (.bool (lo == hi)) ∧ Below w.heap.size w w' := by
  go_enter Try.func23, Try.ntmps23
  go_wp2
  go_ret
  exact ⟨rfl, (Below.refl _ _).alloc (Nat.le_refl _) _⟩
theorem wdiv (a b : Nat) (ha : a ≤ 4294967295) : IntKind.i64.wrap ((a : Int) / b) = ((a / b : Nat) : Int) := by
  have h2 := Nat.div_le_self a b
  rw [show (a : Int) / b = ((a / b : Nat) : Int) by simp]
  generalize a / b = D at *
  exact wrap_id (by omega) (by omega)
theorem wrapN (n : Nat) : bits .and .i64 (n : Int) 4294967295 = ((n % 4294967296 : Nat) : Int) := by rw [and_maskO]; omega
set_option maxRecDepth 100000 in
set_option maxHeartbeats 2000000 in
theorem c_div_yes (a b c d e f g h : Nat) (w : World) (A : OkN a b c d) (B : OkN e f g h) (h1 : 0 < e) :
    Calls Try.prog 50 #[rv a b c d, rv e f g h] w fun ee w' => ee = .returned (tv (a / f) (b / e) 0 4294967295) ∧ Below w.heap.size w w' := by
  have := A.le
  have := A.hi
  have := B.le
  have := B.hi
  have := A.b
  have := A.o
  have := B.b
  have := B.o
  have Ht : Hid (∀ w, Calls Try.prog 76 #[.int .i64 ((a / f : Nat) : Int), .int .i64 ((b / e : Nat) : Int)] w fun ee w' => ee = .returned (tv (a / f) (b / e) 0 4294967295) ∧ Below w.heap.size w w') := fun w => c_fromTo (a / f) (b / e) w (Nat.div_le_div A.le B.le (by omega)) (by have := Nat.div_le_self b e; omega)
  have q1 : (a : Int) ≤ 4294967295 := by omega
  have q2 : (b : Int) ≤ 4294967295 := by omega
  have q3 : (e : Int) ≤ 4294967295 := by omega
  have q4 : (f : Int) ≤ 4294967295 := by omega
  have w1 := wdiv a f (by omega)
  have w2 := wdiv b e (by omega)
  have h2' : ¬ e = 0 := by omega
  have h3' : ¬ f = 0 := by omega
  have h4' : ((e : Int) == 0) = false := by simp; omega
  generalize a / f = D1 at *
  generalize b / e = D2 at *
  clear A B h1
  have bA0 : Hid (RBox (((w.alloc (cellsR4 a b c d)).alloc (cellsR4 e f g h)).alloc (cellsR4 0 0 0 0)) w.heap.size a b c d) := twoA w a b c d e f g h
  have bB0 : Hid (RBox (((w.alloc (cellsR4 a b c d)).alloc (cellsR4 e f g h)).alloc (cellsR4 0 0 0 0)) (w.heap.size + 1) e f g h) := twoB w a b c d e f g h
  have bQ0 : Hid (RBox (((w.alloc (cellsR4 a b c d)).alloc (cellsR4 e f g h)).alloc (cellsR4 0 0 0 0)) (w.heap.size + 2) 0 0 0 0) := twoQ w a b c d e f g h
  have bel0 : Hid (Below w.heap.size w (((w.alloc (cellsR4 a b c d)).alloc (cellsR4 e f g h)).alloc (cellsR4 0 0 0 0))) := twoW w a b c d e f g h
  go_enter Try.func50, Try.ntmps50
  go_wp2_with fail
  generalize ((w.alloc (cellsR4 a b c d)).alloc (cellsR4 e f g h)).alloc (cellsR4 0 0 0 0) = w0 at *
  obtain ⟨cA0, cA1, cA2, cA3⟩ := RBox.box bA0.out
  obtain ⟨cB0, cB1, cB2, cB3⟩ := RBox.box bB0.out
  refine wp_region_held_drew (S := (fun w' => w'.cell? ⟨w.heap.size, 0, none⟩ = some (.int .i64 (a)) ∧ w'.cell? ⟨w.heap.size, 1, none⟩ = some (.int .i64 (b)) ∧ w'.cell? ⟨w.heap.size, 2, none⟩ = some (.int .i64 (c)) ∧ w'.cell? ⟨w.heap.size, 3, none⟩ = some (.int .i64 (d)) ∧ w'.cell? ⟨w.heap.size + 1, 0, none⟩ = some (.int .i64 (e)) ∧ w'.cell? ⟨w.heap.size + 1, 1, none⟩ = some (.int .i64 (f)) ∧ w'.cell? ⟨w.heap.size + 1, 2, none⟩ = some (.int .i64 (g)) ∧ w'.cell? ⟨w.heap.size + 1, 3, none⟩ = some (.int .i64 (h)))) (by kernel_rfl) (by exact ⟨(RBox.box bA0.out).c0, (RBox.box bA0.out).c1, (RBox.box bA0.out).c2, (RBox.box bA0.out).c3, (RBox.box bB0.out).c0, (RBox.box bB0.out).c1, (RBox.box bB0.out).c2, (RBox.box bB0.out).c3⟩) (fun hHeld => ?_)
  have hA := hid (RBox.drew bA0.out)
  have hB := hid (RBox.drew bB0.out)
  have hQ := hid (RBox.drew bQ0.out)
  have hbel := hid (Below.drew bel0.out)
  clear bA0 bB0 bQ0 bel0
  generalize w0.drew = W1 at *
  refine wpAnyH_take (i := 0) (oi := ?oi1) (v := ?v1) (fuel := 11) ?hi1 ?hs1 ?hf1 ?hr1 ?hq1 (Or.inl ⟨?hw1, ?hy1⟩) hHeld ?rest1
  case hi1 => rw [List.getElem?_toArray]; rfl
  case hq1 => exact fun _ _ _ h => h
  case hs1 | hf1 | hr1 => kernel_rfl
  case hw1 => rfl
  case hy1 => (intro w1 hSw; (try dsimp only at hSw); go_simp; try with_reducible rfl)
  (try simp only [Act.put, List.setIfInBounds_toArray, List.set_cons_zero, List.set_cons_succ])
  refine wpAnyH_take (i := 1) (oi := ?oi2) (v := ?v2) (fuel := 10) ?hi2 ?hs2 ?hf2 ?hr2 ?hq2 (Or.inl ⟨?hw2, ?hy2⟩) hHeld ?rest2
  case hi2 => rw [List.getElem?_toArray]; rfl
  case hq2 => exact fun _ _ _ h => h
  case hs2 | hf2 | hr2 => kernel_rfl
  case hw2 => rfl
  case hy2 => (intro w1 hSw; (try dsimp only at hSw); go_simp; try with_reducible rfl)
  (try simp only [Act.put, List.setIfInBounds_toArray, List.set_cons_zero, List.set_cons_succ])
  refine wpAnyH_take (i := 2) (oi := ?oi3) (v := ?v3) (fuel := 9) ?hi3 ?hs3 ?hf3 ?hr3 ?hq3 (Or.inl ⟨?hw3, ?hy3⟩) hHeld ?rest3
  case hi3 => rw [List.getElem?_toArray]; rfl
  case hq3 => exact fun _ _ _ h => h
  case hs3 | hf3 | hr3 => kernel_rfl
  case hw3 => rfl
  case hy3 => (intro w1 hSw; (try dsimp only at hSw); go_simp; try with_reducible rfl)
  (try simp only [Act.put, List.setIfInBounds_toArray, List.set_cons_zero, List.set_cons_succ])
  refine wpAnyH_take (i := 3) (oi := ?oi4) (v := ?v4) (fuel := 8) ?hi4 ?hs4 ?hf4 ?hr4 ?hq4 (Or.inl ⟨?hw4, ?hy4⟩) hHeld ?rest4
  case hi4 => rw [List.getElem?_toArray]; rfl
  case hq4 => exact fun _ _ _ h => h
  case hs4 | hf4 | hr4 => kernel_rfl
  case hw4 => rfl
  case hy4 => (intro w1 hSw; (try dsimp only at hSw); go_simp; try with_reducible rfl)
  (try simp only [Act.put, List.setIfInBounds_toArray, List.set_cons_zero, List.set_cons_succ])
  refine wpAnyH_take (i := 4) (oi := ?oi5) (v := ?v5) (fuel := 7) ?hi5 ?hs5 ?hf5 ?hr5 ?hq5 (Or.inl ⟨?hw5, ?hy5⟩) hHeld ?rest5
  case hi5 => rw [List.getElem?_toArray]; rfl
  case hq5 => exact fun _ _ _ h => h
  case hs5 | hf5 | hr5 => kernel_rfl
  case hw5 => rfl
  case hy5 => (intro w1 hSw; (try dsimp only at hSw); go_simp; try with_reducible rfl)
  (try simp only [Act.put, List.setIfInBounds_toArray, List.set_cons_zero, List.set_cons_succ])
  refine wpAnyH_take (i := 5) (oi := ?oi6) (v := ?v6) (fuel := 6) ?hi6 ?hs6 ?hf6 ?hr6 ?hq6 (Or.inl ⟨?hw6, ?hy6⟩) hHeld ?rest6
  case hi6 => rw [List.getElem?_toArray]; rfl
  case hq6 => exact fun _ _ _ h => h
  case hs6 | hf6 | hr6 => kernel_rfl
  case hw6 => rfl
  case hy6 => (intro w1 hSw; (try dsimp only at hSw); go_simp; try with_reducible rfl)
  (try simp only [Act.put, List.setIfInBounds_toArray, List.set_cons_zero, List.set_cons_succ])
  refine wpAnyH_take (i := 6) (oi := ?oi7) (v := ?v7) (fuel := 5) ?hi7 ?hs7 ?hf7 ?hr7 ?hq7 (Or.inl ⟨?hw7, ?hy7⟩) hHeld ?rest7
  case hi7 => rw [List.getElem?_toArray]; rfl
  case hq7 => exact fun _ _ _ h => h
  case hs7 | hf7 | hr7 => kernel_rfl
  case hw7 => rfl
  case hy7 => (intro w1 hSw; (try dsimp only at hSw); go_simp; try with_reducible rfl)
  (try simp only [Act.put, List.setIfInBounds_toArray, List.set_cons_zero, List.set_cons_succ])
  refine wpAnyH_take (i := 7) (oi := ?oi8) (v := ?v8) (fuel := 4) ?hi8 ?hs8 ?hf8 ?hr8 ?hq8 (Or.inl ⟨?hw8, ?hy8⟩) hHeld ?rest8
  case hi8 => rw [List.getElem?_toArray]; rfl
  case hq8 => exact fun _ _ _ h => h
  case hs8 | hf8 | hr8 => kernel_rfl
  case hw8 => rfl
  case hy8 => (intro w1 hSw; (try dsimp only at hSw); go_simp; try with_reducible rfl)
  (try simp only [Act.put, List.setIfInBounds_toArray, List.set_cons_zero, List.set_cons_succ])
  refine wpAnyH_take (i := 8) (oi := ?oi9) (v := ?v9) (fuel := 3) ?hi9 ?hs9 ?hf9 ?hr9 ?hq9 (Or.inl ⟨?hw9, ?hy9⟩) hHeld ?rest9
  case hi9 => rw [List.getElem?_toArray]; rfl
  case hq9 => exact fun _ _ _ h => h
  case hs9 | hf9 | hr9 => kernel_rfl
  case hw9 => rfl
  case hy9 => (intro w1 hSw; (try dsimp only at hSw); go_simp; try with_reducible rfl)
  (try simp only [Act.put, List.setIfInBounds_toArray, List.set_cons_zero, List.set_cons_succ])
  refine wpAnyH_take (i := 9) (oi := ?oi10) (v := ?v10) (fuel := 2) ?hi10 ?hs10 ?hf10 ?hr10 ?hq10 (Or.inl ⟨?hw10, ?hy10⟩) hHeld ?rest10
  case hi10 => rw [List.getElem?_toArray]; rfl
  case hq10 => exact fun _ _ _ h => h
  case hs10 | hf10 | hr10 => kernel_rfl
  case hw10 => rfl
  case hy10 => (intro w1 hSw; (try dsimp only at hSw); go_simp; try with_reducible rfl)
  (try simp only [Act.put, List.setIfInBounds_toArray, List.set_cons_zero, List.set_cons_succ])
  refine wpAnyH_ready (fuel := 1) (rs := [10]) (by kernel_rfl) (by simp) ?_
  refine AllReadyH.cons (o := ?oi11) ?hi11 (fun K hK => ?st11) AllReadyH.nil
  case hi11 => rw [List.getElem?_toArray]; rfl
  go_simp
  refine (Ht.out _).mono ?_
  rintro ee wr10 ⟨rfl, hbn⟩
  replace hA := hid (hA.out.below hbn)
  replace hB := hid (hB.out.below hbn)
  replace hQ := hid (hQ.out.below hbn)
  replace hbel := hid (hbel.out.trans (hbn.mono hbel.out.size))
  clear hbn
  go_wp2_with fail
  refine hK.out _ _ ?hS11 (fun hHeld => ?re11)
  case hS11 => exact ⟨(RBox.box hA.out).c0, (RBox.box hA.out).c1, (RBox.box hA.out).c2, (RBox.box hA.out).c3, (RBox.box hB.out).c0, (RBox.box hB.out).c1, (RBox.box hB.out).c2, (RBox.box hB.out).c3⟩
  clear hK K
  (try simp only [Act.put, List.setIfInBounds_toArray, List.set_cons_zero, List.set_cons_succ])
  refine wpAnyH_ready (fuel := 0) (rs := [11]) (by kernel_rfl) (by simp) ?_
  refine AllReadyH.cons (o := ?oi12) ?hi12 (fun K hK => ?st12) AllReadyH.nil
  case hi12 => rw [List.getElem?_toArray]; rfl
  obtain ⟨g0, g1, g2, g3⟩ := RBox.box hQ.out
  have fq := RBox.frozen hQ.out
  go_simp
  clear g0 g1 g2 g3 fq
  replace hA := hid (hA.out.st4o (k := w.heap.size + 2) (by first | omega | (have := RBox.lt hA.out; omega)) (tLo (D1) (D2) (0)) (tHi (D1) (D2) (0) (4294967295)) (tB (D1) (D2) (0)) (tO (D1) (D2) (4294967295)))
  replace hB := hid (hB.out.st4o (k := w.heap.size + 2) (by first | omega | (have := RBox.lt hB.out; omega)) (tLo (D1) (D2) (0)) (tHi (D1) (D2) (0) (4294967295)) (tB (D1) (D2) (0)) (tO (D1) (D2) (4294967295)))
  replace hQ := hid (hQ.out.st4 (x' := tLo (D1) (D2) (0)) (y' := tHi (D1) (D2) (0) (4294967295)) (z' := tB (D1) (D2) (0)) (u' := tO (D1) (D2) (4294967295)))
  replace hbel := hid (st4_below (w.heap.size + 2) (tLo (D1) (D2) (0)) (tHi (D1) (D2) (0) (4294967295)) (tB (D1) (D2) (0)) (tO (D1) (D2) (4294967295)) hbel.out (by omega))
  unfold Go.Proofs.Ytnebjocnbfoafaa.st4 at hbel hA hB hQ
  generalize ((((wr10.setCell ⟨w.heap.size + 2, 0, none⟩ (.int .i64 (tLo (D1) (D2) (0)))).setCell ⟨w.heap.size + 2, 1, none⟩ (.int .i64 (tHi (D1) (D2) (0) (4294967295)))).setCell ⟨w.heap.size + 2, 2, none⟩ (.int .i64 (tB (D1) (D2) (0)))).setCell ⟨w.heap.size + 2, 3, none⟩ (.int .i64 (tO (D1) (D2) (4294967295)))) = ws11 at *
  refine hK.out _ _ ?hS12 (fun hHeld => ?re12)
  case hS12 => exact ⟨(RBox.box hA.out).c0, (RBox.box hA.out).c1, (RBox.box hA.out).c2, (RBox.box hA.out).c3, (RBox.box hB.out).c0, (RBox.box hB.out).c1, (RBox.box hB.out).c2, (RBox.box hB.out).c3⟩
  clear hK K
  (try simp only [Act.put, List.setIfInBounds_toArray, List.set_cons_zero, List.set_cons_succ])
  refine wpAnyH_done (by kernel_rfl) ?_ _
  clear hHeld
  generalize ws11 = w1 at *
  have bA1 := hA
  have bB1 := hB
  have bQ1 := hQ
  have bel1 := hbel
  clear hbel hA hB hQ
  go_wp2_with fail
  obtain ⟨p0, p1, p2, p3⟩ := RBox.box bQ1.out
  refine bodyPost_ret (v := tv D1 D2 0 4294967295) (by simp [results, Try.results50, go_sem, p0, p1, p2, p3]) rfl ⟨rfl, bel1.out⟩

set_option maxRecDepth 100000 in
set_option maxHeartbeats 2000000 in
theorem c_div_zero (a b c d e f g h : Nat) (w : World) (A : OkN a b c d) (h2 : e = 0) :
    Calls Try.prog 50 #[rv a b c d, rv e f g h] w fun ee w' => ee = .returned (tv 0 b 0 4294967295) ∧ Below w.heap.size w w' := by
  have := A.hi
  have Ht : Hid (∀ w, Calls Try.prog 76 #[.int .i64 (0), .int .i64 ((b : Int))] w fun ee w' => ee = .returned (tv (0) (b) 0 4294967295) ∧ Below w.heap.size w w') := by
    intro w
    have this := c_fromTo (0) (b) w (by omega) (by omega)
    rw [show ((0 : Nat) : Int) = 0 by first | omega | rfl | simp, show ((b : Nat) : Int) = (b : Int) by first | omega | rfl | simp] at this
    exact this
  subst h2
  clear A
  have bQ0 := hid (twoQ w a b c d (0 : Nat) f g h)
  have bel0 := hid (twoW w a b c d (0 : Nat) f g h)
  go_enter Try.func50, Try.ntmps50
  go_wp2_with fail
  refine (Ht.out _).mono ?_
  rintro ee w1 ⟨rfl, hb1⟩
  have bQ1 := hid (bQ0.out.below hb1)
  have bel1 := hid (bel0.out.trans (hb1.mono bel0.out.size))
  clear hb1 bQ0 bel0
  obtain ⟨g0, g1, g2, g3⟩ := RBox.box bQ1.out
  have fq := RBox.frozen bQ1.out
  have P5 := hid (RBox.box (bQ1.out.st4 (x' := tLo (0) (b) (0)) (y' := tHi (0) (b) (0) (4294967295)) (z' := tB (0) (b) (0)) (u' := tO (0) (b) (4294967295))))
  have B5 := hid (st4_below (w.heap.size + 2) (tLo (0) (b) (0)) (tHi (0) (b) (0) (4294967295)) (tB (0) (b) (0)) (tO (0) (b) (4294967295)) bel1.out (by omega))
  go_wp2_with fail
  obtain ⟨p0, p1, p2, p3⟩ := P5.out
  unfold st4 at p0 p1 p2 p3
  refine bodyPost_ret (v := rv (tLo (0) (b) (0)) (tHi (0) (b) (0) (4294967295)) (tB (0) (b) (0)) (tO (0) (b) (4294967295))) (by simp [results, Try.results50, go_sem, p0, p1, p2, p3]) rfl ⟨rfl, B5.out⟩

set_option maxRecDepth 100000 in
set_option maxHeartbeats 2000000 in
theorem c_shr_no (a b c d e f g h : Nat) (w : World) (A : OkN a b c d) (h1 : ((e : Int) == f) = false) :
    Calls Try.prog 49 #[rv a b c d, rv e f g h] w fun ee w' => ee = .returned (tv 0 b 0 4294967295) ∧ Below w.heap.size w w' := by
  have := A.hi
  have Ht : Hid (∀ w, Calls Try.prog 76 #[.int .i64 (0), .int .i64 ((b : Int))] w fun ee w' => ee = .returned (tv (0) (b) 0 4294967295) ∧ Below w.heap.size w w') := by
    intro w
    have this := c_fromTo (0) (b) w (by omega) (by omega)
    rw [show ((0 : Nat) : Int) = 0 by first | omega | rfl | simp, show ((b : Nat) : Int) = (b : Int) by first | omega | rfl | simp] at this
    exact this
  clear A
  have bA0 : Hid (RBox (((w.alloc (cellsR4 a b c d)).alloc (cellsR4 e f g h)).alloc (cellsR4 0 0 0 0)) w.heap.size a b c d) := twoA w a b c d e f g h
  have bB0 : Hid (RBox (((w.alloc (cellsR4 a b c d)).alloc (cellsR4 e f g h)).alloc (cellsR4 0 0 0 0)) (w.heap.size + 1) e f g h) := twoB w a b c d e f g h
  have bQ0 : Hid (RBox (((w.alloc (cellsR4 a b c d)).alloc (cellsR4 e f g h)).alloc (cellsR4 0 0 0 0)) (w.heap.size + 2) 0 0 0 0) := twoQ w a b c d e f g h
  have bel0 : Hid (Below w.heap.size w (((w.alloc (cellsR4 a b c d)).alloc (cellsR4 e f g h)).alloc (cellsR4 0 0 0 0))) := twoW w a b c d e f g h
  go_enter Try.func49, Try.ntmps49
  go_wp2_with fail
  refine (c_isKnown _ _ _ _ _).mono ?_
  rintro ee w1 ⟨rfl, hb1⟩
  have bA1 := hid (bA0.out.below hb1)
  have bB1 := hid (bB0.out.below hb1)
  have bQ1 := hid (bQ0.out.below hb1)
  have bel1 := hid (bel0.out.trans (hb1.mono bel0.out.size))
  clear hb1 bA0 bB0 bQ0 bel0
  rw [h1]
  obtain ⟨cA0, cA1, cA2, cA3⟩ := RBox.box bA1.out
  go_wp2_with fail
  refine (Ht.out _).mono ?_
  rintro ee w2 ⟨rfl, hb2⟩
  have bA2 := hid (bA1.out.below hb2)
  have bB2 := hid (bB1.out.below hb2)
  have bQ2 := hid (bQ1.out.below hb2)
  have bel2 := hid (bel1.out.trans (hb2.mono bel1.out.size))
  clear hb2 bA1 bB1 bQ1 bel1
  clear cA0 cA1 cA2 cA3
  obtain ⟨g0, g1, g2, g3⟩ := RBox.box bQ2.out
  have fq := RBox.frozen bQ2.out
  have P5 := hid (RBox.box (bQ2.out.st4 (x' := tLo (0) (b) (0)) (y' := tHi (0) (b) (0) (4294967295)) (z' := tB (0) (b) (0)) (u' := tO (0) (b) (4294967295))))
  have B5 := hid (st4_below (w.heap.size + 2) (tLo (0) (b) (0)) (tHi (0) (b) (0) (4294967295)) (tB (0) (b) (0)) (tO (0) (b) (4294967295)) bel2.out (by omega))
  go_wp2_with fail
  obtain ⟨p0, p1, p2, p3⟩ := P5.out
  unfold st4 at p0 p1 p2 p3
  refine bodyPost_ret (v := rv (tLo (0) (b) (0)) (tHi (0) (b) (0) (4294967295)) (tB (0) (b) (0)) (tO (0) (b) (4294967295))) (by simp [results, Try.results49, go_sem, p0, p1, p2, p3]) rfl ⟨rfl, B5.out⟩

set_option maxRecDepth 100000 in
set_option maxHeartbeats 2000000 in
theorem c_shr_yes (a b c d e f g h : Nat) {x y : Nat} (w : World) (A : OkN a b c d) (B : OkN e f g h) (X : OfN a b c d x) (Y : OfN e f g h y) (h1 : ((e : Int) == f) = true) :
    Calls Try.prog 49 #[rv a b c d, rv e f g h] w fun ee w' => ee = .returned (tv (a / 2 ^ (e % 32)) (b / 2 ^ (e % 32)) (c / 2 ^ (e % 32)) (d / 2 ^ (e % 32))) ∧ Below w.heap.size w w' := by
  have := A.le
  have := A.hi
  have := B.le
  have := B.hi
  have := A.b
  have := A.o
  have := B.b
  have := B.o
  have HS : Hid (∀ w, Calls Try.prog 71 #[.int .i64 e] w fun ee w' => ee = .returned (.int .i64 ((e % 32 : Nat) : Int)) ∧ w' = w) := fun w => c_shiftOf e w (by omega)
  have hS : e % 32 < 32 := by omega
  have Ht : Hid (∀ w, Calls Try.prog 22 #[rv ((a : Int) / 2 ^ (e % 32)) ((b : Int) / 2 ^ (e % 32)) ((c : Int) / 2 ^ (e % 32)) ((d : Int) / 2 ^ (e % 32))] w fun ee w' => ee = .returned (tv (a / 2 ^ (e % 32)) (b / 2 ^ (e % 32)) (c / 2 ^ (e % 32)) (d / 2 ^ (e % 32))) ∧ Below w.heap.size w w') := by
    intro w
    have this := tidyI _ _ _ _ (shr_ok A (e % 32)) (shr_of A X e) w
    rw [← shr_nat, ← shr_nat, ← shr_nat, ← shr_nat] at this
    exact this
  clear A B X Y
  generalize e % 32 = S at *
  have hS0 : (0 : Int) ≤ S := by omega
  have hS1 : (S : Int) < 32 := by omega
  have bA0 : Hid (RBox (((w.alloc (cellsR4 a b c d)).alloc (cellsR4 e f g h)).alloc (cellsR4 0 0 0 0)) w.heap.size a b c d) := twoA w a b c d e f g h
  have bB0 : Hid (RBox (((w.alloc (cellsR4 a b c d)).alloc (cellsR4 e f g h)).alloc (cellsR4 0 0 0 0)) (w.heap.size + 1) e f g h) := twoB w a b c d e f g h
  have bQ0 : Hid (RBox (((w.alloc (cellsR4 a b c d)).alloc (cellsR4 e f g h)).alloc (cellsR4 0 0 0 0)) (w.heap.size + 2) 0 0 0 0) := twoQ w a b c d e f g h
  have bel0 : Hid (Below w.heap.size w (((w.alloc (cellsR4 a b c d)).alloc (cellsR4 e f g h)).alloc (cellsR4 0 0 0 0))) := twoW w a b c d e f g h
  go_enter Try.func49, Try.ntmps49
  go_wp2_with fail
  refine (c_isKnown _ _ _ _ _).mono ?_
  rintro ee w1 ⟨rfl, hb1⟩
  have bA1 := hid (bA0.out.below hb1)
  have bB1 := hid (bB0.out.below hb1)
  have bQ1 := hid (bQ0.out.below hb1)
  have bel1 := hid (bel0.out.trans (hb1.mono bel0.out.size))
  clear hb1 bA0 bB0 bQ0 bel0
  rw [h1]
  obtain ⟨cA0, cA1, cA2, cA3⟩ := RBox.box bA1.out
  obtain ⟨cB0, cB1, cB2, cB3⟩ := RBox.box bB1.out
  go_wp2_with fail
  refine (HS.out _).mono ?_
  rintro ee w2 ⟨rfl, hw2⟩
  rw [hw2]; clear hw2 w2
  go_wp2_with fail
  refine wp_region_held_drew (S := (fun w' => w'.cell? ⟨w.heap.size, 0, none⟩ = some (.int .i64 (a)) ∧ w'.cell? ⟨w.heap.size, 1, none⟩ = some (.int .i64 (b)) ∧ w'.cell? ⟨w.heap.size, 2, none⟩ = some (.int .i64 (c)) ∧ w'.cell? ⟨w.heap.size, 3, none⟩ = some (.int .i64 (d)))) (by kernel_rfl) (by exact ⟨(RBox.box bA1.out).c0, (RBox.box bA1.out).c1, (RBox.box bA1.out).c2, (RBox.box bA1.out).c3⟩) (fun hHeld => ?_)
  have hA := hid (RBox.drew bA1.out)
  have hB := hid (RBox.drew bB1.out)
  have hQ := hid (RBox.drew bQ1.out)
  have hbel := hid (Below.drew bel1.out)
  clear bA1 bB1 bQ1 bel1
  generalize w1.drew = W1 at *
  refine wpAnyH_take (i := 0) (oi := ?oi13) (v := ?v13) (fuel := 18) ?hi13 ?hs13 ?hf13 ?hr13 ?hq13 (Or.inl ⟨?hw13, ?hy13⟩) hHeld ?rest13
  case hi13 => rw [List.getElem?_toArray]; rfl
  case hq13 => exact fun _ _ _ h => h
  case hs13 | hf13 | hr13 => kernel_rfl
  case hw13 => rfl
  case hy13 => (intro w1 hSw; (try dsimp only at hSw); go_simp; try with_reducible rfl)
  (try simp only [Act.put, List.setIfInBounds_toArray, List.set_cons_zero, List.set_cons_succ])
  refine wpAnyH_take (i := 1) (oi := ?oi14) (v := ?v14) (fuel := 17) ?hi14 ?hs14 ?hf14 ?hr14 ?hq14 (Or.inl ⟨?hw14, ?hy14⟩) hHeld ?rest14
  case hi14 => rw [List.getElem?_toArray]; rfl
  case hq14 => exact fun _ _ _ h => h
  case hs14 | hf14 | hr14 => kernel_rfl
  case hw14 => rfl
  case hy14 => (intro w1 hSw; (try dsimp only at hSw); go_simp; try with_reducible rfl)
  (try simp only [Act.put, List.setIfInBounds_toArray, List.set_cons_zero, List.set_cons_succ])
  refine wpAnyH_take (i := 2) (oi := ?oi15) (v := ?v15) (fuel := 16) ?hi15 ?hs15 ?hf15 ?hr15 ?hq15 (Or.inl ⟨?hw15, ?hy15⟩) hHeld ?rest15
  case hi15 => rw [List.getElem?_toArray]; rfl
  case hq15 => exact fun _ _ _ h => h
  case hs15 | hf15 | hr15 => kernel_rfl
  case hw15 => rfl
  case hy15 => (intro w1 hSw; (try dsimp only at hSw); go_simp; try with_reducible rfl)
  (try simp only [Act.put, List.setIfInBounds_toArray, List.set_cons_zero, List.set_cons_succ])
  refine wpAnyH_take (i := 3) (oi := ?oi16) (v := ?v16) (fuel := 15) ?hi16 ?hs16 ?hf16 ?hr16 ?hq16 (Or.inl ⟨?hw16, ?hy16⟩) hHeld ?rest16
  case hi16 => rw [List.getElem?_toArray]; rfl
  case hq16 => exact fun _ _ _ h => h
  case hs16 | hf16 | hr16 => kernel_rfl
  case hw16 => rfl
  case hy16 => (intro w1 hSw; (try dsimp only at hSw); go_simp; try with_reducible rfl)
  (try simp only [Act.put, List.setIfInBounds_toArray, List.set_cons_zero, List.set_cons_succ])
  refine wpAnyH_take (i := 4) (oi := ?oi17) (v := ?v17) (fuel := 14) ?hi17 ?hs17 ?hf17 ?hr17 ?hq17 (Or.inl ⟨?hw17, ?hy17⟩) hHeld ?rest17
  case hi17 => rw [List.getElem?_toArray]; rfl
  case hq17 => exact fun _ _ _ h => h
  case hs17 | hf17 | hr17 => kernel_rfl
  case hw17 => rfl
  case hy17 => (intro w1 hSw; (try dsimp only at hSw); go_simp; try with_reducible rfl)
  (try simp only [Act.put, List.setIfInBounds_toArray, List.set_cons_zero, List.set_cons_succ])
  refine wpAnyH_take (i := 5) (oi := ?oi18) (v := ?v18) (fuel := 13) ?hi18 ?hs18 ?hf18 ?hr18 ?hq18 (Or.inl ⟨?hw18, ?hy18⟩) hHeld ?rest18
  case hi18 => rw [List.getElem?_toArray]; rfl
  case hq18 => exact fun _ _ _ h => h
  case hs18 | hf18 | hr18 => kernel_rfl
  case hw18 => rfl
  case hy18 => (intro w1 hSw; (try dsimp only at hSw); go_simp; try with_reducible rfl)
  (try simp only [Act.put, List.setIfInBounds_toArray, List.set_cons_zero, List.set_cons_succ])
  refine wpAnyH_take (i := 6) (oi := ?oi19) (v := ?v19) (fuel := 12) ?hi19 ?hs19 ?hf19 ?hr19 ?hq19 (Or.inl ⟨?hw19, ?hy19⟩) hHeld ?rest19
  case hi19 => rw [List.getElem?_toArray]; rfl
  case hq19 => exact fun _ _ _ h => h
  case hs19 | hf19 | hr19 => kernel_rfl
  case hw19 => rfl
  case hy19 => (intro w1 hSw; (try dsimp only at hSw); go_simp; try with_reducible rfl)
  (try simp only [Act.put, List.setIfInBounds_toArray, List.set_cons_zero, List.set_cons_succ])
  refine wpAnyH_take (i := 7) (oi := ?oi20) (v := ?v20) (fuel := 11) ?hi20 ?hs20 ?hf20 ?hr20 ?hq20 (Or.inl ⟨?hw20, ?hy20⟩) hHeld ?rest20
  case hi20 => rw [List.getElem?_toArray]; rfl
  case hq20 => exact fun _ _ _ h => h
  case hs20 | hf20 | hr20 => kernel_rfl
  case hw20 => rfl
  case hy20 => (intro w1 hSw; (try dsimp only at hSw); go_simp; try with_reducible rfl)
  (try simp only [Act.put, List.setIfInBounds_toArray, List.set_cons_zero, List.set_cons_succ])
  refine wpAnyH_take (i := 8) (oi := ?oi21) (v := ?v21) (fuel := 10) ?hi21 ?hs21 ?hf21 ?hr21 ?hq21 (Or.inl ⟨?hw21, ?hy21⟩) hHeld ?rest21
  case hi21 => rw [List.getElem?_toArray]; rfl
  case hq21 => exact fun _ _ _ h => h
  case hs21 | hf21 | hr21 => kernel_rfl
  case hw21 => rfl
  case hy21 => (intro w1 hSw; (try dsimp only at hSw); go_simp; try with_reducible rfl)
  (try simp only [Act.put, List.setIfInBounds_toArray, List.set_cons_zero, List.set_cons_succ])
  refine wpAnyH_take (i := 9) (oi := ?oi22) (v := ?v22) (fuel := 9) ?hi22 ?hs22 ?hf22 ?hr22 ?hq22 (Or.inl ⟨?hw22, ?hy22⟩) hHeld ?rest22
  case hi22 => rw [List.getElem?_toArray]; rfl
  case hq22 => exact fun _ _ _ h => h
  case hs22 | hf22 | hr22 => kernel_rfl
  case hw22 => rfl
  case hy22 => (intro w1 hSw; (try dsimp only at hSw); go_simp; try with_reducible rfl)
  (try simp only [Act.put, List.setIfInBounds_toArray, List.set_cons_zero, List.set_cons_succ])
  refine wpAnyH_take (i := 10) (oi := ?oi23) (v := ?v23) (fuel := 8) ?hi23 ?hs23 ?hf23 ?hr23 ?hq23 (Or.inl ⟨?hw23, ?hy23⟩) hHeld ?rest23
  case hi23 => rw [List.getElem?_toArray]; rfl
  case hq23 => exact fun _ _ _ h => h
  case hs23 | hf23 | hr23 => kernel_rfl
  case hw23 => rfl
  case hy23 => (intro w1 hSw; (try dsimp only at hSw); go_simp; try with_reducible rfl)
  (try simp only [Act.put, List.setIfInBounds_toArray, List.set_cons_zero, List.set_cons_succ])
  refine wpAnyH_take (i := 11) (oi := ?oi24) (v := ?v24) (fuel := 7) ?hi24 ?hs24 ?hf24 ?hr24 ?hq24 (Or.inl ⟨?hw24, ?hy24⟩) hHeld ?rest24
  case hi24 => rw [List.getElem?_toArray]; rfl
  case hq24 => exact fun _ _ _ h => h
  case hs24 | hf24 | hr24 => kernel_rfl
  case hw24 => rfl
  case hy24 => (intro w1 hSw; (try dsimp only at hSw); go_simp; try with_reducible rfl)
  (try simp only [Act.put, List.setIfInBounds_toArray, List.set_cons_zero, List.set_cons_succ])
  refine wpAnyH_take (i := 12) (oi := ?oi25) (v := ?v25) (fuel := 6) ?hi25 ?hs25 ?hf25 ?hr25 ?hq25 (Or.inl ⟨?hw25, ?hy25⟩) hHeld ?rest25
  case hi25 => rw [List.getElem?_toArray]; rfl
  case hq25 => exact fun _ _ _ h => h
  case hs25 | hf25 | hr25 => kernel_rfl
  case hw25 => rfl
  case hy25 => (intro w1 hSw; (try dsimp only at hSw); go_simp; try with_reducible rfl)
  (try simp only [Act.put, List.setIfInBounds_toArray, List.set_cons_zero, List.set_cons_succ])
  refine wpAnyH_take (i := 13) (oi := ?oi26) (v := ?v26) (fuel := 5) ?hi26 ?hs26 ?hf26 ?hr26 ?hq26 (Or.inl ⟨?hw26, ?hy26⟩) hHeld ?rest26
  case hi26 => rw [List.getElem?_toArray]; rfl
  case hq26 => exact fun _ _ _ h => h
  case hs26 | hf26 | hr26 => kernel_rfl
  case hw26 => rfl
  case hy26 => (intro w1 hSw; (try dsimp only at hSw); go_simp; try with_reducible rfl)
  (try simp only [Act.put, List.setIfInBounds_toArray, List.set_cons_zero, List.set_cons_succ])
  refine wpAnyH_take (i := 14) (oi := ?oi27) (v := ?v27) (fuel := 4) ?hi27 ?hs27 ?hf27 ?hr27 ?hq27 (Or.inl ⟨?hw27, ?hy27⟩) hHeld ?rest27
  case hi27 => rw [List.getElem?_toArray]; rfl
  case hq27 => exact fun _ _ _ h => h
  case hs27 | hf27 | hr27 => kernel_rfl
  case hw27 => rfl
  case hy27 => (intro w1 hSw; (try dsimp only at hSw); go_simp; try with_reducible rfl)
  (try simp only [Act.put, List.setIfInBounds_toArray, List.set_cons_zero, List.set_cons_succ])
  refine wpAnyH_take (i := 15) (oi := ?oi28) (v := ?v28) (fuel := 3) ?hi28 ?hs28 ?hf28 ?hr28 ?hq28 (Or.inl ⟨?hw28, ?hy28⟩) hHeld ?rest28
  case hi28 => rw [List.getElem?_toArray]; rfl
  case hq28 => exact fun _ _ _ h => h
  case hs28 | hf28 | hr28 => kernel_rfl
  case hw28 => rfl
  case hy28 => (intro w1 hSw; (try dsimp only at hSw); go_simp; try with_reducible rfl)
  (try simp only [Act.put, List.setIfInBounds_toArray, List.set_cons_zero, List.set_cons_succ])
  refine wpAnyH_take (i := 16) (oi := ?oi29) (v := ?v29) (fuel := 2) ?hi29 ?hs29 ?hf29 ?hr29 ?hq29 (Or.inl ⟨?hw29, ?hy29⟩) hHeld ?rest29
  case hi29 => rw [List.getElem?_toArray]; rfl
  case hq29 => exact fun _ _ _ h => h
  case hs29 | hf29 | hr29 => kernel_rfl
  case hw29 => rfl
  case hy29 => (intro w1 hSw; (try dsimp only at hSw); go_simp; try with_reducible rfl)
  (try simp only [Act.put, List.setIfInBounds_toArray, List.set_cons_zero, List.set_cons_succ])
  refine wpAnyH_ready (fuel := 1) (rs := [17]) (by kernel_rfl) (by simp) ?_
  refine AllReadyH.cons (o := ?oi30) ?hi30 (fun K hK => ?st30) AllReadyH.nil
  case hi30 => rw [List.getElem?_toArray]; rfl
  go_simp
  refine (Ht.out _).mono ?_
  rintro ee wr17 ⟨rfl, hbn⟩
  replace hA := hid (hA.out.below hbn)
  replace hB := hid (hB.out.below hbn)
  replace hQ := hid (hQ.out.below hbn)
  replace hbel := hid (hbel.out.trans (hbn.mono hbel.out.size))
  clear hbn
  go_wp2_with fail
  refine hK.out _ _ ?hS30 (fun hHeld => ?re30)
  case hS30 => exact ⟨(RBox.box hA.out).c0, (RBox.box hA.out).c1, (RBox.box hA.out).c2, (RBox.box hA.out).c3⟩
  clear hK K
  (try simp only [Act.put, List.setIfInBounds_toArray, List.set_cons_zero, List.set_cons_succ])
  refine wpAnyH_ready (fuel := 0) (rs := [18]) (by kernel_rfl) (by simp) ?_
  refine AllReadyH.cons (o := ?oi31) ?hi31 (fun K hK => ?st31) AllReadyH.nil
  case hi31 => rw [List.getElem?_toArray]; rfl
  obtain ⟨g0, g1, g2, g3⟩ := RBox.box hQ.out
  have fq := RBox.frozen hQ.out
  go_simp
  clear g0 g1 g2 g3 fq
  replace hA := hid (hA.out.st4o (k := w.heap.size + 2) (by first | omega | (have := RBox.lt hA.out; omega)) (tLo (a / 2 ^ S) (b / 2 ^ S) (c / 2 ^ S)) (tHi (a / 2 ^ S) (b / 2 ^ S) (c / 2 ^ S) (d / 2 ^ S)) (tB (a / 2 ^ S) (b / 2 ^ S) (c / 2 ^ S)) (tO (a / 2 ^ S) (b / 2 ^ S) (d / 2 ^ S)))
  replace hB := hid (hB.out.st4o (k := w.heap.size + 2) (by first | omega | (have := RBox.lt hB.out; omega)) (tLo (a / 2 ^ S) (b / 2 ^ S) (c / 2 ^ S)) (tHi (a / 2 ^ S) (b / 2 ^ S) (c / 2 ^ S) (d / 2 ^ S)) (tB (a / 2 ^ S) (b / 2 ^ S) (c / 2 ^ S)) (tO (a / 2 ^ S) (b / 2 ^ S) (d / 2 ^ S)))
  replace hQ := hid (hQ.out.st4 (x' := tLo (a / 2 ^ S) (b / 2 ^ S) (c / 2 ^ S)) (y' := tHi (a / 2 ^ S) (b / 2 ^ S) (c / 2 ^ S) (d / 2 ^ S)) (z' := tB (a / 2 ^ S) (b / 2 ^ S) (c / 2 ^ S)) (u' := tO (a / 2 ^ S) (b / 2 ^ S) (d / 2 ^ S)))
  replace hbel := hid (st4_below (w.heap.size + 2) (tLo (a / 2 ^ S) (b / 2 ^ S) (c / 2 ^ S)) (tHi (a / 2 ^ S) (b / 2 ^ S) (c / 2 ^ S) (d / 2 ^ S)) (tB (a / 2 ^ S) (b / 2 ^ S) (c / 2 ^ S)) (tO (a / 2 ^ S) (b / 2 ^ S) (d / 2 ^ S)) hbel.out (by omega))
  unfold Go.Proofs.Ytnebjocnbfoafaa.st4 at hbel hA hB hQ
  generalize ((((wr17.setCell ⟨w.heap.size + 2, 0, none⟩ (.int .i64 (tLo (a / 2 ^ S) (b / 2 ^ S) (c / 2 ^ S)))).setCell ⟨w.heap.size + 2, 1, none⟩ (.int .i64 (tHi (a / 2 ^ S) (b / 2 ^ S) (c / 2 ^ S) (d / 2 ^ S)))).setCell ⟨w.heap.size + 2, 2, none⟩ (.int .i64 (tB (a / 2 ^ S) (b / 2 ^ S) (c / 2 ^ S)))).setCell ⟨w.heap.size + 2, 3, none⟩ (.int .i64 (tO (a / 2 ^ S) (b / 2 ^ S) (d / 2 ^ S)))) = ws18 at *
  refine hK.out _ _ ?hS31 (fun hHeld => ?re31)
  case hS31 => exact ⟨(RBox.box hA.out).c0, (RBox.box hA.out).c1, (RBox.box hA.out).c2, (RBox.box hA.out).c3⟩
  clear hK K
  (try simp only [Act.put, List.setIfInBounds_toArray, List.set_cons_zero, List.set_cons_succ])
  refine wpAnyH_done (by kernel_rfl) ?_ _
  clear hHeld
  generalize ws18 = w2 at *
  have bA2 := hA
  have bB2 := hB
  have bQ2 := hQ
  have bel2 := hbel
  clear hbel hA hB hQ
  go_wp2_with fail
  obtain ⟨p0, p1, p2, p3⟩ := RBox.box bQ2.out
  refine bodyPost_ret (v := tv (a / 2 ^ S) (b / 2 ^ S) (c / 2 ^ S) (d / 2 ^ S)) (by simp [results, Try.results49, go_sem, p0, p1, p2, p3]) rfl ⟨rfl, bel2.out⟩

set_option maxRecDepth 100000 in
set_option maxHeartbeats 2000000 in
theorem c_and (a b c d e f g h : Nat) {x y : Nat} (w : World) (A : OkN a b c d) (B : OkN e f g h) (X : OfN a b c d x) (Y : OfN e f g h y) :
    Calls Try.prog 45 #[rv a b c d, rv e f g h] w fun ee w' => ee = .returned (tv 0 (min b f) (c &&& g) ((c ||| d) &&& (g ||| h) &&& notB (c &&& g))) ∧ Below w.heap.size w w' := by
  have := A.le
  have := A.hi
  have := B.le
  have := B.hi
  have := A.b
  have := A.o
  have := B.b
  have := B.o
  have e1 := and_i64 c g (by omega) (by omega)
  have l1 : c &&& g ≤ 4294967295 := and_le _ A.b
  have l2 : c ||| d ≤ 4294967295 := or_le A.b A.o
  have l3 : g ||| h ≤ 4294967295 := or_le B.b B.o
  have e2 := and_i64 (c ||| d) (g ||| h) (by omega) (by omega)
  have l4 : (c ||| d) &&& (g ||| h) ≤ 4294967295 := and_le _ l2
  have e3 := andNot_i64 ((c ||| d) &&& (g ||| h)) (c &&& g) l4 l1
  have Ht : Hid (∀ w, Calls Try.prog 22 #[rv 0 (min (b : Int) f) ((c &&& g : Nat) : Int) (((c ||| d) &&& (g ||| h) &&& notB (c &&& g) : Nat) : Int)] w fun ee w' => ee = .returned (tv (0) (min b f) (c &&& g) ((c ||| d) &&& (g ||| h) &&& notB (c &&& g))) ∧ Below w.heap.size w w') := by
    intro w
    have this := tidyI _ _ _ _ (and_ok A B) (and_of A B X Y) w
    rw [show ((min b f : Nat) : Int) = min (b : Int) f by omega] at this
    exact this
  have M1 : Hid (∀ w, Calls Try.prog 53 #[rv a b c d] w fun e w' => e = .returned (.int .i64 ((c ||| d : Nat) : Int)) ∧ Below w.heap.size w w') := fun w => c_may _ _ c d w A.b A.o
  have M2 : Hid (∀ w, Calls Try.prog 53 #[rv e f g h] w fun e w' => e = .returned (.int .i64 ((g ||| h : Nat) : Int)) ∧ Below w.heap.size w w') := fun w => c_may _ _ g h w B.b B.o
  clear A B X Y
  generalize (c ||| d) &&& (g ||| h) &&& notB (c &&& g) = O at *
  generalize (c ||| d) &&& (g ||| h) = D1 at *
  generalize c ||| d = D2 at *
  generalize g ||| h = D3 at *
  generalize c &&& g = C at *
  have bA0 : Hid (RBox (((w.alloc (cellsR4 a b c d)).alloc (cellsR4 e f g h)).alloc (cellsR4 0 0 0 0)) w.heap.size a b c d) := twoA w a b c d e f g h
  have bB0 : Hid (RBox (((w.alloc (cellsR4 a b c d)).alloc (cellsR4 e f g h)).alloc (cellsR4 0 0 0 0)) (w.heap.size + 1) e f g h) := twoB w a b c d e f g h
  have bQ0 : Hid (RBox (((w.alloc (cellsR4 a b c d)).alloc (cellsR4 e f g h)).alloc (cellsR4 0 0 0 0)) (w.heap.size + 2) 0 0 0 0) := twoQ w a b c d e f g h
  have bel0 : Hid (Below w.heap.size w (((w.alloc (cellsR4 a b c d)).alloc (cellsR4 e f g h)).alloc (cellsR4 0 0 0 0))) := twoW w a b c d e f g h
  go_enter Try.func45, Try.ntmps45
  go_wp2_with fail
  generalize ((w.alloc (cellsR4 a b c d)).alloc (cellsR4 e f g h)).alloc (cellsR4 0 0 0 0) = w0 at *
  obtain ⟨cA0, cA1, cA2, cA3⟩ := RBox.box bA0.out
  obtain ⟨cB0, cB1, cB2, cB3⟩ := RBox.box bB0.out
  refine wp_region_held_drew (S := (fun w' => w'.cell? ⟨w.heap.size, 0, none⟩ = some (.int .i64 (a)) ∧ w'.cell? ⟨w.heap.size, 1, none⟩ = some (.int .i64 (b)) ∧ w'.cell? ⟨w.heap.size, 2, none⟩ = some (.int .i64 (c)) ∧ w'.cell? ⟨w.heap.size, 3, none⟩ = some (.int .i64 (d)) ∧ w'.cell? ⟨w.heap.size + 1, 0, none⟩ = some (.int .i64 (e)) ∧ w'.cell? ⟨w.heap.size + 1, 1, none⟩ = some (.int .i64 (f)) ∧ w'.cell? ⟨w.heap.size + 1, 2, none⟩ = some (.int .i64 (g)) ∧ w'.cell? ⟨w.heap.size + 1, 3, none⟩ = some (.int .i64 (h)))) (by kernel_rfl) (by exact ⟨(RBox.box bA0.out).c0, (RBox.box bA0.out).c1, (RBox.box bA0.out).c2, (RBox.box bA0.out).c3, (RBox.box bB0.out).c0, (RBox.box bB0.out).c1, (RBox.box bB0.out).c2, (RBox.box bB0.out).c3⟩) (fun hHeld => ?_)
  have hA := hid (RBox.drew bA0.out)
  have hB := hid (RBox.drew bB0.out)
  have hQ := hid (RBox.drew bQ0.out)
  have hbel := hid (Below.drew bel0.out)
  clear bA0 bB0 bQ0 bel0
  generalize w0.drew = W1 at *
  refine wpAnyH_take (i := 0) (oi := ?oi32) (v := ?v32) (fuel := 15) ?hi32 ?hs32 ?hf32 ?hr32 ?hq32 (Or.inl ⟨?hw32, ?hy32⟩) hHeld ?rest32
  case hi32 => rw [List.getElem?_toArray]; rfl
  case hq32 => exact fun _ _ _ h => h
  case hs32 | hf32 | hr32 => kernel_rfl
  case hw32 => rfl
  case hy32 => (intro w1 hSw; (try dsimp only at hSw); go_simp; try with_reducible rfl)
  (try simp only [Act.put, List.setIfInBounds_toArray, List.set_cons_zero, List.set_cons_succ])
  refine wpAnyH_take (i := 1) (oi := ?oi33) (v := ?v33) (fuel := 14) ?hi33 ?hs33 ?hf33 ?hr33 ?hq33 (Or.inl ⟨?hw33, ?hy33⟩) hHeld ?rest33
  case hi33 => rw [List.getElem?_toArray]; rfl
  case hq33 => exact fun _ _ _ h => h
  case hs33 | hf33 | hr33 => kernel_rfl
  case hw33 => rfl
  case hy33 => (intro w1 hSw; (try dsimp only at hSw); go_simp; try with_reducible rfl)
  (try simp only [Act.put, List.setIfInBounds_toArray, List.set_cons_zero, List.set_cons_succ])
  refine wpAnyH_take (i := 2) (oi := ?oi34) (v := ?v34) (fuel := 13) ?hi34 ?hs34 ?hf34 ?hr34 ?hq34 (Or.inl ⟨?hw34, ?hy34⟩) hHeld ?rest34
  case hi34 => rw [List.getElem?_toArray]; rfl
  case hq34 => exact fun _ _ _ h => h
  case hs34 | hf34 | hr34 => kernel_rfl
  case hw34 => rfl
  case hy34 => (intro w1 hSw; (try dsimp only at hSw); go_simp; try with_reducible rfl)
  (try simp only [Act.put, List.setIfInBounds_toArray, List.set_cons_zero, List.set_cons_succ])
  refine wpAnyH_take (i := 3) (oi := ?oi35) (v := ?v35) (fuel := 12) ?hi35 ?hs35 ?hf35 ?hr35 ?hq35 (Or.inl ⟨?hw35, ?hy35⟩) hHeld ?rest35
  case hi35 => rw [List.getElem?_toArray]; rfl
  case hq35 => exact fun _ _ _ h => h
  case hs35 | hf35 | hr35 => kernel_rfl
  case hw35 => rfl
  case hy35 => (intro w1 hSw; (try dsimp only at hSw); go_simp; try with_reducible rfl)
  (try simp only [Act.put, List.setIfInBounds_toArray, List.set_cons_zero, List.set_cons_succ])
  refine wpAnyH_take (i := 4) (oi := ?oi36) (v := ?v36) (fuel := 11) ?hi36 ?hs36 ?hf36 ?hr36 ?hq36 (Or.inl ⟨?hw36, ?hy36⟩) hHeld ?rest36
  case hi36 => rw [List.getElem?_toArray]; rfl
  case hq36 => exact fun _ _ _ h => h
  case hs36 | hf36 | hr36 => kernel_rfl
  case hw36 => rfl
  case hy36 => (intro w1 hSw; (try dsimp only at hSw); go_simp; try with_reducible rfl)
  (try simp only [Act.put, List.setIfInBounds_toArray, List.set_cons_zero, List.set_cons_succ])
  refine wpAnyH_take (i := 5) (oi := ?oi37) (v := ?v37) (fuel := 10) ?hi37 ?hs37 ?hf37 ?hr37 ?hq37 (Or.inl ⟨?hw37, ?hy37⟩) hHeld ?rest37
  case hi37 => rw [List.getElem?_toArray]; rfl
  case hq37 => exact fun _ _ _ h => h
  case hs37 | hf37 | hr37 => kernel_rfl
  case hw37 => rfl
  case hy37 => (intro w1 hSw; (try dsimp only at hSw); go_simp; try with_reducible rfl)
  (try simp only [Act.put, List.setIfInBounds_toArray, List.set_cons_zero, List.set_cons_succ])
  refine wpAnyH_take (i := 6) (oi := ?oi38) (v := ?v38) (fuel := 9) ?hi38 ?hs38 ?hf38 ?hr38 ?hq38 (Or.inl ⟨?hw38, ?hy38⟩) hHeld ?rest38
  case hi38 => rw [List.getElem?_toArray]; rfl
  case hq38 => exact fun _ _ _ h => h
  case hs38 | hf38 | hr38 => kernel_rfl
  case hw38 => rfl
  case hy38 => (intro w1 hSw; (try dsimp only at hSw); go_simp; try with_reducible rfl)
  (try simp only [Act.put, List.setIfInBounds_toArray, List.set_cons_zero, List.set_cons_succ])
  refine wpAnyH_take (i := 8) (oi := ?oi39) (v := ?v39) (fuel := 8) ?hi39 ?hs39 ?hf39 ?hr39 ?hq39 (Or.inl ⟨?hw39, ?hy39⟩) hHeld ?rest39
  case hi39 => rw [List.getElem?_toArray]; rfl
  case hq39 => exact fun _ _ _ h => h
  case hs39 | hf39 | hr39 => kernel_rfl
  case hw39 => rfl
  case hy39 => (intro w1 hSw; (try dsimp only at hSw); go_simp; try with_reducible rfl)
  (try simp only [Act.put, List.setIfInBounds_toArray, List.set_cons_zero, List.set_cons_succ])
  refine wpAnyH_take (i := 11) (oi := ?oi40) (v := ?v40) (fuel := 7) ?hi40 ?hs40 ?hf40 ?hr40 ?hq40 (Or.inl ⟨?hw40, ?hy40⟩) hHeld ?rest40
  case hi40 => rw [List.getElem?_toArray]; rfl
  case hq40 => exact fun _ _ _ h => h
  case hs40 | hf40 | hr40 => kernel_rfl
  case hw40 => rfl
  case hy40 => (intro w1 hSw; (try dsimp only at hSw); go_simp; try with_reducible rfl)
  (try simp only [Act.put, List.setIfInBounds_toArray, List.set_cons_zero, List.set_cons_succ])
  refine wpAnyH_ready (fuel := 6) (rs := [7]) (by kernel_rfl) (by simp) ?_
  refine AllReadyH.cons (o := ?oi41) ?hi41 (fun K hK => ?st41) AllReadyH.nil
  case hi41 => rw [List.getElem?_toArray]; rfl
  go_simp
  refine (M1.out _).mono ?_
  rintro ee wr7 ⟨rfl, hbn⟩
  replace hA := hid (hA.out.below hbn)
  replace hB := hid (hB.out.below hbn)
  replace hQ := hid (hQ.out.below hbn)
  replace hbel := hid (hbel.out.trans (hbn.mono hbel.out.size))
  clear hbn
  go_wp2_with fail
  refine hK.out _ _ ?hS41 (fun hHeld => ?re41)
  case hS41 => exact ⟨(RBox.box hA.out).c0, (RBox.box hA.out).c1, (RBox.box hA.out).c2, (RBox.box hA.out).c3, (RBox.box hB.out).c0, (RBox.box hB.out).c1, (RBox.box hB.out).c2, (RBox.box hB.out).c3⟩
  clear hK K
  (try simp only [Act.put, List.setIfInBounds_toArray, List.set_cons_zero, List.set_cons_succ])
  refine wpAnyH_ready (fuel := 5) (rs := [9]) (by kernel_rfl) (by simp) ?_
  refine AllReadyH.cons (o := ?oi42) ?hi42 (fun K hK => ?st42) AllReadyH.nil
  case hi42 => rw [List.getElem?_toArray]; rfl
  go_simp
  refine (M2.out _).mono ?_
  rintro ee wr9 ⟨rfl, hbn⟩
  replace hA := hid (hA.out.below hbn)
  replace hB := hid (hB.out.below hbn)
  replace hQ := hid (hQ.out.below hbn)
  replace hbel := hid (hbel.out.trans (hbn.mono hbel.out.size))
  clear hbn
  go_wp2_with fail
  refine hK.out _ _ ?hS42 (fun hHeld => ?re42)
  case hS42 => exact ⟨(RBox.box hA.out).c0, (RBox.box hA.out).c1, (RBox.box hA.out).c2, (RBox.box hA.out).c3, (RBox.box hB.out).c0, (RBox.box hB.out).c1, (RBox.box hB.out).c2, (RBox.box hB.out).c3⟩
  clear hK K
  (try simp only [Act.put, List.setIfInBounds_toArray, List.set_cons_zero, List.set_cons_succ])
  refine wpAnyH_take (i := 10) (oi := ?oi43) (v := ?v43) (fuel := 4) ?hi43 ?hs43 ?hf43 ?hr43 ?hq43 (Or.inl ⟨?hw43, ?hy43⟩) hHeld ?rest43
  case hi43 => rw [List.getElem?_toArray]; rfl
  case hq43 => exact fun _ _ _ h => h
  case hs43 | hf43 | hr43 => kernel_rfl
  case hw43 => rfl
  case hy43 => (intro w1 hSw; (try dsimp only at hSw); go_simp; try with_reducible rfl)
  (try simp only [Act.put, List.setIfInBounds_toArray, List.set_cons_zero, List.set_cons_succ])
  refine wpAnyH_take (i := 12) (oi := ?oi44) (v := ?v44) (fuel := 3) ?hi44 ?hs44 ?hf44 ?hr44 ?hq44 (Or.inl ⟨?hw44, ?hy44⟩) hHeld ?rest44
  case hi44 => rw [List.getElem?_toArray]; rfl
  case hq44 => exact fun _ _ _ h => h
  case hs44 | hf44 | hr44 => kernel_rfl
  case hw44 => rfl
  case hy44 => (intro w1 hSw; (try dsimp only at hSw); go_simp; try with_reducible rfl)
  (try simp only [Act.put, List.setIfInBounds_toArray, List.set_cons_zero, List.set_cons_succ])
  refine wpAnyH_take (i := 13) (oi := ?oi45) (v := ?v45) (fuel := 2) ?hi45 ?hs45 ?hf45 ?hr45 ?hq45 (Or.inl ⟨?hw45, ?hy45⟩) hHeld ?rest45
  case hi45 => rw [List.getElem?_toArray]; rfl
  case hq45 => exact fun _ _ _ h => h
  case hs45 | hf45 | hr45 => kernel_rfl
  case hw45 => rfl
  case hy45 => (intro w1 hSw; (try dsimp only at hSw); go_simp; try with_reducible rfl)
  (try simp only [Act.put, List.setIfInBounds_toArray, List.set_cons_zero, List.set_cons_succ])
  refine wpAnyH_ready (fuel := 1) (rs := [14]) (by kernel_rfl) (by simp) ?_
  refine AllReadyH.cons (o := ?oi46) ?hi46 (fun K hK => ?st46) AllReadyH.nil
  case hi46 => rw [List.getElem?_toArray]; rfl
  go_simp
  refine (Ht.out _).mono ?_
  rintro ee wr14 ⟨rfl, hbn⟩
  replace hA := hid (hA.out.below hbn)
  replace hB := hid (hB.out.below hbn)
  replace hQ := hid (hQ.out.below hbn)
  replace hbel := hid (hbel.out.trans (hbn.mono hbel.out.size))
  clear hbn
  go_wp2_with fail
  refine hK.out _ _ ?hS46 (fun hHeld => ?re46)
  case hS46 => exact ⟨(RBox.box hA.out).c0, (RBox.box hA.out).c1, (RBox.box hA.out).c2, (RBox.box hA.out).c3, (RBox.box hB.out).c0, (RBox.box hB.out).c1, (RBox.box hB.out).c2, (RBox.box hB.out).c3⟩
  clear hK K
  (try simp only [Act.put, List.setIfInBounds_toArray, List.set_cons_zero, List.set_cons_succ])
  refine wpAnyH_ready (fuel := 0) (rs := [15]) (by kernel_rfl) (by simp) ?_
  refine AllReadyH.cons (o := ?oi47) ?hi47 (fun K hK => ?st47) AllReadyH.nil
  case hi47 => rw [List.getElem?_toArray]; rfl
  obtain ⟨g0, g1, g2, g3⟩ := RBox.box hQ.out
  have fq := RBox.frozen hQ.out
  go_simp
  clear g0 g1 g2 g3 fq
  replace hA := hid (hA.out.st4o (k := w.heap.size + 2) (by first | omega | (have := RBox.lt hA.out; omega)) (tLo (0) (min b f) (C)) (tHi (0) (min b f) (C) (O)) (tB (0) (min b f) (C)) (tO (0) (min b f) (O)))
  replace hB := hid (hB.out.st4o (k := w.heap.size + 2) (by first | omega | (have := RBox.lt hB.out; omega)) (tLo (0) (min b f) (C)) (tHi (0) (min b f) (C) (O)) (tB (0) (min b f) (C)) (tO (0) (min b f) (O)))
  replace hQ := hid (hQ.out.st4 (x' := tLo (0) (min b f) (C)) (y' := tHi (0) (min b f) (C) (O)) (z' := tB (0) (min b f) (C)) (u' := tO (0) (min b f) (O)))
  replace hbel := hid (st4_below (w.heap.size + 2) (tLo (0) (min b f) (C)) (tHi (0) (min b f) (C) (O)) (tB (0) (min b f) (C)) (tO (0) (min b f) (O)) hbel.out (by omega))
  unfold Go.Proofs.Ytnebjocnbfoafaa.st4 at hbel hA hB hQ
  generalize ((((wr14.setCell ⟨w.heap.size + 2, 0, none⟩ (.int .i64 (tLo (0) (min b f) (C)))).setCell ⟨w.heap.size + 2, 1, none⟩ (.int .i64 (tHi (0) (min b f) (C) (O)))).setCell ⟨w.heap.size + 2, 2, none⟩ (.int .i64 (tB (0) (min b f) (C)))).setCell ⟨w.heap.size + 2, 3, none⟩ (.int .i64 (tO (0) (min b f) (O)))) = ws15 at *
  refine hK.out _ _ ?hS47 (fun hHeld => ?re47)
  case hS47 => exact ⟨(RBox.box hA.out).c0, (RBox.box hA.out).c1, (RBox.box hA.out).c2, (RBox.box hA.out).c3, (RBox.box hB.out).c0, (RBox.box hB.out).c1, (RBox.box hB.out).c2, (RBox.box hB.out).c3⟩
  clear hK K
  (try simp only [Act.put, List.setIfInBounds_toArray, List.set_cons_zero, List.set_cons_succ])
  refine wpAnyH_done (by kernel_rfl) ?_ _
  clear hHeld
  generalize ws15 = w1 at *
  have bA1 := hA
  have bB1 := hB
  have bQ1 := hQ
  have bel1 := hbel
  clear hbel hA hB hQ
  go_wp2_with fail
  obtain ⟨p0, p1, p2, p3⟩ := RBox.box bQ1.out
  refine bodyPost_ret (v := tv 0 (min b f) C O) (by simp [results, Try.results45, go_sem, p0, p1, p2, p3]) rfl ⟨rfl, bel1.out⟩

set_option maxRecDepth 100000 in
set_option maxHeartbeats 2000000 in
theorem c_shl_no (a b c d e f g h : Nat) (w : World) (h1 : ((e : Int) == f) = false) :
    Calls Try.prog 48 #[rv a b c d, rv e f g h] w fun ee w' => ee = .returned (rv 0 4294967295 0 4294967295) ∧ Below w.heap.size w w' := by
  have bA0 : Hid (RBox (((w.alloc (cellsR4 a b c d)).alloc (cellsR4 e f g h)).alloc (cellsR4 0 0 0 0)) w.heap.size a b c d) := twoA w a b c d e f g h
  have bB0 : Hid (RBox (((w.alloc (cellsR4 a b c d)).alloc (cellsR4 e f g h)).alloc (cellsR4 0 0 0 0)) (w.heap.size + 1) e f g h) := twoB w a b c d e f g h
  have bQ0 : Hid (RBox (((w.alloc (cellsR4 a b c d)).alloc (cellsR4 e f g h)).alloc (cellsR4 0 0 0 0)) (w.heap.size + 2) 0 0 0 0) := twoQ w a b c d e f g h
  have bel0 : Hid (Below w.heap.size w (((w.alloc (cellsR4 a b c d)).alloc (cellsR4 e f g h)).alloc (cellsR4 0 0 0 0))) := twoW w a b c d e f g h
  go_enter Try.func48, Try.ntmps48
  go_wp2_with fail
  refine (c_isKnown _ _ _ _ _).mono ?_
  rintro ee w1 ⟨rfl, hb1⟩
  have bA1 := hid (bA0.out.below hb1)
  have bB1 := hid (bB0.out.below hb1)
  have bQ1 := hid (bQ0.out.below hb1)
  have bel1 := hid (bel0.out.trans (hb1.mono bel0.out.size))
  clear hb1 bA0 bB0 bQ0 bel0
  rw [h1]
  go_wp2_with fail
  refine (c_allNumbers _).mono ?_
  rintro ee w2 ⟨rfl, hb2⟩
  have bA2 := hid (bA1.out.below hb2)
  have bB2 := hid (bB1.out.below hb2)
  have bQ2 := hid (bQ1.out.below hb2)
  have bel2 := hid (bel1.out.trans (hb2.mono bel1.out.size))
  clear hb2 bA1 bB1 bQ1 bel1
  obtain ⟨g0, g1, g2, g3⟩ := RBox.box bQ2.out
  have fq := RBox.frozen bQ2.out
  have P5 := hid (RBox.box (bQ2.out.st4 (x' := 0) (y' := 4294967295) (z' := 0) (u' := 4294967295)))
  have B5 := hid (st4_below (w.heap.size + 2) (0) (4294967295) (0) (4294967295) bel2.out (by omega))
  go_wp2_with fail
  obtain ⟨p0, p1, p2, p3⟩ := P5.out
  unfold st4 at p0 p1 p2 p3
  refine bodyPost_ret (v := rv (0) (4294967295) (0) (4294967295)) (by simp [results, Try.results48, go_sem, p0, p1, p2, p3]) rfl ⟨rfl, B5.out⟩

set_option maxRecDepth 100000 in
set_option maxHeartbeats 2000000 in
theorem c_shl_yes (a b c d e f g h : Nat) {x y : Nat} (w : World) (A : OkN a b c d) (B : OkN e f g h) (X : OfN a b c d x) (Y : OfN e f g h y) (h1 : ((e : Int) == f) = true) (hw : b * 2 ^ (e % 32) ≤ 4294967295) :
    Calls Try.prog 48 #[rv a b c d, rv e f g h] w fun ee w' => ee = .returned (tv (a * 2 ^ (e % 32)) (b * 2 ^ (e % 32)) (c * 2 ^ (e % 32) % 4294967296) (d * 2 ^ (e % 32) % 4294967296)) ∧ Below w.heap.size w w' := by
  have := A.le
  have := A.hi
  have := B.le
  have := B.hi
  have := A.b
  have := A.o
  have := B.b
  have := B.o
  have HS : Hid (∀ w, Calls Try.prog 71 #[.int .i64 e] w fun ee w' => ee = .returned (.int .i64 ((e % 32 : Nat) : Int)) ∧ w' = w) := fun w => c_shiftOf e w (by omega)
  have hS : e % 32 < 32 := by omega
  have e1 := shl_nat a (e % 32) (by omega) hS
  have e2 := shl_nat b (e % 32) (by omega) hS
  have e3 := shl_nat c (e % 32) (by omega) hS
  have e4 := shl_nat d (e % 32) (by omega) hS
  have eC : bits .and .i64 ((c : Int) * 2 ^ (e % 32)) 4294967295 = ((c * 2 ^ (e % 32) % 4294967296 : Nat) : Int) := by
    rw [show (c : Int) * 2 ^ (e % 32) = ((c * 2 ^ (e % 32) : Nat) : Int) by simp]; exact wrapN _
  have eO : bits .and .i64 ((d : Int) * 2 ^ (e % 32)) 4294967295 = ((d * 2 ^ (e % 32) % 4294967296 : Nat) : Int) := by
    rw [show (d : Int) * 2 ^ (e % 32) = ((d * 2 ^ (e % 32) : Nat) : Int) by simp]; exact wrapN _
  have z1 : ((a * 2 ^ (e % 32) : Nat) : Int) = (a : Int) * 2 ^ (e % 32) := by simp
  have z2 : ((b * 2 ^ (e % 32) : Nat) : Int) = (b : Int) * 2 ^ (e % 32) := by simp
  have l1 := pow_le32 hS
  have l2 : b * 2 ^ (e % 32) ≤ 4294967295 * 2147483648 := Nat.mul_le_mul (by omega) l1
  have k1 := shl_ok A (e % 32)
  have k2 := shl_of A X e
  rw [if_pos hw, if_pos hw] at k1 k2
  have Ht : Hid (∀ w, Calls Try.prog 22 #[rv ((a : Int) * 2 ^ (e % 32)) ((b : Int) * 2 ^ (e % 32)) ((c * 2 ^ (e % 32) % 4294967296 : Nat) : Int) ((d * 2 ^ (e % 32) % 4294967296 : Nat) : Int)] w fun ee w' => ee = .returned (tv (a * 2 ^ (e % 32)) (b * 2 ^ (e % 32)) (c * 2 ^ (e % 32) % 4294967296) (d * 2 ^ (e % 32) % 4294967296)) ∧ Below w.heap.size w w') := by
    intro w
    have this := tidyI _ _ _ _ k1 k2 w
    rw [z1, z2] at this
    exact this
  have hw' : (b : Int) * 2 ^ (e % 32) ≤ 4294967295 := by rw [← z2]; omega
  clear A B X Y k1 k2 z1 z2 l1 l2 hw
  generalize e % 32 = S at *
  generalize c * 2 ^ S % 4294967296 = C at *
  generalize d * 2 ^ S % 4294967296 = O at *
  have hS0 : (0 : Int) ≤ S := by omega
  have hS1 : (S : Int) < 32 := by omega
  have bA0 : Hid (RBox (((w.alloc (cellsR4 a b c d)).alloc (cellsR4 e f g h)).alloc (cellsR4 0 0 0 0)) w.heap.size a b c d) := twoA w a b c d e f g h
  have bB0 : Hid (RBox (((w.alloc (cellsR4 a b c d)).alloc (cellsR4 e f g h)).alloc (cellsR4 0 0 0 0)) (w.heap.size + 1) e f g h) := twoB w a b c d e f g h
  have bQ0 : Hid (RBox (((w.alloc (cellsR4 a b c d)).alloc (cellsR4 e f g h)).alloc (cellsR4 0 0 0 0)) (w.heap.size + 2) 0 0 0 0) := twoQ w a b c d e f g h
  have bel0 : Hid (Below w.heap.size w (((w.alloc (cellsR4 a b c d)).alloc (cellsR4 e f g h)).alloc (cellsR4 0 0 0 0))) := twoW w a b c d e f g h
  go_enter Try.func48, Try.ntmps48
  go_wp2_with fail
  refine (c_isKnown _ _ _ _ _).mono ?_
  rintro ee w1 ⟨rfl, hb1⟩
  have bA1 := hid (bA0.out.below hb1)
  have bB1 := hid (bB0.out.below hb1)
  have bQ1 := hid (bQ0.out.below hb1)
  have bel1 := hid (bel0.out.trans (hb1.mono bel0.out.size))
  clear hb1 bA0 bB0 bQ0 bel0
  rw [h1]
  obtain ⟨cA0, cA1, cA2, cA3⟩ := RBox.box bA1.out
  obtain ⟨cB0, cB1, cB2, cB3⟩ := RBox.box bB1.out
  go_wp2_with fail
  refine (HS.out _).mono ?_
  rintro ee w2 ⟨rfl, hw2⟩
  rw [hw2]; clear hw2 w2
  go_wp2_with fail
  refine wp_region_held_drew (S := (fun w' => w'.cell? ⟨w.heap.size, 0, none⟩ = some (.int .i64 (a)) ∧ w'.cell? ⟨w.heap.size, 1, none⟩ = some (.int .i64 (b)) ∧ w'.cell? ⟨w.heap.size, 2, none⟩ = some (.int .i64 (c)) ∧ w'.cell? ⟨w.heap.size, 3, none⟩ = some (.int .i64 (d)))) (by kernel_rfl) (by exact ⟨(RBox.box bA1.out).c0, (RBox.box bA1.out).c1, (RBox.box bA1.out).c2, (RBox.box bA1.out).c3⟩) (fun hHeld => ?_)
  have hA := hid (RBox.drew bA1.out)
  have hB := hid (RBox.drew bB1.out)
  have hQ := hid (RBox.drew bQ1.out)
  have hbel := hid (Below.drew bel1.out)
  clear bA1 bB1 bQ1 bel1
  generalize w1.drew = W1 at *
  refine wpAnyH_take (i := 0) (oi := ?oi48) (v := ?v48) (fuel := 12) ?hi48 ?hs48 ?hf48 ?hr48 ?hq48 (Or.inl ⟨?hw48, ?hy48⟩) hHeld ?rest48
  case hi48 => rw [List.getElem?_toArray]; rfl
  case hq48 => exact fun _ _ _ h => h
  case hs48 | hf48 | hr48 => kernel_rfl
  case hw48 => rfl
  case hy48 => (intro w1 hSw; (try dsimp only at hSw); go_simp; try with_reducible rfl)
  (try simp only [Act.put, List.setIfInBounds_toArray, List.set_cons_zero, List.set_cons_succ])
  refine wpAnyH_take (i := 1) (oi := ?oi49) (v := ?v49) (fuel := 11) ?hi49 ?hs49 ?hf49 ?hr49 ?hq49 (Or.inl ⟨?hw49, ?hy49⟩) hHeld ?rest49
  case hi49 => rw [List.getElem?_toArray]; rfl
  case hq49 => exact fun _ _ _ h => h
  case hs49 | hf49 | hr49 => kernel_rfl
  case hw49 => rfl
  case hy49 => (intro w1 hSw; (try dsimp only at hSw); go_simp; try with_reducible rfl)
  (try simp only [Act.put, List.setIfInBounds_toArray, List.set_cons_zero, List.set_cons_succ])
  refine wpAnyH_take (i := 2) (oi := ?oi50) (v := ?v50) (fuel := 10) ?hi50 ?hs50 ?hf50 ?hr50 ?hq50 (Or.inl ⟨?hw50, ?hy50⟩) hHeld ?rest50
  case hi50 => rw [List.getElem?_toArray]; rfl
  case hq50 => exact fun _ _ _ h => h
  case hs50 | hf50 | hr50 => kernel_rfl
  case hw50 => rfl
  case hy50 => (intro w1 hSw; (try dsimp only at hSw); go_simp; try with_reducible rfl)
  (try simp only [Act.put, List.setIfInBounds_toArray, List.set_cons_zero, List.set_cons_succ])
  refine wpAnyH_take (i := 3) (oi := ?oi51) (v := ?v51) (fuel := 9) ?hi51 ?hs51 ?hf51 ?hr51 ?hq51 (Or.inl ⟨?hw51, ?hy51⟩) hHeld ?rest51
  case hi51 => rw [List.getElem?_toArray]; rfl
  case hq51 => exact fun _ _ _ h => h
  case hs51 | hf51 | hr51 => kernel_rfl
  case hw51 => rfl
  case hy51 => (intro w1 hSw; (try dsimp only at hSw); go_simp; try with_reducible rfl)
  (try simp only [Act.put, List.setIfInBounds_toArray, List.set_cons_zero, List.set_cons_succ])
  refine wpAnyH_take (i := 5) (oi := ?oi52) (v := ?v52) (fuel := 8) ?hi52 ?hs52 ?hf52 ?hr52 ?hq52 (Or.inl ⟨?hw52, ?hy52⟩) hHeld ?rest52
  case hi52 => rw [List.getElem?_toArray]; rfl
  case hq52 => exact fun _ _ _ h => h
  case hs52 | hf52 | hr52 => kernel_rfl
  case hw52 => rfl
  case hy52 => (intro w1 hSw; (try dsimp only at hSw); go_simp; try with_reducible rfl)
  (try simp only [Act.put, List.setIfInBounds_toArray, List.set_cons_zero, List.set_cons_succ])
  refine wpAnyH_take (i := 6) (oi := ?oi53) (v := ?v53) (fuel := 7) ?hi53 ?hs53 ?hf53 ?hr53 ?hq53 (Or.inl ⟨?hw53, ?hy53⟩) hHeld ?rest53
  case hi53 => rw [List.getElem?_toArray]; rfl
  case hq53 => exact fun _ _ _ h => h
  case hs53 | hf53 | hr53 => kernel_rfl
  case hw53 => rfl
  case hy53 => (intro w1 hSw; (try dsimp only at hSw); go_simp; try with_reducible rfl)
  (try simp only [Act.put, List.setIfInBounds_toArray, List.set_cons_zero, List.set_cons_succ])
  refine wpAnyH_take (i := 7) (oi := ?oi54) (v := ?v54) (fuel := 6) ?hi54 ?hs54 ?hf54 ?hr54 ?hq54 (Or.inl ⟨?hw54, ?hy54⟩) hHeld ?rest54
  case hi54 => rw [List.getElem?_toArray]; rfl
  case hq54 => exact fun _ _ _ h => h
  case hs54 | hf54 | hr54 => kernel_rfl
  case hw54 => rfl
  case hy54 => (intro w1 hSw; (try dsimp only at hSw); go_simp; try with_reducible rfl)
  (try simp only [Act.put, List.setIfInBounds_toArray, List.set_cons_zero, List.set_cons_succ])
  refine wpAnyH_take (i := 8) (oi := ?oi55) (v := ?v55) (fuel := 5) ?hi55 ?hs55 ?hf55 ?hr55 ?hq55 (Or.inl ⟨?hw55, ?hy55⟩) hHeld ?rest55
  case hi55 => rw [List.getElem?_toArray]; rfl
  case hq55 => exact fun _ _ _ h => h
  case hs55 | hf55 | hr55 => kernel_rfl
  case hw55 => rfl
  case hy55 => (intro w1 hSw; (try dsimp only at hSw); go_simp; try with_reducible rfl)
  (try simp only [Act.put, List.setIfInBounds_toArray, List.set_cons_zero, List.set_cons_succ])
  refine wpAnyH_ready (fuel := 4) (rs := [4, 11]) (by kernel_rfl) (by simp) ?_
  refine AllReadyH.cons (o := ?oi56) ?hi56 (fun K hK => ?st56) ?mo56
  case hi56 => rw [List.getElem?_toArray]; rfl
  case st56 =>
    go_simp
    refine (c_wrapped _ _).mono ?_
    rintro ee wn ⟨rfl, hwn⟩
    rw [hwn]; clear hwn wn
    rw [eC]
    go_wp2_with fail
    refine hK.out _ _ ?hS56 (fun hHeld => ?re56)
    case hS56 => exact ⟨(RBox.box hA.out).c0, (RBox.box hA.out).c1, (RBox.box hA.out).c2, (RBox.box hA.out).c3⟩
    clear hK K
    (try simp only [Act.put, List.setIfInBounds_toArray, List.set_cons_zero, List.set_cons_succ])
    refine wpAnyH_ready (fuel := 3) (rs := [9, 11]) (by kernel_rfl) (by simp) ?_
    refine AllReadyH.cons (o := ?oi57) ?hi57 (fun K hK => ?st57) ?mo57
    case hi57 => rw [List.getElem?_toArray]; rfl
    case st57 =>
      go_simp
      refine (c_wrapped _ _).mono ?_
      rintro ee wn ⟨rfl, hwn⟩
      rw [hwn]; clear hwn wn
      rw [eO]
      go_wp2_with fail
      refine hK.out _ _ ?hS57 (fun hHeld => ?re57)
      case hS57 => exact ⟨(RBox.box hA.out).c0, (RBox.box hA.out).c1, (RBox.box hA.out).c2, (RBox.box hA.out).c3⟩
      clear hK K
      (try simp only [Act.put, List.setIfInBounds_toArray, List.set_cons_zero, List.set_cons_succ])
      refine wpAnyH_take (i := 10) (oi := ?oi58) (v := ?v58) (fuel := 2) ?hi58 ?hs58 ?hf58 ?hr58 ?hq58 (Or.inl ⟨?hw58, ?hy58⟩) hHeld ?rest58
      case hi58 => rw [List.getElem?_toArray]; rfl
      case hq58 => exact fun _ _ _ h => h
      case hs58 | hf58 | hr58 => kernel_rfl
      case hw58 => rfl
      case hy58 => (intro w1 hSw; (try dsimp only at hSw); go_simp; try with_reducible rfl)
      (try simp only [Act.put, List.setIfInBounds_toArray, List.set_cons_zero, List.set_cons_succ])
      refine wpAnyH_ready (fuel := 1) (rs := [11]) (by kernel_rfl) (by simp) ?_
      refine AllReadyH.cons (o := ?oi59) ?hi59 (fun K hK => ?st59) AllReadyH.nil
      case hi59 => rw [List.getElem?_toArray]; rfl
      go_simp
      have mkNA := RBox.lt hA.out
      have mkNB := RBox.lt hB.out
      have mkNQ := RBox.lt hQ.out
      replace hA := hid (hA.out.alloc (cellsR4 0 0 0 0))
      replace hB := hid (hB.out.alloc (cellsR4 0 0 0 0))
      replace hQ := hid (hQ.out.alloc (cellsR4 0 0 0 0))
      have hN := hid (RBox.new W1 0 0 0 0)
      have mkbN := hbel.out.size
      replace hbel := hid (hbel.out.alloc hbel.out.size (cellsR4 0 0 0 0))
      generalize W1.alloc (cellsR4 0 0 0 0) = wa11 at *
      refine hK.out _ _ ?hS59 (fun hHeld => ?re59)
      case hS59 => exact ⟨(RBox.box hA.out).c0, (RBox.box hA.out).c1, (RBox.box hA.out).c2, (RBox.box hA.out).c3⟩
      clear hK K
      (try simp only [Act.put, List.setIfInBounds_toArray, List.set_cons_zero, List.set_cons_succ])
      refine wpAnyH_ready (fuel := 0) (rs := [12]) (by kernel_rfl) (by simp) ?_
      refine AllReadyH.cons (o := ?oi60) ?hi60 (fun K hK => ?st60) AllReadyH.nil
      case hi60 => rw [List.getElem?_toArray]; rfl
      obtain ⟨g0, g1, g2, g3⟩ := RBox.box hN.out
      have fq := RBox.frozen hN.out
      go_simp
      clear g0 g1 g2 g3 fq
      replace hA := hid (hA.out.st4o (k := W1.heap.size) (by first | omega | (have := RBox.lt hA.out; omega)) (0) (4294967295) (C) (O))
      replace hB := hid (hB.out.st4o (k := W1.heap.size) (by first | omega | (have := RBox.lt hB.out; omega)) (0) (4294967295) (C) (O))
      replace hQ := hid (hQ.out.st4o (k := W1.heap.size) (by first | omega | (have := RBox.lt hQ.out; omega)) (0) (4294967295) (C) (O))
      replace hN := hid (hN.out.st4 (x' := 0) (y' := 4294967295) (z' := C) (u' := O))
      replace hbel := hid (st4_below (W1.heap.size) (0) (4294967295) (C) (O) hbel.out (by omega))
      unfold Go.Proofs.Ytnebjocnbfoafaa.st4 at hbel hA hB hQ hN
      generalize ((((wa11.setCell ⟨W1.heap.size, 0, none⟩ (.int .i64 (0))).setCell ⟨W1.heap.size, 1, none⟩ (.int .i64 (4294967295))).setCell ⟨W1.heap.size, 2, none⟩ (.int .i64 (C))).setCell ⟨W1.heap.size, 3, none⟩ (.int .i64 (O))) = ws12 at *
      refine hK.out _ _ ?hS60 (fun hHeld => ?re60)
      case hS60 => exact ⟨(RBox.box hA.out).c0, (RBox.box hA.out).c1, (RBox.box hA.out).c2, (RBox.box hA.out).c3⟩
      clear hK K
      (try simp only [Act.put, List.setIfInBounds_toArray, List.set_cons_zero, List.set_cons_succ])
      refine wpAnyH_done (by kernel_rfl) ?_ _
      clear hHeld
      generalize ws12 = w2 at *
      have bA2 := hA
      have bB2 := hB
      have bQ2 := hQ
      have bN2 := hN
      have bel2 := hbel
      clear hbel hA hB hQ hN
      obtain ⟨cA0, cA1, cA2, cA3⟩ := RBox.box bA2.out
      obtain ⟨cN0, cN1, cN2, cN3⟩ := RBox.box bN2.out
      have frN := RBox.frozen bN2.out
      go_wp2_with fail
      have bA3 := hid (bA2.out.other ⟨W1.heap.size, 0, none⟩ (.int .i64 ((a : Int) * 2 ^ S)) (by show w.heap.size ≠ W1.heap.size; omega))
      have bB3 := hid (bB2.out.other ⟨W1.heap.size, 0, none⟩ (.int .i64 ((a : Int) * 2 ^ S)) (by show w.heap.size + 1 ≠ W1.heap.size; omega))
      have bQ3 := hid (bQ2.out.other ⟨W1.heap.size, 0, none⟩ (.int .i64 ((a : Int) * 2 ^ S)) (by show w.heap.size + 2 ≠ W1.heap.size; omega))
      have bN3 := hid (bN2.out.set0 ((a : Int) * 2 ^ S))
      have bel3 := hid (bel2.out.setCell (p := ⟨W1.heap.size, 0, none⟩) (by show w.heap.size ≤ W1.heap.size; omega) (.int .i64 ((a : Int) * 2 ^ S)))
      clear bA2 bB2 bQ2 bN2 bel2
      generalize w2.setCell ⟨W1.heap.size, 0, none⟩ (.int .i64 ((a : Int) * 2 ^ S)) = w3 at *
      clear cA0 cA1 cA2 cA3 cN0 cN1 cN2 cN3
      clear frN
      obtain ⟨cA0, cA1, cA2, cA3⟩ := RBox.box bA3.out
      obtain ⟨cN0, cN1, cN2, cN3⟩ := RBox.box bN3.out
      have frN := RBox.frozen bN3.out
      go_wp2_with fail
      have bA4 := hid (bA3.out.other ⟨W1.heap.size, 1, none⟩ (.int .i64 ((b : Int) * 2 ^ S)) (by show w.heap.size ≠ W1.heap.size; omega))
      have bB4 := hid (bB3.out.other ⟨W1.heap.size, 1, none⟩ (.int .i64 ((b : Int) * 2 ^ S)) (by show w.heap.size + 1 ≠ W1.heap.size; omega))
      have bQ4 := hid (bQ3.out.other ⟨W1.heap.size, 1, none⟩ (.int .i64 ((b : Int) * 2 ^ S)) (by show w.heap.size + 2 ≠ W1.heap.size; omega))
      have bN4 := hid (bN3.out.set1 ((b : Int) * 2 ^ S))
      have bel4 := hid (bel3.out.setCell (p := ⟨W1.heap.size, 1, none⟩) (by show w.heap.size ≤ W1.heap.size; omega) (.int .i64 ((b : Int) * 2 ^ S)))
      clear bA3 bB3 bQ3 bN3 bel3
      generalize w3.setCell ⟨W1.heap.size, 1, none⟩ (.int .i64 ((b : Int) * 2 ^ S)) = w4 at *
      clear cA0 cA1 cA2 cA3 cN0 cN1 cN2 cN3
      clear frN
      obtain ⟨cA0, cA1, cA2, cA3⟩ := RBox.box bA4.out
      obtain ⟨cN0, cN1, cN2, cN3⟩ := RBox.box bN4.out
      go_wp2_with fail
      refine (Ht.out _).mono ?_
      rintro ee w5 ⟨rfl, hb5⟩
      have bA5 := hid (bA4.out.below hb5)
      have bB5 := hid (bB4.out.below hb5)
      have bQ5 := hid (bQ4.out.below hb5)
      have bN5 := hid (bN4.out.below hb5)
      have bel5 := hid (bel4.out.trans (hb5.mono bel4.out.size))
      clear hb5 bA4 bB4 bQ4 bN4 bel4
      clear cA0 cA1 cA2 cA3 cN0 cN1 cN2 cN3
      obtain ⟨g0, g1, g2, g3⟩ := RBox.box bQ5.out
      have fq := RBox.frozen bQ5.out
      have P5 := hid (RBox.box (bQ5.out.st4 (x' := tLo (a * 2 ^ S) (b * 2 ^ S) (C)) (y' := tHi (a * 2 ^ S) (b * 2 ^ S) (C) (O)) (z' := tB (a * 2 ^ S) (b * 2 ^ S) (C)) (u' := tO (a * 2 ^ S) (b * 2 ^ S) (O))))
      have B5 := hid (st4_below (w.heap.size + 2) (tLo (a * 2 ^ S) (b * 2 ^ S) (C)) (tHi (a * 2 ^ S) (b * 2 ^ S) (C) (O)) (tB (a * 2 ^ S) (b * 2 ^ S) (C)) (tO (a * 2 ^ S) (b * 2 ^ S) (O)) bel5.out (by omega))
      go_wp2_with fail
      obtain ⟨p0, p1, p2, p3⟩ := P5.out
      unfold st4 at p0 p1 p2 p3
      refine bodyPost_ret (v := rv (tLo (a * 2 ^ S) (b * 2 ^ S) (C)) (tHi (a * 2 ^ S) (b * 2 ^ S) (C) (O)) (tB (a * 2 ^ S) (b * 2 ^ S) (C)) (tO (a * 2 ^ S) (b * 2 ^ S) (O))) (by simp [results, Try.results48, go_sem, p0, p1, p2, p3]) rfl ⟨rfl, B5.out⟩
    refine AllReadyH.cons (o := ?oi61) ?hi61 (fun K hK => ?st61) ?mo61
    case hi61 => rw [List.getElem?_toArray]; rfl
    case st61 =>
      go_simp
      have mkNA := RBox.lt hA.out
      have mkNB := RBox.lt hB.out
      have mkNQ := RBox.lt hQ.out
      replace hA := hid (hA.out.alloc (cellsR4 0 0 0 0))
      replace hB := hid (hB.out.alloc (cellsR4 0 0 0 0))
      replace hQ := hid (hQ.out.alloc (cellsR4 0 0 0 0))
      have hN := hid (RBox.new W1 0 0 0 0)
      have mkbN := hbel.out.size
      replace hbel := hid (hbel.out.alloc hbel.out.size (cellsR4 0 0 0 0))
      generalize W1.alloc (cellsR4 0 0 0 0) = wa11 at *
      refine hK.out _ _ ?hS61 (fun hHeld => ?re61)
      case hS61 => exact ⟨(RBox.box hA.out).c0, (RBox.box hA.out).c1, (RBox.box hA.out).c2, (RBox.box hA.out).c3⟩
      clear hK K
      (try simp only [Act.put, List.setIfInBounds_toArray, List.set_cons_zero, List.set_cons_succ])
      refine wpAnyH_ready (fuel := 2) (rs := [9]) (by kernel_rfl) (by simp) ?_
      refine AllReadyH.cons (o := ?oi62) ?hi62 (fun K hK => ?st62) AllReadyH.nil
      case hi62 => rw [List.getElem?_toArray]; rfl
      go_simp
      refine (c_wrapped _ _).mono ?_
      rintro ee wn ⟨rfl, hwn⟩
      rw [hwn]; clear hwn wn
      rw [eO]
      go_wp2_with fail
      refine hK.out _ _ ?hS62 (fun hHeld => ?re62)
      case hS62 => exact ⟨(RBox.box hA.out).c0, (RBox.box hA.out).c1, (RBox.box hA.out).c2, (RBox.box hA.out).c3⟩
      clear hK K
      (try simp only [Act.put, List.setIfInBounds_toArray, List.set_cons_zero, List.set_cons_succ])
      refine wpAnyH_take (i := 10) (oi := ?oi63) (v := ?v63) (fuel := 1) ?hi63 ?hs63 ?hf63 ?hr63 ?hq63 (Or.inl ⟨?hw63, ?hy63⟩) hHeld ?rest63
      case hi63 => rw [List.getElem?_toArray]; rfl
      case hq63 => exact fun _ _ _ h => h
      case hs63 | hf63 | hr63 => kernel_rfl
      case hw63 => rfl
      case hy63 => (intro w1 hSw; (try dsimp only at hSw); go_simp; try with_reducible rfl)
      (try simp only [Act.put, List.setIfInBounds_toArray, List.set_cons_zero, List.set_cons_succ])
      refine wpAnyH_ready (fuel := 0) (rs := [12]) (by kernel_rfl) (by simp) ?_
      refine AllReadyH.cons (o := ?oi64) ?hi64 (fun K hK => ?st64) AllReadyH.nil
      case hi64 => rw [List.getElem?_toArray]; rfl
      obtain ⟨g0, g1, g2, g3⟩ := RBox.box hN.out
      have fq := RBox.frozen hN.out
      go_simp
      clear g0 g1 g2 g3 fq
      replace hA := hid (hA.out.st4o (k := W1.heap.size) (by first | omega | (have := RBox.lt hA.out; omega)) (0) (4294967295) (C) (O))
      replace hB := hid (hB.out.st4o (k := W1.heap.size) (by first | omega | (have := RBox.lt hB.out; omega)) (0) (4294967295) (C) (O))
      replace hQ := hid (hQ.out.st4o (k := W1.heap.size) (by first | omega | (have := RBox.lt hQ.out; omega)) (0) (4294967295) (C) (O))
      replace hN := hid (hN.out.st4 (x' := 0) (y' := 4294967295) (z' := C) (u' := O))
      replace hbel := hid (st4_below (W1.heap.size) (0) (4294967295) (C) (O) hbel.out (by omega))
      unfold Go.Proofs.Ytnebjocnbfoafaa.st4 at hbel hA hB hQ hN
      generalize ((((wa11.setCell ⟨W1.heap.size, 0, none⟩ (.int .i64 (0))).setCell ⟨W1.heap.size, 1, none⟩ (.int .i64 (4294967295))).setCell ⟨W1.heap.size, 2, none⟩ (.int .i64 (C))).setCell ⟨W1.heap.size, 3, none⟩ (.int .i64 (O))) = ws12 at *
      refine hK.out _ _ ?hS64 (fun hHeld => ?re64)
      case hS64 => exact ⟨(RBox.box hA.out).c0, (RBox.box hA.out).c1, (RBox.box hA.out).c2, (RBox.box hA.out).c3⟩
      clear hK K
      (try simp only [Act.put, List.setIfInBounds_toArray, List.set_cons_zero, List.set_cons_succ])
      refine wpAnyH_done (by kernel_rfl) ?_ _
      clear hHeld
      generalize ws12 = w2 at *
      have bA2 := hA
      have bB2 := hB
      have bQ2 := hQ
      have bN2 := hN
      have bel2 := hbel
      clear hbel hA hB hQ hN
      obtain ⟨cA0, cA1, cA2, cA3⟩ := RBox.box bA2.out
      obtain ⟨cN0, cN1, cN2, cN3⟩ := RBox.box bN2.out
      have frN := RBox.frozen bN2.out
      go_wp2_with fail
      have bA3 := hid (bA2.out.other ⟨W1.heap.size, 0, none⟩ (.int .i64 ((a : Int) * 2 ^ S)) (by show w.heap.size ≠ W1.heap.size; omega))
      have bB3 := hid (bB2.out.other ⟨W1.heap.size, 0, none⟩ (.int .i64 ((a : Int) * 2 ^ S)) (by show w.heap.size + 1 ≠ W1.heap.size; omega))
      have bQ3 := hid (bQ2.out.other ⟨W1.heap.size, 0, none⟩ (.int .i64 ((a : Int) * 2 ^ S)) (by show w.heap.size + 2 ≠ W1.heap.size; omega))
      have bN3 := hid (bN2.out.set0 ((a : Int) * 2 ^ S))
      have bel3 := hid (bel2.out.setCell (p := ⟨W1.heap.size, 0, none⟩) (by show w.heap.size ≤ W1.heap.size; omega) (.int .i64 ((a : Int) * 2 ^ S)))
      clear bA2 bB2 bQ2 bN2 bel2
      generalize w2.setCell ⟨W1.heap.size, 0, none⟩ (.int .i64 ((a : Int) * 2 ^ S)) = w3 at *
      clear cA0 cA1 cA2 cA3 cN0 cN1 cN2 cN3
      clear frN
      obtain ⟨cA0, cA1, cA2, cA3⟩ := RBox.box bA3.out
      obtain ⟨cN0, cN1, cN2, cN3⟩ := RBox.box bN3.out
      have frN := RBox.frozen bN3.out
      go_wp2_with fail
      have bA4 := hid (bA3.out.other ⟨W1.heap.size, 1, none⟩ (.int .i64 ((b : Int) * 2 ^ S)) (by show w.heap.size ≠ W1.heap.size; omega))
      have bB4 := hid (bB3.out.other ⟨W1.heap.size, 1, none⟩ (.int .i64 ((b : Int) * 2 ^ S)) (by show w.heap.size + 1 ≠ W1.heap.size; omega))
      have bQ4 := hid (bQ3.out.other ⟨W1.heap.size, 1, none⟩ (.int .i64 ((b : Int) * 2 ^ S)) (by show w.heap.size + 2 ≠ W1.heap.size; omega))
      have bN4 := hid (bN3.out.set1 ((b : Int) * 2 ^ S))
      have bel4 := hid (bel3.out.setCell (p := ⟨W1.heap.size, 1, none⟩) (by show w.heap.size ≤ W1.heap.size; omega) (.int .i64 ((b : Int) * 2 ^ S)))
      clear bA3 bB3 bQ3 bN3 bel3
      generalize w3.setCell ⟨W1.heap.size, 1, none⟩ (.int .i64 ((b : Int) * 2 ^ S)) = w4 at *
      clear cA0 cA1 cA2 cA3 cN0 cN1 cN2 cN3
      clear frN
      obtain ⟨cA0, cA1, cA2, cA3⟩ := RBox.box bA4.out
      obtain ⟨cN0, cN1, cN2, cN3⟩ := RBox.box bN4.out
      go_wp2_with fail
      refine (Ht.out _).mono ?_
      rintro ee w5 ⟨rfl, hb5⟩
      have bA5 := hid (bA4.out.below hb5)
      have bB5 := hid (bB4.out.below hb5)
      have bQ5 := hid (bQ4.out.below hb5)
      have bN5 := hid (bN4.out.below hb5)
      have bel5 := hid (bel4.out.trans (hb5.mono bel4.out.size))
      clear hb5 bA4 bB4 bQ4 bN4 bel4
      clear cA0 cA1 cA2 cA3 cN0 cN1 cN2 cN3
      obtain ⟨g0, g1, g2, g3⟩ := RBox.box bQ5.out
      have fq := RBox.frozen bQ5.out
      have P5 := hid (RBox.box (bQ5.out.st4 (x' := tLo (a * 2 ^ S) (b * 2 ^ S) (C)) (y' := tHi (a * 2 ^ S) (b * 2 ^ S) (C) (O)) (z' := tB (a * 2 ^ S) (b * 2 ^ S) (C)) (u' := tO (a * 2 ^ S) (b * 2 ^ S) (O))))
      have B5 := hid (st4_below (w.heap.size + 2) (tLo (a * 2 ^ S) (b * 2 ^ S) (C)) (tHi (a * 2 ^ S) (b * 2 ^ S) (C) (O)) (tB (a * 2 ^ S) (b * 2 ^ S) (C)) (tO (a * 2 ^ S) (b * 2 ^ S) (O)) bel5.out (by omega))
      go_wp2_with fail
      obtain ⟨p0, p1, p2, p3⟩ := P5.out
      unfold st4 at p0 p1 p2 p3
      refine bodyPost_ret (v := rv (tLo (a * 2 ^ S) (b * 2 ^ S) (C)) (tHi (a * 2 ^ S) (b * 2 ^ S) (C) (O)) (tB (a * 2 ^ S) (b * 2 ^ S) (C)) (tO (a * 2 ^ S) (b * 2 ^ S) (O))) (by simp [results, Try.results48, go_sem, p0, p1, p2, p3]) rfl ⟨rfl, B5.out⟩
    exact AllReadyH.nil
  refine AllReadyH.cons (o := ?oi65) ?hi65 (fun K hK => ?st65) ?mo65
  case hi65 => rw [List.getElem?_toArray]; rfl
  case st65 =>
    go_simp
    have mkNA := RBox.lt hA.out
    have mkNB := RBox.lt hB.out
    have mkNQ := RBox.lt hQ.out
    replace hA := hid (hA.out.alloc (cellsR4 0 0 0 0))
    replace hB := hid (hB.out.alloc (cellsR4 0 0 0 0))
    replace hQ := hid (hQ.out.alloc (cellsR4 0 0 0 0))
    have hN := hid (RBox.new W1 0 0 0 0)
    have mkbN := hbel.out.size
    replace hbel := hid (hbel.out.alloc hbel.out.size (cellsR4 0 0 0 0))
    generalize W1.alloc (cellsR4 0 0 0 0) = wa11 at *
    refine hK.out _ _ ?hS65 (fun hHeld => ?re65)
    case hS65 => exact ⟨(RBox.box hA.out).c0, (RBox.box hA.out).c1, (RBox.box hA.out).c2, (RBox.box hA.out).c3⟩
    clear hK K
    (try simp only [Act.put, List.setIfInBounds_toArray, List.set_cons_zero, List.set_cons_succ])
    refine wpAnyH_ready (fuel := 3) (rs := [4]) (by kernel_rfl) (by simp) ?_
    refine AllReadyH.cons (o := ?oi66) ?hi66 (fun K hK => ?st66) AllReadyH.nil
    case hi66 => rw [List.getElem?_toArray]; rfl
    go_simp
    refine (c_wrapped _ _).mono ?_
    rintro ee wn ⟨rfl, hwn⟩
    rw [hwn]; clear hwn wn
    rw [eC]
    go_wp2_with fail
    refine hK.out _ _ ?hS66 (fun hHeld => ?re66)
    case hS66 => exact ⟨(RBox.box hA.out).c0, (RBox.box hA.out).c1, (RBox.box hA.out).c2, (RBox.box hA.out).c3⟩
    clear hK K
    (try simp only [Act.put, List.setIfInBounds_toArray, List.set_cons_zero, List.set_cons_succ])
    refine wpAnyH_ready (fuel := 2) (rs := [9]) (by kernel_rfl) (by simp) ?_
    refine AllReadyH.cons (o := ?oi67) ?hi67 (fun K hK => ?st67) AllReadyH.nil
    case hi67 => rw [List.getElem?_toArray]; rfl
    go_simp
    refine (c_wrapped _ _).mono ?_
    rintro ee wn ⟨rfl, hwn⟩
    rw [hwn]; clear hwn wn
    rw [eO]
    go_wp2_with fail
    refine hK.out _ _ ?hS67 (fun hHeld => ?re67)
    case hS67 => exact ⟨(RBox.box hA.out).c0, (RBox.box hA.out).c1, (RBox.box hA.out).c2, (RBox.box hA.out).c3⟩
    clear hK K
    (try simp only [Act.put, List.setIfInBounds_toArray, List.set_cons_zero, List.set_cons_succ])
    refine wpAnyH_take (i := 10) (oi := ?oi68) (v := ?v68) (fuel := 1) ?hi68 ?hs68 ?hf68 ?hr68 ?hq68 (Or.inl ⟨?hw68, ?hy68⟩) hHeld ?rest68
    case hi68 => rw [List.getElem?_toArray]; rfl
    case hq68 => exact fun _ _ _ h => h
    case hs68 | hf68 | hr68 => kernel_rfl
    case hw68 => rfl
    case hy68 => (intro w1 hSw; (try dsimp only at hSw); go_simp; try with_reducible rfl)
    (try simp only [Act.put, List.setIfInBounds_toArray, List.set_cons_zero, List.set_cons_succ])
    refine wpAnyH_ready (fuel := 0) (rs := [12]) (by kernel_rfl) (by simp) ?_
    refine AllReadyH.cons (o := ?oi69) ?hi69 (fun K hK => ?st69) AllReadyH.nil
    case hi69 => rw [List.getElem?_toArray]; rfl
    obtain ⟨g0, g1, g2, g3⟩ := RBox.box hN.out
    have fq := RBox.frozen hN.out
    go_simp
    clear g0 g1 g2 g3 fq
    replace hA := hid (hA.out.st4o (k := W1.heap.size) (by first | omega | (have := RBox.lt hA.out; omega)) (0) (4294967295) (C) (O))
    replace hB := hid (hB.out.st4o (k := W1.heap.size) (by first | omega | (have := RBox.lt hB.out; omega)) (0) (4294967295) (C) (O))
    replace hQ := hid (hQ.out.st4o (k := W1.heap.size) (by first | omega | (have := RBox.lt hQ.out; omega)) (0) (4294967295) (C) (O))
    replace hN := hid (hN.out.st4 (x' := 0) (y' := 4294967295) (z' := C) (u' := O))
    replace hbel := hid (st4_below (W1.heap.size) (0) (4294967295) (C) (O) hbel.out (by omega))
    unfold Go.Proofs.Ytnebjocnbfoafaa.st4 at hbel hA hB hQ hN
    generalize ((((wa11.setCell ⟨W1.heap.size, 0, none⟩ (.int .i64 (0))).setCell ⟨W1.heap.size, 1, none⟩ (.int .i64 (4294967295))).setCell ⟨W1.heap.size, 2, none⟩ (.int .i64 (C))).setCell ⟨W1.heap.size, 3, none⟩ (.int .i64 (O))) = ws12 at *
    refine hK.out _ _ ?hS69 (fun hHeld => ?re69)
    case hS69 => exact ⟨(RBox.box hA.out).c0, (RBox.box hA.out).c1, (RBox.box hA.out).c2, (RBox.box hA.out).c3⟩
    clear hK K
    (try simp only [Act.put, List.setIfInBounds_toArray, List.set_cons_zero, List.set_cons_succ])
    refine wpAnyH_done (by kernel_rfl) ?_ _
    clear hHeld
    generalize ws12 = w2 at *
    have bA2 := hA
    have bB2 := hB
    have bQ2 := hQ
    have bN2 := hN
    have bel2 := hbel
    clear hbel hA hB hQ hN
    obtain ⟨cA0, cA1, cA2, cA3⟩ := RBox.box bA2.out
    obtain ⟨cN0, cN1, cN2, cN3⟩ := RBox.box bN2.out
    have frN := RBox.frozen bN2.out
    go_wp2_with fail
    have bA3 := hid (bA2.out.other ⟨W1.heap.size, 0, none⟩ (.int .i64 ((a : Int) * 2 ^ S)) (by show w.heap.size ≠ W1.heap.size; omega))
    have bB3 := hid (bB2.out.other ⟨W1.heap.size, 0, none⟩ (.int .i64 ((a : Int) * 2 ^ S)) (by show w.heap.size + 1 ≠ W1.heap.size; omega))
    have bQ3 := hid (bQ2.out.other ⟨W1.heap.size, 0, none⟩ (.int .i64 ((a : Int) * 2 ^ S)) (by show w.heap.size + 2 ≠ W1.heap.size; omega))
    have bN3 := hid (bN2.out.set0 ((a : Int) * 2 ^ S))
    have bel3 := hid (bel2.out.setCell (p := ⟨W1.heap.size, 0, none⟩) (by show w.heap.size ≤ W1.heap.size; omega) (.int .i64 ((a : Int) * 2 ^ S)))
    clear bA2 bB2 bQ2 bN2 bel2
    generalize w2.setCell ⟨W1.heap.size, 0, none⟩ (.int .i64 ((a : Int) * 2 ^ S)) = w3 at *
    clear cA0 cA1 cA2 cA3 cN0 cN1 cN2 cN3
    clear frN
    obtain ⟨cA0, cA1, cA2, cA3⟩ := RBox.box bA3.out
    obtain ⟨cN0, cN1, cN2, cN3⟩ := RBox.box bN3.out
    have frN := RBox.frozen bN3.out
    go_wp2_with fail
    have bA4 := hid (bA3.out.other ⟨W1.heap.size, 1, none⟩ (.int .i64 ((b : Int) * 2 ^ S)) (by show w.heap.size ≠ W1.heap.size; omega))
    have bB4 := hid (bB3.out.other ⟨W1.heap.size, 1, none⟩ (.int .i64 ((b : Int) * 2 ^ S)) (by show w.heap.size + 1 ≠ W1.heap.size; omega))
    have bQ4 := hid (bQ3.out.other ⟨W1.heap.size, 1, none⟩ (.int .i64 ((b : Int) * 2 ^ S)) (by show w.heap.size + 2 ≠ W1.heap.size; omega))
    have bN4 := hid (bN3.out.set1 ((b : Int) * 2 ^ S))
    have bel4 := hid (bel3.out.setCell (p := ⟨W1.heap.size, 1, none⟩) (by show w.heap.size ≤ W1.heap.size; omega) (.int .i64 ((b : Int) * 2 ^ S)))
    clear bA3 bB3 bQ3 bN3 bel3
    generalize w3.setCell ⟨W1.heap.size, 1, none⟩ (.int .i64 ((b : Int) * 2 ^ S)) = w4 at *
    clear cA0 cA1 cA2 cA3 cN0 cN1 cN2 cN3
    clear frN
    obtain ⟨cA0, cA1, cA2, cA3⟩ := RBox.box bA4.out
    obtain ⟨cN0, cN1, cN2, cN3⟩ := RBox.box bN4.out
    go_wp2_with fail
    refine (Ht.out _).mono ?_
    rintro ee w5 ⟨rfl, hb5⟩
    have bA5 := hid (bA4.out.below hb5)
    have bB5 := hid (bB4.out.below hb5)
    have bQ5 := hid (bQ4.out.below hb5)
    have bN5 := hid (bN4.out.below hb5)
    have bel5 := hid (bel4.out.trans (hb5.mono bel4.out.size))
    clear hb5 bA4 bB4 bQ4 bN4 bel4
    clear cA0 cA1 cA2 cA3 cN0 cN1 cN2 cN3
    obtain ⟨g0, g1, g2, g3⟩ := RBox.box bQ5.out
    have fq := RBox.frozen bQ5.out
    have P5 := hid (RBox.box (bQ5.out.st4 (x' := tLo (a * 2 ^ S) (b * 2 ^ S) (C)) (y' := tHi (a * 2 ^ S) (b * 2 ^ S) (C) (O)) (z' := tB (a * 2 ^ S) (b * 2 ^ S) (C)) (u' := tO (a * 2 ^ S) (b * 2 ^ S) (O))))
    have B5 := hid (st4_below (w.heap.size + 2) (tLo (a * 2 ^ S) (b * 2 ^ S) (C)) (tHi (a * 2 ^ S) (b * 2 ^ S) (C) (O)) (tB (a * 2 ^ S) (b * 2 ^ S) (C)) (tO (a * 2 ^ S) (b * 2 ^ S) (O)) bel5.out (by omega))
    go_wp2_with fail
    obtain ⟨p0, p1, p2, p3⟩ := P5.out
    unfold st4 at p0 p1 p2 p3
    refine bodyPost_ret (v := rv (tLo (a * 2 ^ S) (b * 2 ^ S) (C)) (tHi (a * 2 ^ S) (b * 2 ^ S) (C) (O)) (tB (a * 2 ^ S) (b * 2 ^ S) (C)) (tO (a * 2 ^ S) (b * 2 ^ S) (O))) (by simp [results, Try.results48, go_sem, p0, p1, p2, p3]) rfl ⟨rfl, B5.out⟩
  exact AllReadyH.nil

set_option maxRecDepth 100000 in
set_option maxHeartbeats 2000000 in
theorem c_shl_wide (a b c d e f g h : Nat) {x y : Nat} (w : World) (A : OkN a b c d) (B : OkN e f g h) (X : OfN a b c d x) (Y : OfN e f g h y) (h1 : ((e : Int) == f) = true) (hw : ¬ b * 2 ^ (e % 32) ≤ 4294967295) :
    Calls Try.prog 48 #[rv a b c d, rv e f g h] w fun ee w' => ee = .returned (tv (0) (4294967295) (c * 2 ^ (e % 32) % 4294967296) (d * 2 ^ (e % 32) % 4294967296)) ∧ Below w.heap.size w w' := by
  have := A.le
  have := A.hi
  have := B.le
  have := B.hi
  have := A.b
  have := A.o
  have := B.b
  have := B.o
  have HS : Hid (∀ w, Calls Try.prog 71 #[.int .i64 e] w fun ee w' => ee = .returned (.int .i64 ((e % 32 : Nat) : Int)) ∧ w' = w) := fun w => c_shiftOf e w (by omega)
  have hS : e % 32 < 32 := by omega
  have e1 := shl_nat a (e % 32) (by omega) hS
  have e2 := shl_nat b (e % 32) (by omega) hS
  have e3 := shl_nat c (e % 32) (by omega) hS
  have e4 := shl_nat d (e % 32) (by omega) hS
  have eC : bits .and .i64 ((c : Int) * 2 ^ (e % 32)) 4294967295 = ((c * 2 ^ (e % 32) % 4294967296 : Nat) : Int) := by
    rw [show (c : Int) * 2 ^ (e % 32) = ((c * 2 ^ (e % 32) : Nat) : Int) by simp]; exact wrapN _
  have eO : bits .and .i64 ((d : Int) * 2 ^ (e % 32)) 4294967295 = ((d * 2 ^ (e % 32) % 4294967296 : Nat) : Int) := by
    rw [show (d : Int) * 2 ^ (e % 32) = ((d * 2 ^ (e % 32) : Nat) : Int) by simp]; exact wrapN _
  have z1 : ((a * 2 ^ (e % 32) : Nat) : Int) = (a : Int) * 2 ^ (e % 32) := by simp
  have z2 : ((b * 2 ^ (e % 32) : Nat) : Int) = (b : Int) * 2 ^ (e % 32) := by simp
  have l1 := pow_le32 hS
  have l2 : b * 2 ^ (e % 32) ≤ 4294967295 * 2147483648 := Nat.mul_le_mul (by omega) l1
  have k1 := shl_ok A (e % 32)
  have k2 := shl_of A X e
  rw [if_neg hw, if_neg hw] at k1 k2
  have Ht : Hid (∀ w, Calls Try.prog 22 #[rv 0 4294967295 ((c * 2 ^ (e % 32) % 4294967296 : Nat) : Int) ((d * 2 ^ (e % 32) % 4294967296 : Nat) : Int)] w fun ee w' => ee = .returned (tv (0) (4294967295) (c * 2 ^ (e % 32) % 4294967296) (d * 2 ^ (e % 32) % 4294967296)) ∧ Below w.heap.size w w') := by
    intro w
    have this := tidyI _ _ _ _ k1 k2 w
    exact this
  have hw' : (4294967295 : Int) < (b : Int) * 2 ^ (e % 32) := by rw [← z2]; omega
  clear A B X Y k1 k2 z1 z2 l1 l2 hw
  generalize e % 32 = S at *
  generalize c * 2 ^ S % 4294967296 = C at *
  generalize d * 2 ^ S % 4294967296 = O at *
  have hS0 : (0 : Int) ≤ S := by omega
  have hS1 : (S : Int) < 32 := by omega
  have bA0 : Hid (RBox (((w.alloc (cellsR4 a b c d)).alloc (cellsR4 e f g h)).alloc (cellsR4 0 0 0 0)) w.heap.size a b c d) := twoA w a b c d e f g h
  have bB0 : Hid (RBox (((w.alloc (cellsR4 a b c d)).alloc (cellsR4 e f g h)).alloc (cellsR4 0 0 0 0)) (w.heap.size + 1) e f g h) := twoB w a b c d e f g h
  have bQ0 : Hid (RBox (((w.alloc (cellsR4 a b c d)).alloc (cellsR4 e f g h)).alloc (cellsR4 0 0 0 0)) (w.heap.size + 2) 0 0 0 0) := twoQ w a b c d e f g h
  have bel0 : Hid (Below w.heap.size w (((w.alloc (cellsR4 a b c d)).alloc (cellsR4 e f g h)).alloc (cellsR4 0 0 0 0))) := twoW w a b c d e f g h
  go_enter Try.func48, Try.ntmps48
  go_wp2_with fail
  refine (c_isKnown _ _ _ _ _).mono ?_
  rintro ee w1 ⟨rfl, hb1⟩
  have bA1 := hid (bA0.out.below hb1)
  have bB1 := hid (bB0.out.below hb1)
  have bQ1 := hid (bQ0.out.below hb1)
  have bel1 := hid (bel0.out.trans (hb1.mono bel0.out.size))
  clear hb1 bA0 bB0 bQ0 bel0
  rw [h1]
  obtain ⟨cA0, cA1, cA2, cA3⟩ := RBox.box bA1.out
  obtain ⟨cB0, cB1, cB2, cB3⟩ := RBox.box bB1.out
  go_wp2_with fail
  refine (HS.out _).mono ?_
  rintro ee w2 ⟨rfl, hw2⟩
  rw [hw2]; clear hw2 w2
  go_wp2_with fail
  refine wp_region_held_drew (S := (fun w' => w'.cell? ⟨w.heap.size, 0, none⟩ = some (.int .i64 (a)) ∧ w'.cell? ⟨w.heap.size, 1, none⟩ = some (.int .i64 (b)) ∧ w'.cell? ⟨w.heap.size, 2, none⟩ = some (.int .i64 (c)) ∧ w'.cell? ⟨w.heap.size, 3, none⟩ = some (.int .i64 (d)))) (by kernel_rfl) (by exact ⟨(RBox.box bA1.out).c0, (RBox.box bA1.out).c1, (RBox.box bA1.out).c2, (RBox.box bA1.out).c3⟩) (fun hHeld => ?_)
  have hA := hid (RBox.drew bA1.out)
  have hB := hid (RBox.drew bB1.out)
  have hQ := hid (RBox.drew bQ1.out)
  have hbel := hid (Below.drew bel1.out)
  clear bA1 bB1 bQ1 bel1
  generalize w1.drew = W1 at *
  refine wpAnyH_take (i := 0) (oi := ?oi70) (v := ?v70) (fuel := 12) ?hi70 ?hs70 ?hf70 ?hr70 ?hq70 (Or.inl ⟨?hw70, ?hy70⟩) hHeld ?rest70
  case hi70 => rw [List.getElem?_toArray]; rfl
  case hq70 => exact fun _ _ _ h => h
  case hs70 | hf70 | hr70 => kernel_rfl
  case hw70 => rfl
  case hy70 => (intro w1 hSw; (try dsimp only at hSw); go_simp; try with_reducible rfl)
  (try simp only [Act.put, List.setIfInBounds_toArray, List.set_cons_zero, List.set_cons_succ])
  refine wpAnyH_take (i := 1) (oi := ?oi71) (v := ?v71) (fuel := 11) ?hi71 ?hs71 ?hf71 ?hr71 ?hq71 (Or.inl ⟨?hw71, ?hy71⟩) hHeld ?rest71
  case hi71 => rw [List.getElem?_toArray]; rfl
  case hq71 => exact fun _ _ _ h => h
  case hs71 | hf71 | hr71 => kernel_rfl
  case hw71 => rfl
  case hy71 => (intro w1 hSw; (try dsimp only at hSw); go_simp; try with_reducible rfl)
  (try simp only [Act.put, List.setIfInBounds_toArray, List.set_cons_zero, List.set_cons_succ])
  refine wpAnyH_take (i := 2) (oi := ?oi72) (v := ?v72) (fuel := 10) ?hi72 ?hs72 ?hf72 ?hr72 ?hq72 (Or.inl ⟨?hw72, ?hy72⟩) hHeld ?rest72
  case hi72 => rw [List.getElem?_toArray]; rfl
  case hq72 => exact fun _ _ _ h => h
  case hs72 | hf72 | hr72 => kernel_rfl
  case hw72 => rfl
  case hy72 => (intro w1 hSw; (try dsimp only at hSw); go_simp; try with_reducible rfl)
  (try simp only [Act.put, List.setIfInBounds_toArray, List.set_cons_zero, List.set_cons_succ])
  refine wpAnyH_take (i := 3) (oi := ?oi73) (v := ?v73) (fuel := 9) ?hi73 ?hs73 ?hf73 ?hr73 ?hq73 (Or.inl ⟨?hw73, ?hy73⟩) hHeld ?rest73
  case hi73 => rw [List.getElem?_toArray]; rfl
  case hq73 => exact fun _ _ _ h => h
  case hs73 | hf73 | hr73 => kernel_rfl
  case hw73 => rfl
  case hy73 => (intro w1 hSw; (try dsimp only at hSw); go_simp; try with_reducible rfl)
  (try simp only [Act.put, List.setIfInBounds_toArray, List.set_cons_zero, List.set_cons_succ])
  refine wpAnyH_take (i := 5) (oi := ?oi74) (v := ?v74) (fuel := 8) ?hi74 ?hs74 ?hf74 ?hr74 ?hq74 (Or.inl ⟨?hw74, ?hy74⟩) hHeld ?rest74
  case hi74 => rw [List.getElem?_toArray]; rfl
  case hq74 => exact fun _ _ _ h => h
  case hs74 | hf74 | hr74 => kernel_rfl
  case hw74 => rfl
  case hy74 => (intro w1 hSw; (try dsimp only at hSw); go_simp; try with_reducible rfl)
  (try simp only [Act.put, List.setIfInBounds_toArray, List.set_cons_zero, List.set_cons_succ])
  refine wpAnyH_take (i := 6) (oi := ?oi75) (v := ?v75) (fuel := 7) ?hi75 ?hs75 ?hf75 ?hr75 ?hq75 (Or.inl ⟨?hw75, ?hy75⟩) hHeld ?rest75
  case hi75 => rw [List.getElem?_toArray]; rfl
  case hq75 => exact fun _ _ _ h => h
  case hs75 | hf75 | hr75 => kernel_rfl
  case hw75 => rfl
  case hy75 => (intro w1 hSw; (try dsimp only at hSw); go_simp; try with_reducible rfl)
  (try simp only [Act.put, List.setIfInBounds_toArray, List.set_cons_zero, List.set_cons_succ])
  refine wpAnyH_take (i := 7) (oi := ?oi76) (v := ?v76) (fuel := 6) ?hi76 ?hs76 ?hf76 ?hr76 ?hq76 (Or.inl ⟨?hw76, ?hy76⟩) hHeld ?rest76
  case hi76 => rw [List.getElem?_toArray]; rfl
  case hq76 => exact fun _ _ _ h => h
  case hs76 | hf76 | hr76 => kernel_rfl
  case hw76 => rfl
  case hy76 => (intro w1 hSw; (try dsimp only at hSw); go_simp; try with_reducible rfl)
  (try simp only [Act.put, List.setIfInBounds_toArray, List.set_cons_zero, List.set_cons_succ])
  refine wpAnyH_take (i := 8) (oi := ?oi77) (v := ?v77) (fuel := 5) ?hi77 ?hs77 ?hf77 ?hr77 ?hq77 (Or.inl ⟨?hw77, ?hy77⟩) hHeld ?rest77
  case hi77 => rw [List.getElem?_toArray]; rfl
  case hq77 => exact fun _ _ _ h => h
  case hs77 | hf77 | hr77 => kernel_rfl
  case hw77 => rfl
  case hy77 => (intro w1 hSw; (try dsimp only at hSw); go_simp; try with_reducible rfl)
  (try simp only [Act.put, List.setIfInBounds_toArray, List.set_cons_zero, List.set_cons_succ])
  refine wpAnyH_ready (fuel := 4) (rs := [4, 11]) (by kernel_rfl) (by simp) ?_
  refine AllReadyH.cons (o := ?oi78) ?hi78 (fun K hK => ?st78) ?mo78
  case hi78 => rw [List.getElem?_toArray]; rfl
  case st78 =>
    go_simp
    refine (c_wrapped _ _).mono ?_
    rintro ee wn ⟨rfl, hwn⟩
    rw [hwn]; clear hwn wn
    rw [eC]
    go_wp2_with fail
    refine hK.out _ _ ?hS78 (fun hHeld => ?re78)
    case hS78 => exact ⟨(RBox.box hA.out).c0, (RBox.box hA.out).c1, (RBox.box hA.out).c2, (RBox.box hA.out).c3⟩
    clear hK K
    (try simp only [Act.put, List.setIfInBounds_toArray, List.set_cons_zero, List.set_cons_succ])
    refine wpAnyH_ready (fuel := 3) (rs := [9, 11]) (by kernel_rfl) (by simp) ?_
    refine AllReadyH.cons (o := ?oi79) ?hi79 (fun K hK => ?st79) ?mo79
    case hi79 => rw [List.getElem?_toArray]; rfl
    case st79 =>
      go_simp
      refine (c_wrapped _ _).mono ?_
      rintro ee wn ⟨rfl, hwn⟩
      rw [hwn]; clear hwn wn
      rw [eO]
      go_wp2_with fail
      refine hK.out _ _ ?hS79 (fun hHeld => ?re79)
      case hS79 => exact ⟨(RBox.box hA.out).c0, (RBox.box hA.out).c1, (RBox.box hA.out).c2, (RBox.box hA.out).c3⟩
      clear hK K
      (try simp only [Act.put, List.setIfInBounds_toArray, List.set_cons_zero, List.set_cons_succ])
      refine wpAnyH_take (i := 10) (oi := ?oi80) (v := ?v80) (fuel := 2) ?hi80 ?hs80 ?hf80 ?hr80 ?hq80 (Or.inl ⟨?hw80, ?hy80⟩) hHeld ?rest80
      case hi80 => rw [List.getElem?_toArray]; rfl
      case hq80 => exact fun _ _ _ h => h
      case hs80 | hf80 | hr80 => kernel_rfl
      case hw80 => rfl
      case hy80 => (intro w1 hSw; (try dsimp only at hSw); go_simp; try with_reducible rfl)
      (try simp only [Act.put, List.setIfInBounds_toArray, List.set_cons_zero, List.set_cons_succ])
      refine wpAnyH_ready (fuel := 1) (rs := [11]) (by kernel_rfl) (by simp) ?_
      refine AllReadyH.cons (o := ?oi81) ?hi81 (fun K hK => ?st81) AllReadyH.nil
      case hi81 => rw [List.getElem?_toArray]; rfl
      go_simp
      have mkNA := RBox.lt hA.out
      have mkNB := RBox.lt hB.out
      have mkNQ := RBox.lt hQ.out
      replace hA := hid (hA.out.alloc (cellsR4 0 0 0 0))
      replace hB := hid (hB.out.alloc (cellsR4 0 0 0 0))
      replace hQ := hid (hQ.out.alloc (cellsR4 0 0 0 0))
      have hN := hid (RBox.new W1 0 0 0 0)
      have mkbN := hbel.out.size
      replace hbel := hid (hbel.out.alloc hbel.out.size (cellsR4 0 0 0 0))
      generalize W1.alloc (cellsR4 0 0 0 0) = wa11 at *
      refine hK.out _ _ ?hS81 (fun hHeld => ?re81)
      case hS81 => exact ⟨(RBox.box hA.out).c0, (RBox.box hA.out).c1, (RBox.box hA.out).c2, (RBox.box hA.out).c3⟩
      clear hK K
      (try simp only [Act.put, List.setIfInBounds_toArray, List.set_cons_zero, List.set_cons_succ])
      refine wpAnyH_ready (fuel := 0) (rs := [12]) (by kernel_rfl) (by simp) ?_
      refine AllReadyH.cons (o := ?oi82) ?hi82 (fun K hK => ?st82) AllReadyH.nil
      case hi82 => rw [List.getElem?_toArray]; rfl
      obtain ⟨g0, g1, g2, g3⟩ := RBox.box hN.out
      have fq := RBox.frozen hN.out
      go_simp
      clear g0 g1 g2 g3 fq
      replace hA := hid (hA.out.st4o (k := W1.heap.size) (by first | omega | (have := RBox.lt hA.out; omega)) (0) (4294967295) (C) (O))
      replace hB := hid (hB.out.st4o (k := W1.heap.size) (by first | omega | (have := RBox.lt hB.out; omega)) (0) (4294967295) (C) (O))
      replace hQ := hid (hQ.out.st4o (k := W1.heap.size) (by first | omega | (have := RBox.lt hQ.out; omega)) (0) (4294967295) (C) (O))
      replace hN := hid (hN.out.st4 (x' := 0) (y' := 4294967295) (z' := C) (u' := O))
      replace hbel := hid (st4_below (W1.heap.size) (0) (4294967295) (C) (O) hbel.out (by omega))
      unfold Go.Proofs.Ytnebjocnbfoafaa.st4 at hbel hA hB hQ hN
      generalize ((((wa11.setCell ⟨W1.heap.size, 0, none⟩ (.int .i64 (0))).setCell ⟨W1.heap.size, 1, none⟩ (.int .i64 (4294967295))).setCell ⟨W1.heap.size, 2, none⟩ (.int .i64 (C))).setCell ⟨W1.heap.size, 3, none⟩ (.int .i64 (O))) = ws12 at *
      refine hK.out _ _ ?hS82 (fun hHeld => ?re82)
      case hS82 => exact ⟨(RBox.box hA.out).c0, (RBox.box hA.out).c1, (RBox.box hA.out).c2, (RBox.box hA.out).c3⟩
      clear hK K
      (try simp only [Act.put, List.setIfInBounds_toArray, List.set_cons_zero, List.set_cons_succ])
      refine wpAnyH_done (by kernel_rfl) ?_ _
      clear hHeld
      generalize ws12 = w2 at *
      have bA2 := hA
      have bB2 := hB
      have bQ2 := hQ
      have bN2 := hN
      have bel2 := hbel
      clear hbel hA hB hQ hN
      obtain ⟨cA0, cA1, cA2, cA3⟩ := RBox.box bA2.out
      obtain ⟨cN0, cN1, cN2, cN3⟩ := RBox.box bN2.out
      have frN := RBox.frozen bN2.out
      go_wp2_with fail
      refine (Ht.out _).mono ?_
      rintro ee w3 ⟨rfl, hb3⟩
      have bA3 := hid (bA2.out.below hb3)
      have bB3 := hid (bB2.out.below hb3)
      have bQ3 := hid (bQ2.out.below hb3)
      have bN3 := hid (bN2.out.below hb3)
      have bel3 := hid (bel2.out.trans (hb3.mono bel2.out.size))
      clear hb3 bA2 bB2 bQ2 bN2 bel2
      clear cA0 cA1 cA2 cA3 cN0 cN1 cN2 cN3
      obtain ⟨g0, g1, g2, g3⟩ := RBox.box bQ3.out
      have fq := RBox.frozen bQ3.out
      have P5 := hid (RBox.box (bQ3.out.st4 (x' := tLo (0) (4294967295) (C)) (y' := tHi (0) (4294967295) (C) (O)) (z' := tB (0) (4294967295) (C)) (u' := tO (0) (4294967295) (O))))
      have B5 := hid (st4_below (w.heap.size + 2) (tLo (0) (4294967295) (C)) (tHi (0) (4294967295) (C) (O)) (tB (0) (4294967295) (C)) (tO (0) (4294967295) (O)) bel3.out (by omega))
      go_wp2_with fail
      obtain ⟨p0, p1, p2, p3⟩ := P5.out
      unfold st4 at p0 p1 p2 p3
      refine bodyPost_ret (v := rv (tLo (0) (4294967295) (C)) (tHi (0) (4294967295) (C) (O)) (tB (0) (4294967295) (C)) (tO (0) (4294967295) (O))) (by simp [results, Try.results48, go_sem, p0, p1, p2, p3]) rfl ⟨rfl, B5.out⟩
    refine AllReadyH.cons (o := ?oi83) ?hi83 (fun K hK => ?st83) ?mo83
    case hi83 => rw [List.getElem?_toArray]; rfl
    case st83 =>
      go_simp
      have mkNA := RBox.lt hA.out
      have mkNB := RBox.lt hB.out
      have mkNQ := RBox.lt hQ.out
      replace hA := hid (hA.out.alloc (cellsR4 0 0 0 0))
      replace hB := hid (hB.out.alloc (cellsR4 0 0 0 0))
      replace hQ := hid (hQ.out.alloc (cellsR4 0 0 0 0))
      have hN := hid (RBox.new W1 0 0 0 0)
      have mkbN := hbel.out.size
      replace hbel := hid (hbel.out.alloc hbel.out.size (cellsR4 0 0 0 0))
      generalize W1.alloc (cellsR4 0 0 0 0) = wa11 at *
      refine hK.out _ _ ?hS83 (fun hHeld => ?re83)
      case hS83 => exact ⟨(RBox.box hA.out).c0, (RBox.box hA.out).c1, (RBox.box hA.out).c2, (RBox.box hA.out).c3⟩
      clear hK K
      (try simp only [Act.put, List.setIfInBounds_toArray, List.set_cons_zero, List.set_cons_succ])
      refine wpAnyH_ready (fuel := 2) (rs := [9]) (by kernel_rfl) (by simp) ?_
      refine AllReadyH.cons (o := ?oi84) ?hi84 (fun K hK => ?st84) AllReadyH.nil
      case hi84 => rw [List.getElem?_toArray]; rfl
      go_simp
      refine (c_wrapped _ _).mono ?_
      rintro ee wn ⟨rfl, hwn⟩
      rw [hwn]; clear hwn wn
      rw [eO]
      go_wp2_with fail
      refine hK.out _ _ ?hS84 (fun hHeld => ?re84)
      case hS84 => exact ⟨(RBox.box hA.out).c0, (RBox.box hA.out).c1, (RBox.box hA.out).c2, (RBox.box hA.out).c3⟩
      clear hK K
      (try simp only [Act.put, List.setIfInBounds_toArray, List.set_cons_zero, List.set_cons_succ])
      refine wpAnyH_take (i := 10) (oi := ?oi85) (v := ?v85) (fuel := 1) ?hi85 ?hs85 ?hf85 ?hr85 ?hq85 (Or.inl ⟨?hw85, ?hy85⟩) hHeld ?rest85
      case hi85 => rw [List.getElem?_toArray]; rfl
      case hq85 => exact fun _ _ _ h => h
      case hs85 | hf85 | hr85 => kernel_rfl
      case hw85 => rfl
      case hy85 => (intro w1 hSw; (try dsimp only at hSw); go_simp; try with_reducible rfl)
      (try simp only [Act.put, List.setIfInBounds_toArray, List.set_cons_zero, List.set_cons_succ])
      refine wpAnyH_ready (fuel := 0) (rs := [12]) (by kernel_rfl) (by simp) ?_
      refine AllReadyH.cons (o := ?oi86) ?hi86 (fun K hK => ?st86) AllReadyH.nil
      case hi86 => rw [List.getElem?_toArray]; rfl
      obtain ⟨g0, g1, g2, g3⟩ := RBox.box hN.out
      have fq := RBox.frozen hN.out
      go_simp
      clear g0 g1 g2 g3 fq
      replace hA := hid (hA.out.st4o (k := W1.heap.size) (by first | omega | (have := RBox.lt hA.out; omega)) (0) (4294967295) (C) (O))
      replace hB := hid (hB.out.st4o (k := W1.heap.size) (by first | omega | (have := RBox.lt hB.out; omega)) (0) (4294967295) (C) (O))
      replace hQ := hid (hQ.out.st4o (k := W1.heap.size) (by first | omega | (have := RBox.lt hQ.out; omega)) (0) (4294967295) (C) (O))
      replace hN := hid (hN.out.st4 (x' := 0) (y' := 4294967295) (z' := C) (u' := O))
      replace hbel := hid (st4_below (W1.heap.size) (0) (4294967295) (C) (O) hbel.out (by omega))
      unfold Go.Proofs.Ytnebjocnbfoafaa.st4 at hbel hA hB hQ hN
      generalize ((((wa11.setCell ⟨W1.heap.size, 0, none⟩ (.int .i64 (0))).setCell ⟨W1.heap.size, 1, none⟩ (.int .i64 (4294967295))).setCell ⟨W1.heap.size, 2, none⟩ (.int .i64 (C))).setCell ⟨W1.heap.size, 3, none⟩ (.int .i64 (O))) = ws12 at *
      refine hK.out _ _ ?hS86 (fun hHeld => ?re86)
      case hS86 => exact ⟨(RBox.box hA.out).c0, (RBox.box hA.out).c1, (RBox.box hA.out).c2, (RBox.box hA.out).c3⟩
      clear hK K
      (try simp only [Act.put, List.setIfInBounds_toArray, List.set_cons_zero, List.set_cons_succ])
      refine wpAnyH_done (by kernel_rfl) ?_ _
      clear hHeld
      generalize ws12 = w2 at *
      have bA2 := hA
      have bB2 := hB
      have bQ2 := hQ
      have bN2 := hN
      have bel2 := hbel
      clear hbel hA hB hQ hN
      obtain ⟨cA0, cA1, cA2, cA3⟩ := RBox.box bA2.out
      obtain ⟨cN0, cN1, cN2, cN3⟩ := RBox.box bN2.out
      have frN := RBox.frozen bN2.out
      go_wp2_with fail
      refine (Ht.out _).mono ?_
      rintro ee w3 ⟨rfl, hb3⟩
      have bA3 := hid (bA2.out.below hb3)
      have bB3 := hid (bB2.out.below hb3)
      have bQ3 := hid (bQ2.out.below hb3)
      have bN3 := hid (bN2.out.below hb3)
      have bel3 := hid (bel2.out.trans (hb3.mono bel2.out.size))
      clear hb3 bA2 bB2 bQ2 bN2 bel2
      clear cA0 cA1 cA2 cA3 cN0 cN1 cN2 cN3
      obtain ⟨g0, g1, g2, g3⟩ := RBox.box bQ3.out
      have fq := RBox.frozen bQ3.out
      have P5 := hid (RBox.box (bQ3.out.st4 (x' := tLo (0) (4294967295) (C)) (y' := tHi (0) (4294967295) (C) (O)) (z' := tB (0) (4294967295) (C)) (u' := tO (0) (4294967295) (O))))
      have B5 := hid (st4_below (w.heap.size + 2) (tLo (0) (4294967295) (C)) (tHi (0) (4294967295) (C) (O)) (tB (0) (4294967295) (C)) (tO (0) (4294967295) (O)) bel3.out (by omega))
      go_wp2_with fail
      obtain ⟨p0, p1, p2, p3⟩ := P5.out
      unfold st4 at p0 p1 p2 p3
      refine bodyPost_ret (v := rv (tLo (0) (4294967295) (C)) (tHi (0) (4294967295) (C) (O)) (tB (0) (4294967295) (C)) (tO (0) (4294967295) (O))) (by simp [results, Try.results48, go_sem, p0, p1, p2, p3]) rfl ⟨rfl, B5.out⟩
    exact AllReadyH.nil
  refine AllReadyH.cons (o := ?oi87) ?hi87 (fun K hK => ?st87) ?mo87
  case hi87 => rw [List.getElem?_toArray]; rfl
  case st87 =>
    go_simp
    have mkNA := RBox.lt hA.out
    have mkNB := RBox.lt hB.out
    have mkNQ := RBox.lt hQ.out
    replace hA := hid (hA.out.alloc (cellsR4 0 0 0 0))
    replace hB := hid (hB.out.alloc (cellsR4 0 0 0 0))
    replace hQ := hid (hQ.out.alloc (cellsR4 0 0 0 0))
    have hN := hid (RBox.new W1 0 0 0 0)
    have mkbN := hbel.out.size
    replace hbel := hid (hbel.out.alloc hbel.out.size (cellsR4 0 0 0 0))
    generalize W1.alloc (cellsR4 0 0 0 0) = wa11 at *
    refine hK.out _ _ ?hS87 (fun hHeld => ?re87)
    case hS87 => exact ⟨(RBox.box hA.out).c0, (RBox.box hA.out).c1, (RBox.box hA.out).c2, (RBox.box hA.out).c3⟩
    clear hK K
    (try simp only [Act.put, List.setIfInBounds_toArray, List.set_cons_zero, List.set_cons_succ])
    refine wpAnyH_ready (fuel := 3) (rs := [4]) (by kernel_rfl) (by simp) ?_
    refine AllReadyH.cons (o := ?oi88) ?hi88 (fun K hK => ?st88) AllReadyH.nil
    case hi88 => rw [List.getElem?_toArray]; rfl
    go_simp
    refine (c_wrapped _ _).mono ?_
    rintro ee wn ⟨rfl, hwn⟩
    rw [hwn]; clear hwn wn
    rw [eC]
    go_wp2_with fail
    refine hK.out _ _ ?hS88 (fun hHeld => ?re88)
    case hS88 => exact ⟨(RBox.box hA.out).c0, (RBox.box hA.out).c1, (RBox.box hA.out).c2, (RBox.box hA.out).c3⟩
    clear hK K
    (try simp only [Act.put, List.setIfInBounds_toArray, List.set_cons_zero, List.set_cons_succ])
    refine wpAnyH_ready (fuel := 2) (rs := [9]) (by kernel_rfl) (by simp) ?_
    refine AllReadyH.cons (o := ?oi89) ?hi89 (fun K hK => ?st89) AllReadyH.nil
    case hi89 => rw [List.getElem?_toArray]; rfl
    go_simp
    refine (c_wrapped _ _).mono ?_
    rintro ee wn ⟨rfl, hwn⟩
    rw [hwn]; clear hwn wn
    rw [eO]
    go_wp2_with fail
    refine hK.out _ _ ?hS89 (fun hHeld => ?re89)
    case hS89 => exact ⟨(RBox.box hA.out).c0, (RBox.box hA.out).c1, (RBox.box hA.out).c2, (RBox.box hA.out).c3⟩
    clear hK K
    (try simp only [Act.put, List.setIfInBounds_toArray, List.set_cons_zero, List.set_cons_succ])
    refine wpAnyH_take (i := 10) (oi := ?oi90) (v := ?v90) (fuel := 1) ?hi90 ?hs90 ?hf90 ?hr90 ?hq90 (Or.inl ⟨?hw90, ?hy90⟩) hHeld ?rest90
    case hi90 => rw [List.getElem?_toArray]; rfl
    case hq90 => exact fun _ _ _ h => h
    case hs90 | hf90 | hr90 => kernel_rfl
    case hw90 => rfl
    case hy90 => (intro w1 hSw; (try dsimp only at hSw); go_simp; try with_reducible rfl)
    (try simp only [Act.put, List.setIfInBounds_toArray, List.set_cons_zero, List.set_cons_succ])
    refine wpAnyH_ready (fuel := 0) (rs := [12]) (by kernel_rfl) (by simp) ?_
    refine AllReadyH.cons (o := ?oi91) ?hi91 (fun K hK => ?st91) AllReadyH.nil
    case hi91 => rw [List.getElem?_toArray]; rfl
    obtain ⟨g0, g1, g2, g3⟩ := RBox.box hN.out
    have fq := RBox.frozen hN.out
    go_simp
    clear g0 g1 g2 g3 fq
    replace hA := hid (hA.out.st4o (k := W1.heap.size) (by first | omega | (have := RBox.lt hA.out; omega)) (0) (4294967295) (C) (O))
    replace hB := hid (hB.out.st4o (k := W1.heap.size) (by first | omega | (have := RBox.lt hB.out; omega)) (0) (4294967295) (C) (O))
    replace hQ := hid (hQ.out.st4o (k := W1.heap.size) (by first | omega | (have := RBox.lt hQ.out; omega)) (0) (4294967295) (C) (O))
    replace hN := hid (hN.out.st4 (x' := 0) (y' := 4294967295) (z' := C) (u' := O))
    replace hbel := hid (st4_below (W1.heap.size) (0) (4294967295) (C) (O) hbel.out (by omega))
    unfold Go.Proofs.Ytnebjocnbfoafaa.st4 at hbel hA hB hQ hN
    generalize ((((wa11.setCell ⟨W1.heap.size, 0, none⟩ (.int .i64 (0))).setCell ⟨W1.heap.size, 1, none⟩ (.int .i64 (4294967295))).setCell ⟨W1.heap.size, 2, none⟩ (.int .i64 (C))).setCell ⟨W1.heap.size, 3, none⟩ (.int .i64 (O))) = ws12 at *
    refine hK.out _ _ ?hS91 (fun hHeld => ?re91)
    case hS91 => exact ⟨(RBox.box hA.out).c0, (RBox.box hA.out).c1, (RBox.box hA.out).c2, (RBox.box hA.out).c3⟩
    clear hK K
    (try simp only [Act.put, List.setIfInBounds_toArray, List.set_cons_zero, List.set_cons_succ])
    refine wpAnyH_done (by kernel_rfl) ?_ _
    clear hHeld
    generalize ws12 = w2 at *
    have bA2 := hA
    have bB2 := hB
    have bQ2 := hQ
    have bN2 := hN
    have bel2 := hbel
    clear hbel hA hB hQ hN
    obtain ⟨cA0, cA1, cA2, cA3⟩ := RBox.box bA2.out
    obtain ⟨cN0, cN1, cN2, cN3⟩ := RBox.box bN2.out
    have frN := RBox.frozen bN2.out
    go_wp2_with fail
    refine (Ht.out _).mono ?_
    rintro ee w3 ⟨rfl, hb3⟩
    have bA3 := hid (bA2.out.below hb3)
    have bB3 := hid (bB2.out.below hb3)
    have bQ3 := hid (bQ2.out.below hb3)
    have bN3 := hid (bN2.out.below hb3)
    have bel3 := hid (bel2.out.trans (hb3.mono bel2.out.size))
    clear hb3 bA2 bB2 bQ2 bN2 bel2
    clear cA0 cA1 cA2 cA3 cN0 cN1 cN2 cN3
    obtain ⟨g0, g1, g2, g3⟩ := RBox.box bQ3.out
    have fq := RBox.frozen bQ3.out
    have P5 := hid (RBox.box (bQ3.out.st4 (x' := tLo (0) (4294967295) (C)) (y' := tHi (0) (4294967295) (C) (O)) (z' := tB (0) (4294967295) (C)) (u' := tO (0) (4294967295) (O))))
    have B5 := hid (st4_below (w.heap.size + 2) (tLo (0) (4294967295) (C)) (tHi (0) (4294967295) (C) (O)) (tB (0) (4294967295) (C)) (tO (0) (4294967295) (O)) bel3.out (by omega))
    go_wp2_with fail
    obtain ⟨p0, p1, p2, p3⟩ := P5.out
    unfold st4 at p0 p1 p2 p3
    refine bodyPost_ret (v := rv (tLo (0) (4294967295) (C)) (tHi (0) (4294967295) (C) (O)) (tB (0) (4294967295) (C)) (tO (0) (4294967295) (O))) (by simp [results, Try.results48, go_sem, p0, p1, p2, p3]) rfl ⟨rfl, B5.out⟩
  exact AllReadyH.nil

set_option maxRecDepth 100000 in
set_option maxHeartbeats 2000000 in
theorem c_add_yes (a b c d e f g h : Nat) {x y : Nat} (w : World) (A : OkN a b c d) (B : OkN e f g h) (X : OfN a b c d x) (Y : OfN e f g h y) (hw : b + f ≤ 4294967295) :
    Calls Try.prog 42 #[rv a b c d, rv e f g h] w fun ee w' => ee = .returned (tv (a + e) (b + f) (sumB c d g h) (sumO c d g h)) ∧ Below w.heap.size w w' := by
  have := A.le
  have := A.hi
  have := B.le
  have := B.hi
  have := A.b
  have := A.o
  have := B.b
  have := B.o
  have x1 : bits .xor .i64 ((c : Int) + g) ((c : Int) + g + d + h) = (((c + g) ^^^ (c + g + d + h) : Nat) : Int) := by
    rw [show (c : Int) + g + d + h = ((c + g + d + h : Nat) : Int) by omega, show (c : Int) + g = ((c + g : Nat) : Int) by omega]
    exact xor_i64 (c + g) (c + g + d + h) (by omega) (by omega)
  have y0 : (c + g) ^^^ (c + g + d + h) < 2 ^ 34 := Nat.xor_lt_two_pow (by omega) (by omega)
  have x2 := or_i64 ((c + g) ^^^ (c + g + d + h)) d (by omega) (by omega)
  have y1 : ((c + g) ^^^ (c + g + d + h)) ||| d < 2 ^ 34 := Nat.or_lt_two_pow y0 (by omega)
  have x3 := or_i64 (((c + g) ^^^ (c + g + d + h)) ||| d) h (by omega) (by omega)
  have eW1 : bits .and .i64 (((((c + g) ^^^ (c + g + d + h)) ||| d ||| h : Nat)) : Int) 4294967295 = ((sumO c d g h : Nat) : Int) := by
    rw [wrapN, sumO, show (4294967295 : Nat) = 2 ^ 32 - 1 from rfl, Nat.and_two_pow_sub_one_eq_mod]
  have eW2 : bits .and .i64 (bits .andNot .i64 ((c : Int) + g) ((sumO c d g h : Nat) : Int)) 4294967295 = ((sumB c d g h : Nat) : Int) := by
    rw [show (c : Int) + g = ((c + g : Nat) : Int) by omega]
    exact andNot_top (c + g) (sumO c d g h) (by omega) (sumO_le _ _ _ _)
  have k1 := add_ok A B
  have k2 := add_of A B X Y
  rw [if_pos hw, if_pos hw] at k1 k2
  have Ht : Hid (∀ w, Calls Try.prog 22 #[rv ((a : Int) + e) ((b : Int) + f) ((sumB c d g h : Nat) : Int) ((sumO c d g h : Nat) : Int)] w fun ee w' => ee = .returned (tv (a + e) (b + f) (sumB c d g h) (sumO c d g h)) ∧ Below w.heap.size w w') := by
    intro w
    have this := tidyI _ _ _ _ k1 k2 w
    rw [show ((a + e : Nat) : Int) = (a : Int) + e by omega, show ((b + f : Nat) : Int) = (b : Int) + f by omega] at this
    exact this
  have q1 : (c : Int) ≤ 4294967295 := by omega
  have q2 : (d : Int) ≤ 4294967295 := by omega
  have q3 : (g : Int) ≤ 4294967295 := by omega
  have q4 : (h : Int) ≤ 4294967295 := by omega
  have q5 : (b : Int) ≤ 4294967295 := by omega
  have q6 : (f : Int) ≤ 4294967295 := by omega
  have q7 : (a : Int) ≤ 4294967295 := by omega
  have q8 : (e : Int) ≤ 4294967295 := by omega
  clear A B X Y k1 k2 y0 y1
  generalize ((c + g) ^^^ (c + g + d + h)) ||| d ||| h = Z3 at *
  generalize ((c + g) ^^^ (c + g + d + h)) ||| d = Z2 at *
  generalize (c + g) ^^^ (c + g + d + h) = Z1 at *
  generalize sumO c d g h = O at *
  generalize sumB c d g h = C at *
  have hw' : (b : Int) + f ≤ 4294967295 := by omega
  clear hw
  have bQ0 := hid ((twoQ w a b c d e f g h).alloc (cellsR4 ((a : Int) + e) ((b : Int) + f) (C : Int) (O : Int)))
  have bel0 := hid ((twoW w a b c d e f g h).alloc (by simp; omega) (cellsR4 ((a : Int) + e) ((b : Int) + f) (C : Int) (O : Int)))
  go_enter Try.func42, Try.ntmps42
  go_wp2_with fail
  refine (c_wrapped _ _).mono ?_
  rintro ee w1 ⟨rfl, hw1⟩
  rw [hw1]; clear hw1 w1
  rw [eW1]
  go_wp2_with fail
  refine (c_wrapped _ _).mono ?_
  rintro ee w1 ⟨rfl, hw1⟩
  rw [hw1]; clear hw1 w1
  rw [eW2]
  go_wp2_with fail
  refine (Ht.out _).mono ?_
  rintro ee w1 ⟨rfl, hb1⟩
  have bQ1 := hid (bQ0.out.below hb1)
  have bel1 := hid (bel0.out.trans (hb1.mono bel0.out.size))
  clear hb1 bQ0 bel0
  obtain ⟨g0, g1, g2, g3⟩ := RBox.box bQ1.out
  have fq := RBox.frozen bQ1.out
  have P5 := hid (RBox.box (bQ1.out.st4 (x' := tLo (a + e) (b + f) (C)) (y' := tHi (a + e) (b + f) (C) (O)) (z' := tB (a + e) (b + f) (C)) (u' := tO (a + e) (b + f) (O))))
  have B5 := hid (st4_below (w.heap.size + 2) (tLo (a + e) (b + f) (C)) (tHi (a + e) (b + f) (C) (O)) (tB (a + e) (b + f) (C)) (tO (a + e) (b + f) (O)) bel1.out (by omega))
  go_wp2_with fail
  obtain ⟨p0, p1, p2, p3⟩ := P5.out
  unfold st4 at p0 p1 p2 p3
  refine bodyPost_ret (v := rv (tLo (a + e) (b + f) (C)) (tHi (a + e) (b + f) (C) (O)) (tB (a + e) (b + f) (C)) (tO (a + e) (b + f) (O))) (by simp [results, Try.results42, go_sem, p0, p1, p2, p3]) rfl ⟨rfl, B5.out⟩

set_option maxRecDepth 100000 in
set_option maxHeartbeats 2000000 in
theorem c_add_wide (a b c d e f g h : Nat) {x y : Nat} (w : World) (A : OkN a b c d) (B : OkN e f g h) (X : OfN a b c d x) (Y : OfN e f g h y) (hw : ¬ b + f ≤ 4294967295) :
    Calls Try.prog 42 #[rv a b c d, rv e f g h] w fun ee w' => ee = .returned (tv (0) (4294967295) (sumB c d g h) (sumO c d g h)) ∧ Below w.heap.size w w' := by
  have := A.le
  have := A.hi
  have := B.le
  have := B.hi
  have := A.b
  have := A.o
  have := B.b
  have := B.o
  have x1 : bits .xor .i64 ((c : Int) + g) ((c : Int) + g + d + h) = (((c + g) ^^^ (c + g + d + h) : Nat) : Int) := by
    rw [show (c : Int) + g + d + h = ((c + g + d + h : Nat) : Int) by omega, show (c : Int) + g = ((c + g : Nat) : Int) by omega]
    exact xor_i64 (c + g) (c + g + d + h) (by omega) (by omega)
  have y0 : (c + g) ^^^ (c + g + d + h) < 2 ^ 34 := Nat.xor_lt_two_pow (by omega) (by omega)
  have x2 := or_i64 ((c + g) ^^^ (c + g + d + h)) d (by omega) (by omega)
  have y1 : ((c + g) ^^^ (c + g + d + h)) ||| d < 2 ^ 34 := Nat.or_lt_two_pow y0 (by omega)
  have x3 := or_i64 (((c + g) ^^^ (c + g + d + h)) ||| d) h (by omega) (by omega)
  have eW1 : bits .and .i64 (((((c + g) ^^^ (c + g + d + h)) ||| d ||| h : Nat)) : Int) 4294967295 = ((sumO c d g h : Nat) : Int) := by
    rw [wrapN, sumO, show (4294967295 : Nat) = 2 ^ 32 - 1 from rfl, Nat.and_two_pow_sub_one_eq_mod]
  have eW2 : bits .and .i64 (bits .andNot .i64 ((c : Int) + g) ((sumO c d g h : Nat) : Int)) 4294967295 = ((sumB c d g h : Nat) : Int) := by
    rw [show (c : Int) + g = ((c + g : Nat) : Int) by omega]
    exact andNot_top (c + g) (sumO c d g h) (by omega) (sumO_le _ _ _ _)
  have k1 := add_ok A B
  have k2 := add_of A B X Y
  rw [if_neg hw, if_neg hw] at k1 k2
  have Ht : Hid (∀ w, Calls Try.prog 22 #[rv 0 4294967295 ((sumB c d g h : Nat) : Int) ((sumO c d g h : Nat) : Int)] w fun ee w' => ee = .returned (tv (0) (4294967295) (sumB c d g h) (sumO c d g h)) ∧ Below w.heap.size w w') := by
    intro w
    have this := tidyI _ _ _ _ k1 k2 w
    exact this
  have q1 : (c : Int) ≤ 4294967295 := by omega
  have q2 : (d : Int) ≤ 4294967295 := by omega
  have q3 : (g : Int) ≤ 4294967295 := by omega
  have q4 : (h : Int) ≤ 4294967295 := by omega
  have q5 : (b : Int) ≤ 4294967295 := by omega
  have q6 : (f : Int) ≤ 4294967295 := by omega
  have q7 : (a : Int) ≤ 4294967295 := by omega
  have q8 : (e : Int) ≤ 4294967295 := by omega
  clear A B X Y k1 k2 y0 y1
  generalize ((c + g) ^^^ (c + g + d + h)) ||| d ||| h = Z3 at *
  generalize ((c + g) ^^^ (c + g + d + h)) ||| d = Z2 at *
  generalize (c + g) ^^^ (c + g + d + h) = Z1 at *
  generalize sumO c d g h = O at *
  generalize sumB c d g h = C at *
  have hw' : (4294967295 : Int) < (b : Int) + f := by omega
  clear hw
  have bQ0 := hid ((twoQ w a b c d e f g h).alloc (cellsR4 0 4294967295 (C : Int) (O : Int)))
  have bel0 := hid ((twoW w a b c d e f g h).alloc (by simp; omega) (cellsR4 0 4294967295 (C : Int) (O : Int)))
  go_enter Try.func42, Try.ntmps42
  go_wp2_with fail
  refine (c_wrapped _ _).mono ?_
  rintro ee w1 ⟨rfl, hw1⟩
  rw [hw1]; clear hw1 w1
  rw [eW1]
  go_wp2_with fail
  refine (c_wrapped _ _).mono ?_
  rintro ee w1 ⟨rfl, hw1⟩
  rw [hw1]; clear hw1 w1
  rw [eW2]
  go_wp2_with fail
  refine (Ht.out _).mono ?_
  rintro ee w1 ⟨rfl, hb1⟩
  have bQ1 := hid (bQ0.out.below hb1)
  have bel1 := hid (bel0.out.trans (hb1.mono bel0.out.size))
  clear hb1 bQ0 bel0
  obtain ⟨g0, g1, g2, g3⟩ := RBox.box bQ1.out
  have fq := RBox.frozen bQ1.out
  have P5 := hid (RBox.box (bQ1.out.st4 (x' := tLo (0) (4294967295) (C)) (y' := tHi (0) (4294967295) (C) (O)) (z' := tB (0) (4294967295) (C)) (u' := tO (0) (4294967295) (O))))
  have B5 := hid (st4_below (w.heap.size + 2) (tLo (0) (4294967295) (C)) (tHi (0) (4294967295) (C) (O)) (tB (0) (4294967295) (C)) (tO (0) (4294967295) (O)) bel1.out (by omega))
  go_wp2_with fail
  obtain ⟨p0, p1, p2, p3⟩ := P5.out
  unfold st4 at p0 p1 p2 p3
  refine bodyPost_ret (v := rv (tLo (0) (4294967295) (C)) (tHi (0) (4294967295) (C) (O)) (tB (0) (4294967295) (C)) (tO (0) (4294967295) (O))) (by simp [results, Try.results42, go_sem, p0, p1, p2, p3]) rfl ⟨rfl, B5.out⟩

end Go.Proofs.Ytnebjocnbfoafaa
