/- Contracts of the specification's shifts of ranges. -/
import Derived.Test.YtnebjocnbfoafaaOC
namespace Go.Proofs.Ytnebjocnbfoafaa
open Go.RowKit
set_option linter.unusedVariables false
set_option linter.unusedSimpArgs false

set_option maxRecDepth 100000 in
set_option maxHeartbeats 2000000 in
theorem s_shr (a b c d S : Nat) (w : World) (A : OkN a b c d) (hS : S < 32) :
    Calls Try.prog 60 #[.int .i64 9, rv a b c d, .int .i64 S] w fun ee w' => ee = .returned (tv (a / 2 ^ S) (b / 2 ^ S) (c / 2 ^ S) (d / 2 ^ S)) ∧ Below w.heap.size w w' := by
  have Ht : Hid (∀ w, Calls Try.prog 28 #[rv ((a : Int) / 2 ^ S) ((b : Int) / 2 ^ S) ((c : Int) / 2 ^ S) ((d : Int) / 2 ^ S)] w fun ee w' => ee = .returned (tv (a / 2 ^ S) (b / 2 ^ S) (c / 2 ^ S) (d / 2 ^ S)) ∧ Below w.heap.size w w') := by
    intro w
    have this := tidyS _ _ _ _ (shr_ok A S) w
    rw [← shr_nat, ← shr_nat, ← shr_nat, ← shr_nat] at this
    exact this
  clear A
  have hS0 : (0 : Int) ≤ S := by omega
  have hS1 : (S : Int) < 32 := by omega
  have bA0 : Hid (RBox ((w.alloc (cellsR4 a b c d)).alloc (cellsR4 0 0 0 0)) w.heap.size a b c d) := oneA w a b c d
  have bQ0 : Hid (RBox ((w.alloc (cellsR4 a b c d)).alloc (cellsR4 0 0 0 0)) (w.heap.size + 1) 0 0 0 0) := oneQ w a b c d
  have bel0 : Hid (Below w.heap.size w ((w.alloc (cellsR4 a b c d)).alloc (cellsR4 0 0 0 0))) := oneW w a b c d
  go_enter Try.func60, Try.ntmps60
  go_wp2_with fail
  generalize (w.alloc (cellsR4 a b c d)).alloc (cellsR4 0 0 0 0) = w0 at *
  obtain ⟨cA0, cA1, cA2, cA3⟩ := RBox.box bA0.out
  refine wp_region_held_drew (S := (fun w' => w'.cell? ⟨w.heap.size, 0, none⟩ = some (.int .i64 (a)) ∧ w'.cell? ⟨w.heap.size, 1, none⟩ = some (.int .i64 (b)) ∧ w'.cell? ⟨w.heap.size, 2, none⟩ = some (.int .i64 (c)) ∧ w'.cell? ⟨w.heap.size, 3, none⟩ = some (.int .i64 (d)))) (by kernel_rfl) (by exact ⟨(RBox.box bA0.out).c0, (RBox.box bA0.out).c1, (RBox.box bA0.out).c2, (RBox.box bA0.out).c3⟩) (fun hHeld => ?_)
  have hA := hid (RBox.drew bA0.out)
  have hQ := hid (RBox.drew bQ0.out)
  have hbel := hid (Below.drew bel0.out)
  clear bA0 bQ0 bel0
  generalize w0.drew = W1 at *
  refine wpAnyH_take (i := 0) (oi := ?oi13) (v := ?v13) (fuel := 18) ?hi13 ?hs13 ?hf13 ?hr13 ?hq13 (Or.inl ⟨?hw13, ?hy13⟩) hHeld ?rest13
  case hi13 => rw [List.getElem?_toArray]; rfl
  case hq13 => exact fun _ _ _ h => h
  case hs13 | hf13 | hr13 => kernel_rfl
  case hw13 => rfl
  case hy13 => (intro w1 hSw; (try dsimp only at hSw); go_simp; try with_reducible rfl)
  (try simp only [Act.put, List.setIfInBounds_toArray, List.set_cons_zero, List.set_cons_succ])
  refine wpAnyH_take (i := 1) (oi := ?oi14) (v := ?v14) (fuel := 17) ?hi14 ?hs14 ?hf14 ?hr14 ?hq14 (Or.inl ⟨?hw14, ?hy14⟩) hHeld ?rest14
  case hi14 => rw [List.getElem?_toArray]; rfl
  case hq14 => exact fun _ _ _ h => h
  case hs14 | hf14 | hr14 => kernel_rfl
  case hw14 => rfl
  case hy14 => (intro w1 hSw; (try dsimp only at hSw); go_simp; try with_reducible rfl)
  (try simp only [Act.put, List.setIfInBounds_toArray, List.set_cons_zero, List.set_cons_succ])
  refine wpAnyH_take (i := 2) (oi := ?oi15) (v := ?v15) (fuel := 16) ?hi15 ?hs15 ?hf15 ?hr15 ?hq15 (Or.inl ⟨?hw15, ?hy15⟩) hHeld ?rest15
  case hi15 => rw [List.getElem?_toArray]; rfl
  case hq15 => exact fun _ _ _ h => h
  case hs15 | hf15 | hr15 => kernel_rfl
  case hw15 => rfl
  case hy15 => (intro w1 hSw; (try dsimp only at hSw); go_simp; try with_reducible rfl)
  (try simp only [Act.put, List.setIfInBounds_toArray, List.set_cons_zero, List.set_cons_succ])
  refine wpAnyH_take (i := 3) (oi := ?oi16) (v := ?v16) (fuel := 15) ?hi16 ?hs16 ?hf16 ?hr16 ?hq16 (Or.inl ⟨?hw16, ?hy16⟩) hHeld ?rest16
  case hi16 => rw [List.getElem?_toArray]; rfl
  case hq16 => exact fun _ _ _ h => h
  case hs16 | hf16 | hr16 => kernel_rfl
  case hw16 => rfl
  case hy16 => (intro w1 hSw; (try dsimp only at hSw); go_simp; try with_reducible rfl)
  (try simp only [Act.put, List.setIfInBounds_toArray, List.set_cons_zero, List.set_cons_succ])
  refine wpAnyH_take (i := 4) (oi := ?oi17) (v := ?v17) (fuel := 14) ?hi17 ?hs17 ?hf17 ?hr17 ?hq17 (Or.inl ⟨?hw17, ?hy17⟩) hHeld ?rest17
  case hi17 => rw [List.getElem?_toArray]; rfl
  case hq17 => exact fun _ _ _ h => h
  case hs17 | hf17 | hr17 => kernel_rfl
  case hw17 => rfl
  case hy17 => (intro w1 hSw; (try dsimp only at hSw); go_simp; try with_reducible rfl)
  (try simp only [Act.put, List.setIfInBounds_toArray, List.set_cons_zero, List.set_cons_succ])
  refine wpAnyH_take (i := 5) (oi := ?oi18) (v := ?v18) (fuel := 13) ?hi18 ?hs18 ?hf18 ?hr18 ?hq18 (Or.inl ⟨?hw18, ?hy18⟩) hHeld ?rest18
  case hi18 => rw [List.getElem?_toArray]; rfl
  case hq18 => exact fun _ _ _ h => h
  case hs18 | hf18 | hr18 => kernel_rfl
  case hw18 => rfl
  case hy18 => (intro w1 hSw; (try dsimp only at hSw); go_simp; try with_reducible rfl)
  (try simp only [Act.put, List.setIfInBounds_toArray, List.set_cons_zero, List.set_cons_succ])
  refine wpAnyH_take (i := 6) (oi := ?oi19) (v := ?v19) (fuel := 12) ?hi19 ?hs19 ?hf19 ?hr19 ?hq19 (Or.inl ⟨?hw19, ?hy19⟩) hHeld ?rest19
  case hi19 => rw [List.getElem?_toArray]; rfl
  case hq19 => exact fun _ _ _ h => h
  case hs19 | hf19 | hr19 => kernel_rfl
  case hw19 => rfl
  case hy19 => (intro w1 hSw; (try dsimp only at hSw); go_simp; try with_reducible rfl)
  (try simp only [Act.put, List.setIfInBounds_toArray, List.set_cons_zero, List.set_cons_succ])
  refine wpAnyH_take (i := 7) (oi := ?oi20) (v := ?v20) (fuel := 11) ?hi20 ?hs20 ?hf20 ?hr20 ?hq20 (Or.inl ⟨?hw20, ?hy20⟩) hHeld ?rest20
  case hi20 => rw [List.getElem?_toArray]; rfl
  case hq20 => exact fun _ _ _ h => h
  case hs20 | hf20 | hr20 => kernel_rfl
  case hw20 => rfl
  case hy20 => (intro w1 hSw; (try dsimp only at hSw); go_simp; try with_reducible rfl)
  (try simp only [Act.put, List.setIfInBounds_toArray, List.set_cons_zero, List.set_cons_succ])
  refine wpAnyH_take (i := 8) (oi := ?oi21) (v := ?v21) (fuel := 10) ?hi21 ?hs21 ?hf21 ?hr21 ?hq21 (Or.inl ⟨?hw21, ?hy21⟩) hHeld ?rest21
  case hi21 => rw [List.getElem?_toArray]; rfl
  case hq21 => exact fun _ _ _ h => h
  case hs21 | hf21 | hr21 => kernel_rfl
  case hw21 => rfl
  case hy21 => (intro w1 hSw; (try dsimp only at hSw); go_simp; try with_reducible rfl)
  (try simp only [Act.put, List.setIfInBounds_toArray, List.set_cons_zero, List.set_cons_succ])
  refine wpAnyH_take (i := 9) (oi := ?oi22) (v := ?v22) (fuel := 9) ?hi22 ?hs22 ?hf22 ?hr22 ?hq22 (Or.inl ⟨?hw22, ?hy22⟩) hHeld ?rest22
  case hi22 => rw [List.getElem?_toArray]; rfl
  case hq22 => exact fun _ _ _ h => h
  case hs22 | hf22 | hr22 => kernel_rfl
  case hw22 => rfl
  case hy22 => (intro w1 hSw; (try dsimp only at hSw); go_simp; try with_reducible rfl)
  (try simp only [Act.put, List.setIfInBounds_toArray, List.set_cons_zero, List.set_cons_succ])
  refine wpAnyH_take (i := 10) (oi := ?oi23) (v := ?v23) (fuel := 8) ?hi23 ?hs23 ?hf23 ?hr23 ?hq23 (Or.inl ⟨?hw23, ?hy23⟩) hHeld ?rest23
  case hi23 => rw [List.getElem?_toArray]; rfl
  case hq23 => exact fun _ _ _ h => h
  case hs23 | hf23 | hr23 => kernel_rfl
  case hw23 => rfl
  case hy23 => (intro w1 hSw; (try dsimp only at hSw); go_simp; try with_reducible rfl)
  (try simp only [Act.put, List.setIfInBounds_toArray, List.set_cons_zero, List.set_cons_succ])
  refine wpAnyH_take (i := 11) (oi := ?oi24) (v := ?v24) (fuel := 7) ?hi24 ?hs24 ?hf24 ?hr24 ?hq24 (Or.inl ⟨?hw24, ?hy24⟩) hHeld ?rest24
  case hi24 => rw [List.getElem?_toArray]; rfl
  case hq24 => exact fun _ _ _ h => h
  case hs24 | hf24 | hr24 => kernel_rfl
  case hw24 => rfl
  case hy24 => (intro w1 hSw; (try dsimp only at hSw); go_simp; try with_reducible rfl)
  (try simp only [Act.put, List.setIfInBounds_toArray, List.set_cons_zero, List.set_cons_succ])
  refine wpAnyH_take (i := 12) (oi := ?oi25) (v := ?v25) (fuel := 6) ?hi25 ?hs25 ?hf25 ?hr25 ?hq25 (Or.inl ⟨?hw25, ?hy25⟩) hHeld ?rest25
  case hi25 => rw [List.getElem?_toArray]; rfl
  case hq25 => exact fun _ _ _ h => h
  case hs25 | hf25 | hr25 => kernel_rfl
  case hw25 => rfl
  case hy25 => (intro w1 hSw; (try dsimp only at hSw); go_simp; try with_reducible rfl)
  (try simp only [Act.put, List.setIfInBounds_toArray, List.set_cons_zero, List.set_cons_succ])
  refine wpAnyH_take (i := 13) (oi := ?oi26) (v := ?v26) (fuel := 5) ?hi26 ?hs26 ?hf26 ?hr26 ?hq26 (Or.inl ⟨?hw26, ?hy26⟩) hHeld ?rest26
  case hi26 => rw [List.getElem?_toArray]; rfl
  case hq26 => exact fun _ _ _ h => h
  case hs26 | hf26 | hr26 => kernel_rfl
  case hw26 => rfl
  case hy26 => (intro w1 hSw; (try dsimp only at hSw); go_simp; try with_reducible rfl)
  (try simp only [Act.put, List.setIfInBounds_toArray, List.set_cons_zero, List.set_cons_succ])
  refine wpAnyH_take (i := 14) (oi := ?oi27) (v := ?v27) (fuel := 4) ?hi27 ?hs27 ?hf27 ?hr27 ?hq27 (Or.inl ⟨?hw27, ?hy27⟩) hHeld ?rest27
  case hi27 => rw [List.getElem?_toArray]; rfl
  case hq27 => exact fun _ _ _ h => h
  case hs27 | hf27 | hr27 => kernel_rfl
  case hw27 => rfl
  case hy27 => (intro w1 hSw; (try dsimp only at hSw); go_simp; try with_reducible rfl)
  (try simp only [Act.put, List.setIfInBounds_toArray, List.set_cons_zero, List.set_cons_succ])
  refine wpAnyH_take (i := 15) (oi := ?oi28) (v := ?v28) (fuel := 3) ?hi28 ?hs28 ?hf28 ?hr28 ?hq28 (Or.inl ⟨?hw28, ?hy28⟩) hHeld ?rest28
  case hi28 => rw [List.getElem?_toArray]; rfl
  case hq28 => exact fun _ _ _ h => h
  case hs28 | hf28 | hr28 => kernel_rfl
  case hw28 => rfl
  case hy28 => (intro w1 hSw; (try dsimp only at hSw); go_simp; try with_reducible rfl)
  (try simp only [Act.put, List.setIfInBounds_toArray, List.set_cons_zero, List.set_cons_succ])
  refine wpAnyH_take (i := 16) (oi := ?oi29) (v := ?v29) (fuel := 2) ?hi29 ?hs29 ?hf29 ?hr29 ?hq29 (Or.inl ⟨?hw29, ?hy29⟩) hHeld ?rest29
  case hi29 => rw [List.getElem?_toArray]; rfl
  case hq29 => exact fun _ _ _ h => h
  case hs29 | hf29 | hr29 => kernel_rfl
  case hw29 => rfl
  case hy29 => (intro w1 hSw; (try dsimp only at hSw); go_simp; try with_reducible rfl)
  (try simp only [Act.put, List.setIfInBounds_toArray, List.set_cons_zero, List.set_cons_succ])
  refine wpAnyH_ready (fuel := 1) (rs := [17]) (by kernel_rfl) (by simp) ?_
  refine AllReadyH.cons (o := ?oi30) ?hi30 (fun K hK => ?st30) AllReadyH.nil
  case hi30 => rw [List.getElem?_toArray]; rfl
  go_simp
  refine (Ht.out _).mono ?_
  rintro ee wr17 ⟨rfl, hbn⟩
  replace hA := hid (hA.out.below hbn)
  replace hQ := hid (hQ.out.below hbn)
  replace hbel := hid (hbel.out.trans (hbn.mono hbel.out.size))
  clear hbn
  go_wp2_with fail
  refine hK.out _ _ ?hS30 (fun hHeld => ?re30)
  case hS30 => exact ⟨(RBox.box hA.out).c0, (RBox.box hA.out).c1, (RBox.box hA.out).c2, (RBox.box hA.out).c3⟩
  clear hK K
  (try simp only [Act.put, List.setIfInBounds_toArray, List.set_cons_zero, List.set_cons_succ])
  refine wpAnyH_ready (fuel := 0) (rs := [18]) (by kernel_rfl) (by simp) ?_
  refine AllReadyH.cons (o := ?oi31) ?hi31 (fun K hK => ?st31) AllReadyH.nil
  case hi31 => rw [List.getElem?_toArray]; rfl
  obtain ⟨g0, g1, g2, g3⟩ := RBox.box hQ.out
  have fq := RBox.frozen hQ.out
  go_simp
  clear g0 g1 g2 g3 fq
  replace hA := hid (hA.out.st4o (k := w.heap.size + 1) (by first | omega | (have := RBox.lt hA.out; omega)) (tLo (a / 2 ^ S) (b / 2 ^ S) (c / 2 ^ S)) (tHi (a / 2 ^ S) (b / 2 ^ S) (c / 2 ^ S) (d / 2 ^ S)) (tB (a / 2 ^ S) (b / 2 ^ S) (c / 2 ^ S)) (tO (a / 2 ^ S) (b / 2 ^ S) (d / 2 ^ S)))
  replace hQ := hid (hQ.out.st4 (x' := tLo (a / 2 ^ S) (b / 2 ^ S) (c / 2 ^ S)) (y' := tHi (a / 2 ^ S) (b / 2 ^ S) (c / 2 ^ S) (d / 2 ^ S)) (z' := tB (a / 2 ^ S) (b / 2 ^ S) (c / 2 ^ S)) (u' := tO (a / 2 ^ S) (b / 2 ^ S) (d / 2 ^ S)))
  replace hbel := hid (st4_below (w.heap.size + 1) (tLo (a / 2 ^ S) (b / 2 ^ S) (c / 2 ^ S)) (tHi (a / 2 ^ S) (b / 2 ^ S) (c / 2 ^ S) (d / 2 ^ S)) (tB (a / 2 ^ S) (b / 2 ^ S) (c / 2 ^ S)) (tO (a / 2 ^ S) (b / 2 ^ S) (d / 2 ^ S)) hbel.out (by omega))
  unfold Go.Proofs.Ytnebjocnbfoafaa.st4 at hbel hA hQ
  generalize ((((wr17.setCell ⟨w.heap.size + 1, 0, none⟩ (.int .i64 (tLo (a / 2 ^ S) (b / 2 ^ S) (c / 2 ^ S)))).setCell ⟨w.heap.size + 1, 1, none⟩ (.int .i64 (tHi (a / 2 ^ S) (b / 2 ^ S) (c / 2 ^ S) (d / 2 ^ S)))).setCell ⟨w.heap.size + 1, 2, none⟩ (.int .i64 (tB (a / 2 ^ S) (b / 2 ^ S) (c / 2 ^ S)))).setCell ⟨w.heap.size + 1, 3, none⟩ (.int .i64 (tO (a / 2 ^ S) (b / 2 ^ S) (d / 2 ^ S)))) = ws18 at *
  refine hK.out _ _ ?hS31 (fun hHeld => ?re31)
  case hS31 => exact ⟨(RBox.box hA.out).c0, (RBox.box hA.out).c1, (RBox.box hA.out).c2, (RBox.box hA.out).c3⟩
  clear hK K
  (try simp only [Act.put, List.setIfInBounds_toArray, List.set_cons_zero, List.set_cons_succ])
  refine wpAnyH_done (by kernel_rfl) ?_ _
  clear hHeld
  generalize ws18 = w1 at *
  have bA1 := hA
  have bQ1 := hQ
  have bel1 := hbel
  clear hbel hA hQ
  go_wp2_with fail
  obtain ⟨p0, p1, p2, p3⟩ := RBox.box bQ1.out
  refine bodyPost_ret (v := tv (a / 2 ^ S) (b / 2 ^ S) (c / 2 ^ S) (d / 2 ^ S)) (by simp [results, Try.results60, go_sem, p0, p1, p2, p3]) rfl ⟨rfl, bel1.out⟩

set_option maxRecDepth 100000 in
set_option maxHeartbeats 2000000 in
theorem s_shl_yes (a b c d S : Nat) (w : World) (A : OkN a b c d) (hS : S < 32) (hw : b * 2 ^ S ≤ 4294967295) :
    Calls Try.prog 60 #[.int .i64 8, rv a b c d, .int .i64 S] w fun ee w' => ee = .returned (tv (a * 2 ^ S) (b * 2 ^ S) (c * 2 ^ S % 4294967296) (d * 2 ^ S % 4294967296)) ∧ Below w.heap.size w w' := by
  have := A.le
  have := A.hi
  have := A.b
  have := A.o
  have e1 := shl_nat a S (by omega) hS
  have e2 := shl_nat b S (by omega) hS
  have e3 := shl_nat c S (by omega) hS
  have e4 := shl_nat d S (by omega) hS
  have eC : bits .and .i64 ((c : Int) * 2 ^ S) 4294967295 = ((c * 2 ^ S % 4294967296 : Nat) : Int) := by
    rw [show (c : Int) * 2 ^ S = ((c * 2 ^ S : Nat) : Int) by simp]; exact wrapN _
  have eO : bits .and .i64 ((d : Int) * 2 ^ S) 4294967295 = ((d * 2 ^ S % 4294967296 : Nat) : Int) := by
    rw [show (d : Int) * 2 ^ S = ((d * 2 ^ S : Nat) : Int) by simp]; exact wrapN _
  have z1 : ((a * 2 ^ S : Nat) : Int) = (a : Int) * 2 ^ S := by simp
  have z2 : ((b * 2 ^ S : Nat) : Int) = (b : Int) * 2 ^ S := by simp
  have k1 := shl_ok A S
  rw [if_pos hw, if_pos hw] at k1
  have Ht : Hid (∀ w, Calls Try.prog 28 #[rv ((a : Int) * 2 ^ S) ((b : Int) * 2 ^ S) ((c * 2 ^ S % 4294967296 : Nat) : Int) ((d * 2 ^ S % 4294967296 : Nat) : Int)] w fun ee w' => ee = .returned (tv (a * 2 ^ S) (b * 2 ^ S) (c * 2 ^ S % 4294967296) (d * 2 ^ S % 4294967296)) ∧ Below w.heap.size w w') := by
    intro w
    have this := tidyS _ _ _ _ k1 w
    rw [z1, z2] at this
    exact this
  have hw' : (b : Int) * 2 ^ S ≤ 4294967295 := by rw [← z2]; omega
  clear A k1 z1 z2 hw
  generalize c * 2 ^ S % 4294967296 = C at *
  generalize d * 2 ^ S % 4294967296 = O at *
  have hS0 : (0 : Int) ≤ S := by omega
  have hS1 : (S : Int) < 32 := by omega
  have bA0 : Hid (RBox ((w.alloc (cellsR4 a b c d)).alloc (cellsR4 0 0 0 0)) w.heap.size a b c d) := oneA w a b c d
  have bQ0 : Hid (RBox ((w.alloc (cellsR4 a b c d)).alloc (cellsR4 0 0 0 0)) (w.heap.size + 1) 0 0 0 0) := oneQ w a b c d
  have bel0 : Hid (Below w.heap.size w ((w.alloc (cellsR4 a b c d)).alloc (cellsR4 0 0 0 0))) := oneW w a b c d
  go_enter Try.func60, Try.ntmps60
  go_wp2_with fail
  generalize (w.alloc (cellsR4 a b c d)).alloc (cellsR4 0 0 0 0) = w0 at *
  obtain ⟨cA0, cA1, cA2, cA3⟩ := RBox.box bA0.out
  refine wp_region_held_drew (S := (fun w' => w'.cell? ⟨w.heap.size, 0, none⟩ = some (.int .i64 (a)) ∧ w'.cell? ⟨w.heap.size, 1, none⟩ = some (.int .i64 (b)) ∧ w'.cell? ⟨w.heap.size, 2, none⟩ = some (.int .i64 (c)) ∧ w'.cell? ⟨w.heap.size, 3, none⟩ = some (.int .i64 (d)))) (by kernel_rfl) (by exact ⟨(RBox.box bA0.out).c0, (RBox.box bA0.out).c1, (RBox.box bA0.out).c2, (RBox.box bA0.out).c3⟩) (fun hHeld => ?_)
  have hA := hid (RBox.drew bA0.out)
  have hQ := hid (RBox.drew bQ0.out)
  have hbel := hid (Below.drew bel0.out)
  clear bA0 bQ0 bel0
  generalize w0.drew = W1 at *
  refine wpAnyH_take (i := 1) (oi := ?oi32) (v := ?v32) (fuel := 13) ?hi32 ?hs32 ?hf32 ?hr32 ?hq32 (Or.inl ⟨?hw32, ?hy32⟩) hHeld ?rest32
  case hi32 => rw [List.getElem?_toArray]; rfl
  case hq32 => exact fun _ _ _ h => h
  case hs32 | hf32 | hr32 => kernel_rfl
  case hw32 => rfl
  case hy32 => (intro w1 hSw; (try dsimp only at hSw); go_simp; try with_reducible rfl)
  (try simp only [Act.put, List.setIfInBounds_toArray, List.set_cons_zero, List.set_cons_succ])
  refine wpAnyH_take (i := 2) (oi := ?oi33) (v := ?v33) (fuel := 12) ?hi33 ?hs33 ?hf33 ?hr33 ?hq33 (Or.inl ⟨?hw33, ?hy33⟩) hHeld ?rest33
  case hi33 => rw [List.getElem?_toArray]; rfl
  case hq33 => exact fun _ _ _ h => h
  case hs33 | hf33 | hr33 => kernel_rfl
  case hw33 => rfl
  case hy33 => (intro w1 hSw; (try dsimp only at hSw); go_simp; try with_reducible rfl)
  (try simp only [Act.put, List.setIfInBounds_toArray, List.set_cons_zero, List.set_cons_succ])
  refine wpAnyH_take (i := 3) (oi := ?oi34) (v := ?v34) (fuel := 11) ?hi34 ?hs34 ?hf34 ?hr34 ?hq34 (Or.inl ⟨?hw34, ?hy34⟩) hHeld ?rest34
  case hi34 => rw [List.getElem?_toArray]; rfl
  case hq34 => exact fun _ _ _ h => h
  case hs34 | hf34 | hr34 => kernel_rfl
  case hw34 => rfl
  case hy34 => (intro w1 hSw; (try dsimp only at hSw); go_simp; try with_reducible rfl)
  (try simp only [Act.put, List.setIfInBounds_toArray, List.set_cons_zero, List.set_cons_succ])
  refine wpAnyH_take (i := 4) (oi := ?oi35) (v := ?v35) (fuel := 10) ?hi35 ?hs35 ?hf35 ?hr35 ?hq35 (Or.inl ⟨?hw35, ?hy35⟩) hHeld ?rest35
  case hi35 => rw [List.getElem?_toArray]; rfl
  case hq35 => exact fun _ _ _ h => h
  case hs35 | hf35 | hr35 => kernel_rfl
  case hw35 => rfl
  case hy35 => (intro w1 hSw; (try dsimp only at hSw); go_simp; try with_reducible rfl)
  (try simp only [Act.put, List.setIfInBounds_toArray, List.set_cons_zero, List.set_cons_succ])
  refine wpAnyH_take (i := 6) (oi := ?oi36) (v := ?v36) (fuel := 9) ?hi36 ?hs36 ?hf36 ?hr36 ?hq36 (Or.inl ⟨?hw36, ?hy36⟩) hHeld ?rest36
  case hi36 => rw [List.getElem?_toArray]; rfl
  case hq36 => exact fun _ _ _ h => h
  case hs36 | hf36 | hr36 => kernel_rfl
  case hw36 => rfl
  case hy36 => (intro w1 hSw; (try dsimp only at hSw); go_simp; try with_reducible rfl)
  (try simp only [Act.put, List.setIfInBounds_toArray, List.set_cons_zero, List.set_cons_succ])
  refine wpAnyH_take (i := 7) (oi := ?oi37) (v := ?v37) (fuel := 8) ?hi37 ?hs37 ?hf37 ?hr37 ?hq37 (Or.inl ⟨?hw37, ?hy37⟩) hHeld ?rest37
  case hi37 => rw [List.getElem?_toArray]; rfl
  case hq37 => exact fun _ _ _ h => h
  case hs37 | hf37 | hr37 => kernel_rfl
  case hw37 => rfl
  case hy37 => (intro w1 hSw; (try dsimp only at hSw); go_simp; try with_reducible rfl)
  (try simp only [Act.put, List.setIfInBounds_toArray, List.set_cons_zero, List.set_cons_succ])
  refine wpAnyH_take (i := 8) (oi := ?oi38) (v := ?v38) (fuel := 7) ?hi38 ?hs38 ?hf38 ?hr38 ?hq38 (Or.inl ⟨?hw38, ?hy38⟩) hHeld ?rest38
  case hi38 => rw [List.getElem?_toArray]; rfl
  case hq38 => exact fun _ _ _ h => h
  case hs38 | hf38 | hr38 => kernel_rfl
  case hw38 => rfl
  case hy38 => (intro w1 hSw; (try dsimp only at hSw); go_simp; try with_reducible rfl)
  (try simp only [Act.put, List.setIfInBounds_toArray, List.set_cons_zero, List.set_cons_succ])
  refine wpAnyH_take (i := 9) (oi := ?oi39) (v := ?v39) (fuel := 6) ?hi39 ?hs39 ?hf39 ?hr39 ?hq39 (Or.inl ⟨?hw39, ?hy39⟩) hHeld ?rest39
  case hi39 => rw [List.getElem?_toArray]; rfl
  case hq39 => exact fun _ _ _ h => h
  case hs39 | hf39 | hr39 => kernel_rfl
  case hw39 => rfl
  case hy39 => (intro w1 hSw; (try dsimp only at hSw); go_simp; try with_reducible rfl)
  (try simp only [Act.put, List.setIfInBounds_toArray, List.set_cons_zero, List.set_cons_succ])
  refine wpAnyH_ready (fuel := 5) (rs := [0, 12]) (by kernel_rfl) (by simp) ?_
  refine AllReadyH.cons (o := ?oi40) ?hi40 (fun K hK => ?st40) ?mo40
  case hi40 => rw [List.getElem?_toArray]; rfl
  case st40 =>
    go_simp
    refine (c_l2Top _).mono ?_
    rintro ee wn ⟨rfl, hwn⟩
    rw [hwn]; clear hwn wn
    go_wp2_with fail
    refine hK.out _ _ ?hS40 (fun hHeld => ?re40)
    case hS40 => exact ⟨(RBox.box hA.out).c0, (RBox.box hA.out).c1, (RBox.box hA.out).c2, (RBox.box hA.out).c3⟩
    clear hK K
    (try simp only [Act.put, List.setIfInBounds_toArray, List.set_cons_zero, List.set_cons_succ])
    refine wpAnyH_ready (fuel := 4) (rs := [5, 12]) (by kernel_rfl) (by simp) ?_
    refine AllReadyH.cons (o := ?oi41) ?hi41 (fun K hK => ?st41) ?mo41
    case hi41 => rw [List.getElem?_toArray]; rfl
    case st41 =>
      go_simp
      refine (c_l2Wrap _ _).mono ?_
      rintro ee wn ⟨rfl, hwn⟩
      rw [hwn]; clear hwn wn
      rw [eC]
      go_wp2_with fail
      refine hK.out _ _ ?hS41 (fun hHeld => ?re41)
      case hS41 => exact ⟨(RBox.box hA.out).c0, (RBox.box hA.out).c1, (RBox.box hA.out).c2, (RBox.box hA.out).c3⟩
      clear hK K
      (try simp only [Act.put, List.setIfInBounds_toArray, List.set_cons_zero, List.set_cons_succ])
      refine wpAnyH_ready (fuel := 3) (rs := [10, 12]) (by kernel_rfl) (by simp) ?_
      refine AllReadyH.cons (o := ?oi42) ?hi42 (fun K hK => ?st42) ?mo42
      case hi42 => rw [List.getElem?_toArray]; rfl
      case st42 =>
        go_simp
        refine (c_l2Wrap _ _).mono ?_
        rintro ee wn ⟨rfl, hwn⟩
        rw [hwn]; clear hwn wn
        rw [eO]
        go_wp2_with fail
        refine hK.out _ _ ?hS42 (fun hHeld => ?re42)
        case hS42 => exact ⟨(RBox.box hA.out).c0, (RBox.box hA.out).c1, (RBox.box hA.out).c2, (RBox.box hA.out).c3⟩
        clear hK K
        (try simp only [Act.put, List.setIfInBounds_toArray, List.set_cons_zero, List.set_cons_succ])
        refine wpAnyH_take (i := 11) (oi := ?oi43) (v := ?v43) (fuel := 2) ?hi43 ?hs43 ?hf43 ?hr43 ?hq43 (Or.inl ⟨?hw43, ?hy43⟩) hHeld ?rest43
        case hi43 => rw [List.getElem?_toArray]; rfl
        case hq43 => exact fun _ _ _ h => h
        case hs43 | hf43 | hr43 => kernel_rfl
        case hw43 => rfl
        case hy43 => (intro w1 hSw; (try dsimp only at hSw); go_simp; try with_reducible rfl)
        (try simp only [Act.put, List.setIfInBounds_toArray, List.set_cons_zero, List.set_cons_succ])
        refine wpAnyH_ready (fuel := 1) (rs := [12]) (by kernel_rfl) (by simp) ?_
        refine AllReadyH.cons (o := ?oi44) ?hi44 (fun K hK => ?st44) AllReadyH.nil
        case hi44 => rw [List.getElem?_toArray]; rfl
        go_simp
        have mkNA := RBox.lt hA.out
        have mkNQ := RBox.lt hQ.out
        replace hA := hid (hA.out.alloc (cellsR4 0 0 0 0))
        replace hQ := hid (hQ.out.alloc (cellsR4 0 0 0 0))
        have hN := hid (RBox.new W1 0 0 0 0)
        have mkbN := hbel.out.size
        replace hbel := hid (hbel.out.alloc hbel.out.size (cellsR4 0 0 0 0))
        generalize W1.alloc (cellsR4 0 0 0 0) = wa12 at *
        refine hK.out _ _ ?hS44 (fun hHeld => ?re44)
        case hS44 => exact ⟨(RBox.box hA.out).c0, (RBox.box hA.out).c1, (RBox.box hA.out).c2, (RBox.box hA.out).c3⟩
        clear hK K
        (try simp only [Act.put, List.setIfInBounds_toArray, List.set_cons_zero, List.set_cons_succ])
        refine wpAnyH_ready (fuel := 0) (rs := [13]) (by kernel_rfl) (by simp) ?_
        refine AllReadyH.cons (o := ?oi45) ?hi45 (fun K hK => ?st45) AllReadyH.nil
        case hi45 => rw [List.getElem?_toArray]; rfl
        obtain ⟨g0, g1, g2, g3⟩ := RBox.box hN.out
        have fq := RBox.frozen hN.out
        go_simp
        clear g0 g1 g2 g3 fq
        replace hA := hid (hA.out.st4o (k := W1.heap.size) (by first | omega | (have := RBox.lt hA.out; omega)) (0) (4294967295) (C) (O))
        replace hQ := hid (hQ.out.st4o (k := W1.heap.size) (by first | omega | (have := RBox.lt hQ.out; omega)) (0) (4294967295) (C) (O))
        replace hN := hid (hN.out.st4 (x' := 0) (y' := 4294967295) (z' := C) (u' := O))
        replace hbel := hid (st4_below (W1.heap.size) (0) (4294967295) (C) (O) hbel.out (by omega))
        unfold Go.Proofs.Ytnebjocnbfoafaa.st4 at hbel hA hQ hN
        generalize ((((wa12.setCell ⟨W1.heap.size, 0, none⟩ (.int .i64 (0))).setCell ⟨W1.heap.size, 1, none⟩ (.int .i64 (4294967295))).setCell ⟨W1.heap.size, 2, none⟩ (.int .i64 (C))).setCell ⟨W1.heap.size, 3, none⟩ (.int .i64 (O))) = ws13 at *
        refine hK.out _ _ ?hS45 (fun hHeld => ?re45)
        case hS45 => exact ⟨(RBox.box hA.out).c0, (RBox.box hA.out).c1, (RBox.box hA.out).c2, (RBox.box hA.out).c3⟩
        clear hK K
        (try simp only [Act.put, List.setIfInBounds_toArray, List.set_cons_zero, List.set_cons_succ])
        refine wpAnyH_done (by kernel_rfl) ?_ _
        clear hHeld
        generalize ws13 = w1 at *
        have bA1 := hA
        have bQ1 := hQ
        have bN1 := hN
        have bel1 := hbel
        clear hbel hA hQ hN
        obtain ⟨cA0, cA1, cA2, cA3⟩ := RBox.box bA1.out
        go_wp2_with fail
        go_quiet ((go_at_call 40; exact Calls.quiet_of_same (c_l2Top _)))
        have bA2 := hid (bA1.out.drewN nq)
        have bQ2 := hid (bQ1.out.drewN nq)
        have bN2 := hid (bN1.out.drewN nq)
        have bel2 := hid (drewN_below bel1.out nq)
        clear bA1 bQ1 bN1 bel1
        generalize w1.drewN nq = w2 at *
        clear cA0 cA1 cA2 cA3
        obtain ⟨cA0, cA1, cA2, cA3⟩ := RBox.box bA2.out
        obtain ⟨cN0, cN1, cN2, cN3⟩ := RBox.box bN2.out
        have frN := RBox.frozen bN2.out
        go_wp2_with fail
        have bA3 := hid (bA2.out.other ⟨W1.heap.size, 0, none⟩ (.int .i64 ((a : Int) * 2 ^ S)) (by show w.heap.size ≠ W1.heap.size; omega))
        have bQ3 := hid (bQ2.out.other ⟨W1.heap.size, 0, none⟩ (.int .i64 ((a : Int) * 2 ^ S)) (by show w.heap.size + 1 ≠ W1.heap.size; omega))
        have bN3 := hid (bN2.out.set0 ((a : Int) * 2 ^ S))
        have bel3 := hid (bel2.out.setCell (p := ⟨W1.heap.size, 0, none⟩) (by show w.heap.size ≤ W1.heap.size; omega) (.int .i64 ((a : Int) * 2 ^ S)))
        clear bA2 bQ2 bN2 bel2
        generalize w2.setCell ⟨W1.heap.size, 0, none⟩ (.int .i64 ((a : Int) * 2 ^ S)) = w3 at *
        clear cA0 cA1 cA2 cA3 cN0 cN1 cN2 cN3
        clear frN
        obtain ⟨cA0, cA1, cA2, cA3⟩ := RBox.box bA3.out
        obtain ⟨cN0, cN1, cN2, cN3⟩ := RBox.box bN3.out
        have frN := RBox.frozen bN3.out
        go_wp2_with fail
        have bA4 := hid (bA3.out.other ⟨W1.heap.size, 1, none⟩ (.int .i64 ((b : Int) * 2 ^ S)) (by show w.heap.size ≠ W1.heap.size; omega))
        have bQ4 := hid (bQ3.out.other ⟨W1.heap.size, 1, none⟩ (.int .i64 ((b : Int) * 2 ^ S)) (by show w.heap.size + 1 ≠ W1.heap.size; omega))
        have bN4 := hid (bN3.out.set1 ((b : Int) * 2 ^ S))
        have bel4 := hid (bel3.out.setCell (p := ⟨W1.heap.size, 1, none⟩) (by show w.heap.size ≤ W1.heap.size; omega) (.int .i64 ((b : Int) * 2 ^ S)))
        clear bA3 bQ3 bN3 bel3
        generalize w3.setCell ⟨W1.heap.size, 1, none⟩ (.int .i64 ((b : Int) * 2 ^ S)) = w4 at *
        clear cA0 cA1 cA2 cA3 cN0 cN1 cN2 cN3
        clear frN
        obtain ⟨cA0, cA1, cA2, cA3⟩ := RBox.box bA4.out
        obtain ⟨cN0, cN1, cN2, cN3⟩ := RBox.box bN4.out
        go_wp2_with fail
        refine (Ht.out _).mono ?_
        rintro ee w5 ⟨rfl, hb5⟩
        have bA5 := hid (bA4.out.below hb5)
        have bQ5 := hid (bQ4.out.below hb5)
        have bN5 := hid (bN4.out.below hb5)
        have bel5 := hid (bel4.out.trans (hb5.mono bel4.out.size))
        clear hb5 bA4 bQ4 bN4 bel4
        clear cA0 cA1 cA2 cA3 cN0 cN1 cN2 cN3
        obtain ⟨g0, g1, g2, g3⟩ := RBox.box bQ5.out
        have fq := RBox.frozen bQ5.out
        have P5 := hid (RBox.box (bQ5.out.st4 (x' := tLo (a * 2 ^ S) (b * 2 ^ S) (C)) (y' := tHi (a * 2 ^ S) (b * 2 ^ S) (C) (O)) (z' := tB (a * 2 ^ S) (b * 2 ^ S) (C)) (u' := tO (a * 2 ^ S) (b * 2 ^ S) (O))))
        have B5 := hid (st4_below (w.heap.size + 1) (tLo (a * 2 ^ S) (b * 2 ^ S) (C)) (tHi (a * 2 ^ S) (b * 2 ^ S) (C) (O)) (tB (a * 2 ^ S) (b * 2 ^ S) (C)) (tO (a * 2 ^ S) (b * 2 ^ S) (O)) bel5.out (by omega))
        go_wp2_with fail
        obtain ⟨p0, p1, p2, p3⟩ := P5.out
        unfold st4 at p0 p1 p2 p3
        refine bodyPost_ret (v := rv (tLo (a * 2 ^ S) (b * 2 ^ S) (C)) (tHi (a * 2 ^ S) (b * 2 ^ S) (C) (O)) (tB (a * 2 ^ S) (b * 2 ^ S) (C)) (tO (a * 2 ^ S) (b * 2 ^ S) (O))) (by simp [results, Try.results60, go_sem, p0, p1, p2, p3]) rfl ⟨rfl, B5.out⟩
      refine AllReadyH.cons (o := ?oi46) ?hi46 (fun K hK => ?st46) ?mo46
      case hi46 => rw [List.getElem?_toArray]; rfl
      case st46 =>
        go_simp
        have mkNA := RBox.lt hA.out
        have mkNQ := RBox.lt hQ.out
        replace hA := hid (hA.out.alloc (cellsR4 0 0 0 0))
        replace hQ := hid (hQ.out.alloc (cellsR4 0 0 0 0))
        have hN := hid (RBox.new W1 0 0 0 0)
        have mkbN := hbel.out.size
        replace hbel := hid (hbel.out.alloc hbel.out.size (cellsR4 0 0 0 0))
        generalize W1.alloc (cellsR4 0 0 0 0) = wa12 at *
        refine hK.out _ _ ?hS46 (fun hHeld => ?re46)
        case hS46 => exact ⟨(RBox.box hA.out).c0, (RBox.box hA.out).c1, (RBox.box hA.out).c2, (RBox.box hA.out).c3⟩
        clear hK K
        (try simp only [Act.put, List.setIfInBounds_toArray, List.set_cons_zero, List.set_cons_succ])
        refine wpAnyH_ready (fuel := 2) (rs := [10]) (by kernel_rfl) (by simp) ?_
        refine AllReadyH.cons (o := ?oi47) ?hi47 (fun K hK => ?st47) AllReadyH.nil
        case hi47 => rw [List.getElem?_toArray]; rfl
        go_simp
        refine (c_l2Wrap _ _).mono ?_
        rintro ee wn ⟨rfl, hwn⟩
        rw [hwn]; clear hwn wn
        rw [eO]
        go_wp2_with fail
        refine hK.out _ _ ?hS47 (fun hHeld => ?re47)
        case hS47 => exact ⟨(RBox.box hA.out).c0, (RBox.box hA.out).c1, (RBox.box hA.out).c2, (RBox.box hA.out).c3⟩
        clear hK K
        (try simp only [Act.put, List.setIfInBounds_toArray, List.set_cons_zero, List.set_cons_succ])
        refine wpAnyH_take (i := 11) (oi := ?oi48) (v := ?v48) (fuel := 1) ?hi48 ?hs48 ?hf48 ?hr48 ?hq48 (Or.inl ⟨?hw48, ?hy48⟩) hHeld ?rest48
        case hi48 => rw [List.getElem?_toArray]; rfl
        case hq48 => exact fun _ _ _ h => h
        case hs48 | hf48 | hr48 => kernel_rfl
        case hw48 => rfl
        case hy48 => (intro w1 hSw; (try dsimp only at hSw); go_simp; try with_reducible rfl)
        (try simp only [Act.put, List.setIfInBounds_toArray, List.set_cons_zero, List.set_cons_succ])
        refine wpAnyH_ready (fuel := 0) (rs := [13]) (by kernel_rfl) (by simp) ?_
        refine AllReadyH.cons (o := ?oi49) ?hi49 (fun K hK => ?st49) AllReadyH.nil
        case hi49 => rw [List.getElem?_toArray]; rfl
        obtain ⟨g0, g1, g2, g3⟩ := RBox.box hN.out
        have fq := RBox.frozen hN.out
        go_simp
        clear g0 g1 g2 g3 fq
        replace hA := hid (hA.out.st4o (k := W1.heap.size) (by first | omega | (have := RBox.lt hA.out; omega)) (0) (4294967295) (C) (O))
        replace hQ := hid (hQ.out.st4o (k := W1.heap.size) (by first | omega | (have := RBox.lt hQ.out; omega)) (0) (4294967295) (C) (O))
        replace hN := hid (hN.out.st4 (x' := 0) (y' := 4294967295) (z' := C) (u' := O))
        replace hbel := hid (st4_below (W1.heap.size) (0) (4294967295) (C) (O) hbel.out (by omega))
        unfold Go.Proofs.Ytnebjocnbfoafaa.st4 at hbel hA hQ hN
        generalize ((((wa12.setCell ⟨W1.heap.size, 0, none⟩ (.int .i64 (0))).setCell ⟨W1.heap.size, 1, none⟩ (.int .i64 (4294967295))).setCell ⟨W1.heap.size, 2, none⟩ (.int .i64 (C))).setCell ⟨W1.heap.size, 3, none⟩ (.int .i64 (O))) = ws13 at *
        refine hK.out _ _ ?hS49 (fun hHeld => ?re49)
        case hS49 => exact ⟨(RBox.box hA.out).c0, (RBox.box hA.out).c1, (RBox.box hA.out).c2, (RBox.box hA.out).c3⟩
        clear hK K
        (try simp only [Act.put, List.setIfInBounds_toArray, List.set_cons_zero, List.set_cons_succ])
        refine wpAnyH_done (by kernel_rfl) ?_ _
        clear hHeld
        generalize ws13 = w1 at *
        have bA1 := hA
        have bQ1 := hQ
        have bN1 := hN
        have bel1 := hbel
        clear hbel hA hQ hN
        obtain ⟨cA0, cA1, cA2, cA3⟩ := RBox.box bA1.out
        go_wp2_with fail
        go_quiet ((go_at_call 40; exact Calls.quiet_of_same (c_l2Top _)))
        have bA2 := hid (bA1.out.drewN nq)
        have bQ2 := hid (bQ1.out.drewN nq)
        have bN2 := hid (bN1.out.drewN nq)
        have bel2 := hid (drewN_below bel1.out nq)
        clear bA1 bQ1 bN1 bel1
        generalize w1.drewN nq = w2 at *
        clear cA0 cA1 cA2 cA3
        obtain ⟨cA0, cA1, cA2, cA3⟩ := RBox.box bA2.out
        obtain ⟨cN0, cN1, cN2, cN3⟩ := RBox.box bN2.out
        have frN := RBox.frozen bN2.out
        go_wp2_with fail
        have bA3 := hid (bA2.out.other ⟨W1.heap.size, 0, none⟩ (.int .i64 ((a : Int) * 2 ^ S)) (by show w.heap.size ≠ W1.heap.size; omega))
        have bQ3 := hid (bQ2.out.other ⟨W1.heap.size, 0, none⟩ (.int .i64 ((a : Int) * 2 ^ S)) (by show w.heap.size + 1 ≠ W1.heap.size; omega))
        have bN3 := hid (bN2.out.set0 ((a : Int) * 2 ^ S))
        have bel3 := hid (bel2.out.setCell (p := ⟨W1.heap.size, 0, none⟩) (by show w.heap.size ≤ W1.heap.size; omega) (.int .i64 ((a : Int) * 2 ^ S)))
        clear bA2 bQ2 bN2 bel2
        generalize w2.setCell ⟨W1.heap.size, 0, none⟩ (.int .i64 ((a : Int) * 2 ^ S)) = w3 at *
        clear cA0 cA1 cA2 cA3 cN0 cN1 cN2 cN3
        clear frN
        obtain ⟨cA0, cA1, cA2, cA3⟩ := RBox.box bA3.out
        obtain ⟨cN0, cN1, cN2, cN3⟩ := RBox.box bN3.out
        have frN := RBox.frozen bN3.out
        go_wp2_with fail
        have bA4 := hid (bA3.out.other ⟨W1.heap.size, 1, none⟩ (.int .i64 ((b : Int) * 2 ^ S)) (by show w.heap.size ≠ W1.heap.size; omega))
        have bQ4 := hid (bQ3.out.other ⟨W1.heap.size, 1, none⟩ (.int .i64 ((b : Int) * 2 ^ S)) (by show w.heap.size + 1 ≠ W1.heap.size; omega))
        have bN4 := hid (bN3.out.set1 ((b : Int) * 2 ^ S))
        have bel4 := hid (bel3.out.setCell (p := ⟨W1.heap.size, 1, none⟩) (by show w.heap.size ≤ W1.heap.size; omega) (.int .i64 ((b : Int) * 2 ^ S)))
        clear bA3 bQ3 bN3 bel3
        generalize w3.setCell ⟨W1.heap.size, 1, none⟩ (.int .i64 ((b : Int) * 2 ^ S)) = w4 at *
        clear cA0 cA1 cA2 cA3 cN0 cN1 cN2 cN3
        clear frN
        obtain ⟨cA0, cA1, cA2, cA3⟩ := RBox.box bA4.out
        obtain ⟨cN0, cN1, cN2, cN3⟩ := RBox.box bN4.out
        go_wp2_with fail
        refine (Ht.out _).mono ?_
        rintro ee w5 ⟨rfl, hb5⟩
        have bA5 := hid (bA4.out.below hb5)
        have bQ5 := hid (bQ4.out.below hb5)
        have bN5 := hid (bN4.out.below hb5)
        have bel5 := hid (bel4.out.trans (hb5.mono bel4.out.size))
        clear hb5 bA4 bQ4 bN4 bel4
        clear cA0 cA1 cA2 cA3 cN0 cN1 cN2 cN3
        obtain ⟨g0, g1, g2, g3⟩ := RBox.box bQ5.out
        have fq := RBox.frozen bQ5.out
        have P5 := hid (RBox.box (bQ5.out.st4 (x' := tLo (a * 2 ^ S) (b * 2 ^ S) (C)) (y' := tHi (a * 2 ^ S) (b * 2 ^ S) (C) (O)) (z' := tB (a * 2 ^ S) (b * 2 ^ S) (C)) (u' := tO (a * 2 ^ S) (b * 2 ^ S) (O))))
        have B5 := hid (st4_below (w.heap.size + 1) (tLo (a * 2 ^ S) (b * 2 ^ S) (C)) (tHi (a * 2 ^ S) (b * 2 ^ S) (C) (O)) (tB (a * 2 ^ S) (b * 2 ^ S) (C)) (tO (a * 2 ^ S) (b * 2 ^ S) (O)) bel5.out (by omega))
        go_wp2_with fail
        obtain ⟨p0, p1, p2, p3⟩ := P5.out
        unfold st4 at p0 p1 p2 p3
        refine bodyPost_ret (v := rv (tLo (a * 2 ^ S) (b * 2 ^ S) (C)) (tHi (a * 2 ^ S) (b * 2 ^ S) (C) (O)) (tB (a * 2 ^ S) (b * 2 ^ S) (C)) (tO (a * 2 ^ S) (b * 2 ^ S) (O))) (by simp [results, Try.results60, go_sem, p0, p1, p2, p3]) rfl ⟨rfl, B5.out⟩
      exact AllReadyH.nil
    refine AllReadyH.cons (o := ?oi50) ?hi50 (fun K hK => ?st50) ?mo50
    case hi50 => rw [List.getElem?_toArray]; rfl
    case st50 =>
      go_simp
      have mkNA := RBox.lt hA.out
      have mkNQ := RBox.lt hQ.out
      replace hA := hid (hA.out.alloc (cellsR4 0 0 0 0))
      replace hQ := hid (hQ.out.alloc (cellsR4 0 0 0 0))
      have hN := hid (RBox.new W1 0 0 0 0)
      have mkbN := hbel.out.size
      replace hbel := hid (hbel.out.alloc hbel.out.size (cellsR4 0 0 0 0))
      generalize W1.alloc (cellsR4 0 0 0 0) = wa12 at *
      refine hK.out _ _ ?hS50 (fun hHeld => ?re50)
      case hS50 => exact ⟨(RBox.box hA.out).c0, (RBox.box hA.out).c1, (RBox.box hA.out).c2, (RBox.box hA.out).c3⟩
      clear hK K
      (try simp only [Act.put, List.setIfInBounds_toArray, List.set_cons_zero, List.set_cons_succ])
      refine wpAnyH_ready (fuel := 3) (rs := [5]) (by kernel_rfl) (by simp) ?_
      refine AllReadyH.cons (o := ?oi51) ?hi51 (fun K hK => ?st51) AllReadyH.nil
      case hi51 => rw [List.getElem?_toArray]; rfl
      go_simp
      refine (c_l2Wrap _ _).mono ?_
      rintro ee wn ⟨rfl, hwn⟩
      rw [hwn]; clear hwn wn
      rw [eC]
      go_wp2_with fail
      refine hK.out _ _ ?hS51 (fun hHeld => ?re51)
      case hS51 => exact ⟨(RBox.box hA.out).c0, (RBox.box hA.out).c1, (RBox.box hA.out).c2, (RBox.box hA.out).c3⟩
      clear hK K
      (try simp only [Act.put, List.setIfInBounds_toArray, List.set_cons_zero, List.set_cons_succ])
      refine wpAnyH_ready (fuel := 2) (rs := [10]) (by kernel_rfl) (by simp) ?_
      refine AllReadyH.cons (o := ?oi52) ?hi52 (fun K hK => ?st52) AllReadyH.nil
      case hi52 => rw [List.getElem?_toArray]; rfl
      go_simp
      refine (c_l2Wrap _ _).mono ?_
      rintro ee wn ⟨rfl, hwn⟩
      rw [hwn]; clear hwn wn
      rw [eO]
      go_wp2_with fail
      refine hK.out _ _ ?hS52 (fun hHeld => ?re52)
      case hS52 => exact ⟨(RBox.box hA.out).c0, (RBox.box hA.out).c1, (RBox.box hA.out).c2, (RBox.box hA.out).c3⟩
      clear hK K
      (try simp only [Act.put, List.setIfInBounds_toArray, List.set_cons_zero, List.set_cons_succ])
      refine wpAnyH_take (i := 11) (oi := ?oi53) (v := ?v53) (fuel := 1) ?hi53 ?hs53 ?hf53 ?hr53 ?hq53 (Or.inl ⟨?hw53, ?hy53⟩) hHeld ?rest53
      case hi53 => rw [List.getElem?_toArray]; rfl
      case hq53 => exact fun _ _ _ h => h
      case hs53 | hf53 | hr53 => kernel_rfl
      case hw53 => rfl
      case hy53 => (intro w1 hSw; (try dsimp only at hSw); go_simp; try with_reducible rfl)
      (try simp only [Act.put, List.setIfInBounds_toArray, List.set_cons_zero, List.set_cons_succ])
      refine wpAnyH_ready (fuel := 0) (rs := [13]) (by kernel_rfl) (by simp) ?_
      refine AllReadyH.cons (o := ?oi54) ?hi54 (fun K hK => ?st54) AllReadyH.nil
      case hi54 => rw [List.getElem?_toArray]; rfl
      obtain ⟨g0, g1, g2, g3⟩ := RBox.box hN.out
      have fq := RBox.frozen hN.out
      go_simp
      clear g0 g1 g2 g3 fq
      replace hA := hid (hA.out.st4o (k := W1.heap.size) (by first | omega | (have := RBox.lt hA.out; omega)) (0) (4294967295) (C) (O))
      replace hQ := hid (hQ.out.st4o (k := W1.heap.size) (by first | omega | (have := RBox.lt hQ.out; omega)) (0) (4294967295) (C) (O))
      replace hN := hid (hN.out.st4 (x' := 0) (y' := 4294967295) (z' := C) (u' := O))
      replace hbel := hid (st4_below (W1.heap.size) (0) (4294967295) (C) (O) hbel.out (by omega))
      unfold Go.Proofs.Ytnebjocnbfoafaa.st4 at hbel hA hQ hN
      generalize ((((wa12.setCell ⟨W1.heap.size, 0, none⟩ (.int .i64 (0))).setCell ⟨W1.heap.size, 1, none⟩ (.int .i64 (4294967295))).setCell ⟨W1.heap.size, 2, none⟩ (.int .i64 (C))).setCell ⟨W1.heap.size, 3, none⟩ (.int .i64 (O))) = ws13 at *
      refine hK.out _ _ ?hS54 (fun hHeld => ?re54)
      case hS54 => exact ⟨(RBox.box hA.out).c0, (RBox.box hA.out).c1, (RBox.box hA.out).c2, (RBox.box hA.out).c3⟩
      clear hK K
      (try simp only [Act.put, List.setIfInBounds_toArray, List.set_cons_zero, List.set_cons_succ])
      refine wpAnyH_done (by kernel_rfl) ?_ _
      clear hHeld
      generalize ws13 = w1 at *
      have bA1 := hA
      have bQ1 := hQ
      have bN1 := hN
      have bel1 := hbel
      clear hbel hA hQ hN
      obtain ⟨cA0, cA1, cA2, cA3⟩ := RBox.box bA1.out
      go_wp2_with fail
      go_quiet ((go_at_call 40; exact Calls.quiet_of_same (c_l2Top _)))
      have bA2 := hid (bA1.out.drewN nq)
      have bQ2 := hid (bQ1.out.drewN nq)
      have bN2 := hid (bN1.out.drewN nq)
      have bel2 := hid (drewN_below bel1.out nq)
      clear bA1 bQ1 bN1 bel1
      generalize w1.drewN nq = w2 at *
      clear cA0 cA1 cA2 cA3
      obtain ⟨cA0, cA1, cA2, cA3⟩ := RBox.box bA2.out
      obtain ⟨cN0, cN1, cN2, cN3⟩ := RBox.box bN2.out
      have frN := RBox.frozen bN2.out
      go_wp2_with fail
      have bA3 := hid (bA2.out.other ⟨W1.heap.size, 0, none⟩ (.int .i64 ((a : Int) * 2 ^ S)) (by show w.heap.size ≠ W1.heap.size; omega))
      have bQ3 := hid (bQ2.out.other ⟨W1.heap.size, 0, none⟩ (.int .i64 ((a : Int) * 2 ^ S)) (by show w.heap.size + 1 ≠ W1.heap.size; omega))
      have bN3 := hid (bN2.out.set0 ((a : Int) * 2 ^ S))
      have bel3 := hid (bel2.out.setCell (p := ⟨W1.heap.size, 0, none⟩) (by show w.heap.size ≤ W1.heap.size; omega) (.int .i64 ((a : Int) * 2 ^ S)))
      clear bA2 bQ2 bN2 bel2
      generalize w2.setCell ⟨W1.heap.size, 0, none⟩ (.int .i64 ((a : Int) * 2 ^ S)) = w3 at *
      clear cA0 cA1 cA2 cA3 cN0 cN1 cN2 cN3
      clear frN
      obtain ⟨cA0, cA1, cA2, cA3⟩ := RBox.box bA3.out
      obtain ⟨cN0, cN1, cN2, cN3⟩ := RBox.box bN3.out
      have frN := RBox.frozen bN3.out
      go_wp2_with fail
      have bA4 := hid (bA3.out.other ⟨W1.heap.size, 1, none⟩ (.int .i64 ((b : Int) * 2 ^ S)) (by show w.heap.size ≠ W1.heap.size; omega))
      have bQ4 := hid (bQ3.out.other ⟨W1.heap.size, 1, none⟩ (.int .i64 ((b : Int) * 2 ^ S)) (by show w.heap.size + 1 ≠ W1.heap.size; omega))
      have bN4 := hid (bN3.out.set1 ((b : Int) * 2 ^ S))
      have bel4 := hid (bel3.out.setCell (p := ⟨W1.heap.size, 1, none⟩) (by show w.heap.size ≤ W1.heap.size; omega) (.int .i64 ((b : Int) * 2 ^ S)))
      clear bA3 bQ3 bN3 bel3
      generalize w3.setCell ⟨W1.heap.size, 1, none⟩ (.int .i64 ((b : Int) * 2 ^ S)) = w4 at *
      clear cA0 cA1 cA2 cA3 cN0 cN1 cN2 cN3
      clear frN
      obtain ⟨cA0, cA1, cA2, cA3⟩ := RBox.box bA4.out
      obtain ⟨cN0, cN1, cN2, cN3⟩ := RBox.box bN4.out
      go_wp2_with fail
      refine (Ht.out _).mono ?_
      rintro ee w5 ⟨rfl, hb5⟩
      have bA5 := hid (bA4.out.below hb5)
      have bQ5 := hid (bQ4.out.below hb5)
      have bN5 := hid (bN4.out.below hb5)
      have bel5 := hid (bel4.out.trans (hb5.mono bel4.out.size))
      clear hb5 bA4 bQ4 bN4 bel4
      clear cA0 cA1 cA2 cA3 cN0 cN1 cN2 cN3
      obtain ⟨g0, g1, g2, g3⟩ := RBox.box bQ5.out
      have fq := RBox.frozen bQ5.out
      have P5 := hid (RBox.box (bQ5.out.st4 (x' := tLo (a * 2 ^ S) (b * 2 ^ S) (C)) (y' := tHi (a * 2 ^ S) (b * 2 ^ S) (C) (O)) (z' := tB (a * 2 ^ S) (b * 2 ^ S) (C)) (u' := tO (a * 2 ^ S) (b * 2 ^ S) (O))))
      have B5 := hid (st4_below (w.heap.size + 1) (tLo (a * 2 ^ S) (b * 2 ^ S) (C)) (tHi (a * 2 ^ S) (b * 2 ^ S) (C) (O)) (tB (a * 2 ^ S) (b * 2 ^ S) (C)) (tO (a * 2 ^ S) (b * 2 ^ S) (O)) bel5.out (by omega))
      go_wp2_with fail
      obtain ⟨p0, p1, p2, p3⟩ := P5.out
      unfold st4 at p0 p1 p2 p3
      refine bodyPost_ret (v := rv (tLo (a * 2 ^ S) (b * 2 ^ S) (C)) (tHi (a * 2 ^ S) (b * 2 ^ S) (C) (O)) (tB (a * 2 ^ S) (b * 2 ^ S) (C)) (tO (a * 2 ^ S) (b * 2 ^ S) (O))) (by simp [results, Try.results60, go_sem, p0, p1, p2, p3]) rfl ⟨rfl, B5.out⟩
    exact AllReadyH.nil
  refine AllReadyH.cons (o := ?oi55) ?hi55 (fun K hK => ?st55) ?mo55
  case hi55 => rw [List.getElem?_toArray]; rfl
  case st55 =>
    go_simp
    have mkNA := RBox.lt hA.out
    have mkNQ := RBox.lt hQ.out
    replace hA := hid (hA.out.alloc (cellsR4 0 0 0 0))
    replace hQ := hid (hQ.out.alloc (cellsR4 0 0 0 0))
    have hN := hid (RBox.new W1 0 0 0 0)
    have mkbN := hbel.out.size
    replace hbel := hid (hbel.out.alloc hbel.out.size (cellsR4 0 0 0 0))
    generalize W1.alloc (cellsR4 0 0 0 0) = wa12 at *
    refine hK.out _ _ ?hS55 (fun hHeld => ?re55)
    case hS55 => exact ⟨(RBox.box hA.out).c0, (RBox.box hA.out).c1, (RBox.box hA.out).c2, (RBox.box hA.out).c3⟩
    clear hK K
    (try simp only [Act.put, List.setIfInBounds_toArray, List.set_cons_zero, List.set_cons_succ])
    refine wpAnyH_ready (fuel := 4) (rs := [0]) (by kernel_rfl) (by simp) ?_
    refine AllReadyH.cons (o := ?oi56) ?hi56 (fun K hK => ?st56) AllReadyH.nil
    case hi56 => rw [List.getElem?_toArray]; rfl
    go_simp
    refine (c_l2Top _).mono ?_
    rintro ee wn ⟨rfl, hwn⟩
    rw [hwn]; clear hwn wn
    go_wp2_with fail
    refine hK.out _ _ ?hS56 (fun hHeld => ?re56)
    case hS56 => exact ⟨(RBox.box hA.out).c0, (RBox.box hA.out).c1, (RBox.box hA.out).c2, (RBox.box hA.out).c3⟩
    clear hK K
    (try simp only [Act.put, List.setIfInBounds_toArray, List.set_cons_zero, List.set_cons_succ])
    refine wpAnyH_ready (fuel := 3) (rs := [5]) (by kernel_rfl) (by simp) ?_
    refine AllReadyH.cons (o := ?oi57) ?hi57 (fun K hK => ?st57) AllReadyH.nil
    case hi57 => rw [List.getElem?_toArray]; rfl
    go_simp
    refine (c_l2Wrap _ _).mono ?_
    rintro ee wn ⟨rfl, hwn⟩
    rw [hwn]; clear hwn wn
    rw [eC]
    go_wp2_with fail
    refine hK.out _ _ ?hS57 (fun hHeld => ?re57)
    case hS57 => exact ⟨(RBox.box hA.out).c0, (RBox.box hA.out).c1, (RBox.box hA.out).c2, (RBox.box hA.out).c3⟩
    clear hK K
    (try simp only [Act.put, List.setIfInBounds_toArray, List.set_cons_zero, List.set_cons_succ])
    refine wpAnyH_ready (fuel := 2) (rs := [10]) (by kernel_rfl) (by simp) ?_
    refine AllReadyH.cons (o := ?oi58) ?hi58 (fun K hK => ?st58) AllReadyH.nil
    case hi58 => rw [List.getElem?_toArray]; rfl
    go_simp
    refine (c_l2Wrap _ _).mono ?_
    rintro ee wn ⟨rfl, hwn⟩
    rw [hwn]; clear hwn wn
    rw [eO]
    go_wp2_with fail
    refine hK.out _ _ ?hS58 (fun hHeld => ?re58)
    case hS58 => exact ⟨(RBox.box hA.out).c0, (RBox.box hA.out).c1, (RBox.box hA.out).c2, (RBox.box hA.out).c3⟩
    clear hK K
    (try simp only [Act.put, List.setIfInBounds_toArray, List.set_cons_zero, List.set_cons_succ])
    refine wpAnyH_take (i := 11) (oi := ?oi59) (v := ?v59) (fuel := 1) ?hi59 ?hs59 ?hf59 ?hr59 ?hq59 (Or.inl ⟨?hw59, ?hy59⟩) hHeld ?rest59
    case hi59 => rw [List.getElem?_toArray]; rfl
    case hq59 => exact fun _ _ _ h => h
    case hs59 | hf59 | hr59 => kernel_rfl
    case hw59 => rfl
    case hy59 => (intro w1 hSw; (try dsimp only at hSw); go_simp; try with_reducible rfl)
    (try simp only [Act.put, List.setIfInBounds_toArray, List.set_cons_zero, List.set_cons_succ])
    refine wpAnyH_ready (fuel := 0) (rs := [13]) (by kernel_rfl) (by simp) ?_
    refine AllReadyH.cons (o := ?oi60) ?hi60 (fun K hK => ?st60) AllReadyH.nil
    case hi60 => rw [List.getElem?_toArray]; rfl
    obtain ⟨g0, g1, g2, g3⟩ := RBox.box hN.out
    have fq := RBox.frozen hN.out
    go_simp
    clear g0 g1 g2 g3 fq
    replace hA := hid (hA.out.st4o (k := W1.heap.size) (by first | omega | (have := RBox.lt hA.out; omega)) (0) (4294967295) (C) (O))
    replace hQ := hid (hQ.out.st4o (k := W1.heap.size) (by first | omega | (have := RBox.lt hQ.out; omega)) (0) (4294967295) (C) (O))
    replace hN := hid (hN.out.st4 (x' := 0) (y' := 4294967295) (z' := C) (u' := O))
    replace hbel := hid (st4_below (W1.heap.size) (0) (4294967295) (C) (O) hbel.out (by omega))
    unfold Go.Proofs.Ytnebjocnbfoafaa.st4 at hbel hA hQ hN
    generalize ((((wa12.setCell ⟨W1.heap.size, 0, none⟩ (.int .i64 (0))).setCell ⟨W1.heap.size, 1, none⟩ (.int .i64 (4294967295))).setCell ⟨W1.heap.size, 2, none⟩ (.int .i64 (C))).setCell ⟨W1.heap.size, 3, none⟩ (.int .i64 (O))) = ws13 at *
    refine hK.out _ _ ?hS60 (fun hHeld => ?re60)
    case hS60 => exact ⟨(RBox.box hA.out).c0, (RBox.box hA.out).c1, (RBox.box hA.out).c2, (RBox.box hA.out).c3⟩
    clear hK K
    (try simp only [Act.put, List.setIfInBounds_toArray, List.set_cons_zero, List.set_cons_succ])
    refine wpAnyH_done (by kernel_rfl) ?_ _
    clear hHeld
    generalize ws13 = w1 at *
    have bA1 := hA
    have bQ1 := hQ
    have bN1 := hN
    have bel1 := hbel
    clear hbel hA hQ hN
    obtain ⟨cA0, cA1, cA2, cA3⟩ := RBox.box bA1.out
    go_wp2_with fail
    go_quiet ((go_at_call 40; exact Calls.quiet_of_same (c_l2Top _)))
    have bA2 := hid (bA1.out.drewN nq)
    have bQ2 := hid (bQ1.out.drewN nq)
    have bN2 := hid (bN1.out.drewN nq)
    have bel2 := hid (drewN_below bel1.out nq)
    clear bA1 bQ1 bN1 bel1
    generalize w1.drewN nq = w2 at *
    clear cA0 cA1 cA2 cA3
    obtain ⟨cA0, cA1, cA2, cA3⟩ := RBox.box bA2.out
    obtain ⟨cN0, cN1, cN2, cN3⟩ := RBox.box bN2.out
    have frN := RBox.frozen bN2.out
    go_wp2_with fail
    have bA3 := hid (bA2.out.other ⟨W1.heap.size, 0, none⟩ (.int .i64 ((a : Int) * 2 ^ S)) (by show w.heap.size ≠ W1.heap.size; omega))
    have bQ3 := hid (bQ2.out.other ⟨W1.heap.size, 0, none⟩ (.int .i64 ((a : Int) * 2 ^ S)) (by show w.heap.size + 1 ≠ W1.heap.size; omega))
    have bN3 := hid (bN2.out.set0 ((a : Int) * 2 ^ S))
    have bel3 := hid (bel2.out.setCell (p := ⟨W1.heap.size, 0, none⟩) (by show w.heap.size ≤ W1.heap.size; omega) (.int .i64 ((a : Int) * 2 ^ S)))
    clear bA2 bQ2 bN2 bel2
    generalize w2.setCell ⟨W1.heap.size, 0, none⟩ (.int .i64 ((a : Int) * 2 ^ S)) = w3 at *
    clear cA0 cA1 cA2 cA3 cN0 cN1 cN2 cN3
    clear frN
    obtain ⟨cA0, cA1, cA2, cA3⟩ := RBox.box bA3.out
    obtain ⟨cN0, cN1, cN2, cN3⟩ := RBox.box bN3.out
    have frN := RBox.frozen bN3.out
    go_wp2_with fail
    have bA4 := hid (bA3.out.other ⟨W1.heap.size, 1, none⟩ (.int .i64 ((b : Int) * 2 ^ S)) (by show w.heap.size ≠ W1.heap.size; omega))
    have bQ4 := hid (bQ3.out.other ⟨W1.heap.size, 1, none⟩ (.int .i64 ((b : Int) * 2 ^ S)) (by show w.heap.size + 1 ≠ W1.heap.size; omega))
    have bN4 := hid (bN3.out.set1 ((b : Int) * 2 ^ S))
    have bel4 := hid (bel3.out.setCell (p := ⟨W1.heap.size, 1, none⟩) (by show w.heap.size ≤ W1.heap.size; omega) (.int .i64 ((b : Int) * 2 ^ S)))
    clear bA3 bQ3 bN3 bel3
    generalize w3.setCell ⟨W1.heap.size, 1, none⟩ (.int .i64 ((b : Int) * 2 ^ S)) = w4 at *
    clear cA0 cA1 cA2 cA3 cN0 cN1 cN2 cN3
    clear frN
    obtain ⟨cA0, cA1, cA2, cA3⟩ := RBox.box bA4.out
    obtain ⟨cN0, cN1, cN2, cN3⟩ := RBox.box bN4.out
    go_wp2_with fail
    refine (Ht.out _).mono ?_
    rintro ee w5 ⟨rfl, hb5⟩
    have bA5 := hid (bA4.out.below hb5)
    have bQ5 := hid (bQ4.out.below hb5)
    have bN5 := hid (bN4.out.below hb5)
    have bel5 := hid (bel4.out.trans (hb5.mono bel4.out.size))
    clear hb5 bA4 bQ4 bN4 bel4
    clear cA0 cA1 cA2 cA3 cN0 cN1 cN2 cN3
    obtain ⟨g0, g1, g2, g3⟩ := RBox.box bQ5.out
    have fq := RBox.frozen bQ5.out
    have P5 := hid (RBox.box (bQ5.out.st4 (x' := tLo (a * 2 ^ S) (b * 2 ^ S) (C)) (y' := tHi (a * 2 ^ S) (b * 2 ^ S) (C) (O)) (z' := tB (a * 2 ^ S) (b * 2 ^ S) (C)) (u' := tO (a * 2 ^ S) (b * 2 ^ S) (O))))
    have B5 := hid (st4_below (w.heap.size + 1) (tLo (a * 2 ^ S) (b * 2 ^ S) (C)) (tHi (a * 2 ^ S) (b * 2 ^ S) (C) (O)) (tB (a * 2 ^ S) (b * 2 ^ S) (C)) (tO (a * 2 ^ S) (b * 2 ^ S) (O)) bel5.out (by omega))
    go_wp2_with fail
    obtain ⟨p0, p1, p2, p3⟩ := P5.out
    unfold st4 at p0 p1 p2 p3
    refine bodyPost_ret (v := rv (tLo (a * 2 ^ S) (b * 2 ^ S) (C)) (tHi (a * 2 ^ S) (b * 2 ^ S) (C) (O)) (tB (a * 2 ^ S) (b * 2 ^ S) (C)) (tO (a * 2 ^ S) (b * 2 ^ S) (O))) (by simp [results, Try.results60, go_sem, p0, p1, p2, p3]) rfl ⟨rfl, B5.out⟩
  exact AllReadyH.nil

set_option maxRecDepth 100000 in
set_option maxHeartbeats 2000000 in
theorem s_shl_wide (a b c d S : Nat) (w : World) (A : OkN a b c d) (hS : S < 32) (hw : ¬ b * 2 ^ S ≤ 4294967295) :
    Calls Try.prog 60 #[.int .i64 8, rv a b c d, .int .i64 S] w fun ee w' => ee = .returned (tv (0) (4294967295) (c * 2 ^ S % 4294967296) (d * 2 ^ S % 4294967296)) ∧ Below w.heap.size w w' := by
  have := A.le
  have := A.hi
  have := A.b
  have := A.o
  have e1 := shl_nat a S (by omega) hS
  have e2 := shl_nat b S (by omega) hS
  have e3 := shl_nat c S (by omega) hS
  have e4 := shl_nat d S (by omega) hS
  have eC : bits .and .i64 ((c : Int) * 2 ^ S) 4294967295 = ((c * 2 ^ S % 4294967296 : Nat) : Int) := by
    rw [show (c : Int) * 2 ^ S = ((c * 2 ^ S : Nat) : Int) by simp]; exact wrapN _
  have eO : bits .and .i64 ((d : Int) * 2 ^ S) 4294967295 = ((d * 2 ^ S % 4294967296 : Nat) : Int) := by
    rw [show (d : Int) * 2 ^ S = ((d * 2 ^ S : Nat) : Int) by simp]; exact wrapN _
  have z1 : ((a * 2 ^ S : Nat) : Int) = (a : Int) * 2 ^ S := by simp
  have z2 : ((b * 2 ^ S : Nat) : Int) = (b : Int) * 2 ^ S := by simp
  have k1 := shl_ok A S
  rw [if_neg hw, if_neg hw] at k1
  have Ht : Hid (∀ w, Calls Try.prog 28 #[rv 0 4294967295 ((c * 2 ^ S % 4294967296 : Nat) : Int) ((d * 2 ^ S % 4294967296 : Nat) : Int)] w fun ee w' => ee = .returned (tv (0) (4294967295) (c * 2 ^ S % 4294967296) (d * 2 ^ S % 4294967296)) ∧ Below w.heap.size w w') := by
    intro w
    have this := tidyS _ _ _ _ k1 w
    exact this
  have hw' : ¬ (b : Int) * 2 ^ S ≤ 4294967295 := by rw [← z2]; omega
  clear A k1 z1 z2 hw
  generalize c * 2 ^ S % 4294967296 = C at *
  generalize d * 2 ^ S % 4294967296 = O at *
  have hS0 : (0 : Int) ≤ S := by omega
  have hS1 : (S : Int) < 32 := by omega
  have bA0 : Hid (RBox ((w.alloc (cellsR4 a b c d)).alloc (cellsR4 0 0 0 0)) w.heap.size a b c d) := oneA w a b c d
  have bQ0 : Hid (RBox ((w.alloc (cellsR4 a b c d)).alloc (cellsR4 0 0 0 0)) (w.heap.size + 1) 0 0 0 0) := oneQ w a b c d
  have bel0 : Hid (Below w.heap.size w ((w.alloc (cellsR4 a b c d)).alloc (cellsR4 0 0 0 0))) := oneW w a b c d
  go_enter Try.func60, Try.ntmps60
  go_wp2_with fail
  generalize (w.alloc (cellsR4 a b c d)).alloc (cellsR4 0 0 0 0) = w0 at *
  obtain ⟨cA0, cA1, cA2, cA3⟩ := RBox.box bA0.out
  refine wp_region_held_drew (S := (fun w' => w'.cell? ⟨w.heap.size, 0, none⟩ = some (.int .i64 (a)) ∧ w'.cell? ⟨w.heap.size, 1, none⟩ = some (.int .i64 (b)) ∧ w'.cell? ⟨w.heap.size, 2, none⟩ = some (.int .i64 (c)) ∧ w'.cell? ⟨w.heap.size, 3, none⟩ = some (.int .i64 (d)))) (by kernel_rfl) (by exact ⟨(RBox.box bA0.out).c0, (RBox.box bA0.out).c1, (RBox.box bA0.out).c2, (RBox.box bA0.out).c3⟩) (fun hHeld => ?_)
  have hA := hid (RBox.drew bA0.out)
  have hQ := hid (RBox.drew bQ0.out)
  have hbel := hid (Below.drew bel0.out)
  clear bA0 bQ0 bel0
  generalize w0.drew = W1 at *
  refine wpAnyH_take (i := 1) (oi := ?oi61) (v := ?v61) (fuel := 13) ?hi61 ?hs61 ?hf61 ?hr61 ?hq61 (Or.inl ⟨?hw61, ?hy61⟩) hHeld ?rest61
  case hi61 => rw [List.getElem?_toArray]; rfl
  case hq61 => exact fun _ _ _ h => h
  case hs61 | hf61 | hr61 => kernel_rfl
  case hw61 => rfl
  case hy61 => (intro w1 hSw; (try dsimp only at hSw); go_simp; try with_reducible rfl)
  (try simp only [Act.put, List.setIfInBounds_toArray, List.set_cons_zero, List.set_cons_succ])
  refine wpAnyH_take (i := 2) (oi := ?oi62) (v := ?v62) (fuel := 12) ?hi62 ?hs62 ?hf62 ?hr62 ?hq62 (Or.inl ⟨?hw62, ?hy62⟩) hHeld ?rest62
  case hi62 => rw [List.getElem?_toArray]; rfl
  case hq62 => exact fun _ _ _ h => h
  case hs62 | hf62 | hr62 => kernel_rfl
  case hw62 => rfl
  case hy62 => (intro w1 hSw; (try dsimp only at hSw); go_simp; try with_reducible rfl)
  (try simp only [Act.put, List.setIfInBounds_toArray, List.set_cons_zero, List.set_cons_succ])
  refine wpAnyH_take (i := 3) (oi := ?oi63) (v := ?v63) (fuel := 11) ?hi63 ?hs63 ?hf63 ?hr63 ?hq63 (Or.inl ⟨?hw63, ?hy63⟩) hHeld ?rest63
  case hi63 => rw [List.getElem?_toArray]; rfl
  case hq63 => exact fun _ _ _ h => h
  case hs63 | hf63 | hr63 => kernel_rfl
  case hw63 => rfl
  case hy63 => (intro w1 hSw; (try dsimp only at hSw); go_simp; try with_reducible rfl)
  (try simp only [Act.put, List.setIfInBounds_toArray, List.set_cons_zero, List.set_cons_succ])
  refine wpAnyH_take (i := 4) (oi := ?oi64) (v := ?v64) (fuel := 10) ?hi64 ?hs64 ?hf64 ?hr64 ?hq64 (Or.inl ⟨?hw64, ?hy64⟩) hHeld ?rest64
  case hi64 => rw [List.getElem?_toArray]; rfl
  case hq64 => exact fun _ _ _ h => h
  case hs64 | hf64 | hr64 => kernel_rfl
  case hw64 => rfl
  case hy64 => (intro w1 hSw; (try dsimp only at hSw); go_simp; try with_reducible rfl)
  (try simp only [Act.put, List.setIfInBounds_toArray, List.set_cons_zero, List.set_cons_succ])
  refine wpAnyH_take (i := 6) (oi := ?oi65) (v := ?v65) (fuel := 9) ?hi65 ?hs65 ?hf65 ?hr65 ?hq65 (Or.inl ⟨?hw65, ?hy65⟩) hHeld ?rest65
  case hi65 => rw [List.getElem?_toArray]; rfl
  case hq65 => exact fun _ _ _ h => h
  case hs65 | hf65 | hr65 => kernel_rfl
  case hw65 => rfl
  case hy65 => (intro w1 hSw; (try dsimp only at hSw); go_simp; try with_reducible rfl)
  (try simp only [Act.put, List.setIfInBounds_toArray, List.set_cons_zero, List.set_cons_succ])
  refine wpAnyH_take (i := 7) (oi := ?oi66) (v := ?v66) (fuel := 8) ?hi66 ?hs66 ?hf66 ?hr66 ?hq66 (Or.inl ⟨?hw66, ?hy66⟩) hHeld ?rest66
  case hi66 => rw [List.getElem?_toArray]; rfl
  case hq66 => exact fun _ _ _ h => h
  case hs66 | hf66 | hr66 => kernel_rfl
  case hw66 => rfl
  case hy66 => (intro w1 hSw; (try dsimp only at hSw); go_simp; try with_reducible rfl)
  (try simp only [Act.put, List.setIfInBounds_toArray, List.set_cons_zero, List.set_cons_succ])
  refine wpAnyH_take (i := 8) (oi := ?oi67) (v := ?v67) (fuel := 7) ?hi67 ?hs67 ?hf67 ?hr67 ?hq67 (Or.inl ⟨?hw67, ?hy67⟩) hHeld ?rest67
  case hi67 => rw [List.getElem?_toArray]; rfl
  case hq67 => exact fun _ _ _ h => h
  case hs67 | hf67 | hr67 => kernel_rfl
  case hw67 => rfl
  case hy67 => (intro w1 hSw; (try dsimp only at hSw); go_simp; try with_reducible rfl)
  (try simp only [Act.put, List.setIfInBounds_toArray, List.set_cons_zero, List.set_cons_succ])
  refine wpAnyH_take (i := 9) (oi := ?oi68) (v := ?v68) (fuel := 6) ?hi68 ?hs68 ?hf68 ?hr68 ?hq68 (Or.inl ⟨?hw68, ?hy68⟩) hHeld ?rest68
  case hi68 => rw [List.getElem?_toArray]; rfl
  case hq68 => exact fun _ _ _ h => h
  case hs68 | hf68 | hr68 => kernel_rfl
  case hw68 => rfl
  case hy68 => (intro w1 hSw; (try dsimp only at hSw); go_simp; try with_reducible rfl)
  (try simp only [Act.put, List.setIfInBounds_toArray, List.set_cons_zero, List.set_cons_succ])
  refine wpAnyH_ready (fuel := 5) (rs := [0, 12]) (by kernel_rfl) (by simp) ?_
  refine AllReadyH.cons (o := ?oi69) ?hi69 (fun K hK => ?st69) ?mo69
  case hi69 => rw [List.getElem?_toArray]; rfl
  case st69 =>
    go_simp
    refine (c_l2Top _).mono ?_
    rintro ee wn ⟨rfl, hwn⟩
    rw [hwn]; clear hwn wn
    go_wp2_with fail
    refine hK.out _ _ ?hS69 (fun hHeld => ?re69)
    case hS69 => exact ⟨(RBox.box hA.out).c0, (RBox.box hA.out).c1, (RBox.box hA.out).c2, (RBox.box hA.out).c3⟩
    clear hK K
    (try simp only [Act.put, List.setIfInBounds_toArray, List.set_cons_zero, List.set_cons_succ])
    refine wpAnyH_ready (fuel := 4) (rs := [5, 12]) (by kernel_rfl) (by simp) ?_
    refine AllReadyH.cons (o := ?oi70) ?hi70 (fun K hK => ?st70) ?mo70
    case hi70 => rw [List.getElem?_toArray]; rfl
    case st70 =>
      go_simp
      refine (c_l2Wrap _ _).mono ?_
      rintro ee wn ⟨rfl, hwn⟩
      rw [hwn]; clear hwn wn
      rw [eC]
      go_wp2_with fail
      refine hK.out _ _ ?hS70 (fun hHeld => ?re70)
      case hS70 => exact ⟨(RBox.box hA.out).c0, (RBox.box hA.out).c1, (RBox.box hA.out).c2, (RBox.box hA.out).c3⟩
      clear hK K
      (try simp only [Act.put, List.setIfInBounds_toArray, List.set_cons_zero, List.set_cons_succ])
      refine wpAnyH_ready (fuel := 3) (rs := [10, 12]) (by kernel_rfl) (by simp) ?_
      refine AllReadyH.cons (o := ?oi71) ?hi71 (fun K hK => ?st71) ?mo71
      case hi71 => rw [List.getElem?_toArray]; rfl
      case st71 =>
        go_simp
        refine (c_l2Wrap _ _).mono ?_
        rintro ee wn ⟨rfl, hwn⟩
        rw [hwn]; clear hwn wn
        rw [eO]
        go_wp2_with fail
        refine hK.out _ _ ?hS71 (fun hHeld => ?re71)
        case hS71 => exact ⟨(RBox.box hA.out).c0, (RBox.box hA.out).c1, (RBox.box hA.out).c2, (RBox.box hA.out).c3⟩
        clear hK K
        (try simp only [Act.put, List.setIfInBounds_toArray, List.set_cons_zero, List.set_cons_succ])
        refine wpAnyH_take (i := 11) (oi := ?oi72) (v := ?v72) (fuel := 2) ?hi72 ?hs72 ?hf72 ?hr72 ?hq72 (Or.inl ⟨?hw72, ?hy72⟩) hHeld ?rest72
        case hi72 => rw [List.getElem?_toArray]; rfl
        case hq72 => exact fun _ _ _ h => h
        case hs72 | hf72 | hr72 => kernel_rfl
        case hw72 => rfl
        case hy72 => (intro w1 hSw; (try dsimp only at hSw); go_simp; try with_reducible rfl)
        (try simp only [Act.put, List.setIfInBounds_toArray, List.set_cons_zero, List.set_cons_succ])
        refine wpAnyH_ready (fuel := 1) (rs := [12]) (by kernel_rfl) (by simp) ?_
        refine AllReadyH.cons (o := ?oi73) ?hi73 (fun K hK => ?st73) AllReadyH.nil
        case hi73 => rw [List.getElem?_toArray]; rfl
        go_simp
        have mkNA := RBox.lt hA.out
        have mkNQ := RBox.lt hQ.out
        replace hA := hid (hA.out.alloc (cellsR4 0 0 0 0))
        replace hQ := hid (hQ.out.alloc (cellsR4 0 0 0 0))
        have hN := hid (RBox.new W1 0 0 0 0)
        have mkbN := hbel.out.size
        replace hbel := hid (hbel.out.alloc hbel.out.size (cellsR4 0 0 0 0))
        generalize W1.alloc (cellsR4 0 0 0 0) = wa12 at *
        refine hK.out _ _ ?hS73 (fun hHeld => ?re73)
        case hS73 => exact ⟨(RBox.box hA.out).c0, (RBox.box hA.out).c1, (RBox.box hA.out).c2, (RBox.box hA.out).c3⟩
        clear hK K
        (try simp only [Act.put, List.setIfInBounds_toArray, List.set_cons_zero, List.set_cons_succ])
        refine wpAnyH_ready (fuel := 0) (rs := [13]) (by kernel_rfl) (by simp) ?_
        refine AllReadyH.cons (o := ?oi74) ?hi74 (fun K hK => ?st74) AllReadyH.nil
        case hi74 => rw [List.getElem?_toArray]; rfl
        obtain ⟨g0, g1, g2, g3⟩ := RBox.box hN.out
        have fq := RBox.frozen hN.out
        go_simp
        clear g0 g1 g2 g3 fq
        replace hA := hid (hA.out.st4o (k := W1.heap.size) (by first | omega | (have := RBox.lt hA.out; omega)) (0) (4294967295) (C) (O))
        replace hQ := hid (hQ.out.st4o (k := W1.heap.size) (by first | omega | (have := RBox.lt hQ.out; omega)) (0) (4294967295) (C) (O))
        replace hN := hid (hN.out.st4 (x' := 0) (y' := 4294967295) (z' := C) (u' := O))
        replace hbel := hid (st4_below (W1.heap.size) (0) (4294967295) (C) (O) hbel.out (by omega))
        unfold Go.Proofs.Ytnebjocnbfoafaa.st4 at hbel hA hQ hN
        generalize ((((wa12.setCell ⟨W1.heap.size, 0, none⟩ (.int .i64 (0))).setCell ⟨W1.heap.size, 1, none⟩ (.int .i64 (4294967295))).setCell ⟨W1.heap.size, 2, none⟩ (.int .i64 (C))).setCell ⟨W1.heap.size, 3, none⟩ (.int .i64 (O))) = ws13 at *
        refine hK.out _ _ ?hS74 (fun hHeld => ?re74)
        case hS74 => exact ⟨(RBox.box hA.out).c0, (RBox.box hA.out).c1, (RBox.box hA.out).c2, (RBox.box hA.out).c3⟩
        clear hK K
        (try simp only [Act.put, List.setIfInBounds_toArray, List.set_cons_zero, List.set_cons_succ])
        refine wpAnyH_done (by kernel_rfl) ?_ _
        clear hHeld
        generalize ws13 = w1 at *
        have bA1 := hA
        have bQ1 := hQ
        have bN1 := hN
        have bel1 := hbel
        clear hbel hA hQ hN
        obtain ⟨cA0, cA1, cA2, cA3⟩ := RBox.box bA1.out
        go_wp2_with fail
        go_quiet ((go_at_call 40; exact Calls.quiet_of_same (c_l2Top _)))
        have bA2 := hid (bA1.out.drewN nq)
        have bQ2 := hid (bQ1.out.drewN nq)
        have bN2 := hid (bN1.out.drewN nq)
        have bel2 := hid (drewN_below bel1.out nq)
        clear bA1 bQ1 bN1 bel1
        generalize w1.drewN nq = w2 at *
        clear cA0 cA1 cA2 cA3
        obtain ⟨cA0, cA1, cA2, cA3⟩ := RBox.box bA2.out
        obtain ⟨cN0, cN1, cN2, cN3⟩ := RBox.box bN2.out
        have frN := RBox.frozen bN2.out
        go_wp2_with fail
        refine (Ht.out _).mono ?_
        rintro ee w3 ⟨rfl, hb3⟩
        have bA3 := hid (bA2.out.below hb3)
        have bQ3 := hid (bQ2.out.below hb3)
        have bN3 := hid (bN2.out.below hb3)
        have bel3 := hid (bel2.out.trans (hb3.mono bel2.out.size))
        clear hb3 bA2 bQ2 bN2 bel2
        clear cA0 cA1 cA2 cA3 cN0 cN1 cN2 cN3
        obtain ⟨g0, g1, g2, g3⟩ := RBox.box bQ3.out
        have fq := RBox.frozen bQ3.out
        have P5 := hid (RBox.box (bQ3.out.st4 (x' := tLo (0) (4294967295) (C)) (y' := tHi (0) (4294967295) (C) (O)) (z' := tB (0) (4294967295) (C)) (u' := tO (0) (4294967295) (O))))
        have B5 := hid (st4_below (w.heap.size + 1) (tLo (0) (4294967295) (C)) (tHi (0) (4294967295) (C) (O)) (tB (0) (4294967295) (C)) (tO (0) (4294967295) (O)) bel3.out (by omega))
        go_wp2_with fail
        obtain ⟨p0, p1, p2, p3⟩ := P5.out
        unfold st4 at p0 p1 p2 p3
        refine bodyPost_ret (v := rv (tLo (0) (4294967295) (C)) (tHi (0) (4294967295) (C) (O)) (tB (0) (4294967295) (C)) (tO (0) (4294967295) (O))) (by simp [results, Try.results60, go_sem, p0, p1, p2, p3]) rfl ⟨rfl, B5.out⟩
      refine AllReadyH.cons (o := ?oi75) ?hi75 (fun K hK => ?st75) ?mo75
      case hi75 => rw [List.getElem?_toArray]; rfl
      case st75 =>
        go_simp
        have mkNA := RBox.lt hA.out
        have mkNQ := RBox.lt hQ.out
        replace hA := hid (hA.out.alloc (cellsR4 0 0 0 0))
        replace hQ := hid (hQ.out.alloc (cellsR4 0 0 0 0))
        have hN := hid (RBox.new W1 0 0 0 0)
        have mkbN := hbel.out.size
        replace hbel := hid (hbel.out.alloc hbel.out.size (cellsR4 0 0 0 0))
        generalize W1.alloc (cellsR4 0 0 0 0) = wa12 at *
        refine hK.out _ _ ?hS75 (fun hHeld => ?re75)
        case hS75 => exact ⟨(RBox.box hA.out).c0, (RBox.box hA.out).c1, (RBox.box hA.out).c2, (RBox.box hA.out).c3⟩
        clear hK K
        (try simp only [Act.put, List.setIfInBounds_toArray, List.set_cons_zero, List.set_cons_succ])
        refine wpAnyH_ready (fuel := 2) (rs := [10]) (by kernel_rfl) (by simp) ?_
        refine AllReadyH.cons (o := ?oi76) ?hi76 (fun K hK => ?st76) AllReadyH.nil
        case hi76 => rw [List.getElem?_toArray]; rfl
        go_simp
        refine (c_l2Wrap _ _).mono ?_
        rintro ee wn ⟨rfl, hwn⟩
        rw [hwn]; clear hwn wn
        rw [eO]
        go_wp2_with fail
        refine hK.out _ _ ?hS76 (fun hHeld => ?re76)
        case hS76 => exact ⟨(RBox.box hA.out).c0, (RBox.box hA.out).c1, (RBox.box hA.out).c2, (RBox.box hA.out).c3⟩
        clear hK K
        (try simp only [Act.put, List.setIfInBounds_toArray, List.set_cons_zero, List.set_cons_succ])
        refine wpAnyH_take (i := 11) (oi := ?oi77) (v := ?v77) (fuel := 1) ?hi77 ?hs77 ?hf77 ?hr77 ?hq77 (Or.inl ⟨?hw77, ?hy77⟩) hHeld ?rest77
        case hi77 => rw [List.getElem?_toArray]; rfl
        case hq77 => exact fun _ _ _ h => h
        case hs77 | hf77 | hr77 => kernel_rfl
        case hw77 => rfl
        case hy77 => (intro w1 hSw; (try dsimp only at hSw); go_simp; try with_reducible rfl)
        (try simp only [Act.put, List.setIfInBounds_toArray, List.set_cons_zero, List.set_cons_succ])
        refine wpAnyH_ready (fuel := 0) (rs := [13]) (by kernel_rfl) (by simp) ?_
        refine AllReadyH.cons (o := ?oi78) ?hi78 (fun K hK => ?st78) AllReadyH.nil
        case hi78 => rw [List.getElem?_toArray]; rfl
        obtain ⟨g0, g1, g2, g3⟩ := RBox.box hN.out
        have fq := RBox.frozen hN.out
        go_simp
        clear g0 g1 g2 g3 fq
        replace hA := hid (hA.out.st4o (k := W1.heap.size) (by first | omega | (have := RBox.lt hA.out; omega)) (0) (4294967295) (C) (O))
        replace hQ := hid (hQ.out.st4o (k := W1.heap.size) (by first | omega | (have := RBox.lt hQ.out; omega)) (0) (4294967295) (C) (O))
        replace hN := hid (hN.out.st4 (x' := 0) (y' := 4294967295) (z' := C) (u' := O))
        replace hbel := hid (st4_below (W1.heap.size) (0) (4294967295) (C) (O) hbel.out (by omega))
        unfold Go.Proofs.Ytnebjocnbfoafaa.st4 at hbel hA hQ hN
        generalize ((((wa12.setCell ⟨W1.heap.size, 0, none⟩ (.int .i64 (0))).setCell ⟨W1.heap.size, 1, none⟩ (.int .i64 (4294967295))).setCell ⟨W1.heap.size, 2, none⟩ (.int .i64 (C))).setCell ⟨W1.heap.size, 3, none⟩ (.int .i64 (O))) = ws13 at *
        refine hK.out _ _ ?hS78 (fun hHeld => ?re78)
        case hS78 => exact ⟨(RBox.box hA.out).c0, (RBox.box hA.out).c1, (RBox.box hA.out).c2, (RBox.box hA.out).c3⟩
        clear hK K
        (try simp only [Act.put, List.setIfInBounds_toArray, List.set_cons_zero, List.set_cons_succ])
        refine wpAnyH_done (by kernel_rfl) ?_ _
        clear hHeld
        generalize ws13 = w1 at *
        have bA1 := hA
        have bQ1 := hQ
        have bN1 := hN
        have bel1 := hbel
        clear hbel hA hQ hN
        obtain ⟨cA0, cA1, cA2, cA3⟩ := RBox.box bA1.out
        go_wp2_with fail
        go_quiet ((go_at_call 40; exact Calls.quiet_of_same (c_l2Top _)))
        have bA2 := hid (bA1.out.drewN nq)
        have bQ2 := hid (bQ1.out.drewN nq)
        have bN2 := hid (bN1.out.drewN nq)
        have bel2 := hid (drewN_below bel1.out nq)
        clear bA1 bQ1 bN1 bel1
        generalize w1.drewN nq = w2 at *
        clear cA0 cA1 cA2 cA3
        obtain ⟨cA0, cA1, cA2, cA3⟩ := RBox.box bA2.out
        obtain ⟨cN0, cN1, cN2, cN3⟩ := RBox.box bN2.out
        have frN := RBox.frozen bN2.out
        go_wp2_with fail
        refine (Ht.out _).mono ?_
        rintro ee w3 ⟨rfl, hb3⟩
        have bA3 := hid (bA2.out.below hb3)
        have bQ3 := hid (bQ2.out.below hb3)
        have bN3 := hid (bN2.out.below hb3)
        have bel3 := hid (bel2.out.trans (hb3.mono bel2.out.size))
        clear hb3 bA2 bQ2 bN2 bel2
        clear cA0 cA1 cA2 cA3 cN0 cN1 cN2 cN3
        obtain ⟨g0, g1, g2, g3⟩ := RBox.box bQ3.out
        have fq := RBox.frozen bQ3.out
        have P5 := hid (RBox.box (bQ3.out.st4 (x' := tLo (0) (4294967295) (C)) (y' := tHi (0) (4294967295) (C) (O)) (z' := tB (0) (4294967295) (C)) (u' := tO (0) (4294967295) (O))))
        have B5 := hid (st4_below (w.heap.size + 1) (tLo (0) (4294967295) (C)) (tHi (0) (4294967295) (C) (O)) (tB (0) (4294967295) (C)) (tO (0) (4294967295) (O)) bel3.out (by omega))
        go_wp2_with fail
        obtain ⟨p0, p1, p2, p3⟩ := P5.out
        unfold st4 at p0 p1 p2 p3
        refine bodyPost_ret (v := rv (tLo (0) (4294967295) (C)) (tHi (0) (4294967295) (C) (O)) (tB (0) (4294967295) (C)) (tO (0) (4294967295) (O))) (by simp [results, Try.results60, go_sem, p0, p1, p2, p3]) rfl ⟨rfl, B5.out⟩
      exact AllReadyH.nil
    refine AllReadyH.cons (o := ?oi79) ?hi79 (fun K hK => ?st79) ?mo79
    case hi79 => rw [List.getElem?_toArray]; rfl
    case st79 =>
      go_simp
      have mkNA := RBox.lt hA.out
      have mkNQ := RBox.lt hQ.out
      replace hA := hid (hA.out.alloc (cellsR4 0 0 0 0))
      replace hQ := hid (hQ.out.alloc (cellsR4 0 0 0 0))
      have hN := hid (RBox.new W1 0 0 0 0)
      have mkbN := hbel.out.size
      replace hbel := hid (hbel.out.alloc hbel.out.size (cellsR4 0 0 0 0))
      generalize W1.alloc (cellsR4 0 0 0 0) = wa12 at *
      refine hK.out _ _ ?hS79 (fun hHeld => ?re79)
      case hS79 => exact ⟨(RBox.box hA.out).c0, (RBox.box hA.out).c1, (RBox.box hA.out).c2, (RBox.box hA.out).c3⟩
      clear hK K
      (try simp only [Act.put, List.setIfInBounds_toArray, List.set_cons_zero, List.set_cons_succ])
      refine wpAnyH_ready (fuel := 3) (rs := [5]) (by kernel_rfl) (by simp) ?_
      refine AllReadyH.cons (o := ?oi80) ?hi80 (fun K hK => ?st80) AllReadyH.nil
      case hi80 => rw [List.getElem?_toArray]; rfl
      go_simp
      refine (c_l2Wrap _ _).mono ?_
      rintro ee wn ⟨rfl, hwn⟩
      rw [hwn]; clear hwn wn
      rw [eC]
      go_wp2_with fail
      refine hK.out _ _ ?hS80 (fun hHeld => ?re80)
      case hS80 => exact ⟨(RBox.box hA.out).c0, (RBox.box hA.out).c1, (RBox.box hA.out).c2, (RBox.box hA.out).c3⟩
      clear hK K
      (try simp only [Act.put, List.setIfInBounds_toArray, List.set_cons_zero, List.set_cons_succ])
      refine wpAnyH_ready (fuel := 2) (rs := [10]) (by kernel_rfl) (by simp) ?_
      refine AllReadyH.cons (o := ?oi81) ?hi81 (fun K hK => ?st81) AllReadyH.nil
      case hi81 => rw [List.getElem?_toArray]; rfl
      go_simp
      refine (c_l2Wrap _ _).mono ?_
      rintro ee wn ⟨rfl, hwn⟩
      rw [hwn]; clear hwn wn
      rw [eO]
      go_wp2_with fail
      refine hK.out _ _ ?hS81 (fun hHeld => ?re81)
      case hS81 => exact ⟨(RBox.box hA.out).c0, (RBox.box hA.out).c1, (RBox.box hA.out).c2, (RBox.box hA.out).c3⟩
      clear hK K
      (try simp only [Act.put, List.setIfInBounds_toArray, List.set_cons_zero, List.set_cons_succ])
      refine wpAnyH_take (i := 11) (oi := ?oi82) (v := ?v82) (fuel := 1) ?hi82 ?hs82 ?hf82 ?hr82 ?hq82 (Or.inl ⟨?hw82, ?hy82⟩) hHeld ?rest82
      case hi82 => rw [List.getElem?_toArray]; rfl
      case hq82 => exact fun _ _ _ h => h
      case hs82 | hf82 | hr82 => kernel_rfl
      case hw82 => rfl
      case hy82 => (intro w1 hSw; (try dsimp only at hSw); go_simp; try with_reducible rfl)
      (try simp only [Act.put, List.setIfInBounds_toArray, List.set_cons_zero, List.set_cons_succ])
      refine wpAnyH_ready (fuel := 0) (rs := [13]) (by kernel_rfl) (by simp) ?_
      refine AllReadyH.cons (o := ?oi83) ?hi83 (fun K hK => ?st83) AllReadyH.nil
      case hi83 => rw [List.getElem?_toArray]; rfl
      obtain ⟨g0, g1, g2, g3⟩ := RBox.box hN.out
      have fq := RBox.frozen hN.out
      go_simp
      clear g0 g1 g2 g3 fq
      replace hA := hid (hA.out.st4o (k := W1.heap.size) (by first | omega | (have := RBox.lt hA.out; omega)) (0) (4294967295) (C) (O))
      replace hQ := hid (hQ.out.st4o (k := W1.heap.size) (by first | omega | (have := RBox.lt hQ.out; omega)) (0) (4294967295) (C) (O))
      replace hN := hid (hN.out.st4 (x' := 0) (y' := 4294967295) (z' := C) (u' := O))
      replace hbel := hid (st4_below (W1.heap.size) (0) (4294967295) (C) (O) hbel.out (by omega))
      unfold Go.Proofs.Ytnebjocnbfoafaa.st4 at hbel hA hQ hN
      generalize ((((wa12.setCell ⟨W1.heap.size, 0, none⟩ (.int .i64 (0))).setCell ⟨W1.heap.size, 1, none⟩ (.int .i64 (4294967295))).setCell ⟨W1.heap.size, 2, none⟩ (.int .i64 (C))).setCell ⟨W1.heap.size, 3, none⟩ (.int .i64 (O))) = ws13 at *
      refine hK.out _ _ ?hS83 (fun hHeld => ?re83)
      case hS83 => exact ⟨(RBox.box hA.out).c0, (RBox.box hA.out).c1, (RBox.box hA.out).c2, (RBox.box hA.out).c3⟩
      clear hK K
      (try simp only [Act.put, List.setIfInBounds_toArray, List.set_cons_zero, List.set_cons_succ])
      refine wpAnyH_done (by kernel_rfl) ?_ _
      clear hHeld
      generalize ws13 = w1 at *
      have bA1 := hA
      have bQ1 := hQ
      have bN1 := hN
      have bel1 := hbel
      clear hbel hA hQ hN
      obtain ⟨cA0, cA1, cA2, cA3⟩ := RBox.box bA1.out
      go_wp2_with fail
      go_quiet ((go_at_call 40; exact Calls.quiet_of_same (c_l2Top _)))
      have bA2 := hid (bA1.out.drewN nq)
      have bQ2 := hid (bQ1.out.drewN nq)
      have bN2 := hid (bN1.out.drewN nq)
      have bel2 := hid (drewN_below bel1.out nq)
      clear bA1 bQ1 bN1 bel1
      generalize w1.drewN nq = w2 at *
      clear cA0 cA1 cA2 cA3
      obtain ⟨cA0, cA1, cA2, cA3⟩ := RBox.box bA2.out
      obtain ⟨cN0, cN1, cN2, cN3⟩ := RBox.box bN2.out
      have frN := RBox.frozen bN2.out
      go_wp2_with fail
      refine (Ht.out _).mono ?_
      rintro ee w3 ⟨rfl, hb3⟩
      have bA3 := hid (bA2.out.below hb3)
      have bQ3 := hid (bQ2.out.below hb3)
      have bN3 := hid (bN2.out.below hb3)
      have bel3 := hid (bel2.out.trans (hb3.mono bel2.out.size))
      clear hb3 bA2 bQ2 bN2 bel2
      clear cA0 cA1 cA2 cA3 cN0 cN1 cN2 cN3
      obtain ⟨g0, g1, g2, g3⟩ := RBox.box bQ3.out
      have fq := RBox.frozen bQ3.out
      have P5 := hid (RBox.box (bQ3.out.st4 (x' := tLo (0) (4294967295) (C)) (y' := tHi (0) (4294967295) (C) (O)) (z' := tB (0) (4294967295) (C)) (u' := tO (0) (4294967295) (O))))
      have B5 := hid (st4_below (w.heap.size + 1) (tLo (0) (4294967295) (C)) (tHi (0) (4294967295) (C) (O)) (tB (0) (4294967295) (C)) (tO (0) (4294967295) (O)) bel3.out (by omega))
      go_wp2_with fail
      obtain ⟨p0, p1, p2, p3⟩ := P5.out
      unfold st4 at p0 p1 p2 p3
      refine bodyPost_ret (v := rv (tLo (0) (4294967295) (C)) (tHi (0) (4294967295) (C) (O)) (tB (0) (4294967295) (C)) (tO (0) (4294967295) (O))) (by simp [results, Try.results60, go_sem, p0, p1, p2, p3]) rfl ⟨rfl, B5.out⟩
    exact AllReadyH.nil
  refine AllReadyH.cons (o := ?oi84) ?hi84 (fun K hK => ?st84) ?mo84
  case hi84 => rw [List.getElem?_toArray]; rfl
  case st84 =>
    go_simp
    have mkNA := RBox.lt hA.out
    have mkNQ := RBox.lt hQ.out
    replace hA := hid (hA.out.alloc (cellsR4 0 0 0 0))
    replace hQ := hid (hQ.out.alloc (cellsR4 0 0 0 0))
    have hN := hid (RBox.new W1 0 0 0 0)
    have mkbN := hbel.out.size
    replace hbel := hid (hbel.out.alloc hbel.out.size (cellsR4 0 0 0 0))
    generalize W1.alloc (cellsR4 0 0 0 0) = wa12 at *
    refine hK.out _ _ ?hS84 (fun hHeld => ?re84)
    case hS84 => exact ⟨(RBox.box hA.out).c0, (RBox.box hA.out).c1, (RBox.box hA.out).c2, (RBox.box hA.out).c3⟩
    clear hK K
    (try simp only [Act.put, List.setIfInBounds_toArray, List.set_cons_zero, List.set_cons_succ])
    refine wpAnyH_ready (fuel := 4) (rs := [0]) (by kernel_rfl) (by simp) ?_
    refine AllReadyH.cons (o := ?oi85) ?hi85 (fun K hK => ?st85) AllReadyH.nil
    case hi85 => rw [List.getElem?_toArray]; rfl
    go_simp
    refine (c_l2Top _).mono ?_
    rintro ee wn ⟨rfl, hwn⟩
    rw [hwn]; clear hwn wn
    go_wp2_with fail
    refine hK.out _ _ ?hS85 (fun hHeld => ?re85)
    case hS85 => exact ⟨(RBox.box hA.out).c0, (RBox.box hA.out).c1, (RBox.box hA.out).c2, (RBox.box hA.out).c3⟩
    clear hK K
    (try simp only [Act.put, List.setIfInBounds_toArray, List.set_cons_zero, List.set_cons_succ])
    refine wpAnyH_ready (fuel := 3) (rs := [5]) (by kernel_rfl) (by simp) ?_
    refine AllReadyH.cons (o := ?oi86) ?hi86 (fun K hK => ?st86) AllReadyH.nil
    case hi86 => rw [List.getElem?_toArray]; rfl
    go_simp
    refine (c_l2Wrap _ _).mono ?_
    rintro ee wn ⟨rfl, hwn⟩
    rw [hwn]; clear hwn wn
    rw [eC]
    go_wp2_with fail
    refine hK.out _ _ ?hS86 (fun hHeld => ?re86)
    case hS86 => exact ⟨(RBox.box hA.out).c0, (RBox.box hA.out).c1, (RBox.box hA.out).c2, (RBox.box hA.out).c3⟩
    clear hK K
    (try simp only [Act.put, List.setIfInBounds_toArray, List.set_cons_zero, List.set_cons_succ])
    refine wpAnyH_ready (fuel := 2) (rs := [10]) (by kernel_rfl) (by simp) ?_
    refine AllReadyH.cons (o := ?oi87) ?hi87 (fun K hK => ?st87) AllReadyH.nil
    case hi87 => rw [List.getElem?_toArray]; rfl
    go_simp
    refine (c_l2Wrap _ _).mono ?_
    rintro ee wn ⟨rfl, hwn⟩
    rw [hwn]; clear hwn wn
    rw [eO]
    go_wp2_with fail
    refine hK.out _ _ ?hS87 (fun hHeld => ?re87)
    case hS87 => exact ⟨(RBox.box hA.out).c0, (RBox.box hA.out).c1, (RBox.box hA.out).c2, (RBox.box hA.out).c3⟩
    clear hK K
    (try simp only [Act.put, List.setIfInBounds_toArray, List.set_cons_zero, List.set_cons_succ])
    refine wpAnyH_take (i := 11) (oi := ?oi88) (v := ?v88) (fuel := 1) ?hi88 ?hs88 ?hf88 ?hr88 ?hq88 (Or.inl ⟨?hw88, ?hy88⟩) hHeld ?rest88
    case hi88 => rw [List.getElem?_toArray]; rfl
    case hq88 => exact fun _ _ _ h => h
    case hs88 | hf88 | hr88 => kernel_rfl
    case hw88 => rfl
    case hy88 => (intro w1 hSw; (try dsimp only at hSw); go_simp; try with_reducible rfl)
    (try simp only [Act.put, List.setIfInBounds_toArray, List.set_cons_zero, List.set_cons_succ])
    refine wpAnyH_ready (fuel := 0) (rs := [13]) (by kernel_rfl) (by simp) ?_
    refine AllReadyH.cons (o := ?oi89) ?hi89 (fun K hK => ?st89) AllReadyH.nil
    case hi89 => rw [List.getElem?_toArray]; rfl
    obtain ⟨g0, g1, g2, g3⟩ := RBox.box hN.out
    have fq := RBox.frozen hN.out
    go_simp
    clear g0 g1 g2 g3 fq
    replace hA := hid (hA.out.st4o (k := W1.heap.size) (by first | omega | (have := RBox.lt hA.out; omega)) (0) (4294967295) (C) (O))
    replace hQ := hid (hQ.out.st4o (k := W1.heap.size) (by first | omega | (have := RBox.lt hQ.out; omega)) (0) (4294967295) (C) (O))
    replace hN := hid (hN.out.st4 (x' := 0) (y' := 4294967295) (z' := C) (u' := O))
    replace hbel := hid (st4_below (W1.heap.size) (0) (4294967295) (C) (O) hbel.out (by omega))
    unfold Go.Proofs.Ytnebjocnbfoafaa.st4 at hbel hA hQ hN
    generalize ((((wa12.setCell ⟨W1.heap.size, 0, none⟩ (.int .i64 (0))).setCell ⟨W1.heap.size, 1, none⟩ (.int .i64 (4294967295))).setCell ⟨W1.heap.size, 2, none⟩ (.int .i64 (C))).setCell ⟨W1.heap.size, 3, none⟩ (.int .i64 (O))) = ws13 at *
    refine hK.out _ _ ?hS89 (fun hHeld => ?re89)
    case hS89 => exact ⟨(RBox.box hA.out).c0, (RBox.box hA.out).c1, (RBox.box hA.out).c2, (RBox.box hA.out).c3⟩
    clear hK K
    (try simp only [Act.put, List.setIfInBounds_toArray, List.set_cons_zero, List.set_cons_succ])
    refine wpAnyH_done (by kernel_rfl) ?_ _
    clear hHeld
    generalize ws13 = w1 at *
    have bA1 := hA
    have bQ1 := hQ
    have bN1 := hN
    have bel1 := hbel
    clear hbel hA hQ hN
    obtain ⟨cA0, cA1, cA2, cA3⟩ := RBox.box bA1.out
    go_wp2_with fail
    go_quiet ((go_at_call 40; exact Calls.quiet_of_same (c_l2Top _)))
    have bA2 := hid (bA1.out.drewN nq)
    have bQ2 := hid (bQ1.out.drewN nq)
    have bN2 := hid (bN1.out.drewN nq)
    have bel2 := hid (drewN_below bel1.out nq)
    clear bA1 bQ1 bN1 bel1
    generalize w1.drewN nq = w2 at *
    clear cA0 cA1 cA2 cA3
    obtain ⟨cA0, cA1, cA2, cA3⟩ := RBox.box bA2.out
    obtain ⟨cN0, cN1, cN2, cN3⟩ := RBox.box bN2.out
    have frN := RBox.frozen bN2.out
    go_wp2_with fail
    refine (Ht.out _).mono ?_
    rintro ee w3 ⟨rfl, hb3⟩
    have bA3 := hid (bA2.out.below hb3)
    have bQ3 := hid (bQ2.out.below hb3)
    have bN3 := hid (bN2.out.below hb3)
    have bel3 := hid (bel2.out.trans (hb3.mono bel2.out.size))
    clear hb3 bA2 bQ2 bN2 bel2
    clear cA0 cA1 cA2 cA3 cN0 cN1 cN2 cN3
    obtain ⟨g0, g1, g2, g3⟩ := RBox.box bQ3.out
    have fq := RBox.frozen bQ3.out
    have P5 := hid (RBox.box (bQ3.out.st4 (x' := tLo (0) (4294967295) (C)) (y' := tHi (0) (4294967295) (C) (O)) (z' := tB (0) (4294967295) (C)) (u' := tO (0) (4294967295) (O))))
    have B5 := hid (st4_below (w.heap.size + 1) (tLo (0) (4294967295) (C)) (tHi (0) (4294967295) (C) (O)) (tB (0) (4294967295) (C)) (tO (0) (4294967295) (O)) bel3.out (by omega))
    go_wp2_with fail
    obtain ⟨p0, p1, p2, p3⟩ := P5.out
    unfold st4 at p0 p1 p2 p3
    refine bodyPost_ret (v := rv (tLo (0) (4294967295) (C)) (tHi (0) (4294967295) (C) (O)) (tB (0) (4294967295) (C)) (tO (0) (4294967295) (O))) (by simp [results, Try.results60, go_sem, p0, p1, p2, p3]) rfl ⟨rfl, B5.out⟩
  exact AllReadyH.nil

end Go.Proofs.Ytnebjocnbfoafaa
