/- Contracts of the specification's ranges bit by bit. -/
import Derived.Test.YtnebjocnbfoafaaOC
namespace Go.Proofs.Ytnebjocnbfoafaa
open Go.RowKit
set_option linter.unusedVariables false
set_option linter.unusedSimpArgs false

set_option maxRecDepth 100000 in
set_option maxHeartbeats 2000000 in
theorem s_and_lt (a b c d e f g h : Nat) (w : World) (A : OkN a b c d) (B : OkN e f g h) (hc : f < b) :
    Calls Try.prog 59 #[.int .i64 5, rv a b c d, rv e f g h] w fun ee w' => ee = .returned (tv 0 f (c &&& g) ((c ||| d) &&& (g ||| h) &&& notB (c &&& g))) ∧ Below w.heap.size w w' := by
  have := A.le
  have := A.hi
  have := B.le
  have := B.hi
  have := A.b
  have := A.o
  have := B.b
  have := B.o
  have e1 := and_i64 c g (by omega) (by omega)
  have l1 : c &&& g ≤ 4294967295 := and_le _ A.b
  have e6 := or_i64 c d (by omega) (by omega)
  have e7 := or_i64 g h (by omega) (by omega)
  have l2 : c ||| d ≤ 4294967295 := or_le A.b A.o
  have l3 : g ||| h ≤ 4294967295 := or_le B.b B.o
  have e2 := and_i64 (c ||| d) (g ||| h) (by omega) (by omega)
  have l4 : (c ||| d) &&& (g ||| h) ≤ 4294967295 := and_le _ l2
  have e3 := xor_top (c &&& g) l1
  have l5 := not_le l1
  have e4 := and_i64 ((c ||| d) &&& (g ||| h)) (notB (c &&& g)) (by omega) (by omega)
  have k1 := and_ok A B
  rw [show min b f = f by omega] at k1
  have Ht : Hid (∀ w, Calls Try.prog 28 #[rv 0 f ((c &&& g : Nat) : Int) (((c ||| d) &&& (g ||| h) &&& notB (c &&& g) : Nat) : Int)] w fun ee w' => ee = .returned (tv (0) (f) (c &&& g) ((c ||| d) &&& (g ||| h) &&& notB (c &&& g))) ∧ Below w.heap.size w w') := by
    intro w
    have this := tidyS _ _ _ _ k1 w
    exact this
  have hc' : (f : Int) < b := by omega
  clear A B k1 hc
  generalize (c ||| d) &&& (g ||| h) &&& notB (c &&& g) = O at *
  generalize (c ||| d) &&& (g ||| h) = D1 at *
  generalize c ||| d = D2 at *
  generalize g ||| h = D3 at *
  generalize notB (c &&& g) = NC at *
  generalize c &&& g = C at *
  have bA0 : Hid (RBox ((((w.alloc (cellsR4 a b c d)).alloc (cellsR4 e f g h)).alloc (cellsR4 0 0 0 0)).alloc (cellsR4 0 4294967295 C 0)) w.heap.size a b c d) := (twoA w a b c d e f g h).alloc (cellsR4 0 4294967295 C 0)
  have bB0 : Hid (RBox ((((w.alloc (cellsR4 a b c d)).alloc (cellsR4 e f g h)).alloc (cellsR4 0 0 0 0)).alloc (cellsR4 0 4294967295 C 0)) (w.heap.size + 1) e f g h) := (twoB w a b c d e f g h).alloc (cellsR4 0 4294967295 C 0)
  have bQ0 : Hid (RBox ((((w.alloc (cellsR4 a b c d)).alloc (cellsR4 e f g h)).alloc (cellsR4 0 0 0 0)).alloc (cellsR4 0 4294967295 C 0)) (w.heap.size + 2) 0 0 0 0) := (twoQ w a b c d e f g h).alloc (cellsR4 0 4294967295 C 0)
  have bN0 : Hid (RBox ((((w.alloc (cellsR4 a b c d)).alloc (cellsR4 e f g h)).alloc (cellsR4 0 0 0 0)).alloc (cellsR4 0 4294967295 C 0)) (w.heap.size + 3) 0 4294967295 C 0) := (by have h0 := RBox.new (two w a b c d e f g h) 0 4294967295 C 0; simp only [World.size_alloc] at h0; exact h0)
  have bel0 : Hid (Below w.heap.size w ((((w.alloc (cellsR4 a b c d)).alloc (cellsR4 e f g h)).alloc (cellsR4 0 0 0 0)).alloc (cellsR4 0 4294967295 C 0))) := (twoW w a b c d e f g h).alloc (by simp; omega) (cellsR4 0 4294967295 C 0)
  go_enter Try.func59, Try.ntmps59
  go_wp2_with fail
  refine (c_l2Top _).mono ?_
  rintro ee w1 ⟨rfl, hw1⟩
  rw [hw1]; clear hw1 w1
  go_wp2_with fail
  generalize (((w.alloc (cellsR4 a b c d)).alloc (cellsR4 e f g h)).alloc (cellsR4 0 0 0 0)).alloc (cellsR4 0 4294967295 C 0) = w0 at *
  obtain ⟨cA0, cA1, cA2, cA3⟩ := RBox.box bA0.out
  obtain ⟨cB0, cB1, cB2, cB3⟩ := RBox.box bB0.out
  obtain ⟨cN0, cN1, cN2, cN3⟩ := RBox.box bN0.out
  refine wp_region_held_drew (S := (fun w' => w'.cell? ⟨w.heap.size, 0, none⟩ = some (.int .i64 (a)) ∧ w'.cell? ⟨w.heap.size, 1, none⟩ = some (.int .i64 (b)) ∧ w'.cell? ⟨w.heap.size, 2, none⟩ = some (.int .i64 (c)) ∧ w'.cell? ⟨w.heap.size, 3, none⟩ = some (.int .i64 (d)) ∧ w'.cell? ⟨w.heap.size + 1, 0, none⟩ = some (.int .i64 (e)) ∧ w'.cell? ⟨w.heap.size + 1, 1, none⟩ = some (.int .i64 (f)) ∧ w'.cell? ⟨w.heap.size + 1, 2, none⟩ = some (.int .i64 (g)) ∧ w'.cell? ⟨w.heap.size + 1, 3, none⟩ = some (.int .i64 (h)) ∧ w'.cell? ⟨w.heap.size + 3, 2, none⟩ = some (.int .i64 (C)))) (by kernel_rfl) (by exact ⟨(RBox.box bA0.out).c0, (RBox.box bA0.out).c1, (RBox.box bA0.out).c2, (RBox.box bA0.out).c3, (RBox.box bB0.out).c0, (RBox.box bB0.out).c1, (RBox.box bB0.out).c2, (RBox.box bB0.out).c3, (RBox.box bN0.out).c2⟩) (fun hHeld => ?_)
  have hA := hid (RBox.drew bA0.out)
  have hB := hid (RBox.drew bB0.out)
  have hQ := hid (RBox.drew bQ0.out)
  have hN := hid (RBox.drew bN0.out)
  have hbel := hid (Below.drew bel0.out)
  clear bA0 bB0 bQ0 bN0 bel0
  generalize w0.drew = W1 at *
  refine wpAnyH_take (i := 0) (oi := ?oi90) (v := ?v90) (fuel := 17) ?hi90 ?hs90 ?hf90 ?hr90 ?hq90 (Or.inl ⟨?hw90, ?hy90⟩) hHeld ?rest90
  case hi90 => rw [List.getElem?_toArray]; rfl
  case hq90 => exact fun _ _ _ h => h
  case hs90 | hf90 | hr90 => kernel_rfl
  case hw90 => rfl
  case hy90 => (intro w1 hSw; (try dsimp only at hSw); go_simp; try with_reducible rfl)
  (try simp only [Act.put, List.setIfInBounds_toArray, List.set_cons_zero, List.set_cons_succ])
  refine wpAnyH_take (i := 1) (oi := ?oi91) (v := ?v91) (fuel := 16) ?hi91 ?hs91 ?hf91 ?hr91 ?hq91 (Or.inl ⟨?hw91, ?hy91⟩) hHeld ?rest91
  case hi91 => rw [List.getElem?_toArray]; rfl
  case hq91 => exact fun _ _ _ h => h
  case hs91 | hf91 | hr91 => kernel_rfl
  case hw91 => rfl
  case hy91 => (intro w1 hSw; (try dsimp only at hSw); go_simp; try with_reducible rfl)
  (try simp only [Act.put, List.setIfInBounds_toArray, List.set_cons_zero, List.set_cons_succ])
  refine wpAnyH_take (i := 2) (oi := ?oi92) (v := ?v92) (fuel := 15) ?hi92 ?hs92 ?hf92 ?hr92 ?hq92 (Or.inl ⟨?hw92, ?hy92⟩) hHeld ?rest92
  case hi92 => rw [List.getElem?_toArray]; rfl
  case hq92 => exact fun _ _ _ h => h
  case hs92 | hf92 | hr92 => kernel_rfl
  case hw92 => rfl
  case hy92 => (intro w1 hSw; (try dsimp only at hSw); go_simp; try with_reducible rfl)
  (try simp only [Act.put, List.setIfInBounds_toArray, List.set_cons_zero, List.set_cons_succ])
  refine wpAnyH_take (i := 3) (oi := ?oi93) (v := ?v93) (fuel := 14) ?hi93 ?hs93 ?hf93 ?hr93 ?hq93 (Or.inl ⟨?hw93, ?hy93⟩) hHeld ?rest93
  case hi93 => rw [List.getElem?_toArray]; rfl
  case hq93 => exact fun _ _ _ h => h
  case hs93 | hf93 | hr93 => kernel_rfl
  case hw93 => rfl
  case hy93 => (intro w1 hSw; (try dsimp only at hSw); go_simp; try with_reducible rfl)
  (try simp only [Act.put, List.setIfInBounds_toArray, List.set_cons_zero, List.set_cons_succ])
  refine wpAnyH_take (i := 4) (oi := ?oi94) (v := ?v94) (fuel := 13) ?hi94 ?hs94 ?hf94 ?hr94 ?hq94 (Or.inl ⟨?hw94, ?hy94⟩) hHeld ?rest94
  case hi94 => rw [List.getElem?_toArray]; rfl
  case hq94 => exact fun _ _ _ h => h
  case hs94 | hf94 | hr94 => kernel_rfl
  case hw94 => rfl
  case hy94 => (intro w1 hSw; (try dsimp only at hSw); go_simp; try with_reducible rfl)
  (try simp only [Act.put, List.setIfInBounds_toArray, List.set_cons_zero, List.set_cons_succ])
  refine wpAnyH_take (i := 5) (oi := ?oi95) (v := ?v95) (fuel := 12) ?hi95 ?hs95 ?hf95 ?hr95 ?hq95 (Or.inl ⟨?hw95, ?hy95⟩) hHeld ?rest95
  case hi95 => rw [List.getElem?_toArray]; rfl
  case hq95 => exact fun _ _ _ h => h
  case hs95 | hf95 | hr95 => kernel_rfl
  case hw95 => rfl
  case hy95 => (intro w1 hSw; (try dsimp only at hSw); go_simp; try with_reducible rfl)
  (try simp only [Act.put, List.setIfInBounds_toArray, List.set_cons_zero, List.set_cons_succ])
  refine wpAnyH_take (i := 6) (oi := ?oi96) (v := ?v96) (fuel := 11) ?hi96 ?hs96 ?hf96 ?hr96 ?hq96 (Or.inl ⟨?hw96, ?hy96⟩) hHeld ?rest96
  case hi96 => rw [List.getElem?_toArray]; rfl
  case hq96 => exact fun _ _ _ h => h
  case hs96 | hf96 | hr96 => kernel_rfl
  case hw96 => rfl
  case hy96 => (intro w1 hSw; (try dsimp only at hSw); go_simp; try with_reducible rfl)
  (try simp only [Act.put, List.setIfInBounds_toArray, List.set_cons_zero, List.set_cons_succ])
  refine wpAnyH_take (i := 7) (oi := ?oi97) (v := ?v97) (fuel := 10) ?hi97 ?hs97 ?hf97 ?hr97 ?hq97 (Or.inl ⟨?hw97, ?hy97⟩) hHeld ?rest97
  case hi97 => rw [List.getElem?_toArray]; rfl
  case hq97 => exact fun _ _ _ h => h
  case hs97 | hf97 | hr97 => kernel_rfl
  case hw97 => rfl
  case hy97 => (intro w1 hSw; (try dsimp only at hSw); go_simp; try with_reducible rfl)
  (try simp only [Act.put, List.setIfInBounds_toArray, List.set_cons_zero, List.set_cons_succ])
  refine wpAnyH_take (i := 8) (oi := ?oi98) (v := ?v98) (fuel := 9) ?hi98 ?hs98 ?hf98 ?hr98 ?hq98 (Or.inl ⟨?hw98, ?hy98⟩) hHeld ?rest98
  case hi98 => rw [List.getElem?_toArray]; rfl
  case hq98 => exact fun _ _ _ h => h
  case hs98 | hf98 | hr98 => kernel_rfl
  case hw98 => rfl
  case hy98 => (intro w1 hSw; (try dsimp only at hSw); go_simp; try with_reducible rfl)
  (try simp only [Act.put, List.setIfInBounds_toArray, List.set_cons_zero, List.set_cons_succ])
  refine wpAnyH_take (i := 9) (oi := ?oi99) (v := ?v99) (fuel := 8) ?hi99 ?hs99 ?hf99 ?hr99 ?hq99 (Or.inl ⟨?hw99, ?hy99⟩) hHeld ?rest99
  case hi99 => rw [List.getElem?_toArray]; rfl
  case hq99 => exact fun _ _ _ h => h
  case hs99 | hf99 | hr99 => kernel_rfl
  case hw99 => rfl
  case hy99 => (intro w1 hSw; (try dsimp only at hSw); go_simp; try with_reducible rfl)
  (try simp only [Act.put, List.setIfInBounds_toArray, List.set_cons_zero, List.set_cons_succ])
  refine wpAnyH_take (i := 10) (oi := ?oi100) (v := ?v100) (fuel := 7) ?hi100 ?hs100 ?hf100 ?hr100 ?hq100 (Or.inl ⟨?hw100, ?hy100⟩) hHeld ?rest100
  case hi100 => rw [List.getElem?_toArray]; rfl
  case hq100 => exact fun _ _ _ h => h
  case hs100 | hf100 | hr100 => kernel_rfl
  case hw100 => rfl
  case hy100 => (intro w1 hSw; (try dsimp only at hSw); go_simp; try with_reducible rfl)
  (try simp only [Act.put, List.setIfInBounds_toArray, List.set_cons_zero, List.set_cons_succ])
  refine wpAnyH_take (i := 12) (oi := ?oi101) (v := ?v101) (fuel := 6) ?hi101 ?hs101 ?hf101 ?hr101 ?hq101 (Or.inl ⟨?hw101, ?hy101⟩) hHeld ?rest101
  case hi101 => rw [List.getElem?_toArray]; rfl
  case hq101 => exact fun _ _ _ h => h
  case hs101 | hf101 | hr101 => kernel_rfl
  case hw101 => rfl
  case hy101 => (intro w1 hSw; (try dsimp only at hSw); go_simp; try with_reducible rfl)
  (try simp only [Act.put, List.setIfInBounds_toArray, List.set_cons_zero, List.set_cons_succ])
  refine wpAnyH_take (i := 13) (oi := ?oi102) (v := ?v102) (fuel := 5) ?hi102 ?hs102 ?hf102 ?hr102 ?hq102 (Or.inl ⟨?hw102, ?hy102⟩) hHeld ?rest102
  case hi102 => rw [List.getElem?_toArray]; rfl
  case hq102 => exact fun _ _ _ h => h
  case hs102 | hf102 | hr102 => kernel_rfl
  case hw102 => rfl
  case hy102 => (intro w1 hSw; (try dsimp only at hSw); go_simp; try with_reducible rfl)
  (try simp only [Act.put, List.setIfInBounds_toArray, List.set_cons_zero, List.set_cons_succ])
  refine wpAnyH_ready (fuel := 4) (rs := [11]) (by kernel_rfl) (by simp) ?_
  refine AllReadyH.cons (o := ?oi103) ?hi103 (fun K hK => ?st103) AllReadyH.nil
  case hi103 => rw [List.getElem?_toArray]; rfl
  go_simp
  refine (c_l2Top _).mono ?_
  rintro ee wn ⟨rfl, hwn⟩
  rw [hwn]; clear hwn wn
  go_wp2_with fail
  refine hK.out _ _ ?hS103 (fun hHeld => ?re103)
  case hS103 => exact ⟨(RBox.box hA.out).c0, (RBox.box hA.out).c1, (RBox.box hA.out).c2, (RBox.box hA.out).c3, (RBox.box hB.out).c0, (RBox.box hB.out).c1, (RBox.box hB.out).c2, (RBox.box hB.out).c3, (RBox.box hN.out).c2⟩
  clear hK K
  (try simp only [Act.put, List.setIfInBounds_toArray, List.set_cons_zero, List.set_cons_succ])
  refine wpAnyH_take (i := 14) (oi := ?oi104) (v := ?v104) (fuel := 3) ?hi104 ?hs104 ?hf104 ?hr104 ?hq104 (Or.inl ⟨?hw104, ?hy104⟩) hHeld ?rest104
  case hi104 => rw [List.getElem?_toArray]; rfl
  case hq104 => exact fun _ _ _ h => h
  case hs104 | hf104 | hr104 => kernel_rfl
  case hw104 => rfl
  case hy104 => (intro w1 hSw; (try dsimp only at hSw); go_simp; try with_reducible rfl)
  (try simp only [Act.put, List.setIfInBounds_toArray, List.set_cons_zero, List.set_cons_succ])
  refine wpAnyH_take (i := 15) (oi := ?oi105) (v := ?v105) (fuel := 2) ?hi105 ?hs105 ?hf105 ?hr105 ?hq105 (Or.inl ⟨?hw105, ?hy105⟩) hHeld ?rest105
  case hi105 => rw [List.getElem?_toArray]; rfl
  case hq105 => exact fun _ _ _ h => h
  case hs105 | hf105 | hr105 => kernel_rfl
  case hw105 => rfl
  case hy105 => (intro w1 hSw; (try dsimp only at hSw); go_simp; try with_reducible rfl)
  (try simp only [Act.put, List.setIfInBounds_toArray, List.set_cons_zero, List.set_cons_succ])
  refine wpAnyH_take (i := 16) (oi := ?oi106) (v := ?v106) (fuel := 1) ?hi106 ?hs106 ?hf106 ?hr106 ?hq106 (Or.inl ⟨?hw106, ?hy106⟩) hHeld ?rest106
  case hi106 => rw [List.getElem?_toArray]; rfl
  case hq106 => exact fun _ _ _ h => h
  case hs106 | hf106 | hr106 => kernel_rfl
  case hw106 => rfl
  case hy106 => (intro w1 hSw; (try dsimp only at hSw); go_simp; try with_reducible rfl)
  (try simp only [Act.put, List.setIfInBounds_toArray, List.set_cons_zero, List.set_cons_succ])
  refine wpAnyH_ready (fuel := 0) (rs := [17]) (by kernel_rfl) (by simp) ?_
  refine AllReadyH.cons (o := ?oi107) ?hi107 (fun K hK => ?st107) AllReadyH.nil
  case hi107 => rw [List.getElem?_toArray]; rfl
  obtain ⟨g0, g1, g2, g3⟩ := RBox.box hN.out
  have fq := RBox.frozen hN.out
  go_simp
  clear g0 g1 g2 g3 fq
  replace hA := hid (hA.out.other ⟨w.heap.size + 3, 3, none⟩ (.int .i64 (O)) (by first | (show w.heap.size ≠ w.heap.size + 3; omega) | (have := RBox.lt hA.out; show w.heap.size ≠ w.heap.size + 3; omega)))
  replace hB := hid (hB.out.other ⟨w.heap.size + 3, 3, none⟩ (.int .i64 (O)) (by first | (show w.heap.size + 1 ≠ w.heap.size + 3; omega) | (have := RBox.lt hB.out; show w.heap.size + 1 ≠ w.heap.size + 3; omega)))
  replace hQ := hid (hQ.out.other ⟨w.heap.size + 3, 3, none⟩ (.int .i64 (O)) (by first | (show w.heap.size + 2 ≠ w.heap.size + 3; omega) | (have := RBox.lt hQ.out; show w.heap.size + 2 ≠ w.heap.size + 3; omega)))
  replace hN := hid (hN.out.set3 (O))
  replace hbel := hid (hbel.out.setCell (p := ⟨w.heap.size + 3, 3, none⟩) (by show w.heap.size ≤ w.heap.size + 3; omega) (.int .i64 (O)))
  generalize W1.setCell ⟨w.heap.size + 3, 3, none⟩ (.int .i64 (O)) = ws17 at *
  refine hK.out _ _ ?hS107 (fun hHeld => ?re107)
  case hS107 => exact ⟨(RBox.box hA.out).c0, (RBox.box hA.out).c1, (RBox.box hA.out).c2, (RBox.box hA.out).c3, (RBox.box hB.out).c0, (RBox.box hB.out).c1, (RBox.box hB.out).c2, (RBox.box hB.out).c3, (RBox.box hN.out).c2⟩
  clear hK K
  (try simp only [Act.put, List.setIfInBounds_toArray, List.set_cons_zero, List.set_cons_succ])
  refine wpAnyH_done (by kernel_rfl) ?_ _
  clear hHeld
  generalize ws17 = w1 at *
  have bA1 := hA
  have bB1 := hB
  have bQ1 := hQ
  have bN1 := hN
  have bel1 := hbel
  clear hbel hA hB hQ hN
  clear cA0 cA1 cA2 cA3 cB0 cB1 cB2 cB3 cN0 cN1 cN2 cN3
  obtain ⟨cA0, cA1, cA2, cA3⟩ := RBox.box bA1.out
  obtain ⟨cB0, cB1, cB2, cB3⟩ := RBox.box bB1.out
  obtain ⟨cN0, cN1, cN2, cN3⟩ := RBox.box bN1.out
  have frN := RBox.frozen bN1.out
  go_wp2_with fail
  have bA2 := hid (bA1.out.other ⟨w.heap.size + 3, 1, none⟩ (.int .i64 (b)) (by show w.heap.size ≠ w.heap.size + 3; omega))
  have bB2 := hid (bB1.out.other ⟨w.heap.size + 3, 1, none⟩ (.int .i64 (b)) (by show w.heap.size + 1 ≠ w.heap.size + 3; omega))
  have bQ2 := hid (bQ1.out.other ⟨w.heap.size + 3, 1, none⟩ (.int .i64 (b)) (by show w.heap.size + 2 ≠ w.heap.size + 3; omega))
  have bN2 := hid (bN1.out.set1 (b))
  have bel2 := hid (bel1.out.setCell (p := ⟨w.heap.size + 3, 1, none⟩) (by show w.heap.size ≤ w.heap.size + 3; omega) (.int .i64 (b)))
  clear bA1 bB1 bQ1 bN1 bel1
  generalize w1.setCell ⟨w.heap.size + 3, 1, none⟩ (.int .i64 (b)) = w2 at *
  clear cA0 cA1 cA2 cA3 cB0 cB1 cB2 cB3 cN0 cN1 cN2 cN3
  clear frN
  obtain ⟨cA0, cA1, cA2, cA3⟩ := RBox.box bA2.out
  obtain ⟨cB0, cB1, cB2, cB3⟩ := RBox.box bB2.out
  obtain ⟨cN0, cN1, cN2, cN3⟩ := RBox.box bN2.out
  have frN := RBox.frozen bN2.out
  go_wp2_with fail
  have bA3 := hid (bA2.out.other ⟨w.heap.size + 3, 1, none⟩ (.int .i64 (f)) (by show w.heap.size ≠ w.heap.size + 3; omega))
  have bB3 := hid (bB2.out.other ⟨w.heap.size + 3, 1, none⟩ (.int .i64 (f)) (by show w.heap.size + 1 ≠ w.heap.size + 3; omega))
  have bQ3 := hid (bQ2.out.other ⟨w.heap.size + 3, 1, none⟩ (.int .i64 (f)) (by show w.heap.size + 2 ≠ w.heap.size + 3; omega))
  have bN3 := hid (bN2.out.set1 (f))
  have bel3 := hid (bel2.out.setCell (p := ⟨w.heap.size + 3, 1, none⟩) (by show w.heap.size ≤ w.heap.size + 3; omega) (.int .i64 (f)))
  clear bA2 bB2 bQ2 bN2 bel2
  generalize w2.setCell ⟨w.heap.size + 3, 1, none⟩ (.int .i64 (f)) = w3 at *
  clear cA0 cA1 cA2 cA3 cB0 cB1 cB2 cB3 cN0 cN1 cN2 cN3
  clear frN
  obtain ⟨cA0, cA1, cA2, cA3⟩ := RBox.box bA3.out
  obtain ⟨cB0, cB1, cB2, cB3⟩ := RBox.box bB3.out
  obtain ⟨cN0, cN1, cN2, cN3⟩ := RBox.box bN3.out
  have frN := RBox.frozen bN3.out
  go_wp2_with fail
  refine (Ht.out _).mono ?_
  rintro ee w4 ⟨rfl, hb4⟩
  have bA4 := hid (bA3.out.below hb4)
  have bB4 := hid (bB3.out.below hb4)
  have bQ4 := hid (bQ3.out.below hb4)
  have bN4 := hid (bN3.out.below hb4)
  have bel4 := hid (bel3.out.trans (hb4.mono bel3.out.size))
  clear hb4 bA3 bB3 bQ3 bN3 bel3
  clear cA0 cA1 cA2 cA3 cB0 cB1 cB2 cB3 cN0 cN1 cN2 cN3
  clear frN
  obtain ⟨g0, g1, g2, g3⟩ := RBox.box bQ4.out
  have fq := RBox.frozen bQ4.out
  have P5 := hid (RBox.box (bQ4.out.st4 (x' := tLo (0) (f) (C)) (y' := tHi (0) (f) (C) (O)) (z' := tB (0) (f) (C)) (u' := tO (0) (f) (O))))
  have B5 := hid (st4_below (w.heap.size + 2) (tLo (0) (f) (C)) (tHi (0) (f) (C) (O)) (tB (0) (f) (C)) (tO (0) (f) (O)) bel4.out (by omega))
  go_wp2_with fail
  obtain ⟨p0, p1, p2, p3⟩ := P5.out
  unfold st4 at p0 p1 p2 p3
  refine bodyPost_ret (v := rv (tLo (0) (f) (C)) (tHi (0) (f) (C) (O)) (tB (0) (f) (C)) (tO (0) (f) (O))) (by simp [results, Try.results59, go_sem, p0, p1, p2, p3]) rfl ⟨rfl, B5.out⟩

set_option maxRecDepth 100000 in
set_option maxHeartbeats 2000000 in
theorem s_and_ge (a b c d e f g h : Nat) (w : World) (A : OkN a b c d) (B : OkN e f g h) (hc : ¬ f < b) :
    Calls Try.prog 59 #[.int .i64 5, rv a b c d, rv e f g h] w fun ee w' => ee = .returned (tv 0 b (c &&& g) ((c ||| d) &&& (g ||| h) &&& notB (c &&& g))) ∧ Below w.heap.size w w' := by
  have := A.le
  have := A.hi
  have := B.le
  have := B.hi
  have := A.b
  have := A.o
  have := B.b
  have := B.o
  have e1 := and_i64 c g (by omega) (by omega)
  have l1 : c &&& g ≤ 4294967295 := and_le _ A.b
  have e6 := or_i64 c d (by omega) (by omega)
  have e7 := or_i64 g h (by omega) (by omega)
  have l2 : c ||| d ≤ 4294967295 := or_le A.b A.o
  have l3 : g ||| h ≤ 4294967295 := or_le B.b B.o
  have e2 := and_i64 (c ||| d) (g ||| h) (by omega) (by omega)
  have l4 : (c ||| d) &&& (g ||| h) ≤ 4294967295 := and_le _ l2
  have e3 := xor_top (c &&& g) l1
  have l5 := not_le l1
  have e4 := and_i64 ((c ||| d) &&& (g ||| h)) (notB (c &&& g)) (by omega) (by omega)
  have k1 := and_ok A B
  rw [show min b f = b by omega] at k1
  have Ht : Hid (∀ w, Calls Try.prog 28 #[rv 0 b ((c &&& g : Nat) : Int) (((c ||| d) &&& (g ||| h) &&& notB (c &&& g) : Nat) : Int)] w fun ee w' => ee = .returned (tv (0) (b) (c &&& g) ((c ||| d) &&& (g ||| h) &&& notB (c &&& g))) ∧ Below w.heap.size w w') := by
    intro w
    have this := tidyS _ _ _ _ k1 w
    exact this
  have hc' : ¬ (f : Int) < b := by omega
  clear A B k1 hc
  generalize (c ||| d) &&& (g ||| h) &&& notB (c &&& g) = O at *
  generalize (c ||| d) &&& (g ||| h) = D1 at *
  generalize c ||| d = D2 at *
  generalize g ||| h = D3 at *
  generalize notB (c &&& g) = NC at *
  generalize c &&& g = C at *
  have bA0 : Hid (RBox ((((w.alloc (cellsR4 a b c d)).alloc (cellsR4 e f g h)).alloc (cellsR4 0 0 0 0)).alloc (cellsR4 0 4294967295 C 0)) w.heap.size a b c d) := (twoA w a b c d e f g h).alloc (cellsR4 0 4294967295 C 0)
  have bB0 : Hid (RBox ((((w.alloc (cellsR4 a b c d)).alloc (cellsR4 e f g h)).alloc (cellsR4 0 0 0 0)).alloc (cellsR4 0 4294967295 C 0)) (w.heap.size + 1) e f g h) := (twoB w a b c d e f g h).alloc (cellsR4 0 4294967295 C 0)
  have bQ0 : Hid (RBox ((((w.alloc (cellsR4 a b c d)).alloc (cellsR4 e f g h)).alloc (cellsR4 0 0 0 0)).alloc (cellsR4 0 4294967295 C 0)) (w.heap.size + 2) 0 0 0 0) := (twoQ w a b c d e f g h).alloc (cellsR4 0 4294967295 C 0)
  have bN0 : Hid (RBox ((((w.alloc (cellsR4 a b c d)).alloc (cellsR4 e f g h)).alloc (cellsR4 0 0 0 0)).alloc (cellsR4 0 4294967295 C 0)) (w.heap.size + 3) 0 4294967295 C 0) := (by have h0 := RBox.new (two w a b c d e f g h) 0 4294967295 C 0; simp only [World.size_alloc] at h0; exact h0)
  have bel0 : Hid (Below w.heap.size w ((((w.alloc (cellsR4 a b c d)).alloc (cellsR4 e f g h)).alloc (cellsR4 0 0 0 0)).alloc (cellsR4 0 4294967295 C 0))) := (twoW w a b c d e f g h).alloc (by simp; omega) (cellsR4 0 4294967295 C 0)
  go_enter Try.func59, Try.ntmps59
  go_wp2_with fail
  refine (c_l2Top _).mono ?_
  rintro ee w1 ⟨rfl, hw1⟩
  rw [hw1]; clear hw1 w1
  go_wp2_with fail
  generalize (((w.alloc (cellsR4 a b c d)).alloc (cellsR4 e f g h)).alloc (cellsR4 0 0 0 0)).alloc (cellsR4 0 4294967295 C 0) = w0 at *
  obtain ⟨cA0, cA1, cA2, cA3⟩ := RBox.box bA0.out
  obtain ⟨cB0, cB1, cB2, cB3⟩ := RBox.box bB0.out
  obtain ⟨cN0, cN1, cN2, cN3⟩ := RBox.box bN0.out
  refine wp_region_held_drew (S := (fun w' => w'.cell? ⟨w.heap.size, 0, none⟩ = some (.int .i64 (a)) ∧ w'.cell? ⟨w.heap.size, 1, none⟩ = some (.int .i64 (b)) ∧ w'.cell? ⟨w.heap.size, 2, none⟩ = some (.int .i64 (c)) ∧ w'.cell? ⟨w.heap.size, 3, none⟩ = some (.int .i64 (d)) ∧ w'.cell? ⟨w.heap.size + 1, 0, none⟩ = some (.int .i64 (e)) ∧ w'.cell? ⟨w.heap.size + 1, 1, none⟩ = some (.int .i64 (f)) ∧ w'.cell? ⟨w.heap.size + 1, 2, none⟩ = some (.int .i64 (g)) ∧ w'.cell? ⟨w.heap.size + 1, 3, none⟩ = some (.int .i64 (h)) ∧ w'.cell? ⟨w.heap.size + 3, 2, none⟩ = some (.int .i64 (C)))) (by kernel_rfl) (by exact ⟨(RBox.box bA0.out).c0, (RBox.box bA0.out).c1, (RBox.box bA0.out).c2, (RBox.box bA0.out).c3, (RBox.box bB0.out).c0, (RBox.box bB0.out).c1, (RBox.box bB0.out).c2, (RBox.box bB0.out).c3, (RBox.box bN0.out).c2⟩) (fun hHeld => ?_)
  have hA := hid (RBox.drew bA0.out)
  have hB := hid (RBox.drew bB0.out)
  have hQ := hid (RBox.drew bQ0.out)
  have hN := hid (RBox.drew bN0.out)
  have hbel := hid (Below.drew bel0.out)
  clear bA0 bB0 bQ0 bN0 bel0
  generalize w0.drew = W1 at *
  refine wpAnyH_take (i := 0) (oi := ?oi108) (v := ?v108) (fuel := 17) ?hi108 ?hs108 ?hf108 ?hr108 ?hq108 (Or.inl ⟨?hw108, ?hy108⟩) hHeld ?rest108
  case hi108 => rw [List.getElem?_toArray]; rfl
  case hq108 => exact fun _ _ _ h => h
  case hs108 | hf108 | hr108 => kernel_rfl
  case hw108 => rfl
  case hy108 => (intro w1 hSw; (try dsimp only at hSw); go_simp; try with_reducible rfl)
  (try simp only [Act.put, List.setIfInBounds_toArray, List.set_cons_zero, List.set_cons_succ])
  refine wpAnyH_take (i := 1) (oi := ?oi109) (v := ?v109) (fuel := 16) ?hi109 ?hs109 ?hf109 ?hr109 ?hq109 (Or.inl ⟨?hw109, ?hy109⟩) hHeld ?rest109
  case hi109 => rw [List.getElem?_toArray]; rfl
  case hq109 => exact fun _ _ _ h => h
  case hs109 | hf109 | hr109 => kernel_rfl
  case hw109 => rfl
  case hy109 => (intro w1 hSw; (try dsimp only at hSw); go_simp; try with_reducible rfl)
  (try simp only [Act.put, List.setIfInBounds_toArray, List.set_cons_zero, List.set_cons_succ])
  refine wpAnyH_take (i := 2) (oi := ?oi110) (v := ?v110) (fuel := 15) ?hi110 ?hs110 ?hf110 ?hr110 ?hq110 (Or.inl ⟨?hw110, ?hy110⟩) hHeld ?rest110
  case hi110 => rw [List.getElem?_toArray]; rfl
  case hq110 => exact fun _ _ _ h => h
  case hs110 | hf110 | hr110 => kernel_rfl
  case hw110 => rfl
  case hy110 => (intro w1 hSw; (try dsimp only at hSw); go_simp; try with_reducible rfl)
  (try simp only [Act.put, List.setIfInBounds_toArray, List.set_cons_zero, List.set_cons_succ])
  refine wpAnyH_take (i := 3) (oi := ?oi111) (v := ?v111) (fuel := 14) ?hi111 ?hs111 ?hf111 ?hr111 ?hq111 (Or.inl ⟨?hw111, ?hy111⟩) hHeld ?rest111
  case hi111 => rw [List.getElem?_toArray]; rfl
  case hq111 => exact fun _ _ _ h => h
  case hs111 | hf111 | hr111 => kernel_rfl
  case hw111 => rfl
  case hy111 => (intro w1 hSw; (try dsimp only at hSw); go_simp; try with_reducible rfl)
  (try simp only [Act.put, List.setIfInBounds_toArray, List.set_cons_zero, List.set_cons_succ])
  refine wpAnyH_take (i := 4) (oi := ?oi112) (v := ?v112) (fuel := 13) ?hi112 ?hs112 ?hf112 ?hr112 ?hq112 (Or.inl ⟨?hw112, ?hy112⟩) hHeld ?rest112
  case hi112 => rw [List.getElem?_toArray]; rfl
  case hq112 => exact fun _ _ _ h => h
  case hs112 | hf112 | hr112 => kernel_rfl
  case hw112 => rfl
  case hy112 => (intro w1 hSw; (try dsimp only at hSw); go_simp; try with_reducible rfl)
  (try simp only [Act.put, List.setIfInBounds_toArray, List.set_cons_zero, List.set_cons_succ])
  refine wpAnyH_take (i := 5) (oi := ?oi113) (v := ?v113) (fuel := 12) ?hi113 ?hs113 ?hf113 ?hr113 ?hq113 (Or.inl ⟨?hw113, ?hy113⟩) hHeld ?rest113
  case hi113 => rw [List.getElem?_toArray]; rfl
  case hq113 => exact fun _ _ _ h => h
  case hs113 | hf113 | hr113 => kernel_rfl
  case hw113 => rfl
  case hy113 => (intro w1 hSw; (try dsimp only at hSw); go_simp; try with_reducible rfl)
  (try simp only [Act.put, List.setIfInBounds_toArray, List.set_cons_zero, List.set_cons_succ])
  refine wpAnyH_take (i := 6) (oi := ?oi114) (v := ?v114) (fuel := 11) ?hi114 ?hs114 ?hf114 ?hr114 ?hq114 (Or.inl ⟨?hw114, ?hy114⟩) hHeld ?rest114
  case hi114 => rw [List.getElem?_toArray]; rfl
  case hq114 => exact fun _ _ _ h => h
  case hs114 | hf114 | hr114 => kernel_rfl
  case hw114 => rfl
  case hy114 => (intro w1 hSw; (try dsimp only at hSw); go_simp; try with_reducible rfl)
  (try simp only [Act.put, List.setIfInBounds_toArray, List.set_cons_zero, List.set_cons_succ])
  refine wpAnyH_take (i := 7) (oi := ?oi115) (v := ?v115) (fuel := 10) ?hi115 ?hs115 ?hf115 ?hr115 ?hq115 (Or.inl ⟨?hw115, ?hy115⟩) hHeld ?rest115
  case hi115 => rw [List.getElem?_toArray]; rfl
  case hq115 => exact fun _ _ _ h => h
  case hs115 | hf115 | hr115 => kernel_rfl
  case hw115 => rfl
  case hy115 => (intro w1 hSw; (try dsimp only at hSw); go_simp; try with_reducible rfl)
  (try simp only [Act.put, List.setIfInBounds_toArray, List.set_cons_zero, List.set_cons_succ])
  refine wpAnyH_take (i := 8) (oi := ?oi116) (v := ?v116) (fuel := 9) ?hi116 ?hs116 ?hf116 ?hr116 ?hq116 (Or.inl ⟨?hw116, ?hy116⟩) hHeld ?rest116
  case hi116 => rw [List.getElem?_toArray]; rfl
  case hq116 => exact fun _ _ _ h => h
  case hs116 | hf116 | hr116 => kernel_rfl
  case hw116 => rfl
  case hy116 => (intro w1 hSw; (try dsimp only at hSw); go_simp; try with_reducible rfl)
  (try simp only [Act.put, List.setIfInBounds_toArray, List.set_cons_zero, List.set_cons_succ])
  refine wpAnyH_take (i := 9) (oi := ?oi117) (v := ?v117) (fuel := 8) ?hi117 ?hs117 ?hf117 ?hr117 ?hq117 (Or.inl ⟨?hw117, ?hy117⟩) hHeld ?rest117
  case hi117 => rw [List.getElem?_toArray]; rfl
  case hq117 => exact fun _ _ _ h => h
  case hs117 | hf117 | hr117 => kernel_rfl
  case hw117 => rfl
  case hy117 => (intro w1 hSw; (try dsimp only at hSw); go_simp; try with_reducible rfl)
  (try simp only [Act.put, List.setIfInBounds_toArray, List.set_cons_zero, List.set_cons_succ])
  refine wpAnyH_take (i := 10) (oi := ?oi118) (v := ?v118) (fuel := 7) ?hi118 ?hs118 ?hf118 ?hr118 ?hq118 (Or.inl ⟨?hw118, ?hy118⟩) hHeld ?rest118
  case hi118 => rw [List.getElem?_toArray]; rfl
  case hq118 => exact fun _ _ _ h => h
  case hs118 | hf118 | hr118 => kernel_rfl
  case hw118 => rfl
  case hy118 => (intro w1 hSw; (try dsimp only at hSw); go_simp; try with_reducible rfl)
  (try simp only [Act.put, List.setIfInBounds_toArray, List.set_cons_zero, List.set_cons_succ])
  refine wpAnyH_take (i := 12) (oi := ?oi119) (v := ?v119) (fuel := 6) ?hi119 ?hs119 ?hf119 ?hr119 ?hq119 (Or.inl ⟨?hw119, ?hy119⟩) hHeld ?rest119
  case hi119 => rw [List.getElem?_toArray]; rfl
  case hq119 => exact fun _ _ _ h => h
  case hs119 | hf119 | hr119 => kernel_rfl
  case hw119 => rfl
  case hy119 => (intro w1 hSw; (try dsimp only at hSw); go_simp; try with_reducible rfl)
  (try simp only [Act.put, List.setIfInBounds_toArray, List.set_cons_zero, List.set_cons_succ])
  refine wpAnyH_take (i := 13) (oi := ?oi120) (v := ?v120) (fuel := 5) ?hi120 ?hs120 ?hf120 ?hr120 ?hq120 (Or.inl ⟨?hw120, ?hy120⟩) hHeld ?rest120
  case hi120 => rw [List.getElem?_toArray]; rfl
  case hq120 => exact fun _ _ _ h => h
  case hs120 | hf120 | hr120 => kernel_rfl
  case hw120 => rfl
  case hy120 => (intro w1 hSw; (try dsimp only at hSw); go_simp; try with_reducible rfl)
  (try simp only [Act.put, List.setIfInBounds_toArray, List.set_cons_zero, List.set_cons_succ])
  refine wpAnyH_ready (fuel := 4) (rs := [11]) (by kernel_rfl) (by simp) ?_
  refine AllReadyH.cons (o := ?oi121) ?hi121 (fun K hK => ?st121) AllReadyH.nil
  case hi121 => rw [List.getElem?_toArray]; rfl
  go_simp
  refine (c_l2Top _).mono ?_
  rintro ee wn ⟨rfl, hwn⟩
  rw [hwn]; clear hwn wn
  go_wp2_with fail
  refine hK.out _ _ ?hS121 (fun hHeld => ?re121)
  case hS121 => exact ⟨(RBox.box hA.out).c0, (RBox.box hA.out).c1, (RBox.box hA.out).c2, (RBox.box hA.out).c3, (RBox.box hB.out).c0, (RBox.box hB.out).c1, (RBox.box hB.out).c2, (RBox.box hB.out).c3, (RBox.box hN.out).c2⟩
  clear hK K
  (try simp only [Act.put, List.setIfInBounds_toArray, List.set_cons_zero, List.set_cons_succ])
  refine wpAnyH_take (i := 14) (oi := ?oi122) (v := ?v122) (fuel := 3) ?hi122 ?hs122 ?hf122 ?hr122 ?hq122 (Or.inl ⟨?hw122, ?hy122⟩) hHeld ?rest122
  case hi122 => rw [List.getElem?_toArray]; rfl
  case hq122 => exact fun _ _ _ h => h
  case hs122 | hf122 | hr122 => kernel_rfl
  case hw122 => rfl
  case hy122 => (intro w1 hSw; (try dsimp only at hSw); go_simp; try with_reducible rfl)
  (try simp only [Act.put, List.setIfInBounds_toArray, List.set_cons_zero, List.set_cons_succ])
  refine wpAnyH_take (i := 15) (oi := ?oi123) (v := ?v123) (fuel := 2) ?hi123 ?hs123 ?hf123 ?hr123 ?hq123 (Or.inl ⟨?hw123, ?hy123⟩) hHeld ?rest123
  case hi123 => rw [List.getElem?_toArray]; rfl
  case hq123 => exact fun _ _ _ h => h
  case hs123 | hf123 | hr123 => kernel_rfl
  case hw123 => rfl
  case hy123 => (intro w1 hSw; (try dsimp only at hSw); go_simp; try with_reducible rfl)
  (try simp only [Act.put, List.setIfInBounds_toArray, List.set_cons_zero, List.set_cons_succ])
  refine wpAnyH_take (i := 16) (oi := ?oi124) (v := ?v124) (fuel := 1) ?hi124 ?hs124 ?hf124 ?hr124 ?hq124 (Or.inl ⟨?hw124, ?hy124⟩) hHeld ?rest124
  case hi124 => rw [List.getElem?_toArray]; rfl
  case hq124 => exact fun _ _ _ h => h
  case hs124 | hf124 | hr124 => kernel_rfl
  case hw124 => rfl
  case hy124 => (intro w1 hSw; (try dsimp only at hSw); go_simp; try with_reducible rfl)
  (try simp only [Act.put, List.setIfInBounds_toArray, List.set_cons_zero, List.set_cons_succ])
  refine wpAnyH_ready (fuel := 0) (rs := [17]) (by kernel_rfl) (by simp) ?_
  refine AllReadyH.cons (o := ?oi125) ?hi125 (fun K hK => ?st125) AllReadyH.nil
  case hi125 => rw [List.getElem?_toArray]; rfl
  obtain ⟨g0, g1, g2, g3⟩ := RBox.box hN.out
  have fq := RBox.frozen hN.out
  go_simp
  clear g0 g1 g2 g3 fq
  replace hA := hid (hA.out.other ⟨w.heap.size + 3, 3, none⟩ (.int .i64 (O)) (by first | (show w.heap.size ≠ w.heap.size + 3; omega) | (have := RBox.lt hA.out; show w.heap.size ≠ w.heap.size + 3; omega)))
  replace hB := hid (hB.out.other ⟨w.heap.size + 3, 3, none⟩ (.int .i64 (O)) (by first | (show w.heap.size + 1 ≠ w.heap.size + 3; omega) | (have := RBox.lt hB.out; show w.heap.size + 1 ≠ w.heap.size + 3; omega)))
  replace hQ := hid (hQ.out.other ⟨w.heap.size + 3, 3, none⟩ (.int .i64 (O)) (by first | (show w.heap.size + 2 ≠ w.heap.size + 3; omega) | (have := RBox.lt hQ.out; show w.heap.size + 2 ≠ w.heap.size + 3; omega)))
  replace hN := hid (hN.out.set3 (O))
  replace hbel := hid (hbel.out.setCell (p := ⟨w.heap.size + 3, 3, none⟩) (by show w.heap.size ≤ w.heap.size + 3; omega) (.int .i64 (O)))
  generalize W1.setCell ⟨w.heap.size + 3, 3, none⟩ (.int .i64 (O)) = ws17 at *
  refine hK.out _ _ ?hS125 (fun hHeld => ?re125)
  case hS125 => exact ⟨(RBox.box hA.out).c0, (RBox.box hA.out).c1, (RBox.box hA.out).c2, (RBox.box hA.out).c3, (RBox.box hB.out).c0, (RBox.box hB.out).c1, (RBox.box hB.out).c2, (RBox.box hB.out).c3, (RBox.box hN.out).c2⟩
  clear hK K
  (try simp only [Act.put, List.setIfInBounds_toArray, List.set_cons_zero, List.set_cons_succ])
  refine wpAnyH_done (by kernel_rfl) ?_ _
  clear hHeld
  generalize ws17 = w1 at *
  have bA1 := hA
  have bB1 := hB
  have bQ1 := hQ
  have bN1 := hN
  have bel1 := hbel
  clear hbel hA hB hQ hN
  clear cA0 cA1 cA2 cA3 cB0 cB1 cB2 cB3 cN0 cN1 cN2 cN3
  obtain ⟨cA0, cA1, cA2, cA3⟩ := RBox.box bA1.out
  obtain ⟨cB0, cB1, cB2, cB3⟩ := RBox.box bB1.out
  obtain ⟨cN0, cN1, cN2, cN3⟩ := RBox.box bN1.out
  have frN := RBox.frozen bN1.out
  go_wp2_with fail
  have bA2 := hid (bA1.out.other ⟨w.heap.size + 3, 1, none⟩ (.int .i64 (b)) (by show w.heap.size ≠ w.heap.size + 3; omega))
  have bB2 := hid (bB1.out.other ⟨w.heap.size + 3, 1, none⟩ (.int .i64 (b)) (by show w.heap.size + 1 ≠ w.heap.size + 3; omega))
  have bQ2 := hid (bQ1.out.other ⟨w.heap.size + 3, 1, none⟩ (.int .i64 (b)) (by show w.heap.size + 2 ≠ w.heap.size + 3; omega))
  have bN2 := hid (bN1.out.set1 (b))
  have bel2 := hid (bel1.out.setCell (p := ⟨w.heap.size + 3, 1, none⟩) (by show w.heap.size ≤ w.heap.size + 3; omega) (.int .i64 (b)))
  clear bA1 bB1 bQ1 bN1 bel1
  generalize w1.setCell ⟨w.heap.size + 3, 1, none⟩ (.int .i64 (b)) = w2 at *
  clear cA0 cA1 cA2 cA3 cB0 cB1 cB2 cB3 cN0 cN1 cN2 cN3
  clear frN
  obtain ⟨cA0, cA1, cA2, cA3⟩ := RBox.box bA2.out
  obtain ⟨cB0, cB1, cB2, cB3⟩ := RBox.box bB2.out
  obtain ⟨cN0, cN1, cN2, cN3⟩ := RBox.box bN2.out
  have frN := RBox.frozen bN2.out
  go_wp2_with fail
  refine (Ht.out _).mono ?_
  rintro ee w3 ⟨rfl, hb3⟩
  have bA3 := hid (bA2.out.below hb3)
  have bB3 := hid (bB2.out.below hb3)
  have bQ3 := hid (bQ2.out.below hb3)
  have bN3 := hid (bN2.out.below hb3)
  have bel3 := hid (bel2.out.trans (hb3.mono bel2.out.size))
  clear hb3 bA2 bB2 bQ2 bN2 bel2
  clear cA0 cA1 cA2 cA3 cB0 cB1 cB2 cB3 cN0 cN1 cN2 cN3
  clear frN
  obtain ⟨g0, g1, g2, g3⟩ := RBox.box bQ3.out
  have fq := RBox.frozen bQ3.out
  have P5 := hid (RBox.box (bQ3.out.st4 (x' := tLo (0) (b) (C)) (y' := tHi (0) (b) (C) (O)) (z' := tB (0) (b) (C)) (u' := tO (0) (b) (O))))
  have B5 := hid (st4_below (w.heap.size + 2) (tLo (0) (b) (C)) (tHi (0) (b) (C) (O)) (tB (0) (b) (C)) (tO (0) (b) (O)) bel3.out (by omega))
  go_wp2_with fail
  obtain ⟨p0, p1, p2, p3⟩ := P5.out
  unfold st4 at p0 p1 p2 p3
  refine bodyPost_ret (v := rv (tLo (0) (b) (C)) (tHi (0) (b) (C) (O)) (tB (0) (b) (C)) (tO (0) (b) (O))) (by simp [results, Try.results59, go_sem, p0, p1, p2, p3]) rfl ⟨rfl, B5.out⟩

set_option maxRecDepth 100000 in
set_option maxHeartbeats 2000000 in
theorem s_or_gt (a b c d e f g h : Nat) (w : World) (A : OkN a b c d) (B : OkN e f g h) (hc : a < e) :
    Calls Try.prog 59 #[.int .i64 6, rv a b c d, rv e f g h] w fun ee w' => ee = .returned (tv e 4294967295 (c ||| g) ((d ||| h) &&& notB (c ||| g))) ∧ Below w.heap.size w w' := by
  have := A.le
  have := A.hi
  have := B.le
  have := B.hi
  have := A.b
  have := A.o
  have := B.b
  have := B.o
  have e1 := or_i64 c g (by omega) (by omega)
  have l1 : c ||| g ≤ 4294967295 := or_le A.b B.b
  have e2 := or_i64 d h (by omega) (by omega)
  have l2 : d ||| h ≤ 4294967295 := or_le A.o B.o
  have e3 := xor_top (c ||| g) l1
  have l5 := not_le l1
  have e4 := and_i64 (d ||| h) (notB (c ||| g)) (by omega) (by omega)
  have k1 := or_ok A B
  rw [show max a e = e by omega] at k1
  have Ht : Hid (∀ w, Calls Try.prog 28 #[rv e 4294967295 ((c ||| g : Nat) : Int) (((d ||| h) &&& notB (c ||| g) : Nat) : Int)] w fun ee w' => ee = .returned (tv (e) (4294967295) (c ||| g) ((d ||| h) &&& notB (c ||| g))) ∧ Below w.heap.size w w') := by
    intro w
    have this := tidyS _ _ _ _ k1 w
    exact this
  have hc' : (a : Int) < e := by omega
  clear A B k1 hc
  generalize (d ||| h) &&& notB (c ||| g) = O at *
  generalize d ||| h = D1 at *
  generalize notB (c ||| g) = NC at *
  generalize c ||| g = C at *
  have bA0 : Hid (RBox ((((w.alloc (cellsR4 a b c d)).alloc (cellsR4 e f g h)).alloc (cellsR4 0 0 0 0)).alloc (cellsR4 0 4294967295 C 0)) w.heap.size a b c d) := (twoA w a b c d e f g h).alloc (cellsR4 0 4294967295 C 0)
  have bB0 : Hid (RBox ((((w.alloc (cellsR4 a b c d)).alloc (cellsR4 e f g h)).alloc (cellsR4 0 0 0 0)).alloc (cellsR4 0 4294967295 C 0)) (w.heap.size + 1) e f g h) := (twoB w a b c d e f g h).alloc (cellsR4 0 4294967295 C 0)
  have bQ0 : Hid (RBox ((((w.alloc (cellsR4 a b c d)).alloc (cellsR4 e f g h)).alloc (cellsR4 0 0 0 0)).alloc (cellsR4 0 4294967295 C 0)) (w.heap.size + 2) 0 0 0 0) := (twoQ w a b c d e f g h).alloc (cellsR4 0 4294967295 C 0)
  have bN0 : Hid (RBox ((((w.alloc (cellsR4 a b c d)).alloc (cellsR4 e f g h)).alloc (cellsR4 0 0 0 0)).alloc (cellsR4 0 4294967295 C 0)) (w.heap.size + 3) 0 4294967295 C 0) := (by have h0 := RBox.new (two w a b c d e f g h) 0 4294967295 C 0; simp only [World.size_alloc] at h0; exact h0)
  have bel0 : Hid (Below w.heap.size w ((((w.alloc (cellsR4 a b c d)).alloc (cellsR4 e f g h)).alloc (cellsR4 0 0 0 0)).alloc (cellsR4 0 4294967295 C 0))) := (twoW w a b c d e f g h).alloc (by simp; omega) (cellsR4 0 4294967295 C 0)
  go_enter Try.func59, Try.ntmps59
  go_wp2_with fail
  refine (c_l2Top _).mono ?_
  rintro ee w1 ⟨rfl, hw1⟩
  rw [hw1]; clear hw1 w1
  go_wp2_with fail
  generalize (((w.alloc (cellsR4 a b c d)).alloc (cellsR4 e f g h)).alloc (cellsR4 0 0 0 0)).alloc (cellsR4 0 4294967295 C 0) = w0 at *
  obtain ⟨cA0, cA1, cA2, cA3⟩ := RBox.box bA0.out
  obtain ⟨cB0, cB1, cB2, cB3⟩ := RBox.box bB0.out
  obtain ⟨cN0, cN1, cN2, cN3⟩ := RBox.box bN0.out
  refine wp_region_held_drew (S := (fun w' => w'.cell? ⟨w.heap.size, 0, none⟩ = some (.int .i64 (a)) ∧ w'.cell? ⟨w.heap.size, 1, none⟩ = some (.int .i64 (b)) ∧ w'.cell? ⟨w.heap.size, 2, none⟩ = some (.int .i64 (c)) ∧ w'.cell? ⟨w.heap.size, 3, none⟩ = some (.int .i64 (d)) ∧ w'.cell? ⟨w.heap.size + 1, 0, none⟩ = some (.int .i64 (e)) ∧ w'.cell? ⟨w.heap.size + 1, 1, none⟩ = some (.int .i64 (f)) ∧ w'.cell? ⟨w.heap.size + 1, 2, none⟩ = some (.int .i64 (g)) ∧ w'.cell? ⟨w.heap.size + 1, 3, none⟩ = some (.int .i64 (h)) ∧ w'.cell? ⟨w.heap.size + 3, 2, none⟩ = some (.int .i64 (C)))) (by kernel_rfl) (by exact ⟨(RBox.box bA0.out).c0, (RBox.box bA0.out).c1, (RBox.box bA0.out).c2, (RBox.box bA0.out).c3, (RBox.box bB0.out).c0, (RBox.box bB0.out).c1, (RBox.box bB0.out).c2, (RBox.box bB0.out).c3, (RBox.box bN0.out).c2⟩) (fun hHeld => ?_)
  have hA := hid (RBox.drew bA0.out)
  have hB := hid (RBox.drew bB0.out)
  have hQ := hid (RBox.drew bQ0.out)
  have hN := hid (RBox.drew bN0.out)
  have hbel := hid (Below.drew bel0.out)
  clear bA0 bB0 bQ0 bN0 bel0
  generalize w0.drew = W1 at *
  refine wpAnyH_take (i := 0) (oi := ?oi126) (v := ?v126) (fuel := 11) ?hi126 ?hs126 ?hf126 ?hr126 ?hq126 (Or.inl ⟨?hw126, ?hy126⟩) hHeld ?rest126
  case hi126 => rw [List.getElem?_toArray]; rfl
  case hq126 => exact fun _ _ _ h => h
  case hs126 | hf126 | hr126 => kernel_rfl
  case hw126 => rfl
  case hy126 => (intro w1 hSw; (try dsimp only at hSw); go_simp; try with_reducible rfl)
  (try simp only [Act.put, List.setIfInBounds_toArray, List.set_cons_zero, List.set_cons_succ])
  refine wpAnyH_take (i := 1) (oi := ?oi127) (v := ?v127) (fuel := 10) ?hi127 ?hs127 ?hf127 ?hr127 ?hq127 (Or.inl ⟨?hw127, ?hy127⟩) hHeld ?rest127
  case hi127 => rw [List.getElem?_toArray]; rfl
  case hq127 => exact fun _ _ _ h => h
  case hs127 | hf127 | hr127 => kernel_rfl
  case hw127 => rfl
  case hy127 => (intro w1 hSw; (try dsimp only at hSw); go_simp; try with_reducible rfl)
  (try simp only [Act.put, List.setIfInBounds_toArray, List.set_cons_zero, List.set_cons_succ])
  refine wpAnyH_take (i := 2) (oi := ?oi128) (v := ?v128) (fuel := 9) ?hi128 ?hs128 ?hf128 ?hr128 ?hq128 (Or.inl ⟨?hw128, ?hy128⟩) hHeld ?rest128
  case hi128 => rw [List.getElem?_toArray]; rfl
  case hq128 => exact fun _ _ _ h => h
  case hs128 | hf128 | hr128 => kernel_rfl
  case hw128 => rfl
  case hy128 => (intro w1 hSw; (try dsimp only at hSw); go_simp; try with_reducible rfl)
  (try simp only [Act.put, List.setIfInBounds_toArray, List.set_cons_zero, List.set_cons_succ])
  refine wpAnyH_take (i := 3) (oi := ?oi129) (v := ?v129) (fuel := 8) ?hi129 ?hs129 ?hf129 ?hr129 ?hq129 (Or.inl ⟨?hw129, ?hy129⟩) hHeld ?rest129
  case hi129 => rw [List.getElem?_toArray]; rfl
  case hq129 => exact fun _ _ _ h => h
  case hs129 | hf129 | hr129 => kernel_rfl
  case hw129 => rfl
  case hy129 => (intro w1 hSw; (try dsimp only at hSw); go_simp; try with_reducible rfl)
  (try simp only [Act.put, List.setIfInBounds_toArray, List.set_cons_zero, List.set_cons_succ])
  refine wpAnyH_take (i := 4) (oi := ?oi130) (v := ?v130) (fuel := 7) ?hi130 ?hs130 ?hf130 ?hr130 ?hq130 (Or.inl ⟨?hw130, ?hy130⟩) hHeld ?rest130
  case hi130 => rw [List.getElem?_toArray]; rfl
  case hq130 => exact fun _ _ _ h => h
  case hs130 | hf130 | hr130 => kernel_rfl
  case hw130 => rfl
  case hy130 => (intro w1 hSw; (try dsimp only at hSw); go_simp; try with_reducible rfl)
  (try simp only [Act.put, List.setIfInBounds_toArray, List.set_cons_zero, List.set_cons_succ])
  refine wpAnyH_take (i := 6) (oi := ?oi131) (v := ?v131) (fuel := 6) ?hi131 ?hs131 ?hf131 ?hr131 ?hq131 (Or.inl ⟨?hw131, ?hy131⟩) hHeld ?rest131
  case hi131 => rw [List.getElem?_toArray]; rfl
  case hq131 => exact fun _ _ _ h => h
  case hs131 | hf131 | hr131 => kernel_rfl
  case hw131 => rfl
  case hy131 => (intro w1 hSw; (try dsimp only at hSw); go_simp; try with_reducible rfl)
  (try simp only [Act.put, List.setIfInBounds_toArray, List.set_cons_zero, List.set_cons_succ])
  refine wpAnyH_take (i := 7) (oi := ?oi132) (v := ?v132) (fuel := 5) ?hi132 ?hs132 ?hf132 ?hr132 ?hq132 (Or.inl ⟨?hw132, ?hy132⟩) hHeld ?rest132
  case hi132 => rw [List.getElem?_toArray]; rfl
  case hq132 => exact fun _ _ _ h => h
  case hs132 | hf132 | hr132 => kernel_rfl
  case hw132 => rfl
  case hy132 => (intro w1 hSw; (try dsimp only at hSw); go_simp; try with_reducible rfl)
  (try simp only [Act.put, List.setIfInBounds_toArray, List.set_cons_zero, List.set_cons_succ])
  refine wpAnyH_ready (fuel := 4) (rs := [5]) (by kernel_rfl) (by simp) ?_
  refine AllReadyH.cons (o := ?oi133) ?hi133 (fun K hK => ?st133) AllReadyH.nil
  case hi133 => rw [List.getElem?_toArray]; rfl
  go_simp
  refine (c_l2Top _).mono ?_
  rintro ee wn ⟨rfl, hwn⟩
  rw [hwn]; clear hwn wn
  go_wp2_with fail
  refine hK.out _ _ ?hS133 (fun hHeld => ?re133)
  case hS133 => exact ⟨(RBox.box hA.out).c0, (RBox.box hA.out).c1, (RBox.box hA.out).c2, (RBox.box hA.out).c3, (RBox.box hB.out).c0, (RBox.box hB.out).c1, (RBox.box hB.out).c2, (RBox.box hB.out).c3, (RBox.box hN.out).c2⟩
  clear hK K
  (try simp only [Act.put, List.setIfInBounds_toArray, List.set_cons_zero, List.set_cons_succ])
  refine wpAnyH_take (i := 8) (oi := ?oi134) (v := ?v134) (fuel := 3) ?hi134 ?hs134 ?hf134 ?hr134 ?hq134 (Or.inl ⟨?hw134, ?hy134⟩) hHeld ?rest134
  case hi134 => rw [List.getElem?_toArray]; rfl
  case hq134 => exact fun _ _ _ h => h
  case hs134 | hf134 | hr134 => kernel_rfl
  case hw134 => rfl
  case hy134 => (intro w1 hSw; (try dsimp only at hSw); go_simp; try with_reducible rfl)
  (try simp only [Act.put, List.setIfInBounds_toArray, List.set_cons_zero, List.set_cons_succ])
  refine wpAnyH_take (i := 9) (oi := ?oi135) (v := ?v135) (fuel := 2) ?hi135 ?hs135 ?hf135 ?hr135 ?hq135 (Or.inl ⟨?hw135, ?hy135⟩) hHeld ?rest135
  case hi135 => rw [List.getElem?_toArray]; rfl
  case hq135 => exact fun _ _ _ h => h
  case hs135 | hf135 | hr135 => kernel_rfl
  case hw135 => rfl
  case hy135 => (intro w1 hSw; (try dsimp only at hSw); go_simp; try with_reducible rfl)
  (try simp only [Act.put, List.setIfInBounds_toArray, List.set_cons_zero, List.set_cons_succ])
  refine wpAnyH_take (i := 10) (oi := ?oi136) (v := ?v136) (fuel := 1) ?hi136 ?hs136 ?hf136 ?hr136 ?hq136 (Or.inl ⟨?hw136, ?hy136⟩) hHeld ?rest136
  case hi136 => rw [List.getElem?_toArray]; rfl
  case hq136 => exact fun _ _ _ h => h
  case hs136 | hf136 | hr136 => kernel_rfl
  case hw136 => rfl
  case hy136 => (intro w1 hSw; (try dsimp only at hSw); go_simp; try with_reducible rfl)
  (try simp only [Act.put, List.setIfInBounds_toArray, List.set_cons_zero, List.set_cons_succ])
  refine wpAnyH_ready (fuel := 0) (rs := [11]) (by kernel_rfl) (by simp) ?_
  refine AllReadyH.cons (o := ?oi137) ?hi137 (fun K hK => ?st137) AllReadyH.nil
  case hi137 => rw [List.getElem?_toArray]; rfl
  obtain ⟨g0, g1, g2, g3⟩ := RBox.box hN.out
  have fq := RBox.frozen hN.out
  go_simp
  clear g0 g1 g2 g3 fq
  replace hA := hid (hA.out.other ⟨w.heap.size + 3, 3, none⟩ (.int .i64 (O)) (by first | (show w.heap.size ≠ w.heap.size + 3; omega) | (have := RBox.lt hA.out; show w.heap.size ≠ w.heap.size + 3; omega)))
  replace hB := hid (hB.out.other ⟨w.heap.size + 3, 3, none⟩ (.int .i64 (O)) (by first | (show w.heap.size + 1 ≠ w.heap.size + 3; omega) | (have := RBox.lt hB.out; show w.heap.size + 1 ≠ w.heap.size + 3; omega)))
  replace hQ := hid (hQ.out.other ⟨w.heap.size + 3, 3, none⟩ (.int .i64 (O)) (by first | (show w.heap.size + 2 ≠ w.heap.size + 3; omega) | (have := RBox.lt hQ.out; show w.heap.size + 2 ≠ w.heap.size + 3; omega)))
  replace hN := hid (hN.out.set3 (O))
  replace hbel := hid (hbel.out.setCell (p := ⟨w.heap.size + 3, 3, none⟩) (by show w.heap.size ≤ w.heap.size + 3; omega) (.int .i64 (O)))
  generalize W1.setCell ⟨w.heap.size + 3, 3, none⟩ (.int .i64 (O)) = ws11 at *
  refine hK.out _ _ ?hS137 (fun hHeld => ?re137)
  case hS137 => exact ⟨(RBox.box hA.out).c0, (RBox.box hA.out).c1, (RBox.box hA.out).c2, (RBox.box hA.out).c3, (RBox.box hB.out).c0, (RBox.box hB.out).c1, (RBox.box hB.out).c2, (RBox.box hB.out).c3, (RBox.box hN.out).c2⟩
  clear hK K
  (try simp only [Act.put, List.setIfInBounds_toArray, List.set_cons_zero, List.set_cons_succ])
  refine wpAnyH_done (by kernel_rfl) ?_ _
  clear hHeld
  generalize ws11 = w1 at *
  have bA1 := hA
  have bB1 := hB
  have bQ1 := hQ
  have bN1 := hN
  have bel1 := hbel
  clear hbel hA hB hQ hN
  clear cA0 cA1 cA2 cA3 cB0 cB1 cB2 cB3 cN0 cN1 cN2 cN3
  obtain ⟨cA0, cA1, cA2, cA3⟩ := RBox.box bA1.out
  obtain ⟨cB0, cB1, cB2, cB3⟩ := RBox.box bB1.out
  obtain ⟨cN0, cN1, cN2, cN3⟩ := RBox.box bN1.out
  have frN := RBox.frozen bN1.out
  go_wp2_with fail
  have bA2 := hid (bA1.out.other ⟨w.heap.size + 3, 0, none⟩ (.int .i64 (a)) (by show w.heap.size ≠ w.heap.size + 3; omega))
  have bB2 := hid (bB1.out.other ⟨w.heap.size + 3, 0, none⟩ (.int .i64 (a)) (by show w.heap.size + 1 ≠ w.heap.size + 3; omega))
  have bQ2 := hid (bQ1.out.other ⟨w.heap.size + 3, 0, none⟩ (.int .i64 (a)) (by show w.heap.size + 2 ≠ w.heap.size + 3; omega))
  have bN2 := hid (bN1.out.set0 (a))
  have bel2 := hid (bel1.out.setCell (p := ⟨w.heap.size + 3, 0, none⟩) (by show w.heap.size ≤ w.heap.size + 3; omega) (.int .i64 (a)))
  clear bA1 bB1 bQ1 bN1 bel1
  generalize w1.setCell ⟨w.heap.size + 3, 0, none⟩ (.int .i64 (a)) = w2 at *
  clear cA0 cA1 cA2 cA3 cB0 cB1 cB2 cB3 cN0 cN1 cN2 cN3
  clear frN
  obtain ⟨cA0, cA1, cA2, cA3⟩ := RBox.box bA2.out
  obtain ⟨cB0, cB1, cB2, cB3⟩ := RBox.box bB2.out
  obtain ⟨cN0, cN1, cN2, cN3⟩ := RBox.box bN2.out
  have frN := RBox.frozen bN2.out
  go_wp2_with fail
  have bA3 := hid (bA2.out.other ⟨w.heap.size + 3, 0, none⟩ (.int .i64 (e)) (by show w.heap.size ≠ w.heap.size + 3; omega))
  have bB3 := hid (bB2.out.other ⟨w.heap.size + 3, 0, none⟩ (.int .i64 (e)) (by show w.heap.size + 1 ≠ w.heap.size + 3; omega))
  have bQ3 := hid (bQ2.out.other ⟨w.heap.size + 3, 0, none⟩ (.int .i64 (e)) (by show w.heap.size + 2 ≠ w.heap.size + 3; omega))
  have bN3 := hid (bN2.out.set0 (e))
  have bel3 := hid (bel2.out.setCell (p := ⟨w.heap.size + 3, 0, none⟩) (by show w.heap.size ≤ w.heap.size + 3; omega) (.int .i64 (e)))
  clear bA2 bB2 bQ2 bN2 bel2
  generalize w2.setCell ⟨w.heap.size + 3, 0, none⟩ (.int .i64 (e)) = w3 at *
  clear cA0 cA1 cA2 cA3 cB0 cB1 cB2 cB3 cN0 cN1 cN2 cN3
  clear frN
  obtain ⟨cA0, cA1, cA2, cA3⟩ := RBox.box bA3.out
  obtain ⟨cB0, cB1, cB2, cB3⟩ := RBox.box bB3.out
  obtain ⟨cN0, cN1, cN2, cN3⟩ := RBox.box bN3.out
  have frN := RBox.frozen bN3.out
  go_wp2_with fail
  refine (Ht.out _).mono ?_
  rintro ee w4 ⟨rfl, hb4⟩
  have bA4 := hid (bA3.out.below hb4)
  have bB4 := hid (bB3.out.below hb4)
  have bQ4 := hid (bQ3.out.below hb4)
  have bN4 := hid (bN3.out.below hb4)
  have bel4 := hid (bel3.out.trans (hb4.mono bel3.out.size))
  clear hb4 bA3 bB3 bQ3 bN3 bel3
  clear cA0 cA1 cA2 cA3 cB0 cB1 cB2 cB3 cN0 cN1 cN2 cN3
  clear frN
  obtain ⟨g0, g1, g2, g3⟩ := RBox.box bQ4.out
  have fq := RBox.frozen bQ4.out
  have P5 := hid (RBox.box (bQ4.out.st4 (x' := tLo (e) (4294967295) (C)) (y' := tHi (e) (4294967295) (C) (O)) (z' := tB (e) (4294967295) (C)) (u' := tO (e) (4294967295) (O))))
  have B5 := hid (st4_below (w.heap.size + 2) (tLo (e) (4294967295) (C)) (tHi (e) (4294967295) (C) (O)) (tB (e) (4294967295) (C)) (tO (e) (4294967295) (O)) bel4.out (by omega))
  go_wp2_with fail
  obtain ⟨p0, p1, p2, p3⟩ := P5.out
  unfold st4 at p0 p1 p2 p3
  refine bodyPost_ret (v := rv (tLo (e) (4294967295) (C)) (tHi (e) (4294967295) (C) (O)) (tB (e) (4294967295) (C)) (tO (e) (4294967295) (O))) (by simp [results, Try.results59, go_sem, p0, p1, p2, p3]) rfl ⟨rfl, B5.out⟩

set_option maxRecDepth 100000 in
set_option maxHeartbeats 2000000 in
theorem s_or_le (a b c d e f g h : Nat) (w : World) (A : OkN a b c d) (B : OkN e f g h) (hc : ¬ a < e) :
    Calls Try.prog 59 #[.int .i64 6, rv a b c d, rv e f g h] w fun ee w' => ee = .returned (tv a 4294967295 (c ||| g) ((d ||| h) &&& notB (c ||| g))) ∧ Below w.heap.size w w' := by
  have := A.le
  have := A.hi
  have := B.le
  have := B.hi
  have := A.b
  have := A.o
  have := B.b
  have := B.o
  have e1 := or_i64 c g (by omega) (by omega)
  have l1 : c ||| g ≤ 4294967295 := or_le A.b B.b
  have e2 := or_i64 d h (by omega) (by omega)
  have l2 : d ||| h ≤ 4294967295 := or_le A.o B.o
  have e3 := xor_top (c ||| g) l1
  have l5 := not_le l1
  have e4 := and_i64 (d ||| h) (notB (c ||| g)) (by omega) (by omega)
  have k1 := or_ok A B
  rw [show max a e = a by omega] at k1
  have Ht : Hid (∀ w, Calls Try.prog 28 #[rv a 4294967295 ((c ||| g : Nat) : Int) (((d ||| h) &&& notB (c ||| g) : Nat) : Int)] w fun ee w' => ee = .returned (tv (a) (4294967295) (c ||| g) ((d ||| h) &&& notB (c ||| g))) ∧ Below w.heap.size w w') := by
    intro w
    have this := tidyS _ _ _ _ k1 w
    exact this
  have hc' : ¬ (a : Int) < e := by omega
  clear A B k1 hc
  generalize (d ||| h) &&& notB (c ||| g) = O at *
  generalize d ||| h = D1 at *
  generalize notB (c ||| g) = NC at *
  generalize c ||| g = C at *
  have bA0 : Hid (RBox ((((w.alloc (cellsR4 a b c d)).alloc (cellsR4 e f g h)).alloc (cellsR4 0 0 0 0)).alloc (cellsR4 0 4294967295 C 0)) w.heap.size a b c d) := (twoA w a b c d e f g h).alloc (cellsR4 0 4294967295 C 0)
  have bB0 : Hid (RBox ((((w.alloc (cellsR4 a b c d)).alloc (cellsR4 e f g h)).alloc (cellsR4 0 0 0 0)).alloc (cellsR4 0 4294967295 C 0)) (w.heap.size + 1) e f g h) := (twoB w a b c d e f g h).alloc (cellsR4 0 4294967295 C 0)
  have bQ0 : Hid (RBox ((((w.alloc (cellsR4 a b c d)).alloc (cellsR4 e f g h)).alloc (cellsR4 0 0 0 0)).alloc (cellsR4 0 4294967295 C 0)) (w.heap.size + 2) 0 0 0 0) := (twoQ w a b c d e f g h).alloc (cellsR4 0 4294967295 C 0)
  have bN0 : Hid (RBox ((((w.alloc (cellsR4 a b c d)).alloc (cellsR4 e f g h)).alloc (cellsR4 0 0 0 0)).alloc (cellsR4 0 4294967295 C 0)) (w.heap.size + 3) 0 4294967295 C 0) := (by have h0 := RBox.new (two w a b c d e f g h) 0 4294967295 C 0; simp only [World.size_alloc] at h0; exact h0)
  have bel0 : Hid (Below w.heap.size w ((((w.alloc (cellsR4 a b c d)).alloc (cellsR4 e f g h)).alloc (cellsR4 0 0 0 0)).alloc (cellsR4 0 4294967295 C 0))) := (twoW w a b c d e f g h).alloc (by simp; omega) (cellsR4 0 4294967295 C 0)
  go_enter Try.func59, Try.ntmps59
  go_wp2_with fail
  refine (c_l2Top _).mono ?_
  rintro ee w1 ⟨rfl, hw1⟩
  rw [hw1]; clear hw1 w1
  go_wp2_with fail
  generalize (((w.alloc (cellsR4 a b c d)).alloc (cellsR4 e f g h)).alloc (cellsR4 0 0 0 0)).alloc (cellsR4 0 4294967295 C 0) = w0 at *
  obtain ⟨cA0, cA1, cA2, cA3⟩ := RBox.box bA0.out
  obtain ⟨cB0, cB1, cB2, cB3⟩ := RBox.box bB0.out
  obtain ⟨cN0, cN1, cN2, cN3⟩ := RBox.box bN0.out
  refine wp_region_held_drew (S := (fun w' => w'.cell? ⟨w.heap.size, 0, none⟩ = some (.int .i64 (a)) ∧ w'.cell? ⟨w.heap.size, 1, none⟩ = some (.int .i64 (b)) ∧ w'.cell? ⟨w.heap.size, 2, none⟩ = some (.int .i64 (c)) ∧ w'.cell? ⟨w.heap.size, 3, none⟩ = some (.int .i64 (d)) ∧ w'.cell? ⟨w.heap.size + 1, 0, none⟩ = some (.int .i64 (e)) ∧ w'.cell? ⟨w.heap.size + 1, 1, none⟩ = some (.int .i64 (f)) ∧ w'.cell? ⟨w.heap.size + 1, 2, none⟩ = some (.int .i64 (g)) ∧ w'.cell? ⟨w.heap.size + 1, 3, none⟩ = some (.int .i64 (h)) ∧ w'.cell? ⟨w.heap.size + 3, 2, none⟩ = some (.int .i64 (C)))) (by kernel_rfl) (by exact ⟨(RBox.box bA0.out).c0, (RBox.box bA0.out).c1, (RBox.box bA0.out).c2, (RBox.box bA0.out).c3, (RBox.box bB0.out).c0, (RBox.box bB0.out).c1, (RBox.box bB0.out).c2, (RBox.box bB0.out).c3, (RBox.box bN0.out).c2⟩) (fun hHeld => ?_)
  have hA := hid (RBox.drew bA0.out)
  have hB := hid (RBox.drew bB0.out)
  have hQ := hid (RBox.drew bQ0.out)
  have hN := hid (RBox.drew bN0.out)
  have hbel := hid (Below.drew bel0.out)
  clear bA0 bB0 bQ0 bN0 bel0
  generalize w0.drew = W1 at *
  refine wpAnyH_take (i := 0) (oi := ?oi138) (v := ?v138) (fuel := 11) ?hi138 ?hs138 ?hf138 ?hr138 ?hq138 (Or.inl ⟨?hw138, ?hy138⟩) hHeld ?rest138
  case hi138 => rw [List.getElem?_toArray]; rfl
  case hq138 => exact fun _ _ _ h => h
  case hs138 | hf138 | hr138 => kernel_rfl
  case hw138 => rfl
  case hy138 => (intro w1 hSw; (try dsimp only at hSw); go_simp; try with_reducible rfl)
  (try simp only [Act.put, List.setIfInBounds_toArray, List.set_cons_zero, List.set_cons_succ])
  refine wpAnyH_take (i := 1) (oi := ?oi139) (v := ?v139) (fuel := 10) ?hi139 ?hs139 ?hf139 ?hr139 ?hq139 (Or.inl ⟨?hw139, ?hy139⟩) hHeld ?rest139
  case hi139 => rw [List.getElem?_toArray]; rfl
  case hq139 => exact fun _ _ _ h => h
  case hs139 | hf139 | hr139 => kernel_rfl
  case hw139 => rfl
  case hy139 => (intro w1 hSw; (try dsimp only at hSw); go_simp; try with_reducible rfl)
  (try simp only [Act.put, List.setIfInBounds_toArray, List.set_cons_zero, List.set_cons_succ])
  refine wpAnyH_take (i := 2) (oi := ?oi140) (v := ?v140) (fuel := 9) ?hi140 ?hs140 ?hf140 ?hr140 ?hq140 (Or.inl ⟨?hw140, ?hy140⟩) hHeld ?rest140
  case hi140 => rw [List.getElem?_toArray]; rfl
  case hq140 => exact fun _ _ _ h => h
  case hs140 | hf140 | hr140 => kernel_rfl
  case hw140 => rfl
  case hy140 => (intro w1 hSw; (try dsimp only at hSw); go_simp; try with_reducible rfl)
  (try simp only [Act.put, List.setIfInBounds_toArray, List.set_cons_zero, List.set_cons_succ])
  refine wpAnyH_take (i := 3) (oi := ?oi141) (v := ?v141) (fuel := 8) ?hi141 ?hs141 ?hf141 ?hr141 ?hq141 (Or.inl ⟨?hw141, ?hy141⟩) hHeld ?rest141
  case hi141 => rw [List.getElem?_toArray]; rfl
  case hq141 => exact fun _ _ _ h => h
  case hs141 | hf141 | hr141 => kernel_rfl
  case hw141 => rfl
  case hy141 => (intro w1 hSw; (try dsimp only at hSw); go_simp; try with_reducible rfl)
  (try simp only [Act.put, List.setIfInBounds_toArray, List.set_cons_zero, List.set_cons_succ])
  refine wpAnyH_take (i := 4) (oi := ?oi142) (v := ?v142) (fuel := 7) ?hi142 ?hs142 ?hf142 ?hr142 ?hq142 (Or.inl ⟨?hw142, ?hy142⟩) hHeld ?rest142
  case hi142 => rw [List.getElem?_toArray]; rfl
  case hq142 => exact fun _ _ _ h => h
  case hs142 | hf142 | hr142 => kernel_rfl
  case hw142 => rfl
  case hy142 => (intro w1 hSw; (try dsimp only at hSw); go_simp; try with_reducible rfl)
  (try simp only [Act.put, List.setIfInBounds_toArray, List.set_cons_zero, List.set_cons_succ])
  refine wpAnyH_take (i := 6) (oi := ?oi143) (v := ?v143) (fuel := 6) ?hi143 ?hs143 ?hf143 ?hr143 ?hq143 (Or.inl ⟨?hw143, ?hy143⟩) hHeld ?rest143
  case hi143 => rw [List.getElem?_toArray]; rfl
  case hq143 => exact fun _ _ _ h => h
  case hs143 | hf143 | hr143 => kernel_rfl
  case hw143 => rfl
  case hy143 => (intro w1 hSw; (try dsimp only at hSw); go_simp; try with_reducible rfl)
  (try simp only [Act.put, List.setIfInBounds_toArray, List.set_cons_zero, List.set_cons_succ])
  refine wpAnyH_take (i := 7) (oi := ?oi144) (v := ?v144) (fuel := 5) ?hi144 ?hs144 ?hf144 ?hr144 ?hq144 (Or.inl ⟨?hw144, ?hy144⟩) hHeld ?rest144
  case hi144 => rw [List.getElem?_toArray]; rfl
  case hq144 => exact fun _ _ _ h => h
  case hs144 | hf144 | hr144 => kernel_rfl
  case hw144 => rfl
  case hy144 => (intro w1 hSw; (try dsimp only at hSw); go_simp; try with_reducible rfl)
  (try simp only [Act.put, List.setIfInBounds_toArray, List.set_cons_zero, List.set_cons_succ])
  refine wpAnyH_ready (fuel := 4) (rs := [5]) (by kernel_rfl) (by simp) ?_
  refine AllReadyH.cons (o := ?oi145) ?hi145 (fun K hK => ?st145) AllReadyH.nil
  case hi145 => rw [List.getElem?_toArray]; rfl
  go_simp
  refine (c_l2Top _).mono ?_
  rintro ee wn ⟨rfl, hwn⟩
  rw [hwn]; clear hwn wn
  go_wp2_with fail
  refine hK.out _ _ ?hS145 (fun hHeld => ?re145)
  case hS145 => exact ⟨(RBox.box hA.out).c0, (RBox.box hA.out).c1, (RBox.box hA.out).c2, (RBox.box hA.out).c3, (RBox.box hB.out).c0, (RBox.box hB.out).c1, (RBox.box hB.out).c2, (RBox.box hB.out).c3, (RBox.box hN.out).c2⟩
  clear hK K
  (try simp only [Act.put, List.setIfInBounds_toArray, List.set_cons_zero, List.set_cons_succ])
  refine wpAnyH_take (i := 8) (oi := ?oi146) (v := ?v146) (fuel := 3) ?hi146 ?hs146 ?hf146 ?hr146 ?hq146 (Or.inl ⟨?hw146, ?hy146⟩) hHeld ?rest146
  case hi146 => rw [List.getElem?_toArray]; rfl
  case hq146 => exact fun _ _ _ h => h
  case hs146 | hf146 | hr146 => kernel_rfl
  case hw146 => rfl
  case hy146 => (intro w1 hSw; (try dsimp only at hSw); go_simp; try with_reducible rfl)
  (try simp only [Act.put, List.setIfInBounds_toArray, List.set_cons_zero, List.set_cons_succ])
  refine wpAnyH_take (i := 9) (oi := ?oi147) (v := ?v147) (fuel := 2) ?hi147 ?hs147 ?hf147 ?hr147 ?hq147 (Or.inl ⟨?hw147, ?hy147⟩) hHeld ?rest147
  case hi147 => rw [List.getElem?_toArray]; rfl
  case hq147 => exact fun _ _ _ h => h
  case hs147 | hf147 | hr147 => kernel_rfl
  case hw147 => rfl
  case hy147 => (intro w1 hSw; (try dsimp only at hSw); go_simp; try with_reducible rfl)
  (try simp only [Act.put, List.setIfInBounds_toArray, List.set_cons_zero, List.set_cons_succ])
  refine wpAnyH_take (i := 10) (oi := ?oi148) (v := ?v148) (fuel := 1) ?hi148 ?hs148 ?hf148 ?hr148 ?hq148 (Or.inl ⟨?hw148, ?hy148⟩) hHeld ?rest148
  case hi148 => rw [List.getElem?_toArray]; rfl
  case hq148 => exact fun _ _ _ h => h
  case hs148 | hf148 | hr148 => kernel_rfl
  case hw148 => rfl
  case hy148 => (intro w1 hSw; (try dsimp only at hSw); go_simp; try with_reducible rfl)
  (try simp only [Act.put, List.setIfInBounds_toArray, List.set_cons_zero, List.set_cons_succ])
  refine wpAnyH_ready (fuel := 0) (rs := [11]) (by kernel_rfl) (by simp) ?_
  refine AllReadyH.cons (o := ?oi149) ?hi149 (fun K hK => ?st149) AllReadyH.nil
  case hi149 => rw [List.getElem?_toArray]; rfl
  obtain ⟨g0, g1, g2, g3⟩ := RBox.box hN.out
  have fq := RBox.frozen hN.out
  go_simp
  clear g0 g1 g2 g3 fq
  replace hA := hid (hA.out.other ⟨w.heap.size + 3, 3, none⟩ (.int .i64 (O)) (by first | (show w.heap.size ≠ w.heap.size + 3; omega) | (have := RBox.lt hA.out; show w.heap.size ≠ w.heap.size + 3; omega)))
  replace hB := hid (hB.out.other ⟨w.heap.size + 3, 3, none⟩ (.int .i64 (O)) (by first | (show w.heap.size + 1 ≠ w.heap.size + 3; omega) | (have := RBox.lt hB.out; show w.heap.size + 1 ≠ w.heap.size + 3; omega)))
  replace hQ := hid (hQ.out.other ⟨w.heap.size + 3, 3, none⟩ (.int .i64 (O)) (by first | (show w.heap.size + 2 ≠ w.heap.size + 3; omega) | (have := RBox.lt hQ.out; show w.heap.size + 2 ≠ w.heap.size + 3; omega)))
  replace hN := hid (hN.out.set3 (O))
  replace hbel := hid (hbel.out.setCell (p := ⟨w.heap.size + 3, 3, none⟩) (by show w.heap.size ≤ w.heap.size + 3; omega) (.int .i64 (O)))
  generalize W1.setCell ⟨w.heap.size + 3, 3, none⟩ (.int .i64 (O)) = ws11 at *
  refine hK.out _ _ ?hS149 (fun hHeld => ?re149)
  case hS149 => exact ⟨(RBox.box hA.out).c0, (RBox.box hA.out).c1, (RBox.box hA.out).c2, (RBox.box hA.out).c3, (RBox.box hB.out).c0, (RBox.box hB.out).c1, (RBox.box hB.out).c2, (RBox.box hB.out).c3, (RBox.box hN.out).c2⟩
  clear hK K
  (try simp only [Act.put, List.setIfInBounds_toArray, List.set_cons_zero, List.set_cons_succ])
  refine wpAnyH_done (by kernel_rfl) ?_ _
  clear hHeld
  generalize ws11 = w1 at *
  have bA1 := hA
  have bB1 := hB
  have bQ1 := hQ
  have bN1 := hN
  have bel1 := hbel
  clear hbel hA hB hQ hN
  clear cA0 cA1 cA2 cA3 cB0 cB1 cB2 cB3 cN0 cN1 cN2 cN3
  obtain ⟨cA0, cA1, cA2, cA3⟩ := RBox.box bA1.out
  obtain ⟨cB0, cB1, cB2, cB3⟩ := RBox.box bB1.out
  obtain ⟨cN0, cN1, cN2, cN3⟩ := RBox.box bN1.out
  have frN := RBox.frozen bN1.out
  go_wp2_with fail
  have bA2 := hid (bA1.out.other ⟨w.heap.size + 3, 0, none⟩ (.int .i64 (a)) (by show w.heap.size ≠ w.heap.size + 3; omega))
  have bB2 := hid (bB1.out.other ⟨w.heap.size + 3, 0, none⟩ (.int .i64 (a)) (by show w.heap.size + 1 ≠ w.heap.size + 3; omega))
  have bQ2 := hid (bQ1.out.other ⟨w.heap.size + 3, 0, none⟩ (.int .i64 (a)) (by show w.heap.size + 2 ≠ w.heap.size + 3; omega))
  have bN2 := hid (bN1.out.set0 (a))
  have bel2 := hid (bel1.out.setCell (p := ⟨w.heap.size + 3, 0, none⟩) (by show w.heap.size ≤ w.heap.size + 3; omega) (.int .i64 (a)))
  clear bA1 bB1 bQ1 bN1 bel1
  generalize w1.setCell ⟨w.heap.size + 3, 0, none⟩ (.int .i64 (a)) = w2 at *
  clear cA0 cA1 cA2 cA3 cB0 cB1 cB2 cB3 cN0 cN1 cN2 cN3
  clear frN
  obtain ⟨cA0, cA1, cA2, cA3⟩ := RBox.box bA2.out
  obtain ⟨cB0, cB1, cB2, cB3⟩ := RBox.box bB2.out
  obtain ⟨cN0, cN1, cN2, cN3⟩ := RBox.box bN2.out
  have frN := RBox.frozen bN2.out
  go_wp2_with fail
  refine (Ht.out _).mono ?_
  rintro ee w3 ⟨rfl, hb3⟩
  have bA3 := hid (bA2.out.below hb3)
  have bB3 := hid (bB2.out.below hb3)
  have bQ3 := hid (bQ2.out.below hb3)
  have bN3 := hid (bN2.out.below hb3)
  have bel3 := hid (bel2.out.trans (hb3.mono bel2.out.size))
  clear hb3 bA2 bB2 bQ2 bN2 bel2
  clear cA0 cA1 cA2 cA3 cB0 cB1 cB2 cB3 cN0 cN1 cN2 cN3
  clear frN
  obtain ⟨g0, g1, g2, g3⟩ := RBox.box bQ3.out
  have fq := RBox.frozen bQ3.out
  have P5 := hid (RBox.box (bQ3.out.st4 (x' := tLo (a) (4294967295) (C)) (y' := tHi (a) (4294967295) (C) (O)) (z' := tB (a) (4294967295) (C)) (u' := tO (a) (4294967295) (O))))
  have B5 := hid (st4_below (w.heap.size + 2) (tLo (a) (4294967295) (C)) (tHi (a) (4294967295) (C) (O)) (tB (a) (4294967295) (C)) (tO (a) (4294967295) (O)) bel3.out (by omega))
  go_wp2_with fail
  obtain ⟨p0, p1, p2, p3⟩ := P5.out
  unfold st4 at p0 p1 p2 p3
  refine bodyPost_ret (v := rv (tLo (a) (4294967295) (C)) (tHi (a) (4294967295) (C) (O)) (tB (a) (4294967295) (C)) (tO (a) (4294967295) (O))) (by simp [results, Try.results59, go_sem, p0, p1, p2, p3]) rfl ⟨rfl, B5.out⟩

set_option maxRecDepth 100000 in
set_option maxHeartbeats 2000000 in
theorem s_xor (a b c d e f g h : Nat) (w : World) (A : OkN a b c d) (B : OkN e f g h) :
    Calls Try.prog 59 #[.int .i64 7, rv a b c d, rv e f g h] w fun ee w' => ee = .returned (tv 0 4294967295 ((c ^^^ g) &&& notB (d ||| h)) (d ||| h)) ∧ Below w.heap.size w w' := by
  have := A.le
  have := A.hi
  have := B.le
  have := B.hi
  have := A.b
  have := A.o
  have := B.b
  have := B.o
  have e1 := xor_i64 c g (by omega) (by omega)
  have l1 : c ^^^ g ≤ 4294967295 := xor_le A.b B.b
  have e2 := or_i64 d h (by omega) (by omega)
  have l2 : d ||| h ≤ 4294967295 := or_le A.o B.o
  have e3 := xor_top (d ||| h) l2
  have l5 := not_le l2
  have e4 := and_i64 (c ^^^ g) (notB (d ||| h)) (by omega) (by omega)
  have Ht : Hid (∀ w, Calls Try.prog 28 #[rv 0 4294967295 (((c ^^^ g) &&& notB (d ||| h) : Nat) : Int) ((d ||| h : Nat) : Int)] w fun ee w' => ee = .returned (tv (0) (4294967295) ((c ^^^ g) &&& notB (d ||| h)) (d ||| h)) ∧ Below w.heap.size w w') := by
    intro w
    have this := tidyS _ _ _ _ (xor_ok A B) w
    exact this
  clear A B
  generalize (c ^^^ g) &&& notB (d ||| h) = C2 at *
  generalize notB (d ||| h) = ND at *
  generalize d ||| h = D1 at *
  generalize c ^^^ g = C at *
  have bA0 : Hid (RBox ((((w.alloc (cellsR4 a b c d)).alloc (cellsR4 e f g h)).alloc (cellsR4 0 0 0 0)).alloc (cellsR4 0 4294967295 0 D1)) w.heap.size a b c d) := (twoA w a b c d e f g h).alloc (cellsR4 0 4294967295 0 D1)
  have bB0 : Hid (RBox ((((w.alloc (cellsR4 a b c d)).alloc (cellsR4 e f g h)).alloc (cellsR4 0 0 0 0)).alloc (cellsR4 0 4294967295 0 D1)) (w.heap.size + 1) e f g h) := (twoB w a b c d e f g h).alloc (cellsR4 0 4294967295 0 D1)
  have bQ0 : Hid (RBox ((((w.alloc (cellsR4 a b c d)).alloc (cellsR4 e f g h)).alloc (cellsR4 0 0 0 0)).alloc (cellsR4 0 4294967295 0 D1)) (w.heap.size + 2) 0 0 0 0) := (twoQ w a b c d e f g h).alloc (cellsR4 0 4294967295 0 D1)
  have bN0 : Hid (RBox ((((w.alloc (cellsR4 a b c d)).alloc (cellsR4 e f g h)).alloc (cellsR4 0 0 0 0)).alloc (cellsR4 0 4294967295 0 D1)) (w.heap.size + 3) 0 4294967295 0 D1) := (by have h0 := RBox.new (two w a b c d e f g h) 0 4294967295 0 D1; simp only [World.size_alloc] at h0; exact h0)
  have bel0 : Hid (Below w.heap.size w ((((w.alloc (cellsR4 a b c d)).alloc (cellsR4 e f g h)).alloc (cellsR4 0 0 0 0)).alloc (cellsR4 0 4294967295 0 D1))) := (twoW w a b c d e f g h).alloc (by simp; omega) (cellsR4 0 4294967295 0 D1)
  go_enter Try.func59, Try.ntmps59
  go_wp2_with fail
  refine (c_l2Top _).mono ?_
  rintro ee w1 ⟨rfl, hw1⟩
  rw [hw1]; clear hw1 w1
  go_wp2_with fail
  generalize (((w.alloc (cellsR4 a b c d)).alloc (cellsR4 e f g h)).alloc (cellsR4 0 0 0 0)).alloc (cellsR4 0 4294967295 0 D1) = w0 at *
  obtain ⟨cA0, cA1, cA2, cA3⟩ := RBox.box bA0.out
  obtain ⟨cB0, cB1, cB2, cB3⟩ := RBox.box bB0.out
  obtain ⟨cN0, cN1, cN2, cN3⟩ := RBox.box bN0.out
  refine wp_region_held_drew (S := (fun w' => w'.cell? ⟨w.heap.size, 0, none⟩ = some (.int .i64 (a)) ∧ w'.cell? ⟨w.heap.size, 1, none⟩ = some (.int .i64 (b)) ∧ w'.cell? ⟨w.heap.size, 2, none⟩ = some (.int .i64 (c)) ∧ w'.cell? ⟨w.heap.size, 3, none⟩ = some (.int .i64 (d)) ∧ w'.cell? ⟨w.heap.size + 1, 0, none⟩ = some (.int .i64 (e)) ∧ w'.cell? ⟨w.heap.size + 1, 1, none⟩ = some (.int .i64 (f)) ∧ w'.cell? ⟨w.heap.size + 1, 2, none⟩ = some (.int .i64 (g)) ∧ w'.cell? ⟨w.heap.size + 1, 3, none⟩ = some (.int .i64 (h)) ∧ w'.cell? ⟨w.heap.size + 3, 3, none⟩ = some (.int .i64 (D1)))) (by kernel_rfl) (by exact ⟨(RBox.box bA0.out).c0, (RBox.box bA0.out).c1, (RBox.box bA0.out).c2, (RBox.box bA0.out).c3, (RBox.box bB0.out).c0, (RBox.box bB0.out).c1, (RBox.box bB0.out).c2, (RBox.box bB0.out).c3, (RBox.box bN0.out).c3⟩) (fun hHeld => ?_)
  have hA := hid (RBox.drew bA0.out)
  have hB := hid (RBox.drew bB0.out)
  have hQ := hid (RBox.drew bQ0.out)
  have hN := hid (RBox.drew bN0.out)
  have hbel := hid (Below.drew bel0.out)
  clear bA0 bB0 bQ0 bN0 bel0
  generalize w0.drew = W1 at *
  refine wpAnyH_take (i := 0) (oi := ?oi150) (v := ?v150) (fuel := 11) ?hi150 ?hs150 ?hf150 ?hr150 ?hq150 (Or.inl ⟨?hw150, ?hy150⟩) hHeld ?rest150
  case hi150 => rw [List.getElem?_toArray]; rfl
  case hq150 => exact fun _ _ _ h => h
  case hs150 | hf150 | hr150 => kernel_rfl
  case hw150 => rfl
  case hy150 => (intro w1 hSw; (try dsimp only at hSw); go_simp; try with_reducible rfl)
  (try simp only [Act.put, List.setIfInBounds_toArray, List.set_cons_zero, List.set_cons_succ])
  refine wpAnyH_take (i := 1) (oi := ?oi151) (v := ?v151) (fuel := 10) ?hi151 ?hs151 ?hf151 ?hr151 ?hq151 (Or.inl ⟨?hw151, ?hy151⟩) hHeld ?rest151
  case hi151 => rw [List.getElem?_toArray]; rfl
  case hq151 => exact fun _ _ _ h => h
  case hs151 | hf151 | hr151 => kernel_rfl
  case hw151 => rfl
  case hy151 => (intro w1 hSw; (try dsimp only at hSw); go_simp; try with_reducible rfl)
  (try simp only [Act.put, List.setIfInBounds_toArray, List.set_cons_zero, List.set_cons_succ])
  refine wpAnyH_take (i := 2) (oi := ?oi152) (v := ?v152) (fuel := 9) ?hi152 ?hs152 ?hf152 ?hr152 ?hq152 (Or.inl ⟨?hw152, ?hy152⟩) hHeld ?rest152
  case hi152 => rw [List.getElem?_toArray]; rfl
  case hq152 => exact fun _ _ _ h => h
  case hs152 | hf152 | hr152 => kernel_rfl
  case hw152 => rfl
  case hy152 => (intro w1 hSw; (try dsimp only at hSw); go_simp; try with_reducible rfl)
  (try simp only [Act.put, List.setIfInBounds_toArray, List.set_cons_zero, List.set_cons_succ])
  refine wpAnyH_take (i := 3) (oi := ?oi153) (v := ?v153) (fuel := 8) ?hi153 ?hs153 ?hf153 ?hr153 ?hq153 (Or.inl ⟨?hw153, ?hy153⟩) hHeld ?rest153
  case hi153 => rw [List.getElem?_toArray]; rfl
  case hq153 => exact fun _ _ _ h => h
  case hs153 | hf153 | hr153 => kernel_rfl
  case hw153 => rfl
  case hy153 => (intro w1 hSw; (try dsimp only at hSw); go_simp; try with_reducible rfl)
  (try simp only [Act.put, List.setIfInBounds_toArray, List.set_cons_zero, List.set_cons_succ])
  refine wpAnyH_take (i := 4) (oi := ?oi154) (v := ?v154) (fuel := 7) ?hi154 ?hs154 ?hf154 ?hr154 ?hq154 (Or.inl ⟨?hw154, ?hy154⟩) hHeld ?rest154
  case hi154 => rw [List.getElem?_toArray]; rfl
  case hq154 => exact fun _ _ _ h => h
  case hs154 | hf154 | hr154 => kernel_rfl
  case hw154 => rfl
  case hy154 => (intro w1 hSw; (try dsimp only at hSw); go_simp; try with_reducible rfl)
  (try simp only [Act.put, List.setIfInBounds_toArray, List.set_cons_zero, List.set_cons_succ])
  refine wpAnyH_take (i := 6) (oi := ?oi155) (v := ?v155) (fuel := 6) ?hi155 ?hs155 ?hf155 ?hr155 ?hq155 (Or.inl ⟨?hw155, ?hy155⟩) hHeld ?rest155
  case hi155 => rw [List.getElem?_toArray]; rfl
  case hq155 => exact fun _ _ _ h => h
  case hs155 | hf155 | hr155 => kernel_rfl
  case hw155 => rfl
  case hy155 => (intro w1 hSw; (try dsimp only at hSw); go_simp; try with_reducible rfl)
  (try simp only [Act.put, List.setIfInBounds_toArray, List.set_cons_zero, List.set_cons_succ])
  refine wpAnyH_take (i := 7) (oi := ?oi156) (v := ?v156) (fuel := 5) ?hi156 ?hs156 ?hf156 ?hr156 ?hq156 (Or.inl ⟨?hw156, ?hy156⟩) hHeld ?rest156
  case hi156 => rw [List.getElem?_toArray]; rfl
  case hq156 => exact fun _ _ _ h => h
  case hs156 | hf156 | hr156 => kernel_rfl
  case hw156 => rfl
  case hy156 => (intro w1 hSw; (try dsimp only at hSw); go_simp; try with_reducible rfl)
  (try simp only [Act.put, List.setIfInBounds_toArray, List.set_cons_zero, List.set_cons_succ])
  refine wpAnyH_ready (fuel := 4) (rs := [5]) (by kernel_rfl) (by simp) ?_
  refine AllReadyH.cons (o := ?oi157) ?hi157 (fun K hK => ?st157) AllReadyH.nil
  case hi157 => rw [List.getElem?_toArray]; rfl
  go_simp
  refine (c_l2Top _).mono ?_
  rintro ee wn ⟨rfl, hwn⟩
  rw [hwn]; clear hwn wn
  go_wp2_with fail
  refine hK.out _ _ ?hS157 (fun hHeld => ?re157)
  case hS157 => exact ⟨(RBox.box hA.out).c0, (RBox.box hA.out).c1, (RBox.box hA.out).c2, (RBox.box hA.out).c3, (RBox.box hB.out).c0, (RBox.box hB.out).c1, (RBox.box hB.out).c2, (RBox.box hB.out).c3, (RBox.box hN.out).c3⟩
  clear hK K
  (try simp only [Act.put, List.setIfInBounds_toArray, List.set_cons_zero, List.set_cons_succ])
  refine wpAnyH_take (i := 8) (oi := ?oi158) (v := ?v158) (fuel := 3) ?hi158 ?hs158 ?hf158 ?hr158 ?hq158 (Or.inl ⟨?hw158, ?hy158⟩) hHeld ?rest158
  case hi158 => rw [List.getElem?_toArray]; rfl
  case hq158 => exact fun _ _ _ h => h
  case hs158 | hf158 | hr158 => kernel_rfl
  case hw158 => rfl
  case hy158 => (intro w1 hSw; (try dsimp only at hSw); go_simp; try with_reducible rfl)
  (try simp only [Act.put, List.setIfInBounds_toArray, List.set_cons_zero, List.set_cons_succ])
  refine wpAnyH_take (i := 9) (oi := ?oi159) (v := ?v159) (fuel := 2) ?hi159 ?hs159 ?hf159 ?hr159 ?hq159 (Or.inl ⟨?hw159, ?hy159⟩) hHeld ?rest159
  case hi159 => rw [List.getElem?_toArray]; rfl
  case hq159 => exact fun _ _ _ h => h
  case hs159 | hf159 | hr159 => kernel_rfl
  case hw159 => rfl
  case hy159 => (intro w1 hSw; (try dsimp only at hSw); go_simp; try with_reducible rfl)
  (try simp only [Act.put, List.setIfInBounds_toArray, List.set_cons_zero, List.set_cons_succ])
  refine wpAnyH_take (i := 10) (oi := ?oi160) (v := ?v160) (fuel := 1) ?hi160 ?hs160 ?hf160 ?hr160 ?hq160 (Or.inl ⟨?hw160, ?hy160⟩) hHeld ?rest160
  case hi160 => rw [List.getElem?_toArray]; rfl
  case hq160 => exact fun _ _ _ h => h
  case hs160 | hf160 | hr160 => kernel_rfl
  case hw160 => rfl
  case hy160 => (intro w1 hSw; (try dsimp only at hSw); go_simp; try with_reducible rfl)
  (try simp only [Act.put, List.setIfInBounds_toArray, List.set_cons_zero, List.set_cons_succ])
  refine wpAnyH_ready (fuel := 0) (rs := [11]) (by kernel_rfl) (by simp) ?_
  refine AllReadyH.cons (o := ?oi161) ?hi161 (fun K hK => ?st161) AllReadyH.nil
  case hi161 => rw [List.getElem?_toArray]; rfl
  obtain ⟨g0, g1, g2, g3⟩ := RBox.box hN.out
  have fq := RBox.frozen hN.out
  go_simp
  clear g0 g1 g2 g3 fq
  replace hA := hid (hA.out.other ⟨w.heap.size + 3, 2, none⟩ (.int .i64 (C2)) (by first | (show w.heap.size ≠ w.heap.size + 3; omega) | (have := RBox.lt hA.out; show w.heap.size ≠ w.heap.size + 3; omega)))
  replace hB := hid (hB.out.other ⟨w.heap.size + 3, 2, none⟩ (.int .i64 (C2)) (by first | (show w.heap.size + 1 ≠ w.heap.size + 3; omega) | (have := RBox.lt hB.out; show w.heap.size + 1 ≠ w.heap.size + 3; omega)))
  replace hQ := hid (hQ.out.other ⟨w.heap.size + 3, 2, none⟩ (.int .i64 (C2)) (by first | (show w.heap.size + 2 ≠ w.heap.size + 3; omega) | (have := RBox.lt hQ.out; show w.heap.size + 2 ≠ w.heap.size + 3; omega)))
  replace hN := hid (hN.out.set2 (C2))
  replace hbel := hid (hbel.out.setCell (p := ⟨w.heap.size + 3, 2, none⟩) (by show w.heap.size ≤ w.heap.size + 3; omega) (.int .i64 (C2)))
  generalize W1.setCell ⟨w.heap.size + 3, 2, none⟩ (.int .i64 (C2)) = ws11 at *
  refine hK.out _ _ ?hS161 (fun hHeld => ?re161)
  case hS161 => exact ⟨(RBox.box hA.out).c0, (RBox.box hA.out).c1, (RBox.box hA.out).c2, (RBox.box hA.out).c3, (RBox.box hB.out).c0, (RBox.box hB.out).c1, (RBox.box hB.out).c2, (RBox.box hB.out).c3, (RBox.box hN.out).c3⟩
  clear hK K
  (try simp only [Act.put, List.setIfInBounds_toArray, List.set_cons_zero, List.set_cons_succ])
  refine wpAnyH_done (by kernel_rfl) ?_ _
  clear hHeld
  generalize ws11 = w1 at *
  have bA1 := hA
  have bB1 := hB
  have bQ1 := hQ
  have bN1 := hN
  have bel1 := hbel
  clear hbel hA hB hQ hN
  clear cA0 cA1 cA2 cA3 cB0 cB1 cB2 cB3 cN0 cN1 cN2 cN3
  obtain ⟨cN0, cN1, cN2, cN3⟩ := RBox.box bN1.out
  go_wp2_with fail
  refine (Ht.out _).mono ?_
  rintro ee w2 ⟨rfl, hb2⟩
  have bA2 := hid (bA1.out.below hb2)
  have bB2 := hid (bB1.out.below hb2)
  have bQ2 := hid (bQ1.out.below hb2)
  have bN2 := hid (bN1.out.below hb2)
  have bel2 := hid (bel1.out.trans (hb2.mono bel1.out.size))
  clear hb2 bA1 bB1 bQ1 bN1 bel1
  clear cN0 cN1 cN2 cN3
  obtain ⟨g0, g1, g2, g3⟩ := RBox.box bQ2.out
  have fq := RBox.frozen bQ2.out
  have P5 := hid (RBox.box (bQ2.out.st4 (x' := tLo (0) (4294967295) (C2)) (y' := tHi (0) (4294967295) (C2) (D1)) (z' := tB (0) (4294967295) (C2)) (u' := tO (0) (4294967295) (D1))))
  have B5 := hid (st4_below (w.heap.size + 2) (tLo (0) (4294967295) (C2)) (tHi (0) (4294967295) (C2) (D1)) (tB (0) (4294967295) (C2)) (tO (0) (4294967295) (D1)) bel2.out (by omega))
  go_wp2_with fail
  obtain ⟨p0, p1, p2, p3⟩ := P5.out
  unfold st4 at p0 p1 p2 p3
  refine bodyPost_ret (v := rv (tLo (0) (4294967295) (C2)) (tHi (0) (4294967295) (C2) (D1)) (tB (0) (4294967295) (C2)) (tO (0) (4294967295) (D1))) (by simp [results, Try.results59, go_sem, p0, p1, p2, p3]) rfl ⟨rfl, B5.out⟩

end Go.Proofs.Ytnebjocnbfoafaa
