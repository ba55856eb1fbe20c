/- Contracts: the specification's join of two ranges. -/
import Derived.Test.YtnebjocnbfoafaaEQ
namespace Go.Proofs.Ytnebjocnbfoafaa
open Go.RowKit
set_option linter.unusedVariables false
set_option linter.unusedSimpArgs false

abbrev cellsR4 (x y z u : Int) : Obj := .cells #[.int .i64 x, .int .i64 y, .int .i64 z, .int .i64 u] 24
/-- The world in which a function of two ranges, whose answer is one, begins. -/
abbrev two (w : World) (a b c d e f g h : Int) : World := ((w.alloc (cellsR4 a b c d)).alloc (cellsR4 e f g h)).alloc (cellsR4 0 0 0 0)
theorem twoA (w : World) (a b c d e f g h : Int) : RBox (two w a b c d e f g h) w.heap.size a b c d := ((RBox.new w a b c d).alloc _).alloc _
theorem twoB (w : World) (a b c d e f g h : Int) : RBox (two w a b c d e f g h) (w.heap.size + 1) e f g h := by
  have h0 := (RBox.new (w.alloc (cellsR4 a b c d)) e f g h).alloc (cellsR4 0 0 0 0)
  simp only [World.size_alloc] at h0
  exact h0
theorem twoQ (w : World) (a b c d e f g h : Int) : RBox (two w a b c d e f g h) (w.heap.size + 2) 0 0 0 0 := by
  have h0 := RBox.new ((w.alloc (cellsR4 a b c d)).alloc (cellsR4 e f g h)) 0 0 0 0
  simp only [World.size_alloc] at h0
  exact h0
theorem twoW (w : World) (a b c d e f g h : Int) : Below w.heap.size w (two w a b c d e f g h) := (newB w _ _).alloc (by simp; omega) _

set_option maxRecDepth 100000 in
set_option maxHeartbeats 2000000 in
theorem c_l2Join1 (a b c d e f g h : Nat) (w : World) (A : OkN a b c d) (B : OkN e f g h) (k1 : (e : Int) < a) (k2 : (b : Int) < f) (O : Nat) (hO : d ||| h ||| (c ^^^ g) = O) (J : OkN e f (c &&& g) O) :
    Calls Try.prog 36 #[rv a b c d, rv e f g h] w fun ee w' => ee = .returned (rv (tLo e f (c &&& g)) (tHi e f (c &&& g) O) (tB e f (c &&& g)) (tO e f O)) ∧ Below w.heap.size w w' := by
  have e1 := or_i64 d h (by have := A.o; omega) (by have := B.o; omega)
  have l1 : d ||| h ≤ 4294967295 := or_le A.o B.o
  have e2 := xor_i64 c g (by have := A.b; omega) (by have := B.b; omega)
  have l2 : c ^^^ g ≤ 4294967295 := xor_le A.b B.b
  have e3 := or_i64 (d ||| h) (c ^^^ g) (by omega) (by omega)
  rw [hO] at e3
  have lO : O ≤ 4294967295 := J.o
  have e4 := xor_top O lO
  have l4 := not_le lO
  have e5 := and_i64 c (notB O) (by have := A.b; omega) (by omega)
  have hC : c &&& notB O = c &&& g := by rw [← hO]; exact join_spec A B
  rw [hC] at e5
  have Ht : Hid (∀ w, Calls Try.prog 28 #[rv e f (c &&& g : Nat) O] w fun ee w' => ee = .returned (rv (tLo e f (c &&& g)) (tHi e f (c &&& g) O) (tB e f (c &&& g)) (tO e f O)) ∧ Below w.heap.size w w') := fun w => c_l2Tidy e f (c &&& g) O w J
  have rA := hid ((twoA w a b c d e f g h).alloc (cellsR4 e f 0 O))
  have q3 := hid ((twoQ w a b c d e f g h).alloc (cellsR4 e f 0 O))
  have b3 : Hid (RBox ((two w a b c d e f g h).alloc (cellsR4 e f 0 O)) (w.heap.size + 3) e f 0 O) := by
    have h0 := RBox.new (two w a b c d e f g h) e f 0 O
    simp only [World.size_alloc] at h0
    exact h0
  have bel3 := hid ((twoW w a b c d e f g h).alloc (by simp; omega) (cellsR4 e f 0 O))
  clear hC hO A B J
  generalize notB O = NO at *
  generalize d ||| h = D1 at *
  generalize c ^^^ g = D2 at *
  go_enter Try.func36, Try.ntmps36
  go_wp2_with fail
  generalize ((two w a b c d e f g h).alloc (cellsR4 e f 0 O)) = W3 at *
  obtain ⟨cA0, cA1, cA2, cA3⟩ := RBox.box rA.out
  obtain ⟨cO0, cO1, cO2, cO3⟩ := RBox.box b3.out
  have frO := RBox.frozen b3.out
  refine wp_region_held_drew (S := (fun w' => w'.cell? ⟨w.heap.size, 2, none⟩ = some (.int .i64 c) ∧ w'.cell? ⟨w.heap.size + 3, 3, none⟩ = some (.int .i64 O))) (by kernel_rfl) (by simp [*]) (fun hHeld => ?_)
  refine wpAnyH_take (i := 0) (oi := ?oi1) (v := ?v1) (fuel := 8) ?hi1 ?hs1 ?hf1 ?hr1 ?hq1 (Or.inl ⟨?hw1, ?hy1⟩) hHeld ?rest1
  case hi1 => rw [List.getElem?_toArray]; rfl
  case hq1 => exact fun _ _ _ h => h
  case hs1 => kernel_rfl
  case hf1 => kernel_rfl
  case hr1 => kernel_rfl
  case hw1 => rfl
  case hy1 => (intro w1 hSw; (try dsimp only at hSw); go_simp; try with_reducible rfl)
  (try simp only [Act.put, List.setIfInBounds_toArray, List.set_cons_zero, List.set_cons_succ])
  refine wpAnyH_take (i := 1) (oi := ?oi2) (v := ?v2) (fuel := 7) ?hi2 ?hs2 ?hf2 ?hr2 ?hq2 (Or.inl ⟨?hw2, ?hy2⟩) hHeld ?rest2
  case hi2 => rw [List.getElem?_toArray]; rfl
  case hq2 => exact fun _ _ _ h => h
  case hs2 => kernel_rfl
  case hf2 => kernel_rfl
  case hr2 => kernel_rfl
  case hw2 => rfl
  case hy2 => (intro w1 hSw; (try dsimp only at hSw); go_simp; try with_reducible rfl)
  (try simp only [Act.put, List.setIfInBounds_toArray, List.set_cons_zero, List.set_cons_succ])
  refine wpAnyH_take (i := 3) (oi := ?oi3) (v := ?v3) (fuel := 6) ?hi3 ?hs3 ?hf3 ?hr3 ?hq3 (Or.inl ⟨?hw3, ?hy3⟩) hHeld ?rest3
  case hi3 => rw [List.getElem?_toArray]; rfl
  case hq3 => exact fun _ _ _ h => h
  case hs3 => kernel_rfl
  case hf3 => kernel_rfl
  case hr3 => kernel_rfl
  case hw3 => rfl
  case hy3 => (intro w1 hSw; (try dsimp only at hSw); go_simp; try with_reducible rfl)
  (try simp only [Act.put, List.setIfInBounds_toArray, List.set_cons_zero, List.set_cons_succ])
  refine wpAnyH_take (i := 4) (oi := ?oi4) (v := ?v4) (fuel := 5) ?hi4 ?hs4 ?hf4 ?hr4 ?hq4 (Or.inl ⟨?hw4, ?hy4⟩) hHeld ?rest4
  case hi4 => rw [List.getElem?_toArray]; rfl
  case hq4 => exact fun _ _ _ h => h
  case hs4 => kernel_rfl
  case hf4 => kernel_rfl
  case hr4 => kernel_rfl
  case hw4 => rfl
  case hy4 => (intro w1 hSw; (try dsimp only at hSw); go_simp; try with_reducible rfl)
  (try simp only [Act.put, List.setIfInBounds_toArray, List.set_cons_zero, List.set_cons_succ])
  refine wpAnyH_ready (fuel := 4) (rs := [2]) (by kernel_rfl) (by simp) ?_
  refine AllReadyH.cons (o := ?oi5) ?hi5 (fun K hK => ?st5) AllReadyH.nil
  case hi5 => rw [List.getElem?_toArray]; rfl
  go_simp
  refine (c_l2Top _).mono ?_
  rintro ee wt ⟨rfl, hwt⟩
  rw [hwt]; clear hwt wt
  go_wp2_with fail
  refine hK.out _ _ ?hS5 (fun hHeld => ?re5)
  case hS5 => first | (simp [*]; done) | exact ⟨(RBox.box (rA.out.other ⟨w.heap.size + 3, 2, none⟩ (.int .i64 ((c &&& g : Nat) : Int)) (show w.heap.size ≠ w.heap.size + 3 by omega))).c2, (RBox.box (b3.out.set2 ((c &&& g : Nat) : Int))).c3⟩
  clear hK K
  (try simp only [Act.put, List.setIfInBounds_toArray, List.set_cons_zero, List.set_cons_succ])
  refine wpAnyH_take (i := 5) (oi := ?oi6) (v := ?v6) (fuel := 3) ?hi6 ?hs6 ?hf6 ?hr6 ?hq6 (Or.inl ⟨?hw6, ?hy6⟩) hHeld ?rest6
  case hi6 => rw [List.getElem?_toArray]; rfl
  case hq6 => exact fun _ _ _ h => h
  case hs6 => kernel_rfl
  case hf6 => kernel_rfl
  case hr6 => kernel_rfl
  case hw6 => rfl
  case hy6 => (intro w1 hSw; (try dsimp only at hSw); go_simp; try with_reducible rfl)
  (try simp only [Act.put, List.setIfInBounds_toArray, List.set_cons_zero, List.set_cons_succ])
  refine wpAnyH_take (i := 6) (oi := ?oi7) (v := ?v7) (fuel := 2) ?hi7 ?hs7 ?hf7 ?hr7 ?hq7 (Or.inl ⟨?hw7, ?hy7⟩) hHeld ?rest7
  case hi7 => rw [List.getElem?_toArray]; rfl
  case hq7 => exact fun _ _ _ h => h
  case hs7 => kernel_rfl
  case hf7 => kernel_rfl
  case hr7 => kernel_rfl
  case hw7 => rfl
  case hy7 => (intro w1 hSw; (try dsimp only at hSw); go_simp; try with_reducible rfl)
  (try simp only [Act.put, List.setIfInBounds_toArray, List.set_cons_zero, List.set_cons_succ])
  refine wpAnyH_take (i := 7) (oi := ?oi8) (v := ?v8) (fuel := 1) ?hi8 ?hs8 ?hf8 ?hr8 ?hq8 (Or.inl ⟨?hw8, ?hy8⟩) hHeld ?rest8
  case hi8 => rw [List.getElem?_toArray]; rfl
  case hq8 => exact fun _ _ _ h => h
  case hs8 => kernel_rfl
  case hf8 => kernel_rfl
  case hr8 => kernel_rfl
  case hw8 => rfl
  case hy8 => (intro w1 hSw; (try dsimp only at hSw); go_simp; try with_reducible rfl)
  (try simp only [Act.put, List.setIfInBounds_toArray, List.set_cons_zero, List.set_cons_succ])
  refine wpAnyH_ready (fuel := 0) (rs := [8]) (by kernel_rfl) (by simp) ?_
  refine AllReadyH.cons (o := ?oi9) ?hi9 (fun K hK => ?st9) AllReadyH.nil
  case hi9 => rw [List.getElem?_toArray]; rfl
  go_simp
  refine hK.out _ _ ?hS9 (fun hHeld => ?re9)
  case hS9 => first | (simp [*]; done) | exact ⟨(RBox.box (rA.out.other ⟨w.heap.size + 3, 2, none⟩ (.int .i64 ((c &&& g : Nat) : Int)) (show w.heap.size ≠ w.heap.size + 3 by omega))).c2, (RBox.box (b3.out.set2 ((c &&& g : Nat) : Int))).c3⟩
  clear hK K
  (try simp only [Act.put, List.setIfInBounds_toArray, List.set_cons_zero, List.set_cons_succ])
  refine wpAnyH_done (by kernel_rfl) ?_ _
  have hb7 := hid ((b3.out.set2 ((c &&& g : Nat) : Int)))
  have q7 := hid (q3.out.other ⟨w.heap.size + 3, 2, none⟩ (.int .i64 ((c &&& g : Nat) : Int)) (show w.heap.size + 2 ≠ w.heap.size + 3 by omega))
  have bel7 := hid (bel3.out.setCell (p := ⟨w.heap.size + 3, 2, none⟩) (show w.heap.size ≤ w.heap.size + 3 by omega) (.int .i64 ((c &&& g : Nat) : Int)))
  clear hHeld
  have r8 := hid (RBox.drew hb7.out)
  have q8 := hid (RBox.drew q7.out)
  have bel8 := hid (Below.drew bel7.out)
  clear hb7 q7 bel7 b3 q3 bel3
  try simp only [World.setCell_drew] at r8 q8 bel8 ⊢
  generalize (W3.setCell ⟨w.heap.size + 3, 2, none⟩ (.int .i64 ((c &&& g : Nat) : Int))).drew = w8 at *
  clear cA0 cA1 cA2 cA3 cO0 cO1 cO2 cO3 frO
  obtain ⟨cO0, cO1, cO2, cO3⟩ := RBox.box r8.out
  go_wp2_with fail
  refine (Ht.out _).mono ?_
  rintro ee w9 ⟨rfl, hb9⟩
  have q9 := q8.out.below hb9
  have bel9 := bel8.out.trans (hb9.mono bel8.out.size)
  obtain ⟨g0, g1, g2, g3⟩ := RBox.box q9
  have fq := RBox.frozen q9
  have P5 := hid (RBox.box (q9.st4 (x' := tLo e f (c &&& g)) (y' := tHi e f (c &&& g) O) (z' := tB e f (c &&& g)) (u' := tO e f O)))
  have B5 := hid (st4_below (w.heap.size + 2) (tLo e f (c &&& g)) (tHi e f (c &&& g) O) (tB e f (c &&& g)) (tO e f O) bel9 (by omega))
  clear q9 bel9 hb9 q8 r8 bel8 cO0 cO1 cO2 cO3
  go_wp2_with fail
  obtain ⟨p0, p1, p2, p3⟩ := P5.out
  unfold st4 at p0 p1 p2 p3
  refine bodyPost_ret (v := rv (tLo e f (c &&& g)) (tHi e f (c &&& g) O) (tB e f (c &&& g)) (tO e f O)) (by simp [results, Try.results36, go_sem, p0, p1, p2, p3]) rfl ⟨rfl, B5.out⟩

set_option maxRecDepth 100000 in
set_option maxHeartbeats 2000000 in
theorem c_l2Join2 (a b c d e f g h : Nat) (w : World) (A : OkN a b c d) (B : OkN e f g h) (k1 : (e : Int) < a) (k2 : ¬ (b : Int) < f) (O : Nat) (hO : d ||| h ||| (c ^^^ g) = O) (J : OkN e b (c &&& g) O) :
    Calls Try.prog 36 #[rv a b c d, rv e f g h] w fun ee w' => ee = .returned (rv (tLo e b (c &&& g)) (tHi e b (c &&& g) O) (tB e b (c &&& g)) (tO e b O)) ∧ Below w.heap.size w w' := by
  have e1 := or_i64 d h (by have := A.o; omega) (by have := B.o; omega)
  have l1 : d ||| h ≤ 4294967295 := or_le A.o B.o
  have e2 := xor_i64 c g (by have := A.b; omega) (by have := B.b; omega)
  have l2 : c ^^^ g ≤ 4294967295 := xor_le A.b B.b
  have e3 := or_i64 (d ||| h) (c ^^^ g) (by omega) (by omega)
  rw [hO] at e3
  have lO : O ≤ 4294967295 := J.o
  have e4 := xor_top O lO
  have l4 := not_le lO
  have e5 := and_i64 c (notB O) (by have := A.b; omega) (by omega)
  have hC : c &&& notB O = c &&& g := by rw [← hO]; exact join_spec A B
  rw [hC] at e5
  have Ht : Hid (∀ w, Calls Try.prog 28 #[rv e b (c &&& g : Nat) O] w fun ee w' => ee = .returned (rv (tLo e b (c &&& g)) (tHi e b (c &&& g) O) (tB e b (c &&& g)) (tO e b O)) ∧ Below w.heap.size w w') := fun w => c_l2Tidy e b (c &&& g) O w J
  have rA := hid ((twoA w a b c d e f g h).alloc (cellsR4 e b 0 O))
  have q3 := hid ((twoQ w a b c d e f g h).alloc (cellsR4 e b 0 O))
  have b3 : Hid (RBox ((two w a b c d e f g h).alloc (cellsR4 e b 0 O)) (w.heap.size + 3) e b 0 O) := by
    have h0 := RBox.new (two w a b c d e f g h) e b 0 O
    simp only [World.size_alloc] at h0
    exact h0
  have bel3 := hid ((twoW w a b c d e f g h).alloc (by simp; omega) (cellsR4 e b 0 O))
  clear hC hO A B J
  generalize notB O = NO at *
  generalize d ||| h = D1 at *
  generalize c ^^^ g = D2 at *
  go_enter Try.func36, Try.ntmps36
  go_wp2_with fail
  generalize ((two w a b c d e f g h).alloc (cellsR4 e b 0 O)) = W3 at *
  obtain ⟨cA0, cA1, cA2, cA3⟩ := RBox.box rA.out
  obtain ⟨cO0, cO1, cO2, cO3⟩ := RBox.box b3.out
  have frO := RBox.frozen b3.out
  refine wp_region_held_drew (S := (fun w' => w'.cell? ⟨w.heap.size, 2, none⟩ = some (.int .i64 c) ∧ w'.cell? ⟨w.heap.size + 3, 3, none⟩ = some (.int .i64 O))) (by kernel_rfl) (by simp [*]) (fun hHeld => ?_)
  refine wpAnyH_take (i := 0) (oi := ?oi10) (v := ?v10) (fuel := 8) ?hi10 ?hs10 ?hf10 ?hr10 ?hq10 (Or.inl ⟨?hw10, ?hy10⟩) hHeld ?rest10
  case hi10 => rw [List.getElem?_toArray]; rfl
  case hq10 => exact fun _ _ _ h => h
  case hs10 => kernel_rfl
  case hf10 => kernel_rfl
  case hr10 => kernel_rfl
  case hw10 => rfl
  case hy10 => (intro w1 hSw; (try dsimp only at hSw); go_simp; try with_reducible rfl)
  (try simp only [Act.put, List.setIfInBounds_toArray, List.set_cons_zero, List.set_cons_succ])
  refine wpAnyH_take (i := 1) (oi := ?oi11) (v := ?v11) (fuel := 7) ?hi11 ?hs11 ?hf11 ?hr11 ?hq11 (Or.inl ⟨?hw11, ?hy11⟩) hHeld ?rest11
  case hi11 => rw [List.getElem?_toArray]; rfl
  case hq11 => exact fun _ _ _ h => h
  case hs11 => kernel_rfl
  case hf11 => kernel_rfl
  case hr11 => kernel_rfl
  case hw11 => rfl
  case hy11 => (intro w1 hSw; (try dsimp only at hSw); go_simp; try with_reducible rfl)
  (try simp only [Act.put, List.setIfInBounds_toArray, List.set_cons_zero, List.set_cons_succ])
  refine wpAnyH_take (i := 3) (oi := ?oi12) (v := ?v12) (fuel := 6) ?hi12 ?hs12 ?hf12 ?hr12 ?hq12 (Or.inl ⟨?hw12, ?hy12⟩) hHeld ?rest12
  case hi12 => rw [List.getElem?_toArray]; rfl
  case hq12 => exact fun _ _ _ h => h
  case hs12 => kernel_rfl
  case hf12 => kernel_rfl
  case hr12 => kernel_rfl
  case hw12 => rfl
  case hy12 => (intro w1 hSw; (try dsimp only at hSw); go_simp; try with_reducible rfl)
  (try simp only [Act.put, List.setIfInBounds_toArray, List.set_cons_zero, List.set_cons_succ])
  refine wpAnyH_take (i := 4) (oi := ?oi13) (v := ?v13) (fuel := 5) ?hi13 ?hs13 ?hf13 ?hr13 ?hq13 (Or.inl ⟨?hw13, ?hy13⟩) hHeld ?rest13
  case hi13 => rw [List.getElem?_toArray]; rfl
  case hq13 => exact fun _ _ _ h => h
  case hs13 => kernel_rfl
  case hf13 => kernel_rfl
  case hr13 => kernel_rfl
  case hw13 => rfl
  case hy13 => (intro w1 hSw; (try dsimp only at hSw); go_simp; try with_reducible rfl)
  (try simp only [Act.put, List.setIfInBounds_toArray, List.set_cons_zero, List.set_cons_succ])
  refine wpAnyH_ready (fuel := 4) (rs := [2]) (by kernel_rfl) (by simp) ?_
  refine AllReadyH.cons (o := ?oi14) ?hi14 (fun K hK => ?st14) AllReadyH.nil
  case hi14 => rw [List.getElem?_toArray]; rfl
  go_simp
  refine (c_l2Top _).mono ?_
  rintro ee wt ⟨rfl, hwt⟩
  rw [hwt]; clear hwt wt
  go_wp2_with fail
  refine hK.out _ _ ?hS14 (fun hHeld => ?re14)
  case hS14 => first | (simp [*]; done) | exact ⟨(RBox.box (rA.out.other ⟨w.heap.size + 3, 2, none⟩ (.int .i64 ((c &&& g : Nat) : Int)) (show w.heap.size ≠ w.heap.size + 3 by omega))).c2, (RBox.box (b3.out.set2 ((c &&& g : Nat) : Int))).c3⟩
  clear hK K
  (try simp only [Act.put, List.setIfInBounds_toArray, List.set_cons_zero, List.set_cons_succ])
  refine wpAnyH_take (i := 5) (oi := ?oi15) (v := ?v15) (fuel := 3) ?hi15 ?hs15 ?hf15 ?hr15 ?hq15 (Or.inl ⟨?hw15, ?hy15⟩) hHeld ?rest15
  case hi15 => rw [List.getElem?_toArray]; rfl
  case hq15 => exact fun _ _ _ h => h
  case hs15 => kernel_rfl
  case hf15 => kernel_rfl
  case hr15 => kernel_rfl
  case hw15 => rfl
  case hy15 => (intro w1 hSw; (try dsimp only at hSw); go_simp; try with_reducible rfl)
  (try simp only [Act.put, List.setIfInBounds_toArray, List.set_cons_zero, List.set_cons_succ])
  refine wpAnyH_take (i := 6) (oi := ?oi16) (v := ?v16) (fuel := 2) ?hi16 ?hs16 ?hf16 ?hr16 ?hq16 (Or.inl ⟨?hw16, ?hy16⟩) hHeld ?rest16
  case hi16 => rw [List.getElem?_toArray]; rfl
  case hq16 => exact fun _ _ _ h => h
  case hs16 => kernel_rfl
  case hf16 => kernel_rfl
  case hr16 => kernel_rfl
  case hw16 => rfl
  case hy16 => (intro w1 hSw; (try dsimp only at hSw); go_simp; try with_reducible rfl)
  (try simp only [Act.put, List.setIfInBounds_toArray, List.set_cons_zero, List.set_cons_succ])
  refine wpAnyH_take (i := 7) (oi := ?oi17) (v := ?v17) (fuel := 1) ?hi17 ?hs17 ?hf17 ?hr17 ?hq17 (Or.inl ⟨?hw17, ?hy17⟩) hHeld ?rest17
  case hi17 => rw [List.getElem?_toArray]; rfl
  case hq17 => exact fun _ _ _ h => h
  case hs17 => kernel_rfl
  case hf17 => kernel_rfl
  case hr17 => kernel_rfl
  case hw17 => rfl
  case hy17 => (intro w1 hSw; (try dsimp only at hSw); go_simp; try with_reducible rfl)
  (try simp only [Act.put, List.setIfInBounds_toArray, List.set_cons_zero, List.set_cons_succ])
  refine wpAnyH_ready (fuel := 0) (rs := [8]) (by kernel_rfl) (by simp) ?_
  refine AllReadyH.cons (o := ?oi18) ?hi18 (fun K hK => ?st18) AllReadyH.nil
  case hi18 => rw [List.getElem?_toArray]; rfl
  go_simp
  refine hK.out _ _ ?hS18 (fun hHeld => ?re18)
  case hS18 => first | (simp [*]; done) | exact ⟨(RBox.box (rA.out.other ⟨w.heap.size + 3, 2, none⟩ (.int .i64 ((c &&& g : Nat) : Int)) (show w.heap.size ≠ w.heap.size + 3 by omega))).c2, (RBox.box (b3.out.set2 ((c &&& g : Nat) : Int))).c3⟩
  clear hK K
  (try simp only [Act.put, List.setIfInBounds_toArray, List.set_cons_zero, List.set_cons_succ])
  refine wpAnyH_done (by kernel_rfl) ?_ _
  have hb7 := hid ((b3.out.set2 ((c &&& g : Nat) : Int)))
  have q7 := hid (q3.out.other ⟨w.heap.size + 3, 2, none⟩ (.int .i64 ((c &&& g : Nat) : Int)) (show w.heap.size + 2 ≠ w.heap.size + 3 by omega))
  have bel7 := hid (bel3.out.setCell (p := ⟨w.heap.size + 3, 2, none⟩) (show w.heap.size ≤ w.heap.size + 3 by omega) (.int .i64 ((c &&& g : Nat) : Int)))
  clear hHeld
  have r8 := hid (RBox.drew hb7.out)
  have q8 := hid (RBox.drew q7.out)
  have bel8 := hid (Below.drew bel7.out)
  clear hb7 q7 bel7 b3 q3 bel3
  try simp only [World.setCell_drew] at r8 q8 bel8 ⊢
  generalize (W3.setCell ⟨w.heap.size + 3, 2, none⟩ (.int .i64 ((c &&& g : Nat) : Int))).drew = w8 at *
  clear cA0 cA1 cA2 cA3 cO0 cO1 cO2 cO3 frO
  obtain ⟨cO0, cO1, cO2, cO3⟩ := RBox.box r8.out
  go_wp2_with fail
  refine (Ht.out _).mono ?_
  rintro ee w9 ⟨rfl, hb9⟩
  have q9 := q8.out.below hb9
  have bel9 := bel8.out.trans (hb9.mono bel8.out.size)
  obtain ⟨g0, g1, g2, g3⟩ := RBox.box q9
  have fq := RBox.frozen q9
  have P5 := hid (RBox.box (q9.st4 (x' := tLo e b (c &&& g)) (y' := tHi e b (c &&& g) O) (z' := tB e b (c &&& g)) (u' := tO e b O)))
  have B5 := hid (st4_below (w.heap.size + 2) (tLo e b (c &&& g)) (tHi e b (c &&& g) O) (tB e b (c &&& g)) (tO e b O) bel9 (by omega))
  clear q9 bel9 hb9 q8 r8 bel8 cO0 cO1 cO2 cO3
  go_wp2_with fail
  obtain ⟨p0, p1, p2, p3⟩ := P5.out
  unfold st4 at p0 p1 p2 p3
  refine bodyPost_ret (v := rv (tLo e b (c &&& g)) (tHi e b (c &&& g) O) (tB e b (c &&& g)) (tO e b O)) (by simp [results, Try.results36, go_sem, p0, p1, p2, p3]) rfl ⟨rfl, B5.out⟩

set_option maxRecDepth 100000 in
set_option maxHeartbeats 2000000 in
theorem c_l2Join3 (a b c d e f g h : Nat) (w : World) (A : OkN a b c d) (B : OkN e f g h) (k1 : ¬ (e : Int) < a) (k2 : (b : Int) < f) (O : Nat) (hO : d ||| h ||| (c ^^^ g) = O) (J : OkN a f (c &&& g) O) :
    Calls Try.prog 36 #[rv a b c d, rv e f g h] w fun ee w' => ee = .returned (rv (tLo a f (c &&& g)) (tHi a f (c &&& g) O) (tB a f (c &&& g)) (tO a f O)) ∧ Below w.heap.size w w' := by
  have e1 := or_i64 d h (by have := A.o; omega) (by have := B.o; omega)
  have l1 : d ||| h ≤ 4294967295 := or_le A.o B.o
  have e2 := xor_i64 c g (by have := A.b; omega) (by have := B.b; omega)
  have l2 : c ^^^ g ≤ 4294967295 := xor_le A.b B.b
  have e3 := or_i64 (d ||| h) (c ^^^ g) (by omega) (by omega)
  rw [hO] at e3
  have lO : O ≤ 4294967295 := J.o
  have e4 := xor_top O lO
  have l4 := not_le lO
  have e5 := and_i64 c (notB O) (by have := A.b; omega) (by omega)
  have hC : c &&& notB O = c &&& g := by rw [← hO]; exact join_spec A B
  rw [hC] at e5
  have Ht : Hid (∀ w, Calls Try.prog 28 #[rv a f (c &&& g : Nat) O] w fun ee w' => ee = .returned (rv (tLo a f (c &&& g)) (tHi a f (c &&& g) O) (tB a f (c &&& g)) (tO a f O)) ∧ Below w.heap.size w w') := fun w => c_l2Tidy a f (c &&& g) O w J
  have rA := hid ((twoA w a b c d e f g h).alloc (cellsR4 a f 0 O))
  have q3 := hid ((twoQ w a b c d e f g h).alloc (cellsR4 a f 0 O))
  have b3 : Hid (RBox ((two w a b c d e f g h).alloc (cellsR4 a f 0 O)) (w.heap.size + 3) a f 0 O) := by
    have h0 := RBox.new (two w a b c d e f g h) a f 0 O
    simp only [World.size_alloc] at h0
    exact h0
  have bel3 := hid ((twoW w a b c d e f g h).alloc (by simp; omega) (cellsR4 a f 0 O))
  clear hC hO A B J
  generalize notB O = NO at *
  generalize d ||| h = D1 at *
  generalize c ^^^ g = D2 at *
  go_enter Try.func36, Try.ntmps36
  go_wp2_with fail
  generalize ((two w a b c d e f g h).alloc (cellsR4 a f 0 O)) = W3 at *
  obtain ⟨cA0, cA1, cA2, cA3⟩ := RBox.box rA.out
  obtain ⟨cO0, cO1, cO2, cO3⟩ := RBox.box b3.out
  have frO := RBox.frozen b3.out
  refine wp_region_held_drew (S := (fun w' => w'.cell? ⟨w.heap.size, 2, none⟩ = some (.int .i64 c) ∧ w'.cell? ⟨w.heap.size + 3, 3, none⟩ = some (.int .i64 O))) (by kernel_rfl) (by simp [*]) (fun hHeld => ?_)
  refine wpAnyH_take (i := 0) (oi := ?oi19) (v := ?v19) (fuel := 8) ?hi19 ?hs19 ?hf19 ?hr19 ?hq19 (Or.inl ⟨?hw19, ?hy19⟩) hHeld ?rest19
  case hi19 => rw [List.getElem?_toArray]; rfl
  case hq19 => exact fun _ _ _ h => h
  case hs19 => kernel_rfl
  case hf19 => kernel_rfl
  case hr19 => kernel_rfl
  case hw19 => rfl
  case hy19 => (intro w1 hSw; (try dsimp only at hSw); go_simp; try with_reducible rfl)
  (try simp only [Act.put, List.setIfInBounds_toArray, List.set_cons_zero, List.set_cons_succ])
  refine wpAnyH_take (i := 1) (oi := ?oi20) (v := ?v20) (fuel := 7) ?hi20 ?hs20 ?hf20 ?hr20 ?hq20 (Or.inl ⟨?hw20, ?hy20⟩) hHeld ?rest20
  case hi20 => rw [List.getElem?_toArray]; rfl
  case hq20 => exact fun _ _ _ h => h
  case hs20 => kernel_rfl
  case hf20 => kernel_rfl
  case hr20 => kernel_rfl
  case hw20 => rfl
  case hy20 => (intro w1 hSw; (try dsimp only at hSw); go_simp; try with_reducible rfl)
  (try simp only [Act.put, List.setIfInBounds_toArray, List.set_cons_zero, List.set_cons_succ])
  refine wpAnyH_take (i := 3) (oi := ?oi21) (v := ?v21) (fuel := 6) ?hi21 ?hs21 ?hf21 ?hr21 ?hq21 (Or.inl ⟨?hw21, ?hy21⟩) hHeld ?rest21
  case hi21 => rw [List.getElem?_toArray]; rfl
  case hq21 => exact fun _ _ _ h => h
  case hs21 => kernel_rfl
  case hf21 => kernel_rfl
  case hr21 => kernel_rfl
  case hw21 => rfl
  case hy21 => (intro w1 hSw; (try dsimp only at hSw); go_simp; try with_reducible rfl)
  (try simp only [Act.put, List.setIfInBounds_toArray, List.set_cons_zero, List.set_cons_succ])
  refine wpAnyH_take (i := 4) (oi := ?oi22) (v := ?v22) (fuel := 5) ?hi22 ?hs22 ?hf22 ?hr22 ?hq22 (Or.inl ⟨?hw22, ?hy22⟩) hHeld ?rest22
  case hi22 => rw [List.getElem?_toArray]; rfl
  case hq22 => exact fun _ _ _ h => h
  case hs22 => kernel_rfl
  case hf22 => kernel_rfl
  case hr22 => kernel_rfl
  case hw22 => rfl
  case hy22 => (intro w1 hSw; (try dsimp only at hSw); go_simp; try with_reducible rfl)
  (try simp only [Act.put, List.setIfInBounds_toArray, List.set_cons_zero, List.set_cons_succ])
  refine wpAnyH_ready (fuel := 4) (rs := [2]) (by kernel_rfl) (by simp) ?_
  refine AllReadyH.cons (o := ?oi23) ?hi23 (fun K hK => ?st23) AllReadyH.nil
  case hi23 => rw [List.getElem?_toArray]; rfl
  go_simp
  refine (c_l2Top _).mono ?_
  rintro ee wt ⟨rfl, hwt⟩
  rw [hwt]; clear hwt wt
  go_wp2_with fail
  refine hK.out _ _ ?hS23 (fun hHeld => ?re23)
  case hS23 => first | (simp [*]; done) | exact ⟨(RBox.box (rA.out.other ⟨w.heap.size + 3, 2, none⟩ (.int .i64 ((c &&& g : Nat) : Int)) (show w.heap.size ≠ w.heap.size + 3 by omega))).c2, (RBox.box (b3.out.set2 ((c &&& g : Nat) : Int))).c3⟩
  clear hK K
  (try simp only [Act.put, List.setIfInBounds_toArray, List.set_cons_zero, List.set_cons_succ])
  refine wpAnyH_take (i := 5) (oi := ?oi24) (v := ?v24) (fuel := 3) ?hi24 ?hs24 ?hf24 ?hr24 ?hq24 (Or.inl ⟨?hw24, ?hy24⟩) hHeld ?rest24
  case hi24 => rw [List.getElem?_toArray]; rfl
  case hq24 => exact fun _ _ _ h => h
  case hs24 => kernel_rfl
  case hf24 => kernel_rfl
  case hr24 => kernel_rfl
  case hw24 => rfl
  case hy24 => (intro w1 hSw; (try dsimp only at hSw); go_simp; try with_reducible rfl)
  (try simp only [Act.put, List.setIfInBounds_toArray, List.set_cons_zero, List.set_cons_succ])
  refine wpAnyH_take (i := 6) (oi := ?oi25) (v := ?v25) (fuel := 2) ?hi25 ?hs25 ?hf25 ?hr25 ?hq25 (Or.inl ⟨?hw25, ?hy25⟩) hHeld ?rest25
  case hi25 => rw [List.getElem?_toArray]; rfl
  case hq25 => exact fun _ _ _ h => h
  case hs25 => kernel_rfl
  case hf25 => kernel_rfl
  case hr25 => kernel_rfl
  case hw25 => rfl
  case hy25 => (intro w1 hSw; (try dsimp only at hSw); go_simp; try with_reducible rfl)
  (try simp only [Act.put, List.setIfInBounds_toArray, List.set_cons_zero, List.set_cons_succ])
  refine wpAnyH_take (i := 7) (oi := ?oi26) (v := ?v26) (fuel := 1) ?hi26 ?hs26 ?hf26 ?hr26 ?hq26 (Or.inl ⟨?hw26, ?hy26⟩) hHeld ?rest26
  case hi26 => rw [List.getElem?_toArray]; rfl
  case hq26 => exact fun _ _ _ h => h
  case hs26 => kernel_rfl
  case hf26 => kernel_rfl
  case hr26 => kernel_rfl
  case hw26 => rfl
  case hy26 => (intro w1 hSw; (try dsimp only at hSw); go_simp; try with_reducible rfl)
  (try simp only [Act.put, List.setIfInBounds_toArray, List.set_cons_zero, List.set_cons_succ])
  refine wpAnyH_ready (fuel := 0) (rs := [8]) (by kernel_rfl) (by simp) ?_
  refine AllReadyH.cons (o := ?oi27) ?hi27 (fun K hK => ?st27) AllReadyH.nil
  case hi27 => rw [List.getElem?_toArray]; rfl
  go_simp
  refine hK.out _ _ ?hS27 (fun hHeld => ?re27)
  case hS27 => first | (simp [*]; done) | exact ⟨(RBox.box (rA.out.other ⟨w.heap.size + 3, 2, none⟩ (.int .i64 ((c &&& g : Nat) : Int)) (show w.heap.size ≠ w.heap.size + 3 by omega))).c2, (RBox.box (b3.out.set2 ((c &&& g : Nat) : Int))).c3⟩
  clear hK K
  (try simp only [Act.put, List.setIfInBounds_toArray, List.set_cons_zero, List.set_cons_succ])
  refine wpAnyH_done (by kernel_rfl) ?_ _
  have hb7 := hid ((b3.out.set2 ((c &&& g : Nat) : Int)))
  have q7 := hid (q3.out.other ⟨w.heap.size + 3, 2, none⟩ (.int .i64 ((c &&& g : Nat) : Int)) (show w.heap.size + 2 ≠ w.heap.size + 3 by omega))
  have bel7 := hid (bel3.out.setCell (p := ⟨w.heap.size + 3, 2, none⟩) (show w.heap.size ≤ w.heap.size + 3 by omega) (.int .i64 ((c &&& g : Nat) : Int)))
  clear hHeld
  have r8 := hid (RBox.drew hb7.out)
  have q8 := hid (RBox.drew q7.out)
  have bel8 := hid (Below.drew bel7.out)
  clear hb7 q7 bel7 b3 q3 bel3
  try simp only [World.setCell_drew] at r8 q8 bel8 ⊢
  generalize (W3.setCell ⟨w.heap.size + 3, 2, none⟩ (.int .i64 ((c &&& g : Nat) : Int))).drew = w8 at *
  clear cA0 cA1 cA2 cA3 cO0 cO1 cO2 cO3 frO
  obtain ⟨cO0, cO1, cO2, cO3⟩ := RBox.box r8.out
  go_wp2_with fail
  refine (Ht.out _).mono ?_
  rintro ee w9 ⟨rfl, hb9⟩
  have q9 := q8.out.below hb9
  have bel9 := bel8.out.trans (hb9.mono bel8.out.size)
  obtain ⟨g0, g1, g2, g3⟩ := RBox.box q9
  have fq := RBox.frozen q9
  have P5 := hid (RBox.box (q9.st4 (x' := tLo a f (c &&& g)) (y' := tHi a f (c &&& g) O) (z' := tB a f (c &&& g)) (u' := tO a f O)))
  have B5 := hid (st4_below (w.heap.size + 2) (tLo a f (c &&& g)) (tHi a f (c &&& g) O) (tB a f (c &&& g)) (tO a f O) bel9 (by omega))
  clear q9 bel9 hb9 q8 r8 bel8 cO0 cO1 cO2 cO3
  go_wp2_with fail
  obtain ⟨p0, p1, p2, p3⟩ := P5.out
  unfold st4 at p0 p1 p2 p3
  refine bodyPost_ret (v := rv (tLo a f (c &&& g)) (tHi a f (c &&& g) O) (tB a f (c &&& g)) (tO a f O)) (by simp [results, Try.results36, go_sem, p0, p1, p2, p3]) rfl ⟨rfl, B5.out⟩

set_option maxRecDepth 100000 in
set_option maxHeartbeats 2000000 in
theorem c_l2Join4 (a b c d e f g h : Nat) (w : World) (A : OkN a b c d) (B : OkN e f g h) (k1 : ¬ (e : Int) < a) (k2 : ¬ (b : Int) < f) (O : Nat) (hO : d ||| h ||| (c ^^^ g) = O) (J : OkN a b (c &&& g) O) :
    Calls Try.prog 36 #[rv a b c d, rv e f g h] w fun ee w' => ee = .returned (rv (tLo a b (c &&& g)) (tHi a b (c &&& g) O) (tB a b (c &&& g)) (tO a b O)) ∧ Below w.heap.size w w' := by
  have e1 := or_i64 d h (by have := A.o; omega) (by have := B.o; omega)
  have l1 : d ||| h ≤ 4294967295 := or_le A.o B.o
  have e2 := xor_i64 c g (by have := A.b; omega) (by have := B.b; omega)
  have l2 : c ^^^ g ≤ 4294967295 := xor_le A.b B.b
  have e3 := or_i64 (d ||| h) (c ^^^ g) (by omega) (by omega)
  rw [hO] at e3
  have lO : O ≤ 4294967295 := J.o
  have e4 := xor_top O lO
  have l4 := not_le lO
  have e5 := and_i64 c (notB O) (by have := A.b; omega) (by omega)
  have hC : c &&& notB O = c &&& g := by rw [← hO]; exact join_spec A B
  rw [hC] at e5
  have Ht : Hid (∀ w, Calls Try.prog 28 #[rv a b (c &&& g : Nat) O] w fun ee w' => ee = .returned (rv (tLo a b (c &&& g)) (tHi a b (c &&& g) O) (tB a b (c &&& g)) (tO a b O)) ∧ Below w.heap.size w w') := fun w => c_l2Tidy a b (c &&& g) O w J
  have rA := hid ((twoA w a b c d e f g h).alloc (cellsR4 a b 0 O))
  have q3 := hid ((twoQ w a b c d e f g h).alloc (cellsR4 a b 0 O))
  have b3 : Hid (RBox ((two w a b c d e f g h).alloc (cellsR4 a b 0 O)) (w.heap.size + 3) a b 0 O) := by
    have h0 := RBox.new (two w a b c d e f g h) a b 0 O
    simp only [World.size_alloc] at h0
    exact h0
  have bel3 := hid ((twoW w a b c d e f g h).alloc (by simp; omega) (cellsR4 a b 0 O))
  clear hC hO A B J
  generalize notB O = NO at *
  generalize d ||| h = D1 at *
  generalize c ^^^ g = D2 at *
  go_enter Try.func36, Try.ntmps36
  go_wp2_with fail
  generalize ((two w a b c d e f g h).alloc (cellsR4 a b 0 O)) = W3 at *
  obtain ⟨cA0, cA1, cA2, cA3⟩ := RBox.box rA.out
  obtain ⟨cO0, cO1, cO2, cO3⟩ := RBox.box b3.out
  have frO := RBox.frozen b3.out
  refine wp_region_held_drew (S := (fun w' => w'.cell? ⟨w.heap.size, 2, none⟩ = some (.int .i64 c) ∧ w'.cell? ⟨w.heap.size + 3, 3, none⟩ = some (.int .i64 O))) (by kernel_rfl) (by simp [*]) (fun hHeld => ?_)
  refine wpAnyH_take (i := 0) (oi := ?oi28) (v := ?v28) (fuel := 8) ?hi28 ?hs28 ?hf28 ?hr28 ?hq28 (Or.inl ⟨?hw28, ?hy28⟩) hHeld ?rest28
  case hi28 => rw [List.getElem?_toArray]; rfl
  case hq28 => exact fun _ _ _ h => h
  case hs28 => kernel_rfl
  case hf28 => kernel_rfl
  case hr28 => kernel_rfl
  case hw28 => rfl
  case hy28 => (intro w1 hSw; (try dsimp only at hSw); go_simp; try with_reducible rfl)
  (try simp only [Act.put, List.setIfInBounds_toArray, List.set_cons_zero, List.set_cons_succ])
  refine wpAnyH_take (i := 1) (oi := ?oi29) (v := ?v29) (fuel := 7) ?hi29 ?hs29 ?hf29 ?hr29 ?hq29 (Or.inl ⟨?hw29, ?hy29⟩) hHeld ?rest29
  case hi29 => rw [List.getElem?_toArray]; rfl
  case hq29 => exact fun _ _ _ h => h
  case hs29 => kernel_rfl
  case hf29 => kernel_rfl
  case hr29 => kernel_rfl
  case hw29 => rfl
  case hy29 => (intro w1 hSw; (try dsimp only at hSw); go_simp; try with_reducible rfl)
  (try simp only [Act.put, List.setIfInBounds_toArray, List.set_cons_zero, List.set_cons_succ])
  refine wpAnyH_take (i := 3) (oi := ?oi30) (v := ?v30) (fuel := 6) ?hi30 ?hs30 ?hf30 ?hr30 ?hq30 (Or.inl ⟨?hw30, ?hy30⟩) hHeld ?rest30
  case hi30 => rw [List.getElem?_toArray]; rfl
  case hq30 => exact fun _ _ _ h => h
  case hs30 => kernel_rfl
  case hf30 => kernel_rfl
  case hr30 => kernel_rfl
  case hw30 => rfl
  case hy30 => (intro w1 hSw; (try dsimp only at hSw); go_simp; try with_reducible rfl)
  (try simp only [Act.put, List.setIfInBounds_toArray, List.set_cons_zero, List.set_cons_succ])
  refine wpAnyH_take (i := 4) (oi := ?oi31) (v := ?v31) (fuel := 5) ?hi31 ?hs31 ?hf31 ?hr31 ?hq31 (Or.inl ⟨?hw31, ?hy31⟩) hHeld ?rest31
  case hi31 => rw [List.getElem?_toArray]; rfl
  case hq31 => exact fun _ _ _ h => h
  case hs31 => kernel_rfl
  case hf31 => kernel_rfl
  case hr31 => kernel_rfl
  case hw31 => rfl
  case hy31 => (intro w1 hSw; (try dsimp only at hSw); go_simp; try with_reducible rfl)
  (try simp only [Act.put, List.setIfInBounds_toArray, List.set_cons_zero, List.set_cons_succ])
  refine wpAnyH_ready (fuel := 4) (rs := [2]) (by kernel_rfl) (by simp) ?_
  refine AllReadyH.cons (o := ?oi32) ?hi32 (fun K hK => ?st32) AllReadyH.nil
  case hi32 => rw [List.getElem?_toArray]; rfl
  go_simp
  refine (c_l2Top _).mono ?_
  rintro ee wt ⟨rfl, hwt⟩
  rw [hwt]; clear hwt wt
  go_wp2_with fail
  refine hK.out _ _ ?hS32 (fun hHeld => ?re32)
  case hS32 => first | (simp [*]; done) | exact ⟨(RBox.box (rA.out.other ⟨w.heap.size + 3, 2, none⟩ (.int .i64 ((c &&& g : Nat) : Int)) (show w.heap.size ≠ w.heap.size + 3 by omega))).c2, (RBox.box (b3.out.set2 ((c &&& g : Nat) : Int))).c3⟩
  clear hK K
  (try simp only [Act.put, List.setIfInBounds_toArray, List.set_cons_zero, List.set_cons_succ])
  refine wpAnyH_take (i := 5) (oi := ?oi33) (v := ?v33) (fuel := 3) ?hi33 ?hs33 ?hf33 ?hr33 ?hq33 (Or.inl ⟨?hw33, ?hy33⟩) hHeld ?rest33
  case hi33 => rw [List.getElem?_toArray]; rfl
  case hq33 => exact fun _ _ _ h => h
  case hs33 => kernel_rfl
  case hf33 => kernel_rfl
  case hr33 => kernel_rfl
  case hw33 => rfl
  case hy33 => (intro w1 hSw; (try dsimp only at hSw); go_simp; try with_reducible rfl)
  (try simp only [Act.put, List.setIfInBounds_toArray, List.set_cons_zero, List.set_cons_succ])
  refine wpAnyH_take (i := 6) (oi := ?oi34) (v := ?v34) (fuel := 2) ?hi34 ?hs34 ?hf34 ?hr34 ?hq34 (Or.inl ⟨?hw34, ?hy34⟩) hHeld ?rest34
  case hi34 => rw [List.getElem?_toArray]; rfl
  case hq34 => exact fun _ _ _ h => h
  case hs34 => kernel_rfl
  case hf34 => kernel_rfl
  case hr34 => kernel_rfl
  case hw34 => rfl
  case hy34 => (intro w1 hSw; (try dsimp only at hSw); go_simp; try with_reducible rfl)
  (try simp only [Act.put, List.setIfInBounds_toArray, List.set_cons_zero, List.set_cons_succ])
  refine wpAnyH_take (i := 7) (oi := ?oi35) (v := ?v35) (fuel := 1) ?hi35 ?hs35 ?hf35 ?hr35 ?hq35 (Or.inl ⟨?hw35, ?hy35⟩) hHeld ?rest35
  case hi35 => rw [List.getElem?_toArray]; rfl
  case hq35 => exact fun _ _ _ h => h
  case hs35 => kernel_rfl
  case hf35 => kernel_rfl
  case hr35 => kernel_rfl
  case hw35 => rfl
  case hy35 => (intro w1 hSw; (try dsimp only at hSw); go_simp; try with_reducible rfl)
  (try simp only [Act.put, List.setIfInBounds_toArray, List.set_cons_zero, List.set_cons_succ])
  refine wpAnyH_ready (fuel := 0) (rs := [8]) (by kernel_rfl) (by simp) ?_
  refine AllReadyH.cons (o := ?oi36) ?hi36 (fun K hK => ?st36) AllReadyH.nil
  case hi36 => rw [List.getElem?_toArray]; rfl
  go_simp
  refine hK.out _ _ ?hS36 (fun hHeld => ?re36)
  case hS36 => first | (simp [*]; done) | exact ⟨(RBox.box (rA.out.other ⟨w.heap.size + 3, 2, none⟩ (.int .i64 ((c &&& g : Nat) : Int)) (show w.heap.size ≠ w.heap.size + 3 by omega))).c2, (RBox.box (b3.out.set2 ((c &&& g : Nat) : Int))).c3⟩
  clear hK K
  (try simp only [Act.put, List.setIfInBounds_toArray, List.set_cons_zero, List.set_cons_succ])
  refine wpAnyH_done (by kernel_rfl) ?_ _
  have hb7 := hid ((b3.out.set2 ((c &&& g : Nat) : Int)))
  have q7 := hid (q3.out.other ⟨w.heap.size + 3, 2, none⟩ (.int .i64 ((c &&& g : Nat) : Int)) (show w.heap.size + 2 ≠ w.heap.size + 3 by omega))
  have bel7 := hid (bel3.out.setCell (p := ⟨w.heap.size + 3, 2, none⟩) (show w.heap.size ≤ w.heap.size + 3 by omega) (.int .i64 ((c &&& g : Nat) : Int)))
  clear hHeld
  have r8 := hid (RBox.drew hb7.out)
  have q8 := hid (RBox.drew q7.out)
  have bel8 := hid (Below.drew bel7.out)
  clear hb7 q7 bel7 b3 q3 bel3
  try simp only [World.setCell_drew] at r8 q8 bel8 ⊢
  generalize (W3.setCell ⟨w.heap.size + 3, 2, none⟩ (.int .i64 ((c &&& g : Nat) : Int))).drew = w8 at *
  clear cA0 cA1 cA2 cA3 cO0 cO1 cO2 cO3 frO
  obtain ⟨cO0, cO1, cO2, cO3⟩ := RBox.box r8.out
  go_wp2_with fail
  refine (Ht.out _).mono ?_
  rintro ee w9 ⟨rfl, hb9⟩
  have q9 := q8.out.below hb9
  have bel9 := bel8.out.trans (hb9.mono bel8.out.size)
  obtain ⟨g0, g1, g2, g3⟩ := RBox.box q9
  have fq := RBox.frozen q9
  have P5 := hid (RBox.box (q9.st4 (x' := tLo a b (c &&& g)) (y' := tHi a b (c &&& g) O) (z' := tB a b (c &&& g)) (u' := tO a b O)))
  have B5 := hid (st4_below (w.heap.size + 2) (tLo a b (c &&& g)) (tHi a b (c &&& g) O) (tB a b (c &&& g)) (tO a b O) bel9 (by omega))
  clear q9 bel9 hb9 q8 r8 bel8 cO0 cO1 cO2 cO3
  go_wp2_with fail
  obtain ⟨p0, p1, p2, p3⟩ := P5.out
  unfold st4 at p0 p1 p2 p3
  refine bodyPost_ret (v := rv (tLo a b (c &&& g)) (tHi a b (c &&& g) O) (tB a b (c &&& g)) (tO a b O)) (by simp [results, Try.results36, go_sem, p0, p1, p2, p3]) rfl ⟨rfl, B5.out⟩

theorem c_l2Join (a b c d e f g h : Nat) (w : World) (A : OkN a b c d) (B : OkN e f g h) :
    Calls Try.prog 36 #[rv a b c d, rv e f g h] w fun ee w' => ee = .returned (rv (tLo (min a e) (max b f) (c &&& g)) (tHi (min a e) (max b f) (c &&& g) (d ||| h ||| (c ^^^ g))) (tB (min a e) (max b f) (c &&& g)) (tO (min a e) (max b f) (d ||| h ||| (c ^^^ g)))) ∧ Below w.heap.size w w' := by
  have J := join_ok A B
  by_cases k1 : (e : Int) < a
  · by_cases k2 : (b : Int) < f
    · rw [show min a e = e by omega, show max b f = f by omega] at J ⊢
      exact c_l2Join1 a b c d e f g h w A B k1 k2 _ rfl J
    · rw [show min a e = e by omega, show max b f = b by omega] at J ⊢
      exact c_l2Join2 a b c d e f g h w A B k1 k2 _ rfl J
  · by_cases k2 : (b : Int) < f
    · rw [show min a e = a by omega, show max b f = f by omega] at J ⊢
      exact c_l2Join3 a b c d e f g h w A B k1 k2 _ rfl J
    · rw [show min a e = a by omega, show max b f = b by omega] at J ⊢
      exact c_l2Join4 a b c d e f g h w A B k1 k2 _ rfl J
end Go.Proofs.Ytnebjocnbfoafaa
