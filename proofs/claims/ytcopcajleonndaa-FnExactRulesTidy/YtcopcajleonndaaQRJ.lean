/- Contract: the specification's tidy range. -/
import Derived.Test.YtcopcajleonndaaQRI
namespace Go.Proofs.Ytcopcajleonndaa
open Go.RowKit
set_option linter.unusedVariables false
set_option linter.unusedSimpArgs false

set_option maxRecDepth 100000 in
set_option maxHeartbeats 4000000 in
theorem c_l2Tidy (lo hi b o : Nat) (w : World) (h : OkN lo hi b o) :
    Calls Try.prog 47 #[rv lo hi b o] w fun e w' => e = .returned (rv (tLo lo hi b) (tHi lo hi b o) (tB lo hi b) (tO lo hi o)) ∧ Below w.heap.size w w' := by
  obtain ⟨X, hX⟩ : ∃ X, lo ^^^ hi = X := ⟨_, rfl⟩
  have lX : X ≤ 4294967295 := by rw [← hX]; exact xor_le h.lo h.hi
  obtain ⟨M, hM⟩ : ∃ M, maskOf X = M := ⟨_, rfl⟩
  have lM : M ≤ 4294967295 := by rw [← hM]; exact maskOf_le lX
  have e2 := and_i64 o M (by have := h.o; omega) (by omega)
  have l3 : lo &&& notB M ≤ 4294967295 := and_le _ h.lo
  have e4 := or_i64 b (lo &&& notB M) (by have := h.b; omega) (by omega)
  have hB : b ||| (lo &&& notB M) = tB lo hi b := by rw [tB, hX, hM]
  have hO : o &&& M = tO lo hi o := by rw [tO, hX, hM]
  have lB := tB_le (hi := hi) h.lo h.b
  have lO := tO_le (lo := lo) (hi := hi) h.o
  rw [hB] at e4
  rw [hO] at e2
  have e5 := xor_top (tO lo hi o) lO
  have l5 := not_le lO
  have e6 := and_i64 (tB lo hi b) (notB (tO lo hi o)) (by omega) (by omega)
  have hB2 : tB lo hi b &&& notB (tO lo hi o) = tB lo hi b := tB_spec h
  rw [hB2] at e6
  have e7 := or_i64 (tB lo hi b) (tO lo hi o) (by omega) (by omega)
  have hLo : tLo lo hi b = max lo (tB lo hi b) := rfl
  have hHi : tHi lo hi b o = min hi (tB lo hi b ||| tO lo hi o) := rfl
  have Hbits : Hid (∀ w, Calls Try.prog 57 #[.int .i64 lo, .int .i64 hi] w fun e w' => e = .returned (.tuple #[.int .i64 ((lo &&& notB M : Nat) : Int), .int .i64 (M : Nat)]) ∧ w' = w) := by
    intro w; have := c_l2Bits lo hi w h.lo h.hi; rw [hX, hM] at this; exact this
  have lU : tB lo hi b ||| tO lo hi o ≤ 4294967295 := or_le lB lO
  rw [hLo, hHi]
  clear hLo hHi hB hB2 hO hM hX h
  generalize tB lo hi b = B1 at *
  generalize tO lo hi o = O1 at *
  generalize lo &&& notB M = B0 at *
  generalize B1 ||| O1 = U at *
  generalize notB O1 = NO at *
  have r0 : RBox ((w.alloc (.cells #[.int .i64 lo, .int .i64 hi, .int .i64 b, .int .i64 o] 54)).alloc (.cells #[.int .i64 0, .int .i64 0, .int .i64 0, .int .i64 0] 54)) w.heap.size lo hi b o := (RBox.new w lo hi b o).alloc _
  have q0 : RBox ((w.alloc (.cells #[.int .i64 lo, .int .i64 hi, .int .i64 b, .int .i64 o] 54)).alloc (.cells #[.int .i64 0, .int .i64 0, .int .i64 0, .int .i64 0] 54)) (w.heap.size + 1) 0 0 0 0 := by
    have h0 := RBox.new (w.alloc (.cells #[.int .i64 lo, .int .i64 hi, .int .i64 b, .int .i64 o] 54)) 0 0 0 0
    simp only [World.size_alloc] at h0
    exact h0
  have bel0 : Below w.heap.size w ((w.alloc (.cells #[.int .i64 lo, .int .i64 hi, .int .i64 b, .int .i64 o] 54)).alloc (.cells #[.int .i64 0, .int .i64 0, .int .i64 0, .int .i64 0] 54)) := (((Below.refl _ _).alloc (Nat.le_refl _) _).alloc (by simp) _)
  have R0 := hid r0
  have Q0 := hid q0
  have BEL0 := hid bel0
  clear r0 q0 bel0
  go_enter Try.func47, Try.ntmps47
  go_wp2_with fail
  refine (Hbits.out _).mono ?_
  rintro e w2 ⟨rfl, hw2⟩
  rw [hw2]; clear hw2 w2
  generalize (w.alloc (.cells #[.int .i64 lo, .int .i64 hi, .int .i64 b, .int .i64 o] 54)).alloc (.cells #[.int .i64 0, .int .i64 0, .int .i64 0, .int .i64 0] 54) = w2 at *
  obtain ⟨c0, c1, c2, c3⟩ := RBox.box R0.out
  have fr0 := RBox.frozen R0.out
  go_wp2_with fail
  have r2 := hid (R0.out.set3 (O1 : Int))
  have q2 := hid (Q0.out.other ⟨w.heap.size, 3, none⟩ (.int .i64 O1) (show w.heap.size + 1 ≠ w.heap.size by omega))
  have bel2 := hid (BEL0.out.setCell (p := ⟨w.heap.size, 3, none⟩) (Nat.le_refl _) (.int .i64 O1))
  generalize w2.setCell ⟨w.heap.size, 3, none⟩ (.int .i64 O1) = w3 at *
  clear c0 c1 c2 c3 fr0
  obtain ⟨c0, c1, c2, c3⟩ := RBox.box r2.out
  have fr0 := RBox.frozen r2.out
  refine wp_region_held_drew (S := (fun w' => w'.cell? ⟨w.heap.size, 3, none⟩ = some (.int .i64 O1))) (by kernel_rfl) (by simp [*]) (fun hHeld => ?_)
  refine wpAnyH_take (i := 0) (oi := ?oi1) (v := ?v1) (fuel := 10) ?hi1 ?hs1 ?hf1 ?hr1 ?hq1 (Or.inl ⟨?hw1, ?hy1⟩) hHeld ?rest1
  case hi1 => rw [List.getElem?_toArray]; rfl
  case hq1 => exact fun _ _ _ h => h
  case hs1 => kernel_rfl
  case hf1 => kernel_rfl
  case hr1 => kernel_rfl
  case hw1 => rfl
  case hy1 => (intro w1 hSw; (try dsimp only at hSw); go_simp; try with_reducible rfl)
  (try simp only [Act.put, List.setIfInBounds_toArray, List.set_cons_zero, List.set_cons_succ])
  refine wpAnyH_take (i := 2) (oi := ?oi2) (v := ?v2) (fuel := 9) ?hi2 ?hs2 ?hf2 ?hr2 ?hq2 (Or.inl ⟨?hw2, ?hy2⟩) hHeld ?rest2
  case hi2 => rw [List.getElem?_toArray]; rfl
  case hq2 => exact fun _ _ _ h => h
  case hs2 => kernel_rfl
  case hf2 => kernel_rfl
  case hr2 => kernel_rfl
  case hw2 => rfl
  case hy2 => (intro w1 hSw; (try dsimp only at hSw); go_simp; try with_reducible rfl)
  (try simp only [Act.put, List.setIfInBounds_toArray, List.set_cons_zero, List.set_cons_succ])
  refine wpAnyH_take (i := 5) (oi := ?oi3) (v := ?v3) (fuel := 8) ?hi3 ?hs3 ?hf3 ?hr3 ?hq3 (Or.inl ⟨?hw3, ?hy3⟩) hHeld ?rest3
  case hi3 => rw [List.getElem?_toArray]; rfl
  case hq3 => exact fun _ _ _ h => h
  case hs3 => kernel_rfl
  case hf3 => kernel_rfl
  case hr3 => kernel_rfl
  case hw3 => rfl
  case hy3 => (intro w1 hSw; (try dsimp only at hSw); go_simp; try with_reducible rfl)
  (try simp only [Act.put, List.setIfInBounds_toArray, List.set_cons_zero, List.set_cons_succ])
  refine wpAnyH_take (i := 6) (oi := ?oi4) (v := ?v4) (fuel := 7) ?hi4 ?hs4 ?hf4 ?hr4 ?hq4 (Or.inl ⟨?hw4, ?hy4⟩) hHeld ?rest4
  case hi4 => rw [List.getElem?_toArray]; rfl
  case hq4 => exact fun _ _ _ h => h
  case hs4 => kernel_rfl
  case hf4 => kernel_rfl
  case hr4 => kernel_rfl
  case hw4 => rfl
  case hy4 => (intro w1 hSw; (try dsimp only at hSw); go_simp; try with_reducible rfl)
  (try simp only [Act.put, List.setIfInBounds_toArray, List.set_cons_zero, List.set_cons_succ])
  refine wpAnyH_ready (fuel := 6) (rs := [1, 4]) (by kernel_rfl) (by simp) ?_
  refine AllReadyH.cons (o := ?oi5) ?hi5 (fun K hK => ?st5) ?mo5
  case hi5 => rw [List.getElem?_toArray]; rfl
  case st5 =>
    go_simp
    refine hK.out _ _ ?hS5 (fun hHeld => ?re5)
    case hS5 => first | (simp [*]; done) | exact (RBox.box (r2.out.set2 (B1 : Int))).c3
    clear hK K
    (try simp only [Act.put, List.setIfInBounds_toArray, List.set_cons_zero, List.set_cons_succ])
    refine wpAnyH_take (i := 3) (oi := ?oi6) (v := ?v6) (fuel := 5) ?hi6 ?hs6 ?hf6 ?hr6 ?hq6 (Or.inl ⟨?hw6, ?hy6⟩) hHeld ?rest6
    case hi6 => rw [List.getElem?_toArray]; rfl
    case hq6 => exact fun _ _ _ h => h
    case hs6 => kernel_rfl
    case hf6 => kernel_rfl
    case hr6 => kernel_rfl
    case hw6 => rfl
    case hy6 => (intro w1 hSw; (try dsimp only at hSw); go_simp; try with_reducible rfl)
    (try simp only [Act.put, List.setIfInBounds_toArray, List.set_cons_zero, List.set_cons_succ])
    refine wpAnyH_ready (fuel := 4) (rs := [4]) (by kernel_rfl) (by simp) ?_
    refine AllReadyH.cons (o := ?oi7) ?hi7 (fun K hK => ?st7) AllReadyH.nil
    case hi7 => rw [List.getElem?_toArray]; rfl
    go_simp
    refine (c_l2Top _).mono ?_
    rintro e wt ⟨rfl, hwt⟩
    rw [hwt]; clear hwt wt
    go_wp2_with fail
    refine hK.out _ _ ?hS7 (fun hHeld => ?re7)
    case hS7 => first | (simp [*]; done) | exact (RBox.box (r2.out.set2 (B1 : Int))).c3
    clear hK K
    (try simp only [Act.put, List.setIfInBounds_toArray, List.set_cons_zero, List.set_cons_succ])
    refine wpAnyH_take (i := 7) (oi := ?oi8) (v := ?v8) (fuel := 3) ?hi8 ?hs8 ?hf8 ?hr8 ?hq8 (Or.inl ⟨?hw8, ?hy8⟩) hHeld ?rest8
    case hi8 => rw [List.getElem?_toArray]; rfl
    case hq8 => exact fun _ _ _ h => h
    case hs8 => kernel_rfl
    case hf8 => kernel_rfl
    case hr8 => kernel_rfl
    case hw8 => rfl
    case hy8 => (intro w1 hSw; (try dsimp only at hSw); go_simp; try with_reducible rfl)
    (try simp only [Act.put, List.setIfInBounds_toArray, List.set_cons_zero, List.set_cons_succ])
    refine wpAnyH_take (i := 8) (oi := ?oi9) (v := ?v9) (fuel := 2) ?hi9 ?hs9 ?hf9 ?hr9 ?hq9 (Or.inl ⟨?hw9, ?hy9⟩) hHeld ?rest9
    case hi9 => rw [List.getElem?_toArray]; rfl
    case hq9 => exact fun _ _ _ h => h
    case hs9 => kernel_rfl
    case hf9 => kernel_rfl
    case hr9 => kernel_rfl
    case hw9 => rfl
    case hy9 => (intro w1 hSw; (try dsimp only at hSw); go_simp; try with_reducible rfl)
    (try simp only [Act.put, List.setIfInBounds_toArray, List.set_cons_zero, List.set_cons_succ])
    refine wpAnyH_take (i := 9) (oi := ?oi10) (v := ?v10) (fuel := 1) ?hi10 ?hs10 ?hf10 ?hr10 ?hq10 (Or.inl ⟨?hw10, ?hy10⟩) hHeld ?rest10
    case hi10 => rw [List.getElem?_toArray]; rfl
    case hq10 => exact fun _ _ _ h => h
    case hs10 => kernel_rfl
    case hf10 => kernel_rfl
    case hr10 => kernel_rfl
    case hw10 => rfl
    case hy10 => (intro w1 hSw; (try dsimp only at hSw); go_simp; try with_reducible rfl)
    (try simp only [Act.put, List.setIfInBounds_toArray, List.set_cons_zero, List.set_cons_succ])
    refine wpAnyH_ready (fuel := 0) (rs := [10]) (by kernel_rfl) (by simp) ?_
    refine AllReadyH.cons (o := ?oi11) ?hi11 (fun K hK => ?st11) AllReadyH.nil
    case hi11 => rw [List.getElem?_toArray]; rfl
    go_simp
    refine hK.out _ _ ?hS11 (fun hHeld => ?re11)
    case hS11 => first | (simp [*]; done) | exact (RBox.box (r2.out.set2 (B1 : Int))).c3
    clear hK K
    (try simp only [Act.put, List.setIfInBounds_toArray, List.set_cons_zero, List.set_cons_succ])
    refine wpAnyH_done (by kernel_rfl) ?_ _
    have r5 := hid (r2.out.set2 (B1 : Int))
    have q5 := hid (q2.out.other ⟨w.heap.size, 2, none⟩ (.int .i64 B1) (show w.heap.size + 1 ≠ w.heap.size by omega))
    have bel5 := hid (bel2.out.setCell (p := ⟨w.heap.size, 2, none⟩) (Nat.le_refl _) (.int .i64 B1))
    clear hHeld
    have r6 := hid (RBox.drew r5.out)
    have q6 := hid (RBox.drew q5.out)
    have bel6 := hid (Below.drew bel5.out)
    clear r5 q5 bel5 r2 q2 bel2
    try simp only [World.setCell_drew] at r6 q6 bel6 ⊢
    generalize (w3.setCell ⟨w.heap.size, 2, none⟩ (.int .i64 B1)).drew = w5 at *
    clear c0 c1 c2 c3 fr0
    obtain ⟨c0, c1, c2, c3⟩ := RBox.box r6.out
    obtain ⟨g0, g1, g2, g3⟩ := RBox.box q6.out
    have fr5 := RBox.frozen r6.out
    have fq5 := RBox.frozen q6.out
    by_cases k1 : (lo : Int) < B1
    · by_cases k2 : (U : Int) < hi
      · have P5 := hid (RBox.box (((q6.out.other ⟨w.heap.size, 0, none⟩ (.int .i64 B1) (show w.heap.size + 1 ≠ w.heap.size by omega)).other ⟨w.heap.size, 1, none⟩ (.int .i64 U) (show w.heap.size + 1 ≠ w.heap.size by omega)).st4 (x' := B1) (y' := U) (z' := B1) (u' := O1)))
        have B5 := hid (st4_below (w.heap.size + 1) B1 U B1 O1 ((bel6.out.setCell (p := ⟨w.heap.size, 0, none⟩) (Nat.le_refl _) (.int .i64 B1)).setCell (p := ⟨w.heap.size, 1, none⟩) (Nat.le_refl _) (.int .i64 U)) (by omega))
        go_wp2_with fail
        obtain ⟨p0, p1, p2, p3⟩ := P5.out
        unfold st4 at p0 p1 p2 p3
        refine bodyPost_ret (v := rv B1 U B1 O1) (by simp [results, Try.results47, go_sem, p0, p1, p2, p3]) rfl ⟨?_, B5.out⟩
        rw [show (max lo B1 : Nat) = B1 by omega, show (min hi U : Nat) = U by omega]
      · have P5 := hid (RBox.box ((q6.out.other ⟨w.heap.size, 0, none⟩ (.int .i64 B1) (show w.heap.size + 1 ≠ w.heap.size by omega)).st4 (x' := B1) (y' := hi) (z' := B1) (u' := O1)))
        have B5 := hid (st4_below (w.heap.size + 1) B1 hi B1 O1 (bel6.out.setCell (p := ⟨w.heap.size, 0, none⟩) (Nat.le_refl _) (.int .i64 B1)) (by omega))
        go_wp2_with fail
        obtain ⟨p0, p1, p2, p3⟩ := P5.out
        unfold st4 at p0 p1 p2 p3
        refine bodyPost_ret (v := rv B1 hi B1 O1) (by simp [results, Try.results47, go_sem, p0, p1, p2, p3]) rfl ⟨?_, B5.out⟩
        rw [show (max lo B1 : Nat) = B1 by omega, show (min hi U : Nat) = hi by omega]
    · by_cases k2 : (U : Int) < hi
      · have P5 := hid (RBox.box ((q6.out.other ⟨w.heap.size, 1, none⟩ (.int .i64 U) (show w.heap.size + 1 ≠ w.heap.size by omega)).st4 (x' := lo) (y' := U) (z' := B1) (u' := O1)))
        have B5 := hid (st4_below (w.heap.size + 1) lo U B1 O1 (bel6.out.setCell (p := ⟨w.heap.size, 1, none⟩) (Nat.le_refl _) (.int .i64 U)) (by omega))
        go_wp2_with fail
        obtain ⟨p0, p1, p2, p3⟩ := P5.out
        unfold st4 at p0 p1 p2 p3
        refine bodyPost_ret (v := rv lo U B1 O1) (by simp [results, Try.results47, go_sem, p0, p1, p2, p3]) rfl ⟨?_, B5.out⟩
        rw [show (max lo B1 : Nat) = lo by omega, show (min hi U : Nat) = U by omega]
      · have P5 := hid (RBox.box ((q6.out).st4 (x' := lo) (y' := hi) (z' := B1) (u' := O1)))
        have B5 := hid (st4_below (w.heap.size + 1) lo hi B1 O1 (bel6.out) (by omega))
        go_wp2_with fail
        obtain ⟨p0, p1, p2, p3⟩ := P5.out
        unfold st4 at p0 p1 p2 p3
        refine bodyPost_ret (v := rv lo hi B1 O1) (by simp [results, Try.results47, go_sem, p0, p1, p2, p3]) rfl ⟨?_, B5.out⟩
        rw [show (max lo B1 : Nat) = lo by omega, show (min hi U : Nat) = hi by omega]
  refine AllReadyH.cons (o := ?oi12) ?hi12 (fun K hK => ?st12) ?mo12
  case hi12 => rw [List.getElem?_toArray]; rfl
  case st12 =>
    go_simp
    refine (c_l2Top _).mono ?_
    rintro e wt ⟨rfl, hwt⟩
    rw [hwt]; clear hwt wt
    go_wp2_with fail
    refine hK.out _ _ ?hS12 (fun hHeld => ?re12)
    case hS12 => first | (simp [*]; done) | exact (RBox.box (r2.out.set2 (B1 : Int))).c3
    clear hK K
    (try simp only [Act.put, List.setIfInBounds_toArray, List.set_cons_zero, List.set_cons_succ])
    refine wpAnyH_take (i := 7) (oi := ?oi13) (v := ?v13) (fuel := 5) ?hi13 ?hs13 ?hf13 ?hr13 ?hq13 (Or.inl ⟨?hw13, ?hy13⟩) hHeld ?rest13
    case hi13 => rw [List.getElem?_toArray]; rfl
    case hq13 => exact fun _ _ _ h => h
    case hs13 => kernel_rfl
    case hf13 => kernel_rfl
    case hr13 => kernel_rfl
    case hw13 => rfl
    case hy13 => (intro w1 hSw; (try dsimp only at hSw); go_simp; try with_reducible rfl)
    (try simp only [Act.put, List.setIfInBounds_toArray, List.set_cons_zero, List.set_cons_succ])
    refine wpAnyH_ready (fuel := 4) (rs := [1]) (by kernel_rfl) (by simp) ?_
    refine AllReadyH.cons (o := ?oi14) ?hi14 (fun K hK => ?st14) AllReadyH.nil
    case hi14 => rw [List.getElem?_toArray]; rfl
    go_simp
    refine hK.out _ _ ?hS14 (fun hHeld => ?re14)
    case hS14 => first | (simp [*]; done) | exact (RBox.box (r2.out.set2 (B1 : Int))).c3
    clear hK K
    (try simp only [Act.put, List.setIfInBounds_toArray, List.set_cons_zero, List.set_cons_succ])
    refine wpAnyH_take (i := 3) (oi := ?oi15) (v := ?v15) (fuel := 3) ?hi15 ?hs15 ?hf15 ?hr15 ?hq15 (Or.inl ⟨?hw15, ?hy15⟩) hHeld ?rest15
    case hi15 => rw [List.getElem?_toArray]; rfl
    case hq15 => exact fun _ _ _ h => h
    case hs15 => kernel_rfl
    case hf15 => kernel_rfl
    case hr15 => kernel_rfl
    case hw15 => rfl
    case hy15 => (intro w1 hSw; (try dsimp only at hSw); go_simp; try with_reducible rfl)
    (try simp only [Act.put, List.setIfInBounds_toArray, List.set_cons_zero, List.set_cons_succ])
    refine wpAnyH_take (i := 8) (oi := ?oi16) (v := ?v16) (fuel := 2) ?hi16 ?hs16 ?hf16 ?hr16 ?hq16 (Or.inl ⟨?hw16, ?hy16⟩) hHeld ?rest16
    case hi16 => rw [List.getElem?_toArray]; rfl
    case hq16 => exact fun _ _ _ h => h
    case hs16 => kernel_rfl
    case hf16 => kernel_rfl
    case hr16 => kernel_rfl
    case hw16 => rfl
    case hy16 => (intro w1 hSw; (try dsimp only at hSw); go_simp; try with_reducible rfl)
    (try simp only [Act.put, List.setIfInBounds_toArray, List.set_cons_zero, List.set_cons_succ])
    refine wpAnyH_take (i := 9) (oi := ?oi17) (v := ?v17) (fuel := 1) ?hi17 ?hs17 ?hf17 ?hr17 ?hq17 (Or.inl ⟨?hw17, ?hy17⟩) hHeld ?rest17
    case hi17 => rw [List.getElem?_toArray]; rfl
    case hq17 => exact fun _ _ _ h => h
    case hs17 => kernel_rfl
    case hf17 => kernel_rfl
    case hr17 => kernel_rfl
    case hw17 => rfl
    case hy17 => (intro w1 hSw; (try dsimp only at hSw); go_simp; try with_reducible rfl)
    (try simp only [Act.put, List.setIfInBounds_toArray, List.set_cons_zero, List.set_cons_succ])
    refine wpAnyH_ready (fuel := 0) (rs := [10]) (by kernel_rfl) (by simp) ?_
    refine AllReadyH.cons (o := ?oi18) ?hi18 (fun K hK => ?st18) AllReadyH.nil
    case hi18 => rw [List.getElem?_toArray]; rfl
    go_simp
    refine hK.out _ _ ?hS18 (fun hHeld => ?re18)
    case hS18 => first | (simp [*]; done) | exact (RBox.box (r2.out.set2 (B1 : Int))).c3
    clear hK K
    (try simp only [Act.put, List.setIfInBounds_toArray, List.set_cons_zero, List.set_cons_succ])
    refine wpAnyH_done (by kernel_rfl) ?_ _
    have r5 := hid (r2.out.set2 (B1 : Int))
    have q5 := hid (q2.out.other ⟨w.heap.size, 2, none⟩ (.int .i64 B1) (show w.heap.size + 1 ≠ w.heap.size by omega))
    have bel5 := hid (bel2.out.setCell (p := ⟨w.heap.size, 2, none⟩) (Nat.le_refl _) (.int .i64 B1))
    clear hHeld
    have r6 := hid (RBox.drew r5.out)
    have q6 := hid (RBox.drew q5.out)
    have bel6 := hid (Below.drew bel5.out)
    clear r5 q5 bel5 r2 q2 bel2
    try simp only [World.setCell_drew] at r6 q6 bel6 ⊢
    generalize (w3.setCell ⟨w.heap.size, 2, none⟩ (.int .i64 B1)).drew = w5 at *
    clear c0 c1 c2 c3 fr0
    obtain ⟨c0, c1, c2, c3⟩ := RBox.box r6.out
    obtain ⟨g0, g1, g2, g3⟩ := RBox.box q6.out
    have fr5 := RBox.frozen r6.out
    have fq5 := RBox.frozen q6.out
    by_cases k1 : (lo : Int) < B1
    · by_cases k2 : (U : Int) < hi
      · have P5 := hid (RBox.box (((q6.out.other ⟨w.heap.size, 0, none⟩ (.int .i64 B1) (show w.heap.size + 1 ≠ w.heap.size by omega)).other ⟨w.heap.size, 1, none⟩ (.int .i64 U) (show w.heap.size + 1 ≠ w.heap.size by omega)).st4 (x' := B1) (y' := U) (z' := B1) (u' := O1)))
        have B5 := hid (st4_below (w.heap.size + 1) B1 U B1 O1 ((bel6.out.setCell (p := ⟨w.heap.size, 0, none⟩) (Nat.le_refl _) (.int .i64 B1)).setCell (p := ⟨w.heap.size, 1, none⟩) (Nat.le_refl _) (.int .i64 U)) (by omega))
        go_wp2_with fail
        obtain ⟨p0, p1, p2, p3⟩ := P5.out
        unfold st4 at p0 p1 p2 p3
        refine bodyPost_ret (v := rv B1 U B1 O1) (by simp [results, Try.results47, go_sem, p0, p1, p2, p3]) rfl ⟨?_, B5.out⟩
        rw [show (max lo B1 : Nat) = B1 by omega, show (min hi U : Nat) = U by omega]
      · have P5 := hid (RBox.box ((q6.out.other ⟨w.heap.size, 0, none⟩ (.int .i64 B1) (show w.heap.size + 1 ≠ w.heap.size by omega)).st4 (x' := B1) (y' := hi) (z' := B1) (u' := O1)))
        have B5 := hid (st4_below (w.heap.size + 1) B1 hi B1 O1 (bel6.out.setCell (p := ⟨w.heap.size, 0, none⟩) (Nat.le_refl _) (.int .i64 B1)) (by omega))
        go_wp2_with fail
        obtain ⟨p0, p1, p2, p3⟩ := P5.out
        unfold st4 at p0 p1 p2 p3
        refine bodyPost_ret (v := rv B1 hi B1 O1) (by simp [results, Try.results47, go_sem, p0, p1, p2, p3]) rfl ⟨?_, B5.out⟩
        rw [show (max lo B1 : Nat) = B1 by omega, show (min hi U : Nat) = hi by omega]
    · by_cases k2 : (U : Int) < hi
      · have P5 := hid (RBox.box ((q6.out.other ⟨w.heap.size, 1, none⟩ (.int .i64 U) (show w.heap.size + 1 ≠ w.heap.size by omega)).st4 (x' := lo) (y' := U) (z' := B1) (u' := O1)))
        have B5 := hid (st4_below (w.heap.size + 1) lo U B1 O1 (bel6.out.setCell (p := ⟨w.heap.size, 1, none⟩) (Nat.le_refl _) (.int .i64 U)) (by omega))
        go_wp2_with fail
        obtain ⟨p0, p1, p2, p3⟩ := P5.out
        unfold st4 at p0 p1 p2 p3
        refine bodyPost_ret (v := rv lo U B1 O1) (by simp [results, Try.results47, go_sem, p0, p1, p2, p3]) rfl ⟨?_, B5.out⟩
        rw [show (max lo B1 : Nat) = lo by omega, show (min hi U : Nat) = U by omega]
      · have P5 := hid (RBox.box ((q6.out).st4 (x' := lo) (y' := hi) (z' := B1) (u' := O1)))
        have B5 := hid (st4_below (w.heap.size + 1) lo hi B1 O1 (bel6.out) (by omega))
        go_wp2_with fail
        obtain ⟨p0, p1, p2, p3⟩ := P5.out
        unfold st4 at p0 p1 p2 p3
        refine bodyPost_ret (v := rv lo hi B1 O1) (by simp [results, Try.results47, go_sem, p0, p1, p2, p3]) rfl ⟨?_, B5.out⟩
        rw [show (max lo B1 : Nat) = lo by omega, show (min hi U : Nat) = hi by omega]
  exact AllReadyH.nil
end Go.Proofs.Ytcopcajleonndaa
