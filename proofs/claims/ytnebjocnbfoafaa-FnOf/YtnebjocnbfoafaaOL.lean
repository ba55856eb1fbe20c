/- The law FnOf, drawn. -/
import Derived.Test.YtnebjocnbfoafaaYC2
import Derived.Test.YtnebjocnbfoafaaRN
namespace Go.Proofs.Ytnebjocnbfoafaa
open Go.RowKit
set_option linter.unusedVariables false
set_option linter.unusedSimpArgs false

theorem has_is {x y z u n : Nat} (K : OkN x y z u) (h : OfN x y z u n) : CR 10 #[rv x y z u, .int .i64 n] (.bool true) := fun w => by
  have := c_RangeHas_in x y z u n w K h.lo h.hi
  rw [h.has] at this
  exact this

set_option maxRecDepth 100000 in
set_option maxHeartbeats 4000000 in
theorem law_fnOf (w : World) (a : Option Addr) (len cap : Nat) (hc : len ≤ cap) (hs : Src w a len) (hl : cap < 2 ^ 63) (a1 : Option Addr) (len1 cap1 : Nat) (hc1 : len1 ≤ cap1) (hs1 : Src w a1 len1) (hl1 : cap1 < 2 ^ 63) :
    Calls Try.prog 3 #[.slice a len cap, .slice a1 len1 cap1] w fun e w' => e = .returned (.bool true) ∧ Below w.heap.size w w' := by
  have HS := hid hs
  clear hs hs1
  by_cases hbig : (len : Int) > 1048576
  · go_enter Try.func3, Try.ntmps3
    go_wp2_with fail
    go_ret
    exact ⟨rfl, Below.refl _ _⟩
  by_cases hbig1 : (len1 : Int) > 1048576
  · go_enter Try.func3, Try.ntmps3
    go_wp2_with fail
    go_ret
    exact ⟨rfl, Below.refl _ _⟩
  go_enter Try.func3, Try.ntmps3
  go_wp2_with fail
  refine (drawRangeOf_s w a len cap hc HS.out hl).mono ?_
  rintro e w1 ⟨op, lo, hi, b, o, lo', hi', b', o', rfl, hop, hA, les, hb1⟩
  have bel1 := hid hb1
  clear hb1
  have l1 : (0 : Int) ≤ len1 := by omega
  rcases of_cases op hop lo hi b o lo' hi' b' o' hA les with ⟨x, y, z, u, m, n, R, h11, hB, em, M, en, N⟩ | ⟨b1, b2⟩
  rotate_left
  · have B1 := hid b1
    have B2 := hid b2
    have B3 := hid okR_no
    clear b1 b2 hA les HS
    go_wp2_with fail
    have bX2 := hid ((RBox.new w1 (lo) (hi) (b) (o)).alloc (cellsR4 (lo') (hi') (b') (o')))
    have bY2 : Hid (RBox ((w1.alloc (cellsR4 (lo) (hi) (b) (o))).alloc (cellsR4 (lo') (hi') (b') (o'))) (w1.heap.size + 1) (lo') (hi') (b') (o')) := by
      have h0 := RBox.new (w1.alloc (cellsR4 (lo) (hi) (b) (o))) (lo') (hi') (b') (o')
      simp only [World.size_alloc] at h0
      exact h0
    have bel2 := hid (bel1.out.to (newB w1 (cellsR4 (lo) (hi) (b) (o)) (cellsR4 (lo') (hi') (b') (o'))))
    have leX := bel1.out.size
    clear bel1
    generalize (w1.alloc (cellsR4 (lo) (hi) (b) (o))).alloc (cellsR4 (lo') (hi') (b') (o')) = w2 at *
    generalize w1.heap.size = X at *
    refine (B1.out _).mono ?_
    rintro e w3 ⟨rfl, hb3⟩
    have bX3 := hid (bX2.out.below hb3)
    have bY3 := hid (bY2.out.below hb3)
    have bel3 := hid (bel2.out.to hb3)
    clear hb3 bX2 bY2 bel2
    go_wp2_with fail
    have bX4 := hid (bX3.out.alloc (cellsR4 (1) (0) (0) (0)))
    have neZX := RBox.lt bX3.out
    have bY4 := hid (bY3.out.alloc (cellsR4 (1) (0) (0) (0)))
    have neZY := RBox.lt bY3.out
    have bZ4 := hid (RBox.new w3 (1) (0) (0) (0))
    have bel4 := hid (bel3.out.alloc bel3.out.size (cellsR4 (1) (0) (0) (0)))
    have leZ := bel3.out.size
    clear bX3 bY3 bel3
    generalize w3.alloc (cellsR4 (1) (0) (0) (0)) = w4 at *
    generalize w3.heap.size = Z at *
    refine wp_region_held_drew (S := (fun w' => w'.cell? ⟨X, 0, none⟩ = some (.int .i64 (lo)) ∧ w'.cell? ⟨X, 1, none⟩ = some (.int .i64 (hi)) ∧ w'.cell? ⟨X, 2, none⟩ = some (.int .i64 (b)) ∧ w'.cell? ⟨X, 3, none⟩ = some (.int .i64 (o)) ∧ w'.cell? ⟨X + 1, 0, none⟩ = some (.int .i64 (lo')) ∧ w'.cell? ⟨X + 1, 1, none⟩ = some (.int .i64 (hi')) ∧ w'.cell? ⟨X + 1, 2, none⟩ = some (.int .i64 (b')) ∧ w'.cell? ⟨X + 1, 3, none⟩ = some (.int .i64 (o')) ∧ w'.cell? ⟨Z, 0, none⟩ = some (.int .i64 (1)) ∧ w'.cell? ⟨Z, 1, none⟩ = some (.int .i64 (0)) ∧ w'.cell? ⟨Z, 2, none⟩ = some (.int .i64 (0)) ∧ w'.cell? ⟨Z, 3, none⟩ = some (.int .i64 (0)))) (by kernel_rfl) (by exact ⟨(RBox.box bX4.out).c0, (RBox.box bX4.out).c1, (RBox.box bX4.out).c2, (RBox.box bX4.out).c3, (RBox.box bY4.out).c0, (RBox.box bY4.out).c1, (RBox.box bY4.out).c2, (RBox.box bY4.out).c3, (RBox.box bZ4.out).c0, (RBox.box bZ4.out).c1, (RBox.box bZ4.out).c2, (RBox.box bZ4.out).c3⟩) (fun hHeld => ?_)
    have hX := hid (RBox.drew bX4.out)
    have hY := hid (RBox.drew bY4.out)
    have hZ := hid (RBox.drew bZ4.out)
    have hbel := hid (Below.drew bel4.out)
    clear bX4 bY4 bZ4 bel4
    generalize w4.drew = W1 at *
    refine wpAnyH_take (i := 0) (oi := ?oi1) (v := ?v1) (fuel := 10) ?hi1 ?hs1 ?hf1 ?hr1 ?hq1 (Or.inl ⟨?hw1, ?hy1⟩) hHeld ?rest1
    case hi1 => rw [List.getElem?_toArray]; rfl
    case hq1 => exact fun _ _ _ h => h
    case hs1 | hf1 | hr1 => kernel_rfl
    case hw1 => rfl
    case hy1 => (intro w1 hSw; (try dsimp only at hSw); go_simp; try with_reducible rfl)
    (try simp only [Act.put, List.setIfInBounds_toArray, List.set_cons_zero, List.set_cons_succ])
    refine wpAnyH_take (i := 1) (oi := ?oi2) (v := ?v2) (fuel := 9) ?hi2 ?hs2 ?hf2 ?hr2 ?hq2 (Or.inl ⟨?hw2, ?hy2⟩) hHeld ?rest2
    case hi2 => rw [List.getElem?_toArray]; rfl
    case hq2 => exact fun _ _ _ h => h
    case hs2 | hf2 | hr2 => kernel_rfl
    case hw2 => rfl
    case hy2 => (intro w1 hSw; (try dsimp only at hSw); go_simp; try with_reducible rfl)
    (try simp only [Act.put, List.setIfInBounds_toArray, List.set_cons_zero, List.set_cons_succ])
    refine wpAnyH_take (i := 2) (oi := ?oi3) (v := ?v3) (fuel := 8) ?hi3 ?hs3 ?hf3 ?hr3 ?hq3 (Or.inl ⟨?hw3, ?hy3⟩) hHeld ?rest3
    case hi3 => rw [List.getElem?_toArray]; rfl
    case hq3 => exact fun _ _ _ h => h
    case hs3 | hf3 | hr3 => kernel_rfl
    case hw3 => rfl
    case hy3 => (intro w1 hSw; (try dsimp only at hSw); go_simp; try with_reducible rfl)
    (try simp only [Act.put, List.setIfInBounds_toArray, List.set_cons_zero, List.set_cons_succ])
    refine wpAnyH_take (i := 3) (oi := ?oi4) (v := ?v4) (fuel := 7) ?hi4 ?hs4 ?hf4 ?hr4 ?hq4 (Or.inl ⟨?hw4, ?hy4⟩) hHeld ?rest4
    case hi4 => rw [List.getElem?_toArray]; rfl
    case hq4 => exact fun _ _ _ h => h
    case hs4 | hf4 | hr4 => kernel_rfl
    case hw4 => rfl
    case hy4 => (intro w1 hSw; (try dsimp only at hSw); go_simp; try with_reducible rfl)
    (try simp only [Act.put, List.setIfInBounds_toArray, List.set_cons_zero, List.set_cons_succ])
    refine wpAnyH_ready (fuel := 6) (rs := [4]) (by kernel_rfl) (by simp) ?_
    refine AllReadyH.cons (o := ?oi5) ?hi5 (fun K hK => ?st5) AllReadyH.nil
    case hi5 => rw [List.getElem?_toArray]; rfl
    go_simp
    refine (B2.out _).mono ?_
    rintro ee wr4 ⟨rfl, hbn⟩
    replace hX := hid (hX.out.below hbn)
    replace hY := hid (hY.out.below hbn)
    replace hZ := hid (hZ.out.below hbn)
    replace hbel := hid (hbel.out.to hbn)
    clear hbn
    go_wp2_with fail
    refine hK.out _ _ ?hS5 (fun hHeld => ?re5)
    case hS5 => exact ⟨(RBox.box hX.out).c0, (RBox.box hX.out).c1, (RBox.box hX.out).c2, (RBox.box hX.out).c3, (RBox.box hY.out).c0, (RBox.box hY.out).c1, (RBox.box hY.out).c2, (RBox.box hY.out).c3, (RBox.box hZ.out).c0, (RBox.box hZ.out).c1, (RBox.box hZ.out).c2, (RBox.box hZ.out).c3⟩
    clear hK K
    (try simp only [Act.put, List.setIfInBounds_toArray, List.set_cons_zero, List.set_cons_succ])
    refine wpAnyH_take (i := 5) (oi := ?oi6) (v := ?v6) (fuel := 5) ?hi6 ?hs6 ?hf6 ?hr6 ?hq6 (Or.inl ⟨?hw6, ?hy6⟩) hHeld ?rest6
    case hi6 => rw [List.getElem?_toArray]; rfl
    case hq6 => exact fun _ _ _ h => h
    case hs6 | hf6 | hr6 => kernel_rfl
    case hw6 => rfl
    case hy6 => (intro w1 hSw; (try dsimp only at hSw); go_simp; try with_reducible rfl)
    (try simp only [Act.put, List.setIfInBounds_toArray, List.set_cons_zero, List.set_cons_succ])
    refine wpAnyH_take (i := 6) (oi := ?oi7) (v := ?v7) (fuel := 4) ?hi7 ?hs7 ?hf7 ?hr7 ?hq7 (Or.inl ⟨?hw7, ?hy7⟩) hHeld ?rest7
    case hi7 => rw [List.getElem?_toArray]; rfl
    case hq7 => exact fun _ _ _ h => h
    case hs7 | hf7 | hr7 => kernel_rfl
    case hw7 => rfl
    case hy7 => (intro w1 hSw; (try dsimp only at hSw); go_simp; try with_reducible rfl)
    (try simp only [Act.put, List.setIfInBounds_toArray, List.set_cons_zero, List.set_cons_succ])
    refine wpAnyH_take (i := 7) (oi := ?oi8) (v := ?v8) (fuel := 3) ?hi8 ?hs8 ?hf8 ?hr8 ?hq8 (Or.inl ⟨?hw8, ?hy8⟩) hHeld ?rest8
    case hi8 => rw [List.getElem?_toArray]; rfl
    case hq8 => exact fun _ _ _ h => h
    case hs8 | hf8 | hr8 => kernel_rfl
    case hw8 => rfl
    case hy8 => (intro w1 hSw; (try dsimp only at hSw); go_simp; try with_reducible rfl)
    (try simp only [Act.put, List.setIfInBounds_toArray, List.set_cons_zero, List.set_cons_succ])
    refine wpAnyH_ready (fuel := 2) (rs := [8]) (by kernel_rfl) (by simp) ?_
    refine AllReadyH.cons (o := ?oi9) ?hi9 (fun K hK => ?st9) AllReadyH.nil
    case hi9 => rw [List.getElem?_toArray]; rfl
    go_simp
    refine (B3.out _).mono ?_
    rintro ee wr8 ⟨rfl, hbn⟩
    replace hX := hid (hX.out.below hbn)
    replace hY := hid (hY.out.below hbn)
    replace hZ := hid (hZ.out.below hbn)
    replace hbel := hid (hbel.out.to hbn)
    clear hbn
    go_wp2_with fail
    refine hK.out _ _ ?hS9 (fun hHeld => ?re9)
    case hS9 => exact ⟨(RBox.box hX.out).c0, (RBox.box hX.out).c1, (RBox.box hX.out).c2, (RBox.box hX.out).c3, (RBox.box hY.out).c0, (RBox.box hY.out).c1, (RBox.box hY.out).c2, (RBox.box hY.out).c3, (RBox.box hZ.out).c0, (RBox.box hZ.out).c1, (RBox.box hZ.out).c2, (RBox.box hZ.out).c3⟩
    clear hK K
    (try simp only [Act.put, List.setIfInBounds_toArray, List.set_cons_zero, List.set_cons_succ])
    refine wpAnyH_take (i := 9) (oi := ?oi10) (v := ?v10) (fuel := 1) ?hi10 ?hs10 ?hf10 ?hr10 ?hq10 (Or.inl ⟨?hw10, ?hy10⟩) hHeld ?rest10
    case hi10 => rw [List.getElem?_toArray]; rfl
    case hq10 => exact fun _ _ _ h => h
    case hs10 | hf10 | hr10 => kernel_rfl
    case hw10 => rfl
    case hy10 => (intro w1 hSw; (try dsimp only at hSw); go_simp; try with_reducible rfl)
    (try simp only [Act.put, List.setIfInBounds_toArray, List.set_cons_zero, List.set_cons_succ])
    refine wpAnyH_take (i := 10) (oi := ?oi11) (v := ?v11) (fuel := 0) ?hi11 ?hs11 ?hf11 ?hr11 ?hq11 (Or.inl ⟨?hw11, ?hy11⟩) hHeld ?rest11
    case hi11 => rw [List.getElem?_toArray]; rfl
    case hq11 => exact fun _ _ _ h => h
    case hs11 | hf11 | hr11 => kernel_rfl
    case hw11 => rfl
    case hy11 => (intro w1 hSw; (try dsimp only at hSw); go_simp; try with_reducible rfl)
    (try simp only [Act.put, List.setIfInBounds_toArray, List.set_cons_zero, List.set_cons_succ])
    refine wpAnyH_done (by kernel_rfl) ?_ _
    clear hHeld
    generalize wr8 = w5 at *
    have bX5 := hX
    have bY5 := hY
    have bZ5 := hZ
    have bel5 := hbel
    clear hbel hX hY hZ
    go_wp2_with fail
    refine wp_region_held_drew (S := (fun w' => w'.cell? ⟨X, 0, none⟩ = some (.int .i64 (lo)) ∧ w'.cell? ⟨X, 1, none⟩ = some (.int .i64 (hi)) ∧ w'.cell? ⟨X, 2, none⟩ = some (.int .i64 (b)) ∧ w'.cell? ⟨X, 3, none⟩ = some (.int .i64 (o)) ∧ w'.cell? ⟨X + 1, 0, none⟩ = some (.int .i64 (lo')) ∧ w'.cell? ⟨X + 1, 1, none⟩ = some (.int .i64 (hi')) ∧ w'.cell? ⟨X + 1, 2, none⟩ = some (.int .i64 (b')) ∧ w'.cell? ⟨X + 1, 3, none⟩ = some (.int .i64 (o')) ∧ w'.cell? ⟨Z, 0, none⟩ = some (.int .i64 (1)) ∧ w'.cell? ⟨Z, 1, none⟩ = some (.int .i64 (0)) ∧ w'.cell? ⟨Z, 2, none⟩ = some (.int .i64 (0)) ∧ w'.cell? ⟨Z, 3, none⟩ = some (.int .i64 (0)))) (by kernel_rfl) (by exact ⟨(RBox.box bX5.out).c0, (RBox.box bX5.out).c1, (RBox.box bX5.out).c2, (RBox.box bX5.out).c3, (RBox.box bY5.out).c0, (RBox.box bY5.out).c1, (RBox.box bY5.out).c2, (RBox.box bY5.out).c3, (RBox.box bZ5.out).c0, (RBox.box bZ5.out).c1, (RBox.box bZ5.out).c2, (RBox.box bZ5.out).c3⟩) (fun hHeld => ?_)
    have hX := hid (RBox.drew bX5.out)
    have hY := hid (RBox.drew bY5.out)
    have hZ := hid (RBox.drew bZ5.out)
    have hbel := hid (Below.drew bel5.out)
    clear bX5 bY5 bZ5 bel5
    generalize w5.drew = W1 at *
    refine wpAnyH_take (i := 0) (oi := ?oi12) (v := ?v12) (fuel := 6) ?hi12 ?hs12 ?hf12 ?hr12 ?hq12 (Or.inl ⟨?hw12, ?hy12⟩) hHeld ?rest12
    case hi12 => rw [List.getElem?_toArray]; rfl
    case hq12 => exact fun _ _ _ h => h
    case hs12 | hf12 | hr12 => kernel_rfl
    case hw12 => rfl
    case hy12 => (intro w1 hSw; (try dsimp only at hSw); go_simp; try with_reducible rfl)
    (try simp only [Act.put, List.setIfInBounds_toArray, List.set_cons_zero, List.set_cons_succ])
    refine wpAnyH_take (i := 1) (oi := ?oi13) (v := ?v13) (fuel := 5) ?hi13 ?hs13 ?hf13 ?hr13 ?hq13 (Or.inl ⟨?hw13, ?hy13⟩) hHeld ?rest13
    case hi13 => rw [List.getElem?_toArray]; rfl
    case hq13 => exact fun _ _ _ h => h
    case hs13 | hf13 | hr13 => kernel_rfl
    case hw13 => rfl
    case hy13 => (intro w1 hSw; (try dsimp only at hSw); go_simp; try with_reducible rfl)
    (try simp only [Act.put, List.setIfInBounds_toArray, List.set_cons_zero, List.set_cons_succ])
    refine wpAnyH_take (i := 2) (oi := ?oi14) (v := ?v14) (fuel := 4) ?hi14 ?hs14 ?hf14 ?hr14 ?hq14 (Or.inl ⟨?hw14, ?hy14⟩) hHeld ?rest14
    case hi14 => rw [List.getElem?_toArray]; rfl
    case hq14 => exact fun _ _ _ h => h
    case hs14 | hf14 | hr14 => kernel_rfl
    case hw14 => rfl
    case hy14 => (intro w1 hSw; (try dsimp only at hSw); go_simp; try with_reducible rfl)
    (try simp only [Act.put, List.setIfInBounds_toArray, List.set_cons_zero, List.set_cons_succ])
    refine wpAnyH_take (i := 3) (oi := ?oi15) (v := ?v15) (fuel := 3) ?hi15 ?hs15 ?hf15 ?hr15 ?hq15 (Or.inl ⟨?hw15, ?hy15⟩) hHeld ?rest15
    case hi15 => rw [List.getElem?_toArray]; rfl
    case hq15 => exact fun _ _ _ h => h
    case hs15 | hf15 | hr15 => kernel_rfl
    case hw15 => rfl
    case hy15 => (intro w1 hSw; (try dsimp only at hSw); go_simp; try with_reducible rfl)
    (try simp only [Act.put, List.setIfInBounds_toArray, List.set_cons_zero, List.set_cons_succ])
    refine wpAnyH_ready (fuel := 2) (rs := [4]) (by kernel_rfl) (by simp) ?_
    refine AllReadyH.cons (o := ?oi16) ?hi16 (fun K hK => ?st16) AllReadyH.nil
    case hi16 => rw [List.getElem?_toArray]; rfl
    go_simp
    refine (B2.out _).mono ?_
    rintro ee wr4 ⟨rfl, hbn⟩
    replace hX := hid (hX.out.below hbn)
    replace hY := hid (hY.out.below hbn)
    replace hZ := hid (hZ.out.below hbn)
    replace hbel := hid (hbel.out.to hbn)
    clear hbn
    go_wp2_with fail
    refine hK.out _ _ ?hS16 (fun hHeld => ?re16)
    case hS16 => exact ⟨(RBox.box hX.out).c0, (RBox.box hX.out).c1, (RBox.box hX.out).c2, (RBox.box hX.out).c3, (RBox.box hY.out).c0, (RBox.box hY.out).c1, (RBox.box hY.out).c2, (RBox.box hY.out).c3, (RBox.box hZ.out).c0, (RBox.box hZ.out).c1, (RBox.box hZ.out).c2, (RBox.box hZ.out).c3⟩
    clear hK K
    (try simp only [Act.put, List.setIfInBounds_toArray, List.set_cons_zero, List.set_cons_succ])
    refine wpAnyH_take (i := 5) (oi := ?oi17) (v := ?v17) (fuel := 1) ?hi17 ?hs17 ?hf17 ?hr17 ?hq17 (Or.inl ⟨?hw17, ?hy17⟩) hHeld ?rest17
    case hi17 => rw [List.getElem?_toArray]; rfl
    case hq17 => exact fun _ _ _ h => h
    case hs17 | hf17 | hr17 => kernel_rfl
    case hw17 => rfl
    case hy17 => (intro w1 hSw; (try dsimp only at hSw); go_simp; try with_reducible rfl)
    (try simp only [Act.put, List.setIfInBounds_toArray, List.set_cons_zero, List.set_cons_succ])
    refine wpAnyH_take (i := 6) (oi := ?oi18) (v := ?v18) (fuel := 0) ?hi18 ?hs18 ?hf18 ?hr18 ?hq18 (Or.inl ⟨?hw18, ?hy18⟩) hHeld ?rest18
    case hi18 => rw [List.getElem?_toArray]; rfl
    case hq18 => exact fun _ _ _ h => h
    case hs18 | hf18 | hr18 => kernel_rfl
    case hw18 => rfl
    case hy18 => (intro w1 hSw; (try dsimp only at hSw); go_simp; try with_reducible rfl)
    (try simp only [Act.put, List.setIfInBounds_toArray, List.set_cons_zero, List.set_cons_succ])
    refine wpAnyH_done (by kernel_rfl) ?_ _
    clear hHeld
    generalize wr4 = w6 at *
    have bX6 := hX
    have bY6 := hY
    have bZ6 := hZ
    have bel6 := hbel
    clear hbel hX hY hZ
    go_wp2_with fail
    go_ret
    exact ⟨rfl, bel6.out⟩
  have A1 := hid R.im
  have A2 := hid R.sp
  have A3 := hid (okR_yes R.ok)
  have A4 := hid (least_is hA em M)
  have A5 := hid (least_is hB en N)
  have lm : m ≤ 4294967295 := Nat.le_trans M.hi hA.hi
  have ln : n ≤ 4294967295 := Nat.le_trans N.hi hB.hi
  have A8 := hid (do_impl op m n hop.1 h11 lm ln)
  have A9 := hid (has_is R.ok (R.has m n M N))
  have HR := hid R
  have HM := hid M
  have HN := hid N
  have HA := hid hA
  have HBB := hid hB
  have HOP := hid (And.intro hop.1 h11)
  generalize doN op m n = d at *
  clear R hA hB em en M N les HS hop h11 lm ln
  go_wp2_with fail
  have bX2 := hid ((RBox.new w1 (lo) (hi) (b) (o)).alloc (cellsR4 (lo') (hi') (b') (o')))
  have bY2 : Hid (RBox ((w1.alloc (cellsR4 (lo) (hi) (b) (o))).alloc (cellsR4 (lo') (hi') (b') (o'))) (w1.heap.size + 1) (lo') (hi') (b') (o')) := by
    have h0 := RBox.new (w1.alloc (cellsR4 (lo) (hi) (b) (o))) (lo') (hi') (b') (o')
    simp only [World.size_alloc] at h0
    exact h0
  have bel2 := hid (bel1.out.to (newB w1 (cellsR4 (lo) (hi) (b) (o)) (cellsR4 (lo') (hi') (b') (o'))))
  have leX := bel1.out.size
  clear bel1
  generalize (w1.alloc (cellsR4 (lo) (hi) (b) (o))).alloc (cellsR4 (lo') (hi') (b') (o')) = w2 at *
  generalize w1.heap.size = X at *
  refine (A1.out _).mono ?_
  rintro e w3 ⟨rfl, hb3⟩
  have bX3 := hid (bX2.out.below hb3)
  have bY3 := hid (bY2.out.below hb3)
  have bel3 := hid (bel2.out.to hb3)
  clear hb3 bX2 bY2 bel2
  go_wp2_with fail
  have bX4 := hid (bX3.out.alloc (cellsR4 (x) (y) (z) (u)))
  have neZX := RBox.lt bX3.out
  have bY4 := hid (bY3.out.alloc (cellsR4 (x) (y) (z) (u)))
  have neZY := RBox.lt bY3.out
  have bZ4 := hid (RBox.new w3 (x) (y) (z) (u))
  have bel4 := hid (bel3.out.alloc bel3.out.size (cellsR4 (x) (y) (z) (u)))
  have leZ := bel3.out.size
  clear bX3 bY3 bel3
  generalize w3.alloc (cellsR4 (x) (y) (z) (u)) = w4 at *
  generalize w3.heap.size = Z at *
  refine wp_region_held_drew (S := (fun w' => w'.cell? ⟨X, 0, none⟩ = some (.int .i64 (lo)) ∧ w'.cell? ⟨X, 1, none⟩ = some (.int .i64 (hi)) ∧ w'.cell? ⟨X, 2, none⟩ = some (.int .i64 (b)) ∧ w'.cell? ⟨X, 3, none⟩ = some (.int .i64 (o)) ∧ w'.cell? ⟨X + 1, 0, none⟩ = some (.int .i64 (lo')) ∧ w'.cell? ⟨X + 1, 1, none⟩ = some (.int .i64 (hi')) ∧ w'.cell? ⟨X + 1, 2, none⟩ = some (.int .i64 (b')) ∧ w'.cell? ⟨X + 1, 3, none⟩ = some (.int .i64 (o')) ∧ w'.cell? ⟨Z, 0, none⟩ = some (.int .i64 (x)) ∧ w'.cell? ⟨Z, 1, none⟩ = some (.int .i64 (y)) ∧ w'.cell? ⟨Z, 2, none⟩ = some (.int .i64 (z)) ∧ w'.cell? ⟨Z, 3, none⟩ = some (.int .i64 (u)))) (by kernel_rfl) (by exact ⟨(RBox.box bX4.out).c0, (RBox.box bX4.out).c1, (RBox.box bX4.out).c2, (RBox.box bX4.out).c3, (RBox.box bY4.out).c0, (RBox.box bY4.out).c1, (RBox.box bY4.out).c2, (RBox.box bY4.out).c3, (RBox.box bZ4.out).c0, (RBox.box bZ4.out).c1, (RBox.box bZ4.out).c2, (RBox.box bZ4.out).c3⟩) (fun hHeld => ?_)
  have hX := hid (RBox.drew bX4.out)
  have hY := hid (RBox.drew bY4.out)
  have hZ := hid (RBox.drew bZ4.out)
  have hbel := hid (Below.drew bel4.out)
  clear bX4 bY4 bZ4 bel4
  generalize w4.drew = W1 at *
  refine wpAnyH_take (i := 0) (oi := ?oi19) (v := ?v19) (fuel := 10) ?hi19 ?hs19 ?hf19 ?hr19 ?hq19 (Or.inl ⟨?hw19, ?hy19⟩) hHeld ?rest19
  case hi19 => rw [List.getElem?_toArray]; rfl
  case hq19 => exact fun _ _ _ h => h
  case hs19 | hf19 | hr19 => kernel_rfl
  case hw19 => rfl
  case hy19 => (intro w1 hSw; (try dsimp only at hSw); go_simp; try with_reducible rfl)
  (try simp only [Act.put, List.setIfInBounds_toArray, List.set_cons_zero, List.set_cons_succ])
  refine wpAnyH_take (i := 1) (oi := ?oi20) (v := ?v20) (fuel := 9) ?hi20 ?hs20 ?hf20 ?hr20 ?hq20 (Or.inl ⟨?hw20, ?hy20⟩) hHeld ?rest20
  case hi20 => rw [List.getElem?_toArray]; rfl
  case hq20 => exact fun _ _ _ h => h
  case hs20 | hf20 | hr20 => kernel_rfl
  case hw20 => rfl
  case hy20 => (intro w1 hSw; (try dsimp only at hSw); go_simp; try with_reducible rfl)
  (try simp only [Act.put, List.setIfInBounds_toArray, List.set_cons_zero, List.set_cons_succ])
  refine wpAnyH_take (i := 2) (oi := ?oi21) (v := ?v21) (fuel := 8) ?hi21 ?hs21 ?hf21 ?hr21 ?hq21 (Or.inl ⟨?hw21, ?hy21⟩) hHeld ?rest21
  case hi21 => rw [List.getElem?_toArray]; rfl
  case hq21 => exact fun _ _ _ h => h
  case hs21 | hf21 | hr21 => kernel_rfl
  case hw21 => rfl
  case hy21 => (intro w1 hSw; (try dsimp only at hSw); go_simp; try with_reducible rfl)
  (try simp only [Act.put, List.setIfInBounds_toArray, List.set_cons_zero, List.set_cons_succ])
  refine wpAnyH_take (i := 3) (oi := ?oi22) (v := ?v22) (fuel := 7) ?hi22 ?hs22 ?hf22 ?hr22 ?hq22 (Or.inl ⟨?hw22, ?hy22⟩) hHeld ?rest22
  case hi22 => rw [List.getElem?_toArray]; rfl
  case hq22 => exact fun _ _ _ h => h
  case hs22 | hf22 | hr22 => kernel_rfl
  case hw22 => rfl
  case hy22 => (intro w1 hSw; (try dsimp only at hSw); go_simp; try with_reducible rfl)
  (try simp only [Act.put, List.setIfInBounds_toArray, List.set_cons_zero, List.set_cons_succ])
  refine wpAnyH_ready (fuel := 6) (rs := [4]) (by kernel_rfl) (by simp) ?_
  refine AllReadyH.cons (o := ?oi23) ?hi23 (fun K hK => ?st23) AllReadyH.nil
  case hi23 => rw [List.getElem?_toArray]; rfl
  go_simp
  refine (A2.out _).mono ?_
  rintro ee wr4 ⟨rfl, hbn⟩
  replace hX := hid (hX.out.below hbn)
  replace hY := hid (hY.out.below hbn)
  replace hZ := hid (hZ.out.below hbn)
  replace hbel := hid (hbel.out.to hbn)
  clear hbn
  go_wp2_with fail
  refine hK.out _ _ ?hS23 (fun hHeld => ?re23)
  case hS23 => exact ⟨(RBox.box hX.out).c0, (RBox.box hX.out).c1, (RBox.box hX.out).c2, (RBox.box hX.out).c3, (RBox.box hY.out).c0, (RBox.box hY.out).c1, (RBox.box hY.out).c2, (RBox.box hY.out).c3, (RBox.box hZ.out).c0, (RBox.box hZ.out).c1, (RBox.box hZ.out).c2, (RBox.box hZ.out).c3⟩
  clear hK K
  (try simp only [Act.put, List.setIfInBounds_toArray, List.set_cons_zero, List.set_cons_succ])
  refine wpAnyH_take (i := 5) (oi := ?oi24) (v := ?v24) (fuel := 5) ?hi24 ?hs24 ?hf24 ?hr24 ?hq24 (Or.inl ⟨?hw24, ?hy24⟩) hHeld ?rest24
  case hi24 => rw [List.getElem?_toArray]; rfl
  case hq24 => exact fun _ _ _ h => h
  case hs24 | hf24 | hr24 => kernel_rfl
  case hw24 => rfl
  case hy24 => (intro w1 hSw; (try dsimp only at hSw); go_simp; try with_reducible rfl)
  (try simp only [Act.put, List.setIfInBounds_toArray, List.set_cons_zero, List.set_cons_succ])
  refine wpAnyH_take (i := 6) (oi := ?oi25) (v := ?v25) (fuel := 4) ?hi25 ?hs25 ?hf25 ?hr25 ?hq25 (Or.inl ⟨?hw25, ?hy25⟩) hHeld ?rest25
  case hi25 => rw [List.getElem?_toArray]; rfl
  case hq25 => exact fun _ _ _ h => h
  case hs25 | hf25 | hr25 => kernel_rfl
  case hw25 => rfl
  case hy25 => (intro w1 hSw; (try dsimp only at hSw); go_simp; try with_reducible rfl)
  (try simp only [Act.put, List.setIfInBounds_toArray, List.set_cons_zero, List.set_cons_succ])
  refine wpAnyH_take (i := 7) (oi := ?oi26) (v := ?v26) (fuel := 3) ?hi26 ?hs26 ?hf26 ?hr26 ?hq26 (Or.inl ⟨?hw26, ?hy26⟩) hHeld ?rest26
  case hi26 => rw [List.getElem?_toArray]; rfl
  case hq26 => exact fun _ _ _ h => h
  case hs26 | hf26 | hr26 => kernel_rfl
  case hw26 => rfl
  case hy26 => (intro w1 hSw; (try dsimp only at hSw); go_simp; try with_reducible rfl)
  (try simp only [Act.put, List.setIfInBounds_toArray, List.set_cons_zero, List.set_cons_succ])
  refine wpAnyH_ready (fuel := 2) (rs := [8]) (by kernel_rfl) (by simp) ?_
  refine AllReadyH.cons (o := ?oi27) ?hi27 (fun K hK => ?st27) AllReadyH.nil
  case hi27 => rw [List.getElem?_toArray]; rfl
  go_simp
  refine (A3.out _).mono ?_
  rintro ee wr8 ⟨rfl, hbn⟩
  replace hX := hid (hX.out.below hbn)
  replace hY := hid (hY.out.below hbn)
  replace hZ := hid (hZ.out.below hbn)
  replace hbel := hid (hbel.out.to hbn)
  clear hbn
  go_wp2_with fail
  refine hK.out _ _ ?hS27 (fun hHeld => ?re27)
  case hS27 => exact ⟨(RBox.box hX.out).c0, (RBox.box hX.out).c1, (RBox.box hX.out).c2, (RBox.box hX.out).c3, (RBox.box hY.out).c0, (RBox.box hY.out).c1, (RBox.box hY.out).c2, (RBox.box hY.out).c3, (RBox.box hZ.out).c0, (RBox.box hZ.out).c1, (RBox.box hZ.out).c2, (RBox.box hZ.out).c3⟩
  clear hK K
  (try simp only [Act.put, List.setIfInBounds_toArray, List.set_cons_zero, List.set_cons_succ])
  refine wpAnyH_take (i := 9) (oi := ?oi28) (v := ?v28) (fuel := 1) ?hi28 ?hs28 ?hf28 ?hr28 ?hq28 (Or.inl ⟨?hw28, ?hy28⟩) hHeld ?rest28
  case hi28 => rw [List.getElem?_toArray]; rfl
  case hq28 => exact fun _ _ _ h => h
  case hs28 | hf28 | hr28 => kernel_rfl
  case hw28 => rfl
  case hy28 => (intro w1 hSw; (try dsimp only at hSw); go_simp; try with_reducible rfl)
  (try simp only [Act.put, List.setIfInBounds_toArray, List.set_cons_zero, List.set_cons_succ])
  refine wpAnyH_take (i := 10) (oi := ?oi29) (v := ?v29) (fuel := 0) ?hi29 ?hs29 ?hf29 ?hr29 ?hq29 (Or.inl ⟨?hw29, ?hy29⟩) hHeld ?rest29
  case hi29 => rw [List.getElem?_toArray]; rfl
  case hq29 => exact fun _ _ _ h => h
  case hs29 | hf29 | hr29 => kernel_rfl
  case hw29 => rfl
  case hy29 => (intro w1 hSw; (try dsimp only at hSw); go_simp; try with_reducible rfl)
  (try simp only [Act.put, List.setIfInBounds_toArray, List.set_cons_zero, List.set_cons_succ])
  refine wpAnyH_done (by kernel_rfl) ?_ _
  clear hHeld
  generalize wr8 = w5 at *
  have bX5 := hX
  have bY5 := hY
  have bZ5 := hZ
  have bel5 := hbel
  clear hbel hX hY hZ
  obtain ⟨cX0, cX1, cX2, cX3⟩ := RBox.box bX5.out
  go_wp2_with fail
  refine (some_s lo hi b o m len1 _ HA.out HM.out (by omega)).mono ?_
  rintro e w6 ⟨⟨xa, rfl, hxa⟩, hb6⟩
  have bX6 := hid (bX5.out.below hb6)
  have bY6 := hid (bY5.out.below hb6)
  have bZ6 := hid (bZ5.out.below hb6)
  have bel6 := hid (bel5.out.to hb6)
  clear hb6 bX5 bY5 bZ5 bel5
  have HXA := hid hxa
  clear hxa
  clear cX0 cX1 cX2 cX3
  obtain ⟨cY0, cY1, cY2, cY3⟩ := RBox.box bY6.out
  go_wp2_with fail
  refine (some_i lo' hi' b' o' n _ _ HBB.out HN.out (by first | omega | (unfold wrap64; omega)) (by first | omega | (unfold wrap64; omega))).mono ?_
  rintro e w7 ⟨⟨ya, rfl, hya⟩, hb7⟩
  have bX7 := hid (bX6.out.below hb7)
  have bY7 := hid (bY6.out.below hb7)
  have bZ7 := hid (bZ6.out.below hb7)
  have bel7 := hid (bel6.out.to hb7)
  clear hb7 bX6 bY6 bZ6 bel6
  clear cY0 cY1 cY2 cY3
  have A6 := hid (do_impl op xa ya HOP.out.1 HOP.out.2 (Nat.le_trans HXA.out.hi HA.out.hi) (Nat.le_trans hya.hi HBB.out.hi))
  have A7 := hid (has_is HR.out.ok (HR.out.has xa ya HXA.out hya))
  clear HXA hya HR HM HN HA HBB HOP
  generalize doN op xa ya = d2 at *
  go_wp2_with fail
  refine wp_region_held_drew (S := (fun w' => w'.cell? ⟨X, 0, none⟩ = some (.int .i64 (lo)) ∧ w'.cell? ⟨X, 1, none⟩ = some (.int .i64 (hi)) ∧ w'.cell? ⟨X, 2, none⟩ = some (.int .i64 (b)) ∧ w'.cell? ⟨X, 3, none⟩ = some (.int .i64 (o)) ∧ w'.cell? ⟨X + 1, 0, none⟩ = some (.int .i64 (lo')) ∧ w'.cell? ⟨X + 1, 1, none⟩ = some (.int .i64 (hi')) ∧ w'.cell? ⟨X + 1, 2, none⟩ = some (.int .i64 (b')) ∧ w'.cell? ⟨X + 1, 3, none⟩ = some (.int .i64 (o')) ∧ w'.cell? ⟨Z, 0, none⟩ = some (.int .i64 (x)) ∧ w'.cell? ⟨Z, 1, none⟩ = some (.int .i64 (y)) ∧ w'.cell? ⟨Z, 2, none⟩ = some (.int .i64 (z)) ∧ w'.cell? ⟨Z, 3, none⟩ = some (.int .i64 (u)))) (by kernel_rfl) (by exact ⟨(RBox.box bX7.out).c0, (RBox.box bX7.out).c1, (RBox.box bX7.out).c2, (RBox.box bX7.out).c3, (RBox.box bY7.out).c0, (RBox.box bY7.out).c1, (RBox.box bY7.out).c2, (RBox.box bY7.out).c3, (RBox.box bZ7.out).c0, (RBox.box bZ7.out).c1, (RBox.box bZ7.out).c2, (RBox.box bZ7.out).c3⟩) (fun hHeld => ?_)
  have hX := hid (RBox.drew bX7.out)
  have hY := hid (RBox.drew bY7.out)
  have hZ := hid (RBox.drew bZ7.out)
  have hbel := hid (Below.drew bel7.out)
  clear bX7 bY7 bZ7 bel7
  generalize w7.drew = W1 at *
  refine wpAnyH_take (i := 0) (oi := ?oi30) (v := ?v30) (fuel := 16) ?hi30 ?hs30 ?hf30 ?hr30 ?hq30 (Or.inl ⟨?hw30, ?hy30⟩) hHeld ?rest30
  case hi30 => rw [List.getElem?_toArray]; rfl
  case hq30 => exact fun _ _ _ h => h
  case hs30 | hf30 | hr30 => kernel_rfl
  case hw30 => rfl
  case hy30 => (intro w1 hSw; (try dsimp only at hSw); go_simp; try with_reducible rfl)
  (try simp only [Act.put, List.setIfInBounds_toArray, List.set_cons_zero, List.set_cons_succ])
  refine wpAnyH_take (i := 1) (oi := ?oi31) (v := ?v31) (fuel := 15) ?hi31 ?hs31 ?hf31 ?hr31 ?hq31 (Or.inl ⟨?hw31, ?hy31⟩) hHeld ?rest31
  case hi31 => rw [List.getElem?_toArray]; rfl
  case hq31 => exact fun _ _ _ h => h
  case hs31 | hf31 | hr31 => kernel_rfl
  case hw31 => rfl
  case hy31 => (intro w1 hSw; (try dsimp only at hSw); go_simp; try with_reducible rfl)
  (try simp only [Act.put, List.setIfInBounds_toArray, List.set_cons_zero, List.set_cons_succ])
  refine wpAnyH_take (i := 2) (oi := ?oi32) (v := ?v32) (fuel := 14) ?hi32 ?hs32 ?hf32 ?hr32 ?hq32 (Or.inl ⟨?hw32, ?hy32⟩) hHeld ?rest32
  case hi32 => rw [List.getElem?_toArray]; rfl
  case hq32 => exact fun _ _ _ h => h
  case hs32 | hf32 | hr32 => kernel_rfl
  case hw32 => rfl
  case hy32 => (intro w1 hSw; (try dsimp only at hSw); go_simp; try with_reducible rfl)
  (try simp only [Act.put, List.setIfInBounds_toArray, List.set_cons_zero, List.set_cons_succ])
  refine wpAnyH_take (i := 3) (oi := ?oi33) (v := ?v33) (fuel := 13) ?hi33 ?hs33 ?hf33 ?hr33 ?hq33 (Or.inl ⟨?hw33, ?hy33⟩) hHeld ?rest33
  case hi33 => rw [List.getElem?_toArray]; rfl
  case hq33 => exact fun _ _ _ h => h
  case hs33 | hf33 | hr33 => kernel_rfl
  case hw33 => rfl
  case hy33 => (intro w1 hSw; (try dsimp only at hSw); go_simp; try with_reducible rfl)
  (try simp only [Act.put, List.setIfInBounds_toArray, List.set_cons_zero, List.set_cons_succ])
  refine wpAnyH_ready (fuel := 12) (rs := [4]) (by kernel_rfl) (by simp) ?_
  refine AllReadyH.cons (o := ?oi34) ?hi34 (fun K hK => ?st34) AllReadyH.nil
  case hi34 => rw [List.getElem?_toArray]; rfl
  go_simp
  refine (A6.out _).mono ?_
  rintro ee wr4 ⟨rfl, hbn⟩
  replace hX := hid (hX.out.below hbn)
  replace hY := hid (hY.out.below hbn)
  replace hZ := hid (hZ.out.below hbn)
  replace hbel := hid (hbel.out.to hbn)
  clear hbn
  go_wp2_with fail
  refine hK.out _ _ ?hS34 (fun hHeld => ?re34)
  case hS34 => exact ⟨(RBox.box hX.out).c0, (RBox.box hX.out).c1, (RBox.box hX.out).c2, (RBox.box hX.out).c3, (RBox.box hY.out).c0, (RBox.box hY.out).c1, (RBox.box hY.out).c2, (RBox.box hY.out).c3, (RBox.box hZ.out).c0, (RBox.box hZ.out).c1, (RBox.box hZ.out).c2, (RBox.box hZ.out).c3⟩
  clear hK K
  (try simp only [Act.put, List.setIfInBounds_toArray, List.set_cons_zero, List.set_cons_succ])
  refine wpAnyH_ready (fuel := 11) (rs := [5]) (by kernel_rfl) (by simp) ?_
  refine AllReadyH.cons (o := ?oi35) ?hi35 (fun K hK => ?st35) AllReadyH.nil
  case hi35 => rw [List.getElem?_toArray]; rfl
  go_simp
  refine (A7.out _).mono ?_
  rintro ee wr5 ⟨rfl, hbn⟩
  replace hX := hid (hX.out.below hbn)
  replace hY := hid (hY.out.below hbn)
  replace hZ := hid (hZ.out.below hbn)
  replace hbel := hid (hbel.out.to hbn)
  clear hbn
  go_wp2_with fail
  refine hK.out _ _ ?hS35 (fun hHeld => ?re35)
  case hS35 => exact ⟨(RBox.box hX.out).c0, (RBox.box hX.out).c1, (RBox.box hX.out).c2, (RBox.box hX.out).c3, (RBox.box hY.out).c0, (RBox.box hY.out).c1, (RBox.box hY.out).c2, (RBox.box hY.out).c3, (RBox.box hZ.out).c0, (RBox.box hZ.out).c1, (RBox.box hZ.out).c2, (RBox.box hZ.out).c3⟩
  clear hK K
  (try simp only [Act.put, List.setIfInBounds_toArray, List.set_cons_zero, List.set_cons_succ])
  refine wpAnyH_take (i := 6) (oi := ?oi36) (v := ?v36) (fuel := 10) ?hi36 ?hs36 ?hf36 ?hr36 ?hq36 (Or.inl ⟨?hw36, ?hy36⟩) hHeld ?rest36
  case hi36 => rw [List.getElem?_toArray]; rfl
  case hq36 => exact fun _ _ _ h => h
  case hs36 | hf36 | hr36 => kernel_rfl
  case hw36 => rfl
  case hy36 => (intro w1 hSw; (try dsimp only at hSw); go_simp; try with_reducible rfl)
  (try simp only [Act.put, List.setIfInBounds_toArray, List.set_cons_zero, List.set_cons_succ])
  refine wpAnyH_take (i := 7) (oi := ?oi37) (v := ?v37) (fuel := 9) ?hi37 ?hs37 ?hf37 ?hr37 ?hq37 (Or.inl ⟨?hw37, ?hy37⟩) hHeld ?rest37
  case hi37 => rw [List.getElem?_toArray]; rfl
  case hq37 => exact fun _ _ _ h => h
  case hs37 | hf37 | hr37 => kernel_rfl
  case hw37 => rfl
  case hy37 => (intro w1 hSw; (try dsimp only at hSw); go_simp; try with_reducible rfl)
  (try simp only [Act.put, List.setIfInBounds_toArray, List.set_cons_zero, List.set_cons_succ])
  refine wpAnyH_take (i := 8) (oi := ?oi38) (v := ?v38) (fuel := 8) ?hi38 ?hs38 ?hf38 ?hr38 ?hq38 (Or.inl ⟨?hw38, ?hy38⟩) hHeld ?rest38
  case hi38 => rw [List.getElem?_toArray]; rfl
  case hq38 => exact fun _ _ _ h => h
  case hs38 | hf38 | hr38 => kernel_rfl
  case hw38 => rfl
  case hy38 => (intro w1 hSw; (try dsimp only at hSw); go_simp; try with_reducible rfl)
  (try simp only [Act.put, List.setIfInBounds_toArray, List.set_cons_zero, List.set_cons_succ])
  refine wpAnyH_take (i := 9) (oi := ?oi39) (v := ?v39) (fuel := 7) ?hi39 ?hs39 ?hf39 ?hr39 ?hq39 (Or.inl ⟨?hw39, ?hy39⟩) hHeld ?rest39
  case hi39 => rw [List.getElem?_toArray]; rfl
  case hq39 => exact fun _ _ _ h => h
  case hs39 | hf39 | hr39 => kernel_rfl
  case hw39 => rfl
  case hy39 => (intro w1 hSw; (try dsimp only at hSw); go_simp; try with_reducible rfl)
  (try simp only [Act.put, List.setIfInBounds_toArray, List.set_cons_zero, List.set_cons_succ])
  refine wpAnyH_take (i := 11) (oi := ?oi40) (v := ?v40) (fuel := 6) ?hi40 ?hs40 ?hf40 ?hr40 ?hq40 (Or.inl ⟨?hw40, ?hy40⟩) hHeld ?rest40
  case hi40 => rw [List.getElem?_toArray]; rfl
  case hq40 => exact fun _ _ _ h => h
  case hs40 | hf40 | hr40 => kernel_rfl
  case hw40 => rfl
  case hy40 => (intro w1 hSw; (try dsimp only at hSw); go_simp; try with_reducible rfl)
  (try simp only [Act.put, List.setIfInBounds_toArray, List.set_cons_zero, List.set_cons_succ])
  refine wpAnyH_ready (fuel := 5) (rs := [10]) (by kernel_rfl) (by simp) ?_
  refine AllReadyH.cons (o := ?oi41) ?hi41 (fun K hK => ?st41) AllReadyH.nil
  case hi41 => rw [List.getElem?_toArray]; rfl
  go_simp
  refine (A4.out _).mono ?_
  rintro ee wr10 ⟨rfl, hbn⟩
  replace hX := hid (hX.out.below hbn)
  replace hY := hid (hY.out.below hbn)
  replace hZ := hid (hZ.out.below hbn)
  replace hbel := hid (hbel.out.to hbn)
  clear hbn
  go_wp2_with fail
  refine hK.out _ _ ?hS41 (fun hHeld => ?re41)
  case hS41 => exact ⟨(RBox.box hX.out).c0, (RBox.box hX.out).c1, (RBox.box hX.out).c2, (RBox.box hX.out).c3, (RBox.box hY.out).c0, (RBox.box hY.out).c1, (RBox.box hY.out).c2, (RBox.box hY.out).c3, (RBox.box hZ.out).c0, (RBox.box hZ.out).c1, (RBox.box hZ.out).c2, (RBox.box hZ.out).c3⟩
  clear hK K
  (try simp only [Act.put, List.setIfInBounds_toArray, List.set_cons_zero, List.set_cons_succ])
  refine wpAnyH_ready (fuel := 4) (rs := [12]) (by kernel_rfl) (by simp) ?_
  refine AllReadyH.cons (o := ?oi42) ?hi42 (fun K hK => ?st42) AllReadyH.nil
  case hi42 => rw [List.getElem?_toArray]; rfl
  go_simp
  refine (A5.out _).mono ?_
  rintro ee wr12 ⟨rfl, hbn⟩
  replace hX := hid (hX.out.below hbn)
  replace hY := hid (hY.out.below hbn)
  replace hZ := hid (hZ.out.below hbn)
  replace hbel := hid (hbel.out.to hbn)
  clear hbn
  go_wp2_with fail
  refine hK.out _ _ ?hS42 (fun hHeld => ?re42)
  case hS42 => exact ⟨(RBox.box hX.out).c0, (RBox.box hX.out).c1, (RBox.box hX.out).c2, (RBox.box hX.out).c3, (RBox.box hY.out).c0, (RBox.box hY.out).c1, (RBox.box hY.out).c2, (RBox.box hY.out).c3, (RBox.box hZ.out).c0, (RBox.box hZ.out).c1, (RBox.box hZ.out).c2, (RBox.box hZ.out).c3⟩
  clear hK K
  (try simp only [Act.put, List.setIfInBounds_toArray, List.set_cons_zero, List.set_cons_succ])
  refine wpAnyH_ready (fuel := 3) (rs := [13]) (by kernel_rfl) (by simp) ?_
  refine AllReadyH.cons (o := ?oi43) ?hi43 (fun K hK => ?st43) AllReadyH.nil
  case hi43 => rw [List.getElem?_toArray]; rfl
  go_simp
  refine (A8.out _).mono ?_
  rintro ee wr13 ⟨rfl, hbn⟩
  replace hX := hid (hX.out.below hbn)
  replace hY := hid (hY.out.below hbn)
  replace hZ := hid (hZ.out.below hbn)
  replace hbel := hid (hbel.out.to hbn)
  clear hbn
  go_wp2_with fail
  refine hK.out _ _ ?hS43 (fun hHeld => ?re43)
  case hS43 => exact ⟨(RBox.box hX.out).c0, (RBox.box hX.out).c1, (RBox.box hX.out).c2, (RBox.box hX.out).c3, (RBox.box hY.out).c0, (RBox.box hY.out).c1, (RBox.box hY.out).c2, (RBox.box hY.out).c3, (RBox.box hZ.out).c0, (RBox.box hZ.out).c1, (RBox.box hZ.out).c2, (RBox.box hZ.out).c3⟩
  clear hK K
  (try simp only [Act.put, List.setIfInBounds_toArray, List.set_cons_zero, List.set_cons_succ])
  refine wpAnyH_ready (fuel := 2) (rs := [14]) (by kernel_rfl) (by simp) ?_
  refine AllReadyH.cons (o := ?oi44) ?hi44 (fun K hK => ?st44) AllReadyH.nil
  case hi44 => rw [List.getElem?_toArray]; rfl
  go_simp
  refine (A9.out _).mono ?_
  rintro ee wr14 ⟨rfl, hbn⟩
  replace hX := hid (hX.out.below hbn)
  replace hY := hid (hY.out.below hbn)
  replace hZ := hid (hZ.out.below hbn)
  replace hbel := hid (hbel.out.to hbn)
  clear hbn
  go_wp2_with fail
  refine hK.out _ _ ?hS44 (fun hHeld => ?re44)
  case hS44 => exact ⟨(RBox.box hX.out).c0, (RBox.box hX.out).c1, (RBox.box hX.out).c2, (RBox.box hX.out).c3, (RBox.box hY.out).c0, (RBox.box hY.out).c1, (RBox.box hY.out).c2, (RBox.box hY.out).c3, (RBox.box hZ.out).c0, (RBox.box hZ.out).c1, (RBox.box hZ.out).c2, (RBox.box hZ.out).c3⟩
  clear hK K
  (try simp only [Act.put, List.setIfInBounds_toArray, List.set_cons_zero, List.set_cons_succ])
  refine wpAnyH_take (i := 15) (oi := ?oi45) (v := ?v45) (fuel := 1) ?hi45 ?hs45 ?hf45 ?hr45 ?hq45 (Or.inl ⟨?hw45, ?hy45⟩) hHeld ?rest45
  case hi45 => rw [List.getElem?_toArray]; rfl
  case hq45 => exact fun _ _ _ h => h
  case hs45 | hf45 | hr45 => kernel_rfl
  case hw45 => rfl
  case hy45 => (intro w1 hSw; (try dsimp only at hSw); go_simp; try with_reducible rfl)
  (try simp only [Act.put, List.setIfInBounds_toArray, List.set_cons_zero, List.set_cons_succ])
  refine wpAnyH_take (i := 16) (oi := ?oi46) (v := ?v46) (fuel := 0) ?hi46 ?hs46 ?hf46 ?hr46 ?hq46 (Or.inl ⟨?hw46, ?hy46⟩) hHeld ?rest46
  case hi46 => rw [List.getElem?_toArray]; rfl
  case hq46 => exact fun _ _ _ h => h
  case hs46 | hf46 | hr46 => kernel_rfl
  case hw46 => rfl
  case hy46 => (intro w1 hSw; (try dsimp only at hSw); go_simp; try with_reducible rfl)
  (try simp only [Act.put, List.setIfInBounds_toArray, List.set_cons_zero, List.set_cons_succ])
  refine wpAnyH_done (by kernel_rfl) ?_ _
  clear hHeld
  generalize wr14 = w8 at *
  have bX8 := hX
  have bY8 := hY
  have bZ8 := hZ
  have bel8 := hbel
  clear hbel hX hY hZ
  go_wp2_with fail
  go_ret
  exact ⟨rfl, bel8.out⟩
end Go.Proofs.Ytnebjocnbfoafaa
