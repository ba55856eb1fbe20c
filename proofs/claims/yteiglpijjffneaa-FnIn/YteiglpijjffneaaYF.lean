/- The laws FnIn and FnJoin, drawn. -/
import Derived.Test.YteiglpijjffneaaYD
namespace Go.Proofs.Yteiglpijjffneaa
open Go.RowKit
set_option linter.unusedVariables false
set_option linter.unusedSimpArgs false

set_option maxRecDepth 100000 in
set_option maxHeartbeats 4000000 in
theorem law_fnIn (w : World) (a : Option Addr) (len cap : Nat) (hc : len ≤ cap) (hs : Src w a len) (hl : cap < 2 ^ 63) (a1 : Option Addr) (len1 cap1 : Nat) (hc1 : len1 ≤ cap1) (hs1 : Src w a1 len1) (hl1 : cap1 < 2 ^ 63) :
    Calls Try.prog 11 #[.slice a len cap, .slice a1 len1 cap1] w fun e w' => e = .returned (.bool true) ∧ Below w.heap.size w w' := by
  have HS := hid hs
  have HS1 := hid hs1
  clear hs hs1
  by_cases hbig : (len : Int) > 1048576
  · go_enter Try.func11, Try.ntmps11
    go_wp2_with fail
    go_ret
    exact ⟨rfl, Below.refl _ _⟩
  by_cases hbig1 : (len1 : Int) > 1048576
  · go_enter Try.func11, Try.ntmps11
    go_wp2_with fail
    go_ret
    exact ⟨rfl, Below.refl _ _⟩
  go_enter Try.func11, Try.ntmps11
  go_wp2_with fail
  refine (drawRangeIn_s w a len cap hc HS.out hl).mono ?_
  rintro e w1 ⟨⟨lo, hi, b, o, lo', hi', b', o', rfl, les, les'⟩, hb1⟩
  have bel1 := hid hb1
  clear hb1
  go_wp2_with fail
  have bX2 := hid ((RBox.new w1 (lo) (hi) (b) (o)).alloc (cellsR4 (lo') (hi') (b') (o')))
  have bY2 : Hid (RBox ((w1.alloc (cellsR4 (lo) (hi) (b) (o))).alloc (cellsR4 (lo') (hi') (b') (o'))) (w1.heap.size + 1) (lo') (hi') (b') (o')) := by
    have h0 := RBox.new (w1.alloc (cellsR4 (lo) (hi) (b) (o))) (lo') (hi') (b') (o')
    simp only [World.size_alloc] at h0
    exact h0
  have bel2 := hid (bel1.out.to (newB w1 (cellsR4 (lo) (hi) (b) (o)) (cellsR4 (lo') (hi') (b') (o'))))
  have leX := bel1.out.size
  clear bel1
  generalize (w1.alloc (cellsR4 (lo) (hi) (b) (o))).alloc (cellsR4 (lo') (hi') (b') (o')) = w2 at *
  generalize w1.heap.size = X at *
  have l1 : (0 : Int) ≤ len1 := by omega
  clear les les'
  rcases in_cases lo hi b o lo' hi' b' o' with hI | ⟨c1, c2⟩
  rotate_left
  · have A1 := hid c1
    have A2 := hid c2
    clear c1 c2
    obtain ⟨cX0, cX1, cX2, cX3⟩ := RBox.box bX2.out
    obtain ⟨cY0, cY1, cY2, cY3⟩ := RBox.box bY2.out
    go_wp2_with fail
    refine (A1.out _).mono ?_
    rintro e w3 ⟨rfl, hb3⟩
    have bX3 := hid (bX2.out.below hb3)
    have bY3 := hid (bY2.out.below hb3)
    have bel3 := hid (bel2.out.to hb3)
    clear hb3 bX2 bY2 bel2
    obtain ⟨cX0, cX1, cX2, cX3⟩ := RBox.box bX3.out
    obtain ⟨cY0, cY1, cY2, cY3⟩ := RBox.box bY3.out
    go_wp2_with fail
    refine (A2.out _).mono ?_
    rintro e w4 ⟨rfl, hb4⟩
    have bX4 := hid (bX3.out.below hb4)
    have bY4 := hid (bY3.out.below hb4)
    have bel4 := hid (bel3.out.to hb4)
    clear hb4 bX3 bY3 bel3
    obtain ⟨cX0, cX1, cX2, cX3⟩ := RBox.box bX4.out
    obtain ⟨cY0, cY1, cY2, cY3⟩ := RBox.box bY4.out
    go_wp2_with fail
    refine (A2.out _).mono ?_
    rintro e w5 ⟨rfl, hb5⟩
    have bX5 := hid (bX4.out.below hb5)
    have bY5 := hid (bY4.out.below hb5)
    have bel5 := hid (bel4.out.to hb5)
    clear hb5 bX4 bY4 bel4
    go_wp2_with fail
    go_ret
    exact ⟨rfl, bel5.out⟩
  obtain ⟨k0, hk0⟩ := hI.someA
  have A1 := hid hI.imp
  have A2 := hid hI.spc
  have A3 := hid hI.self
  have SUB := hid hI.sub
  have OA := hid hI.A
  have OB := hid hI.B
  have HK0 := hid hk0
  clear hI hk0
  obtain ⟨cX0, cX1, cX2, cX3⟩ := RBox.box bX2.out
  obtain ⟨cY0, cY1, cY2, cY3⟩ := RBox.box bY2.out
  go_wp2_with fail
  refine (A1.out _).mono ?_
  rintro e w3 ⟨rfl, hb3⟩
  have bX3 := hid (bX2.out.below hb3)
  have bY3 := hid (bY2.out.below hb3)
  have bel3 := hid (bel2.out.to hb3)
  clear hb3 bX2 bY2 bel2
  obtain ⟨cX0, cX1, cX2, cX3⟩ := RBox.box bX3.out
  obtain ⟨cY0, cY1, cY2, cY3⟩ := RBox.box bY3.out
  go_wp2_with fail
  refine (A2.out _).mono ?_
  rintro e w4 ⟨rfl, hb4⟩
  have bX4 := hid (bX3.out.below hb4)
  have bY4 := hid (bY3.out.below hb4)
  have bel4 := hid (bel3.out.to hb4)
  clear hb4 bX3 bY3 bel3
  obtain ⟨cX0, cX1, cX2, cX3⟩ := RBox.box bX4.out
  obtain ⟨cY0, cY1, cY2, cY3⟩ := RBox.box bY4.out
  clear cX0 cX1 cX2 cX3 cY0 cY1 cY2 cY3
  go_wp2_with fail
  refine wp_region_held_drew (S := (fun w' => w'.cell? ⟨X, 0, none⟩ = some (.int .i64 (lo)) ∧ w'.cell? ⟨X, 1, none⟩ = some (.int .i64 (hi)) ∧ w'.cell? ⟨X, 2, none⟩ = some (.int .i64 (b)) ∧ w'.cell? ⟨X, 3, none⟩ = some (.int .i64 (o)) ∧ w'.cell? ⟨X + 1, 0, none⟩ = some (.int .i64 (lo')) ∧ w'.cell? ⟨X + 1, 1, none⟩ = some (.int .i64 (hi')) ∧ w'.cell? ⟨X + 1, 2, none⟩ = some (.int .i64 (b')) ∧ w'.cell? ⟨X + 1, 3, none⟩ = some (.int .i64 (o')))) (by kernel_rfl) (by exact ⟨(RBox.box bX4.out).c0, (RBox.box bX4.out).c1, (RBox.box bX4.out).c2, (RBox.box bX4.out).c3, (RBox.box bY4.out).c0, (RBox.box bY4.out).c1, (RBox.box bY4.out).c2, (RBox.box bY4.out).c3⟩) (fun hHeld => ?_)
  have hX := hid (RBox.drew bX4.out)
  have hY := hid (RBox.drew bY4.out)
  have hbel := hid (Below.drew bel4.out)
  clear bX4 bY4 bel4
  generalize w4.drew = W1 at *
  refine wpAnyH_take (i := 0) (oi := ?oi33) (v := ?v33) (fuel := 11) ?hi33 ?hs33 ?hf33 ?hr33 ?hq33 (Or.inl ⟨?hw33, ?hy33⟩) hHeld ?rest33
  case hi33 => rw [List.getElem?_toArray]; rfl
  case hq33 => exact fun _ _ _ h => h
  case hs33 | hf33 | hr33 => kernel_rfl
  case hw33 => rfl
  case hy33 => (intro w1 hSw; (try dsimp only at hSw); go_simp; try with_reducible rfl)
  (try simp only [Act.put, List.setIfInBounds_toArray, List.set_cons_zero, List.set_cons_succ])
  refine wpAnyH_take (i := 1) (oi := ?oi34) (v := ?v34) (fuel := 10) ?hi34 ?hs34 ?hf34 ?hr34 ?hq34 (Or.inl ⟨?hw34, ?hy34⟩) hHeld ?rest34
  case hi34 => rw [List.getElem?_toArray]; rfl
  case hq34 => exact fun _ _ _ h => h
  case hs34 | hf34 | hr34 => kernel_rfl
  case hw34 => rfl
  case hy34 => (intro w1 hSw; (try dsimp only at hSw); go_simp; try with_reducible rfl)
  (try simp only [Act.put, List.setIfInBounds_toArray, List.set_cons_zero, List.set_cons_succ])
  refine wpAnyH_take (i := 2) (oi := ?oi35) (v := ?v35) (fuel := 9) ?hi35 ?hs35 ?hf35 ?hr35 ?hq35 (Or.inl ⟨?hw35, ?hy35⟩) hHeld ?rest35
  case hi35 => rw [List.getElem?_toArray]; rfl
  case hq35 => exact fun _ _ _ h => h
  case hs35 | hf35 | hr35 => kernel_rfl
  case hw35 => rfl
  case hy35 => (intro w1 hSw; (try dsimp only at hSw); go_simp; try with_reducible rfl)
  (try simp only [Act.put, List.setIfInBounds_toArray, List.set_cons_zero, List.set_cons_succ])
  refine wpAnyH_take (i := 3) (oi := ?oi36) (v := ?v36) (fuel := 8) ?hi36 ?hs36 ?hf36 ?hr36 ?hq36 (Or.inl ⟨?hw36, ?hy36⟩) hHeld ?rest36
  case hi36 => rw [List.getElem?_toArray]; rfl
  case hq36 => exact fun _ _ _ h => h
  case hs36 | hf36 | hr36 => kernel_rfl
  case hw36 => rfl
  case hy36 => (intro w1 hSw; (try dsimp only at hSw); go_simp; try with_reducible rfl)
  (try simp only [Act.put, List.setIfInBounds_toArray, List.set_cons_zero, List.set_cons_succ])
  refine wpAnyH_ready (fuel := 7) (rs := [4]) (by kernel_rfl) (by simp) ?_
  refine AllReadyH.cons (o := ?oi37) ?hi37 (fun K hK => ?st37) AllReadyH.nil
  case hi37 => rw [List.getElem?_toArray]; rfl
  go_simp
  refine (some_i lo hi b o k0 _ _ OA.out HK0.out (by omega) (by omega)).mono ?_
  rintro ee wr4 ⟨⟨n5, rfl, hn5⟩, hbn⟩
  replace hX := hid (hX.out.below hbn)
  replace hY := hid (hY.out.below hbn)
  replace hbel := hid (hbel.out.to hbn)
  clear hbn
  go_wp2_with fail
  refine hK.out _ _ ?hS37 (fun hHeld => ?re37)
  case hS37 => exact ⟨(RBox.box hX.out).c0, (RBox.box hX.out).c1, (RBox.box hX.out).c2, (RBox.box hX.out).c3, (RBox.box hY.out).c0, (RBox.box hY.out).c1, (RBox.box hY.out).c2, (RBox.box hY.out).c3⟩
  clear hK K
  (try simp only [Act.put, List.setIfInBounds_toArray, List.set_cons_zero, List.set_cons_succ])
  refine wpAnyH_ready (fuel := 6) (rs := [5]) (by kernel_rfl) (by simp) ?_
  refine AllReadyH.cons (o := ?oi38) ?hi38 (fun K hK => ?st38) AllReadyH.nil
  case hi38 => rw [List.getElem?_toArray]; rfl
  go_simp
  refine (ans_has lo' hi' b' o' n5 (hasI_of OB.out (SUB.out n5 hn5)) _).mono ?_
  rintro ee wr5 ⟨rfl, hbn⟩
  replace hX := hid (hX.out.below hbn)
  replace hY := hid (hY.out.below hbn)
  replace hbel := hid (hbel.out.to hbn)
  clear hbn
  go_wp2_with fail
  refine hK.out _ _ ?hS38 (fun hHeld => ?re38)
  case hS38 => exact ⟨(RBox.box hX.out).c0, (RBox.box hX.out).c1, (RBox.box hX.out).c2, (RBox.box hX.out).c3, (RBox.box hY.out).c0, (RBox.box hY.out).c1, (RBox.box hY.out).c2, (RBox.box hY.out).c3⟩
  clear hK K
  (try simp only [Act.put, List.setIfInBounds_toArray, List.set_cons_zero, List.set_cons_succ])
  refine wpAnyH_take (i := 6) (oi := ?oi39) (v := ?v39) (fuel := 5) ?hi39 ?hs39 ?hf39 ?hr39 ?hq39 (Or.inl ⟨?hw39, ?hy39⟩) hHeld ?rest39
  case hi39 => rw [List.getElem?_toArray]; rfl
  case hq39 => exact fun _ _ _ h => h
  case hs39 | hf39 | hr39 => kernel_rfl
  case hw39 => rfl
  case hy39 => (intro w1 hSw; (try dsimp only at hSw); go_simp; try with_reducible rfl)
  (try simp only [Act.put, List.setIfInBounds_toArray, List.set_cons_zero, List.set_cons_succ])
  refine wpAnyH_take (i := 7) (oi := ?oi40) (v := ?v40) (fuel := 4) ?hi40 ?hs40 ?hf40 ?hr40 ?hq40 (Or.inl ⟨?hw40, ?hy40⟩) hHeld ?rest40
  case hi40 => rw [List.getElem?_toArray]; rfl
  case hq40 => exact fun _ _ _ h => h
  case hs40 | hf40 | hr40 => kernel_rfl
  case hw40 => rfl
  case hy40 => (intro w1 hSw; (try dsimp only at hSw); go_simp; try with_reducible rfl)
  (try simp only [Act.put, List.setIfInBounds_toArray, List.set_cons_zero, List.set_cons_succ])
  refine wpAnyH_take (i := 8) (oi := ?oi41) (v := ?v41) (fuel := 3) ?hi41 ?hs41 ?hf41 ?hr41 ?hq41 (Or.inl ⟨?hw41, ?hy41⟩) hHeld ?rest41
  case hi41 => rw [List.getElem?_toArray]; rfl
  case hq41 => exact fun _ _ _ h => h
  case hs41 | hf41 | hr41 => kernel_rfl
  case hw41 => rfl
  case hy41 => (intro w1 hSw; (try dsimp only at hSw); go_simp; try with_reducible rfl)
  (try simp only [Act.put, List.setIfInBounds_toArray, List.set_cons_zero, List.set_cons_succ])
  refine wpAnyH_ready (fuel := 2) (rs := [9]) (by kernel_rfl) (by simp) ?_
  refine AllReadyH.cons (o := ?oi42) ?hi42 (fun K hK => ?st42) AllReadyH.nil
  case hi42 => rw [List.getElem?_toArray]; rfl
  go_simp
  refine (A3.out _).mono ?_
  rintro ee wr9 ⟨rfl, hbn⟩
  replace hX := hid (hX.out.below hbn)
  replace hY := hid (hY.out.below hbn)
  replace hbel := hid (hbel.out.to hbn)
  clear hbn
  go_wp2_with fail
  refine hK.out _ _ ?hS42 (fun hHeld => ?re42)
  case hS42 => exact ⟨(RBox.box hX.out).c0, (RBox.box hX.out).c1, (RBox.box hX.out).c2, (RBox.box hX.out).c3, (RBox.box hY.out).c0, (RBox.box hY.out).c1, (RBox.box hY.out).c2, (RBox.box hY.out).c3⟩
  clear hK K
  (try simp only [Act.put, List.setIfInBounds_toArray, List.set_cons_zero, List.set_cons_succ])
  refine wpAnyH_take (i := 10) (oi := ?oi43) (v := ?v43) (fuel := 1) ?hi43 ?hs43 ?hf43 ?hr43 ?hq43 (Or.inl ⟨?hw43, ?hy43⟩) hHeld ?rest43
  case hi43 => rw [List.getElem?_toArray]; rfl
  case hq43 => exact fun _ _ _ h => h
  case hs43 | hf43 | hr43 => kernel_rfl
  case hw43 => rfl
  case hy43 => (intro w1 hSw; (try dsimp only at hSw); go_simp; try with_reducible rfl)
  (try simp only [Act.put, List.setIfInBounds_toArray, List.set_cons_zero, List.set_cons_succ])
  refine wpAnyH_take (i := 11) (oi := ?oi44) (v := ?v44) (fuel := 0) ?hi44 ?hs44 ?hf44 ?hr44 ?hq44 (Or.inl ⟨?hw44, ?hy44⟩) hHeld ?rest44
  case hi44 => rw [List.getElem?_toArray]; rfl
  case hq44 => exact fun _ _ _ h => h
  case hs44 | hf44 | hr44 => kernel_rfl
  case hw44 => rfl
  case hy44 => (intro w1 hSw; (try dsimp only at hSw); go_simp; try with_reducible rfl)
  (try simp only [Act.put, List.setIfInBounds_toArray, List.set_cons_zero, List.set_cons_succ])
  refine wpAnyH_done (by kernel_rfl) ?_ _
  clear hHeld
  generalize wr9 = w5 at *
  have bX5 := hX
  have bY5 := hY
  have bel5 := hbel
  clear hbel hX hY
  go_wp2_with fail
  go_ret
  exact ⟨rfl, bel5.out⟩

set_option maxRecDepth 100000 in
set_option maxHeartbeats 4000000 in
theorem law_fnJoin (w : World) (a : Option Addr) (len cap : Nat) (hc : len ≤ cap) (hs : Src w a len) (hl : cap < 2 ^ 63) (a1 : Option Addr) (len1 cap1 : Nat) (hc1 : len1 ≤ cap1) (hs1 : Src w a1 len1) (hl1 : cap1 < 2 ^ 63) :
    Calls Try.prog 10 #[.slice a len cap, .slice a1 len1 cap1] w fun e w' => e = .returned (.bool true) ∧ Below w.heap.size w w' := by
  have HS := hid hs
  have HS1 := hid hs1
  clear hs hs1
  by_cases hbig : (len : Int) > 1048576
  · go_enter Try.func10, Try.ntmps10
    go_wp2_with fail
    go_ret
    exact ⟨rfl, Below.refl _ _⟩
  by_cases hbig1 : (len1 : Int) > 1048576
  · go_enter Try.func10, Try.ntmps10
    go_wp2_with fail
    go_ret
    exact ⟨rfl, Below.refl _ _⟩
  go_enter Try.func10, Try.ntmps10
  go_wp2_with fail
  refine (drawRangeJoin_s w a len cap hc HS.out hl).mono ?_
  rintro e w1 ⟨⟨lo, hi, b, o, lo', hi', b', o', rfl, les, les'⟩, hb1⟩
  have bel1 := hid hb1
  clear hb1
  go_wp2_with fail
  have bX2 := hid ((RBox.new w1 (lo) (hi) (b) (o)).alloc (cellsR4 (lo') (hi') (b') (o')))
  have bY2 : Hid (RBox ((w1.alloc (cellsR4 (lo) (hi) (b) (o))).alloc (cellsR4 (lo') (hi') (b') (o'))) (w1.heap.size + 1) (lo') (hi') (b') (o')) := by
    have h0 := RBox.new (w1.alloc (cellsR4 (lo) (hi) (b) (o))) (lo') (hi') (b') (o')
    simp only [World.size_alloc] at h0
    exact h0
  have bel2 := hid (bel1.out.to (newB w1 (cellsR4 (lo) (hi) (b) (o)) (cellsR4 (lo') (hi') (b') (o'))))
  have leX := bel1.out.size
  clear bel1
  generalize (w1.alloc (cellsR4 (lo) (hi) (b) (o))).alloc (cellsR4 (lo') (hi') (b') (o')) = w2 at *
  generalize w1.heap.size = X at *
  have l1 : (0 : Int) ≤ len1 := by omega
  clear les les'
  rcases join_cases lo hi b o lo' hi' b' o' with ⟨x, y, z, u, hJ⟩ | ⟨c1, c2⟩
  rotate_left
  · have A1 := hid c1
    have A2 := hid c2
    clear c1 c2
    obtain ⟨cX0, cX1, cX2, cX3⟩ := RBox.box bX2.out
    obtain ⟨cY0, cY1, cY2, cY3⟩ := RBox.box bY2.out
    go_wp2_with fail
    refine (A1.out _).mono ?_
    rintro e w3 ⟨rfl, hb3⟩
    have bX3 := hid (bX2.out.below hb3)
    have bY3 := hid (bY2.out.below hb3)
    have bel3 := hid (bel2.out.to hb3)
    clear hb3 bX2 bY2 bel2
    go_wp2_with fail
    have bX4 := hid (bX3.out.alloc (cellsR4 (1) (0) (0) (0)))
    have neZX := RBox.lt bX3.out
    have bY4 := hid (bY3.out.alloc (cellsR4 (1) (0) (0) (0)))
    have neZY := RBox.lt bY3.out
    have bZ4 := hid (RBox.new w3 (1) (0) (0) (0))
    have bel4 := hid (bel3.out.alloc bel3.out.size (cellsR4 (1) (0) (0) (0)))
    have leZ := bel3.out.size
    clear bX3 bY3 bel3
    generalize w3.alloc (cellsR4 (1) (0) (0) (0)) = w4 at *
    generalize w3.heap.size = Z at *
    refine wp_region_held_drew (S := (fun w' => w'.cell? ⟨X, 0, none⟩ = some (.int .i64 (lo)) ∧ w'.cell? ⟨X, 1, none⟩ = some (.int .i64 (hi)) ∧ w'.cell? ⟨X, 2, none⟩ = some (.int .i64 (b)) ∧ w'.cell? ⟨X, 3, none⟩ = some (.int .i64 (o)) ∧ w'.cell? ⟨X + 1, 0, none⟩ = some (.int .i64 (lo')) ∧ w'.cell? ⟨X + 1, 1, none⟩ = some (.int .i64 (hi')) ∧ w'.cell? ⟨X + 1, 2, none⟩ = some (.int .i64 (b')) ∧ w'.cell? ⟨X + 1, 3, none⟩ = some (.int .i64 (o')) ∧ w'.cell? ⟨Z, 0, none⟩ = some (.int .i64 (1)) ∧ w'.cell? ⟨Z, 1, none⟩ = some (.int .i64 (0)) ∧ w'.cell? ⟨Z, 2, none⟩ = some (.int .i64 (0)) ∧ w'.cell? ⟨Z, 3, none⟩ = some (.int .i64 (0)))) (by kernel_rfl) (by exact ⟨(RBox.box bX4.out).c0, (RBox.box bX4.out).c1, (RBox.box bX4.out).c2, (RBox.box bX4.out).c3, (RBox.box bY4.out).c0, (RBox.box bY4.out).c1, (RBox.box bY4.out).c2, (RBox.box bY4.out).c3, (RBox.box bZ4.out).c0, (RBox.box bZ4.out).c1, (RBox.box bZ4.out).c2, (RBox.box bZ4.out).c3⟩) (fun hHeld => ?_)
    have hX := hid (RBox.drew bX4.out)
    have hY := hid (RBox.drew bY4.out)
    have hZ := hid (RBox.drew bZ4.out)
    have hbel := hid (Below.drew bel4.out)
    clear bX4 bY4 bZ4 bel4
    generalize w4.drew = W1 at *
    refine wpAnyH_take (i := 0) (oi := ?oi45) (v := ?v45) (fuel := 9) ?hi45 ?hs45 ?hf45 ?hr45 ?hq45 (Or.inl ⟨?hw45, ?hy45⟩) hHeld ?rest45
    case hi45 => rw [List.getElem?_toArray]; rfl
    case hq45 => exact fun _ _ _ h => h
    case hs45 | hf45 | hr45 => kernel_rfl
    case hw45 => rfl
    case hy45 => (intro w1 hSw; (try dsimp only at hSw); go_simp; try with_reducible rfl)
    (try simp only [Act.put, List.setIfInBounds_toArray, List.set_cons_zero, List.set_cons_succ])
    refine wpAnyH_take (i := 1) (oi := ?oi46) (v := ?v46) (fuel := 8) ?hi46 ?hs46 ?hf46 ?hr46 ?hq46 (Or.inl ⟨?hw46, ?hy46⟩) hHeld ?rest46
    case hi46 => rw [List.getElem?_toArray]; rfl
    case hq46 => exact fun _ _ _ h => h
    case hs46 | hf46 | hr46 => kernel_rfl
    case hw46 => rfl
    case hy46 => (intro w1 hSw; (try dsimp only at hSw); go_simp; try with_reducible rfl)
    (try simp only [Act.put, List.setIfInBounds_toArray, List.set_cons_zero, List.set_cons_succ])
    refine wpAnyH_take (i := 2) (oi := ?oi47) (v := ?v47) (fuel := 7) ?hi47 ?hs47 ?hf47 ?hr47 ?hq47 (Or.inl ⟨?hw47, ?hy47⟩) hHeld ?rest47
    case hi47 => rw [List.getElem?_toArray]; rfl
    case hq47 => exact fun _ _ _ h => h
    case hs47 | hf47 | hr47 => kernel_rfl
    case hw47 => rfl
    case hy47 => (intro w1 hSw; (try dsimp only at hSw); go_simp; try with_reducible rfl)
    (try simp only [Act.put, List.setIfInBounds_toArray, List.set_cons_zero, List.set_cons_succ])
    refine wpAnyH_ready (fuel := 6) (rs := [3]) (by kernel_rfl) (by simp) ?_
    refine AllReadyH.cons (o := ?oi48) ?hi48 (fun K hK => ?st48) AllReadyH.nil
    case hi48 => rw [List.getElem?_toArray]; rfl
    go_simp
    refine (A2.out _).mono ?_
    rintro ee wr3 ⟨rfl, hbn⟩
    replace hX := hid (hX.out.below hbn)
    replace hY := hid (hY.out.below hbn)
    replace hZ := hid (hZ.out.below hbn)
    replace hbel := hid (hbel.out.to hbn)
    clear hbn
    go_wp2_with fail
    refine hK.out _ _ ?hS48 (fun hHeld => ?re48)
    case hS48 => exact ⟨(RBox.box hX.out).c0, (RBox.box hX.out).c1, (RBox.box hX.out).c2, (RBox.box hX.out).c3, (RBox.box hY.out).c0, (RBox.box hY.out).c1, (RBox.box hY.out).c2, (RBox.box hY.out).c3, (RBox.box hZ.out).c0, (RBox.box hZ.out).c1, (RBox.box hZ.out).c2, (RBox.box hZ.out).c3⟩
    clear hK K
    (try simp only [Act.put, List.setIfInBounds_toArray, List.set_cons_zero, List.set_cons_succ])
    refine wpAnyH_take (i := 4) (oi := ?oi49) (v := ?v49) (fuel := 5) ?hi49 ?hs49 ?hf49 ?hr49 ?hq49 (Or.inl ⟨?hw49, ?hy49⟩) hHeld ?rest49
    case hi49 => rw [List.getElem?_toArray]; rfl
    case hq49 => exact fun _ _ _ h => h
    case hs49 | hf49 | hr49 => kernel_rfl
    case hw49 => rfl
    case hy49 => (intro w1 hSw; (try dsimp only at hSw); go_simp; try with_reducible rfl)
    (try simp only [Act.put, List.setIfInBounds_toArray, List.set_cons_zero, List.set_cons_succ])
    refine wpAnyH_take (i := 5) (oi := ?oi50) (v := ?v50) (fuel := 4) ?hi50 ?hs50 ?hf50 ?hr50 ?hq50 (Or.inl ⟨?hw50, ?hy50⟩) hHeld ?rest50
    case hi50 => rw [List.getElem?_toArray]; rfl
    case hq50 => exact fun _ _ _ h => h
    case hs50 | hf50 | hr50 => kernel_rfl
    case hw50 => rfl
    case hy50 => (intro w1 hSw; (try dsimp only at hSw); go_simp; try with_reducible rfl)
    (try simp only [Act.put, List.setIfInBounds_toArray, List.set_cons_zero, List.set_cons_succ])
    refine wpAnyH_take (i := 6) (oi := ?oi51) (v := ?v51) (fuel := 3) ?hi51 ?hs51 ?hf51 ?hr51 ?hq51 (Or.inl ⟨?hw51, ?hy51⟩) hHeld ?rest51
    case hi51 => rw [List.getElem?_toArray]; rfl
    case hq51 => exact fun _ _ _ h => h
    case hs51 | hf51 | hr51 => kernel_rfl
    case hw51 => rfl
    case hy51 => (intro w1 hSw; (try dsimp only at hSw); go_simp; try with_reducible rfl)
    (try simp only [Act.put, List.setIfInBounds_toArray, List.set_cons_zero, List.set_cons_succ])
    refine wpAnyH_ready (fuel := 2) (rs := [7]) (by kernel_rfl) (by simp) ?_
    refine AllReadyH.cons (o := ?oi52) ?hi52 (fun K hK => ?st52) AllReadyH.nil
    case hi52 => rw [List.getElem?_toArray]; rfl
    go_simp
    refine (ans_ok 1 0 0 0 okB_none _).mono ?_
    rintro ee wr7 ⟨rfl, hbn⟩
    replace hX := hid (hX.out.below hbn)
    replace hY := hid (hY.out.below hbn)
    replace hZ := hid (hZ.out.below hbn)
    replace hbel := hid (hbel.out.to hbn)
    clear hbn
    go_wp2_with fail
    refine hK.out _ _ ?hS52 (fun hHeld => ?re52)
    case hS52 => exact ⟨(RBox.box hX.out).c0, (RBox.box hX.out).c1, (RBox.box hX.out).c2, (RBox.box hX.out).c3, (RBox.box hY.out).c0, (RBox.box hY.out).c1, (RBox.box hY.out).c2, (RBox.box hY.out).c3, (RBox.box hZ.out).c0, (RBox.box hZ.out).c1, (RBox.box hZ.out).c2, (RBox.box hZ.out).c3⟩
    clear hK K
    (try simp only [Act.put, List.setIfInBounds_toArray, List.set_cons_zero, List.set_cons_succ])
    refine wpAnyH_take (i := 8) (oi := ?oi53) (v := ?v53) (fuel := 1) ?hi53 ?hs53 ?hf53 ?hr53 ?hq53 (Or.inl ⟨?hw53, ?hy53⟩) hHeld ?rest53
    case hi53 => rw [List.getElem?_toArray]; rfl
    case hq53 => exact fun _ _ _ h => h
    case hs53 | hf53 | hr53 => kernel_rfl
    case hw53 => rfl
    case hy53 => (intro w1 hSw; (try dsimp only at hSw); go_simp; try with_reducible rfl)
    (try simp only [Act.put, List.setIfInBounds_toArray, List.set_cons_zero, List.set_cons_succ])
    refine wpAnyH_take (i := 9) (oi := ?oi54) (v := ?v54) (fuel := 0) ?hi54 ?hs54 ?hf54 ?hr54 ?hq54 (Or.inl ⟨?hw54, ?hy54⟩) hHeld ?rest54
    case hi54 => rw [List.getElem?_toArray]; rfl
    case hq54 => exact fun _ _ _ h => h
    case hs54 | hf54 | hr54 => kernel_rfl
    case hw54 => rfl
    case hy54 => (intro w1 hSw; (try dsimp only at hSw); go_simp; try with_reducible rfl)
    (try simp only [Act.put, List.setIfInBounds_toArray, List.set_cons_zero, List.set_cons_succ])
    refine wpAnyH_done (by kernel_rfl) ?_ _
    clear hHeld
    generalize wr7 = w5 at *
    have bX5 := hX
    have bY5 := hY
    have bZ5 := hZ
    have bel5 := hbel
    clear hbel hX hY hZ
    go_wp2_with fail
    refine wp_region_held_drew (S := (fun w' => w'.cell? ⟨X, 0, none⟩ = some (.int .i64 (lo)) ∧ w'.cell? ⟨X, 1, none⟩ = some (.int .i64 (hi)) ∧ w'.cell? ⟨X, 2, none⟩ = some (.int .i64 (b)) ∧ w'.cell? ⟨X, 3, none⟩ = some (.int .i64 (o)) ∧ w'.cell? ⟨X + 1, 0, none⟩ = some (.int .i64 (lo')) ∧ w'.cell? ⟨X + 1, 1, none⟩ = some (.int .i64 (hi')) ∧ w'.cell? ⟨X + 1, 2, none⟩ = some (.int .i64 (b')) ∧ w'.cell? ⟨X + 1, 3, none⟩ = some (.int .i64 (o')) ∧ w'.cell? ⟨Z, 0, none⟩ = some (.int .i64 (1)) ∧ w'.cell? ⟨Z, 1, none⟩ = some (.int .i64 (0)) ∧ w'.cell? ⟨Z, 2, none⟩ = some (.int .i64 (0)) ∧ w'.cell? ⟨Z, 3, none⟩ = some (.int .i64 (0)))) (by kernel_rfl) (by exact ⟨(RBox.box bX5.out).c0, (RBox.box bX5.out).c1, (RBox.box bX5.out).c2, (RBox.box bX5.out).c3, (RBox.box bY5.out).c0, (RBox.box bY5.out).c1, (RBox.box bY5.out).c2, (RBox.box bY5.out).c3, (RBox.box bZ5.out).c0, (RBox.box bZ5.out).c1, (RBox.box bZ5.out).c2, (RBox.box bZ5.out).c3⟩) (fun hHeld => ?_)
    have hX := hid (RBox.drew bX5.out)
    have hY := hid (RBox.drew bY5.out)
    have hZ := hid (RBox.drew bZ5.out)
    have hbel := hid (Below.drew bel5.out)
    clear bX5 bY5 bZ5 bel5
    generalize w5.drew = W1 at *
    refine wpAnyH_take (i := 0) (oi := ?oi55) (v := ?v55) (fuel := 5) ?hi55 ?hs55 ?hf55 ?hr55 ?hq55 (Or.inl ⟨?hw55, ?hy55⟩) hHeld ?rest55
    case hi55 => rw [List.getElem?_toArray]; rfl
    case hq55 => exact fun _ _ _ h => h
    case hs55 | hf55 | hr55 => kernel_rfl
    case hw55 => rfl
    case hy55 => (intro w1 hSw; (try dsimp only at hSw); go_simp; try with_reducible rfl)
    (try simp only [Act.put, List.setIfInBounds_toArray, List.set_cons_zero, List.set_cons_succ])
    refine wpAnyH_take (i := 1) (oi := ?oi56) (v := ?v56) (fuel := 4) ?hi56 ?hs56 ?hf56 ?hr56 ?hq56 (Or.inl ⟨?hw56, ?hy56⟩) hHeld ?rest56
    case hi56 => rw [List.getElem?_toArray]; rfl
    case hq56 => exact fun _ _ _ h => h
    case hs56 | hf56 | hr56 => kernel_rfl
    case hw56 => rfl
    case hy56 => (intro w1 hSw; (try dsimp only at hSw); go_simp; try with_reducible rfl)
    (try simp only [Act.put, List.setIfInBounds_toArray, List.set_cons_zero, List.set_cons_succ])
    refine wpAnyH_take (i := 2) (oi := ?oi57) (v := ?v57) (fuel := 3) ?hi57 ?hs57 ?hf57 ?hr57 ?hq57 (Or.inl ⟨?hw57, ?hy57⟩) hHeld ?rest57
    case hi57 => rw [List.getElem?_toArray]; rfl
    case hq57 => exact fun _ _ _ h => h
    case hs57 | hf57 | hr57 => kernel_rfl
    case hw57 => rfl
    case hy57 => (intro w1 hSw; (try dsimp only at hSw); go_simp; try with_reducible rfl)
    (try simp only [Act.put, List.setIfInBounds_toArray, List.set_cons_zero, List.set_cons_succ])
    refine wpAnyH_ready (fuel := 2) (rs := [3]) (by kernel_rfl) (by simp) ?_
    refine AllReadyH.cons (o := ?oi58) ?hi58 (fun K hK => ?st58) AllReadyH.nil
    case hi58 => rw [List.getElem?_toArray]; rfl
    go_simp
    refine (A2.out _).mono ?_
    rintro ee wr3 ⟨rfl, hbn⟩
    replace hX := hid (hX.out.below hbn)
    replace hY := hid (hY.out.below hbn)
    replace hZ := hid (hZ.out.below hbn)
    replace hbel := hid (hbel.out.to hbn)
    clear hbn
    go_wp2_with fail
    refine hK.out _ _ ?hS58 (fun hHeld => ?re58)
    case hS58 => exact ⟨(RBox.box hX.out).c0, (RBox.box hX.out).c1, (RBox.box hX.out).c2, (RBox.box hX.out).c3, (RBox.box hY.out).c0, (RBox.box hY.out).c1, (RBox.box hY.out).c2, (RBox.box hY.out).c3, (RBox.box hZ.out).c0, (RBox.box hZ.out).c1, (RBox.box hZ.out).c2, (RBox.box hZ.out).c3⟩
    clear hK K
    (try simp only [Act.put, List.setIfInBounds_toArray, List.set_cons_zero, List.set_cons_succ])
    refine wpAnyH_take (i := 4) (oi := ?oi59) (v := ?v59) (fuel := 1) ?hi59 ?hs59 ?hf59 ?hr59 ?hq59 (Or.inl ⟨?hw59, ?hy59⟩) hHeld ?rest59
    case hi59 => rw [List.getElem?_toArray]; rfl
    case hq59 => exact fun _ _ _ h => h
    case hs59 | hf59 | hr59 => kernel_rfl
    case hw59 => rfl
    case hy59 => (intro w1 hSw; (try dsimp only at hSw); go_simp; try with_reducible rfl)
    (try simp only [Act.put, List.setIfInBounds_toArray, List.set_cons_zero, List.set_cons_succ])
    refine wpAnyH_take (i := 5) (oi := ?oi60) (v := ?v60) (fuel := 0) ?hi60 ?hs60 ?hf60 ?hr60 ?hq60 (Or.inl ⟨?hw60, ?hy60⟩) hHeld ?rest60
    case hi60 => rw [List.getElem?_toArray]; rfl
    case hq60 => exact fun _ _ _ h => h
    case hs60 | hf60 | hr60 => kernel_rfl
    case hw60 => rfl
    case hy60 => (intro w1 hSw; (try dsimp only at hSw); go_simp; try with_reducible rfl)
    (try simp only [Act.put, List.setIfInBounds_toArray, List.set_cons_zero, List.set_cons_succ])
    refine wpAnyH_done (by kernel_rfl) ?_ _
    clear hHeld
    generalize wr3 = w6 at *
    have bX6 := hX
    have bY6 := hY
    have bZ6 := hZ
    have bel6 := hbel
    clear hbel hX hY hZ
    go_wp2_with fail
    go_ret
    exact ⟨rfl, bel6.out⟩
  obtain ⟨k0, hk0⟩ := hJ.someA
  obtain ⟨k1, hk1⟩ := hJ.someB
  have A1 := hid hJ.imp
  have A2 := hid hJ.spc
  have A3 := hid hJ.imp'
  have SA := hid hJ.ofA
  have SB := hid hJ.ofB
  have OA := hid hJ.A
  have OB := hid hJ.B
  have OJ := hid hJ.ok
  have A4 := hid (ans_ok x y z u (okB_of hJ.ok))
  have HK0 := hid hk0
  have HK1 := hid hk1
  clear hJ hk0 hk1
  obtain ⟨cX0, cX1, cX2, cX3⟩ := RBox.box bX2.out
  obtain ⟨cY0, cY1, cY2, cY3⟩ := RBox.box bY2.out
  go_wp2_with fail
  refine (A1.out _).mono ?_
  rintro e w3 ⟨rfl, hb3⟩
  have bX3 := hid (bX2.out.below hb3)
  have bY3 := hid (bY2.out.below hb3)
  have bel3 := hid (bel2.out.to hb3)
  clear hb3 bX2 bY2 bel2
  go_wp2_with fail
  have bX4 := hid (bX3.out.alloc (cellsR4 (x) (y) (z) (u)))
  have neZX := RBox.lt bX3.out
  have bY4 := hid (bY3.out.alloc (cellsR4 (x) (y) (z) (u)))
  have neZY := RBox.lt bY3.out
  have bZ4 := hid (RBox.new w3 (x) (y) (z) (u))
  have bel4 := hid (bel3.out.alloc bel3.out.size (cellsR4 (x) (y) (z) (u)))
  have leZ := bel3.out.size
  clear bX3 bY3 bel3
  generalize w3.alloc (cellsR4 (x) (y) (z) (u)) = w4 at *
  generalize w3.heap.size = Z at *
  refine wp_region_held_drew (S := (fun w' => w'.cell? ⟨X, 0, none⟩ = some (.int .i64 (lo)) ∧ w'.cell? ⟨X, 1, none⟩ = some (.int .i64 (hi)) ∧ w'.cell? ⟨X, 2, none⟩ = some (.int .i64 (b)) ∧ w'.cell? ⟨X, 3, none⟩ = some (.int .i64 (o)) ∧ w'.cell? ⟨X + 1, 0, none⟩ = some (.int .i64 (lo')) ∧ w'.cell? ⟨X + 1, 1, none⟩ = some (.int .i64 (hi')) ∧ w'.cell? ⟨X + 1, 2, none⟩ = some (.int .i64 (b')) ∧ w'.cell? ⟨X + 1, 3, none⟩ = some (.int .i64 (o')) ∧ w'.cell? ⟨Z, 0, none⟩ = some (.int .i64 (x)) ∧ w'.cell? ⟨Z, 1, none⟩ = some (.int .i64 (y)) ∧ w'.cell? ⟨Z, 2, none⟩ = some (.int .i64 (z)) ∧ w'.cell? ⟨Z, 3, none⟩ = some (.int .i64 (u)))) (by kernel_rfl) (by exact ⟨(RBox.box bX4.out).c0, (RBox.box bX4.out).c1, (RBox.box bX4.out).c2, (RBox.box bX4.out).c3, (RBox.box bY4.out).c0, (RBox.box bY4.out).c1, (RBox.box bY4.out).c2, (RBox.box bY4.out).c3, (RBox.box bZ4.out).c0, (RBox.box bZ4.out).c1, (RBox.box bZ4.out).c2, (RBox.box bZ4.out).c3⟩) (fun hHeld => ?_)
  have hX := hid (RBox.drew bX4.out)
  have hY := hid (RBox.drew bY4.out)
  have hZ := hid (RBox.drew bZ4.out)
  have hbel := hid (Below.drew bel4.out)
  clear bX4 bY4 bZ4 bel4
  generalize w4.drew = W1 at *
  refine wpAnyH_take (i := 0) (oi := ?oi61) (v := ?v61) (fuel := 9) ?hi61 ?hs61 ?hf61 ?hr61 ?hq61 (Or.inl ⟨?hw61, ?hy61⟩) hHeld ?rest61
  case hi61 => rw [List.getElem?_toArray]; rfl
  case hq61 => exact fun _ _ _ h => h
  case hs61 | hf61 | hr61 => kernel_rfl
  case hw61 => rfl
  case hy61 => (intro w1 hSw; (try dsimp only at hSw); go_simp; try with_reducible rfl)
  (try simp only [Act.put, List.setIfInBounds_toArray, List.set_cons_zero, List.set_cons_succ])
  refine wpAnyH_take (i := 1) (oi := ?oi62) (v := ?v62) (fuel := 8) ?hi62 ?hs62 ?hf62 ?hr62 ?hq62 (Or.inl ⟨?hw62, ?hy62⟩) hHeld ?rest62
  case hi62 => rw [List.getElem?_toArray]; rfl
  case hq62 => exact fun _ _ _ h => h
  case hs62 | hf62 | hr62 => kernel_rfl
  case hw62 => rfl
  case hy62 => (intro w1 hSw; (try dsimp only at hSw); go_simp; try with_reducible rfl)
  (try simp only [Act.put, List.setIfInBounds_toArray, List.set_cons_zero, List.set_cons_succ])
  refine wpAnyH_take (i := 2) (oi := ?oi63) (v := ?v63) (fuel := 7) ?hi63 ?hs63 ?hf63 ?hr63 ?hq63 (Or.inl ⟨?hw63, ?hy63⟩) hHeld ?rest63
  case hi63 => rw [List.getElem?_toArray]; rfl
  case hq63 => exact fun _ _ _ h => h
  case hs63 | hf63 | hr63 => kernel_rfl
  case hw63 => rfl
  case hy63 => (intro w1 hSw; (try dsimp only at hSw); go_simp; try with_reducible rfl)
  (try simp only [Act.put, List.setIfInBounds_toArray, List.set_cons_zero, List.set_cons_succ])
  refine wpAnyH_ready (fuel := 6) (rs := [3]) (by kernel_rfl) (by simp) ?_
  refine AllReadyH.cons (o := ?oi64) ?hi64 (fun K hK => ?st64) AllReadyH.nil
  case hi64 => rw [List.getElem?_toArray]; rfl
  go_simp
  refine (A2.out _).mono ?_
  rintro ee wr3 ⟨rfl, hbn⟩
  replace hX := hid (hX.out.below hbn)
  replace hY := hid (hY.out.below hbn)
  replace hZ := hid (hZ.out.below hbn)
  replace hbel := hid (hbel.out.to hbn)
  clear hbn
  go_wp2_with fail
  refine hK.out _ _ ?hS64 (fun hHeld => ?re64)
  case hS64 => exact ⟨(RBox.box hX.out).c0, (RBox.box hX.out).c1, (RBox.box hX.out).c2, (RBox.box hX.out).c3, (RBox.box hY.out).c0, (RBox.box hY.out).c1, (RBox.box hY.out).c2, (RBox.box hY.out).c3, (RBox.box hZ.out).c0, (RBox.box hZ.out).c1, (RBox.box hZ.out).c2, (RBox.box hZ.out).c3⟩
  clear hK K
  (try simp only [Act.put, List.setIfInBounds_toArray, List.set_cons_zero, List.set_cons_succ])
  refine wpAnyH_take (i := 4) (oi := ?oi65) (v := ?v65) (fuel := 5) ?hi65 ?hs65 ?hf65 ?hr65 ?hq65 (Or.inl ⟨?hw65, ?hy65⟩) hHeld ?rest65
  case hi65 => rw [List.getElem?_toArray]; rfl
  case hq65 => exact fun _ _ _ h => h
  case hs65 | hf65 | hr65 => kernel_rfl
  case hw65 => rfl
  case hy65 => (intro w1 hSw; (try dsimp only at hSw); go_simp; try with_reducible rfl)
  (try simp only [Act.put, List.setIfInBounds_toArray, List.set_cons_zero, List.set_cons_succ])
  refine wpAnyH_take (i := 5) (oi := ?oi66) (v := ?v66) (fuel := 4) ?hi66 ?hs66 ?hf66 ?hr66 ?hq66 (Or.inl ⟨?hw66, ?hy66⟩) hHeld ?rest66
  case hi66 => rw [List.getElem?_toArray]; rfl
  case hq66 => exact fun _ _ _ h => h
  case hs66 | hf66 | hr66 => kernel_rfl
  case hw66 => rfl
  case hy66 => (intro w1 hSw; (try dsimp only at hSw); go_simp; try with_reducible rfl)
  (try simp only [Act.put, List.setIfInBounds_toArray, List.set_cons_zero, List.set_cons_succ])
  refine wpAnyH_take (i := 6) (oi := ?oi67) (v := ?v67) (fuel := 3) ?hi67 ?hs67 ?hf67 ?hr67 ?hq67 (Or.inl ⟨?hw67, ?hy67⟩) hHeld ?rest67
  case hi67 => rw [List.getElem?_toArray]; rfl
  case hq67 => exact fun _ _ _ h => h
  case hs67 | hf67 | hr67 => kernel_rfl
  case hw67 => rfl
  case hy67 => (intro w1 hSw; (try dsimp only at hSw); go_simp; try with_reducible rfl)
  (try simp only [Act.put, List.setIfInBounds_toArray, List.set_cons_zero, List.set_cons_succ])
  refine wpAnyH_ready (fuel := 2) (rs := [7]) (by kernel_rfl) (by simp) ?_
  refine AllReadyH.cons (o := ?oi68) ?hi68 (fun K hK => ?st68) AllReadyH.nil
  case hi68 => rw [List.getElem?_toArray]; rfl
  go_simp
  refine (A4.out _).mono ?_
  rintro ee wr7 ⟨rfl, hbn⟩
  replace hX := hid (hX.out.below hbn)
  replace hY := hid (hY.out.below hbn)
  replace hZ := hid (hZ.out.below hbn)
  replace hbel := hid (hbel.out.to hbn)
  clear hbn
  go_wp2_with fail
  refine hK.out _ _ ?hS68 (fun hHeld => ?re68)
  case hS68 => exact ⟨(RBox.box hX.out).c0, (RBox.box hX.out).c1, (RBox.box hX.out).c2, (RBox.box hX.out).c3, (RBox.box hY.out).c0, (RBox.box hY.out).c1, (RBox.box hY.out).c2, (RBox.box hY.out).c3, (RBox.box hZ.out).c0, (RBox.box hZ.out).c1, (RBox.box hZ.out).c2, (RBox.box hZ.out).c3⟩
  clear hK K
  (try simp only [Act.put, List.setIfInBounds_toArray, List.set_cons_zero, List.set_cons_succ])
  refine wpAnyH_take (i := 8) (oi := ?oi69) (v := ?v69) (fuel := 1) ?hi69 ?hs69 ?hf69 ?hr69 ?hq69 (Or.inl ⟨?hw69, ?hy69⟩) hHeld ?rest69
  case hi69 => rw [List.getElem?_toArray]; rfl
  case hq69 => exact fun _ _ _ h => h
  case hs69 | hf69 | hr69 => kernel_rfl
  case hw69 => rfl
  case hy69 => (intro w1 hSw; (try dsimp only at hSw); go_simp; try with_reducible rfl)
  (try simp only [Act.put, List.setIfInBounds_toArray, List.set_cons_zero, List.set_cons_succ])
  refine wpAnyH_take (i := 9) (oi := ?oi70) (v := ?v70) (fuel := 0) ?hi70 ?hs70 ?hf70 ?hr70 ?hq70 (Or.inl ⟨?hw70, ?hy70⟩) hHeld ?rest70
  case hi70 => rw [List.getElem?_toArray]; rfl
  case hq70 => exact fun _ _ _ h => h
  case hs70 | hf70 | hr70 => kernel_rfl
  case hw70 => rfl
  case hy70 => (intro w1 hSw; (try dsimp only at hSw); go_simp; try with_reducible rfl)
  (try simp only [Act.put, List.setIfInBounds_toArray, List.set_cons_zero, List.set_cons_succ])
  refine wpAnyH_done (by kernel_rfl) ?_ _
  clear hHeld
  generalize wr7 = w5 at *
  have bX5 := hX
  have bY5 := hY
  have bZ5 := hZ
  have bel5 := hbel
  clear hbel hX hY hZ
  obtain ⟨cX0, cX1, cX2, cX3⟩ := RBox.box bX5.out
  obtain ⟨cY0, cY1, cY2, cY3⟩ := RBox.box bY5.out
  go_wp2_with fail
  refine (some_i lo hi b o k0 _ _ OA.out HK0.out (by omega) (by omega)).mono ?_
  rintro e w6 ⟨⟨n5, rfl, hn5⟩, hb6⟩
  have bX6 := hid (bX5.out.below hb6)
  have bY6 := hid (bY5.out.below hb6)
  have bZ6 := hid (bZ5.out.below hb6)
  have bel6 := hid (bel5.out.to hb6)
  clear hb6 bX5 bY5 bZ5 bel5
  have HN5 := hid hn5
  clear hn5
  obtain ⟨cX0, cX1, cX2, cX3⟩ := RBox.box bX6.out
  obtain ⟨cY0, cY1, cY2, cY3⟩ := RBox.box bY6.out
  go_wp2_with fail
  refine (some_i lo' hi' b' o' k1 _ _ OB.out HK1.out (by omega) (by omega)).mono ?_
  rintro e w7 ⟨⟨n6, rfl, hn6⟩, hb7⟩
  have bX7 := hid (bX6.out.below hb7)
  have bY7 := hid (bY6.out.below hb7)
  have bZ7 := hid (bZ6.out.below hb7)
  have bel7 := hid (bel6.out.to hb7)
  clear hb7 bX6 bY6 bZ6 bel6
  have HN6 := hid hn6
  clear hn6
  obtain ⟨cX0, cX1, cX2, cX3⟩ := RBox.box bX7.out
  obtain ⟨cY0, cY1, cY2, cY3⟩ := RBox.box bY7.out
  clear cX0 cX1 cX2 cX3 cY0 cY1 cY2 cY3
  go_wp2_with fail
  refine wp_region_held_drew (S := (fun w' => w'.cell? ⟨X, 0, none⟩ = some (.int .i64 (lo)) ∧ w'.cell? ⟨X, 1, none⟩ = some (.int .i64 (hi)) ∧ w'.cell? ⟨X, 2, none⟩ = some (.int .i64 (b)) ∧ w'.cell? ⟨X, 3, none⟩ = some (.int .i64 (o)) ∧ w'.cell? ⟨X + 1, 0, none⟩ = some (.int .i64 (lo')) ∧ w'.cell? ⟨X + 1, 1, none⟩ = some (.int .i64 (hi')) ∧ w'.cell? ⟨X + 1, 2, none⟩ = some (.int .i64 (b')) ∧ w'.cell? ⟨X + 1, 3, none⟩ = some (.int .i64 (o')) ∧ w'.cell? ⟨Z, 0, none⟩ = some (.int .i64 (x)) ∧ w'.cell? ⟨Z, 1, none⟩ = some (.int .i64 (y)) ∧ w'.cell? ⟨Z, 2, none⟩ = some (.int .i64 (z)) ∧ w'.cell? ⟨Z, 3, none⟩ = some (.int .i64 (u)))) (by kernel_rfl) (by exact ⟨(RBox.box bX7.out).c0, (RBox.box bX7.out).c1, (RBox.box bX7.out).c2, (RBox.box bX7.out).c3, (RBox.box bY7.out).c0, (RBox.box bY7.out).c1, (RBox.box bY7.out).c2, (RBox.box bY7.out).c3, (RBox.box bZ7.out).c0, (RBox.box bZ7.out).c1, (RBox.box bZ7.out).c2, (RBox.box bZ7.out).c3⟩) (fun hHeld => ?_)
  have hX := hid (RBox.drew bX7.out)
  have hY := hid (RBox.drew bY7.out)
  have hZ := hid (RBox.drew bZ7.out)
  have hbel := hid (Below.drew bel7.out)
  clear bX7 bY7 bZ7 bel7
  generalize w7.drew = W1 at *
  refine wpAnyH_take (i := 0) (oi := ?oi71) (v := ?v71) (fuel := 15) ?hi71 ?hs71 ?hf71 ?hr71 ?hq71 (Or.inl ⟨?hw71, ?hy71⟩) hHeld ?rest71
  case hi71 => rw [List.getElem?_toArray]; rfl
  case hq71 => exact fun _ _ _ h => h
  case hs71 | hf71 | hr71 => kernel_rfl
  case hw71 => rfl
  case hy71 => (intro w1 hSw; (try dsimp only at hSw); go_simp; try with_reducible rfl)
  (try simp only [Act.put, List.setIfInBounds_toArray, List.set_cons_zero, List.set_cons_succ])
  refine wpAnyH_take (i := 1) (oi := ?oi72) (v := ?v72) (fuel := 14) ?hi72 ?hs72 ?hf72 ?hr72 ?hq72 (Or.inl ⟨?hw72, ?hy72⟩) hHeld ?rest72
  case hi72 => rw [List.getElem?_toArray]; rfl
  case hq72 => exact fun _ _ _ h => h
  case hs72 | hf72 | hr72 => kernel_rfl
  case hw72 => rfl
  case hy72 => (intro w1 hSw; (try dsimp only at hSw); go_simp; try with_reducible rfl)
  (try simp only [Act.put, List.setIfInBounds_toArray, List.set_cons_zero, List.set_cons_succ])
  refine wpAnyH_take (i := 3) (oi := ?oi73) (v := ?v73) (fuel := 13) ?hi73 ?hs73 ?hf73 ?hr73 ?hq73 (Or.inl ⟨?hw73, ?hy73⟩) hHeld ?rest73
  case hi73 => rw [List.getElem?_toArray]; rfl
  case hq73 => exact fun _ _ _ h => h
  case hs73 | hf73 | hr73 => kernel_rfl
  case hw73 => rfl
  case hy73 => (intro w1 hSw; (try dsimp only at hSw); go_simp; try with_reducible rfl)
  (try simp only [Act.put, List.setIfInBounds_toArray, List.set_cons_zero, List.set_cons_succ])
  refine wpAnyH_ready (fuel := 12) (rs := [2]) (by kernel_rfl) (by simp) ?_
  refine AllReadyH.cons (o := ?oi74) ?hi74 (fun K hK => ?st74) AllReadyH.nil
  case hi74 => rw [List.getElem?_toArray]; rfl
  go_simp
  refine (A3.out _).mono ?_
  rintro ee wr2 ⟨rfl, hbn⟩
  replace hX := hid (hX.out.below hbn)
  replace hY := hid (hY.out.below hbn)
  replace hZ := hid (hZ.out.below hbn)
  replace hbel := hid (hbel.out.to hbn)
  clear hbn
  go_wp2_with fail
  refine hK.out _ _ ?hS74 (fun hHeld => ?re74)
  case hS74 => exact ⟨(RBox.box hX.out).c0, (RBox.box hX.out).c1, (RBox.box hX.out).c2, (RBox.box hX.out).c3, (RBox.box hY.out).c0, (RBox.box hY.out).c1, (RBox.box hY.out).c2, (RBox.box hY.out).c3, (RBox.box hZ.out).c0, (RBox.box hZ.out).c1, (RBox.box hZ.out).c2, (RBox.box hZ.out).c3⟩
  clear hK K
  (try simp only [Act.put, List.setIfInBounds_toArray, List.set_cons_zero, List.set_cons_succ])
  refine wpAnyH_take (i := 4) (oi := ?oi75) (v := ?v75) (fuel := 11) ?hi75 ?hs75 ?hf75 ?hr75 ?hq75 (Or.inl ⟨?hw75, ?hy75⟩) hHeld ?rest75
  case hi75 => rw [List.getElem?_toArray]; rfl
  case hq75 => exact fun _ _ _ h => h
  case hs75 | hf75 | hr75 => kernel_rfl
  case hw75 => rfl
  case hy75 => (intro w1 hSw; (try dsimp only at hSw); go_simp; try with_reducible rfl)
  (try simp only [Act.put, List.setIfInBounds_toArray, List.set_cons_zero, List.set_cons_succ])
  refine wpAnyH_take (i := 5) (oi := ?oi76) (v := ?v76) (fuel := 10) ?hi76 ?hs76 ?hf76 ?hr76 ?hq76 (Or.inl ⟨?hw76, ?hy76⟩) hHeld ?rest76
  case hi76 => rw [List.getElem?_toArray]; rfl
  case hq76 => exact fun _ _ _ h => h
  case hs76 | hf76 | hr76 => kernel_rfl
  case hw76 => rfl
  case hy76 => (intro w1 hSw; (try dsimp only at hSw); go_simp; try with_reducible rfl)
  (try simp only [Act.put, List.setIfInBounds_toArray, List.set_cons_zero, List.set_cons_succ])
  refine wpAnyH_take (i := 6) (oi := ?oi77) (v := ?v77) (fuel := 9) ?hi77 ?hs77 ?hf77 ?hr77 ?hq77 (Or.inl ⟨?hw77, ?hy77⟩) hHeld ?rest77
  case hi77 => rw [List.getElem?_toArray]; rfl
  case hq77 => exact fun _ _ _ h => h
  case hs77 | hf77 | hr77 => kernel_rfl
  case hw77 => rfl
  case hy77 => (intro w1 hSw; (try dsimp only at hSw); go_simp; try with_reducible rfl)
  (try simp only [Act.put, List.setIfInBounds_toArray, List.set_cons_zero, List.set_cons_succ])
  refine wpAnyH_take (i := 7) (oi := ?oi78) (v := ?v78) (fuel := 8) ?hi78 ?hs78 ?hf78 ?hr78 ?hq78 (Or.inl ⟨?hw78, ?hy78⟩) hHeld ?rest78
  case hi78 => rw [List.getElem?_toArray]; rfl
  case hq78 => exact fun _ _ _ h => h
  case hs78 | hf78 | hr78 => kernel_rfl
  case hw78 => rfl
  case hy78 => (intro w1 hSw; (try dsimp only at hSw); go_simp; try with_reducible rfl)
  (try simp only [Act.put, List.setIfInBounds_toArray, List.set_cons_zero, List.set_cons_succ])
  refine wpAnyH_ready (fuel := 7) (rs := [8]) (by kernel_rfl) (by simp) ?_
  refine AllReadyH.cons (o := ?oi79) ?hi79 (fun K hK => ?st79) AllReadyH.nil
  case hi79 => rw [List.getElem?_toArray]; rfl
  go_simp
  refine (ans_has x y z u n5 (hasI_of OJ.out (SA.out n5 HN5.out)) _).mono ?_
  rintro ee wr8 ⟨rfl, hbn⟩
  replace hX := hid (hX.out.below hbn)
  replace hY := hid (hY.out.below hbn)
  replace hZ := hid (hZ.out.below hbn)
  replace hbel := hid (hbel.out.to hbn)
  clear hbn
  go_wp2_with fail
  refine hK.out _ _ ?hS79 (fun hHeld => ?re79)
  case hS79 => exact ⟨(RBox.box hX.out).c0, (RBox.box hX.out).c1, (RBox.box hX.out).c2, (RBox.box hX.out).c3, (RBox.box hY.out).c0, (RBox.box hY.out).c1, (RBox.box hY.out).c2, (RBox.box hY.out).c3, (RBox.box hZ.out).c0, (RBox.box hZ.out).c1, (RBox.box hZ.out).c2, (RBox.box hZ.out).c3⟩
  clear hK K
  (try simp only [Act.put, List.setIfInBounds_toArray, List.set_cons_zero, List.set_cons_succ])
  refine wpAnyH_take (i := 9) (oi := ?oi80) (v := ?v80) (fuel := 6) ?hi80 ?hs80 ?hf80 ?hr80 ?hq80 (Or.inl ⟨?hw80, ?hy80⟩) hHeld ?rest80
  case hi80 => rw [List.getElem?_toArray]; rfl
  case hq80 => exact fun _ _ _ h => h
  case hs80 | hf80 | hr80 => kernel_rfl
  case hw80 => rfl
  case hy80 => (intro w1 hSw; (try dsimp only at hSw); go_simp; try with_reducible rfl)
  (try simp only [Act.put, List.setIfInBounds_toArray, List.set_cons_zero, List.set_cons_succ])
  refine wpAnyH_take (i := 10) (oi := ?oi81) (v := ?v81) (fuel := 5) ?hi81 ?hs81 ?hf81 ?hr81 ?hq81 (Or.inl ⟨?hw81, ?hy81⟩) hHeld ?rest81
  case hi81 => rw [List.getElem?_toArray]; rfl
  case hq81 => exact fun _ _ _ h => h
  case hs81 | hf81 | hr81 => kernel_rfl
  case hw81 => rfl
  case hy81 => (intro w1 hSw; (try dsimp only at hSw); go_simp; try with_reducible rfl)
  (try simp only [Act.put, List.setIfInBounds_toArray, List.set_cons_zero, List.set_cons_succ])
  refine wpAnyH_take (i := 11) (oi := ?oi82) (v := ?v82) (fuel := 4) ?hi82 ?hs82 ?hf82 ?hr82 ?hq82 (Or.inl ⟨?hw82, ?hy82⟩) hHeld ?rest82
  case hi82 => rw [List.getElem?_toArray]; rfl
  case hq82 => exact fun _ _ _ h => h
  case hs82 | hf82 | hr82 => kernel_rfl
  case hw82 => rfl
  case hy82 => (intro w1 hSw; (try dsimp only at hSw); go_simp; try with_reducible rfl)
  (try simp only [Act.put, List.setIfInBounds_toArray, List.set_cons_zero, List.set_cons_succ])
  refine wpAnyH_take (i := 12) (oi := ?oi83) (v := ?v83) (fuel := 3) ?hi83 ?hs83 ?hf83 ?hr83 ?hq83 (Or.inl ⟨?hw83, ?hy83⟩) hHeld ?rest83
  case hi83 => rw [List.getElem?_toArray]; rfl
  case hq83 => exact fun _ _ _ h => h
  case hs83 | hf83 | hr83 => kernel_rfl
  case hw83 => rfl
  case hy83 => (intro w1 hSw; (try dsimp only at hSw); go_simp; try with_reducible rfl)
  (try simp only [Act.put, List.setIfInBounds_toArray, List.set_cons_zero, List.set_cons_succ])
  refine wpAnyH_ready (fuel := 2) (rs := [13]) (by kernel_rfl) (by simp) ?_
  refine AllReadyH.cons (o := ?oi84) ?hi84 (fun K hK => ?st84) AllReadyH.nil
  case hi84 => rw [List.getElem?_toArray]; rfl
  go_simp
  refine (ans_has x y z u n6 (hasI_of OJ.out (SB.out n6 HN6.out)) _).mono ?_
  rintro ee wr13 ⟨rfl, hbn⟩
  replace hX := hid (hX.out.below hbn)
  replace hY := hid (hY.out.below hbn)
  replace hZ := hid (hZ.out.below hbn)
  replace hbel := hid (hbel.out.to hbn)
  clear hbn
  go_wp2_with fail
  refine hK.out _ _ ?hS84 (fun hHeld => ?re84)
  case hS84 => exact ⟨(RBox.box hX.out).c0, (RBox.box hX.out).c1, (RBox.box hX.out).c2, (RBox.box hX.out).c3, (RBox.box hY.out).c0, (RBox.box hY.out).c1, (RBox.box hY.out).c2, (RBox.box hY.out).c3, (RBox.box hZ.out).c0, (RBox.box hZ.out).c1, (RBox.box hZ.out).c2, (RBox.box hZ.out).c3⟩
  clear hK K
  (try simp only [Act.put, List.setIfInBounds_toArray, List.set_cons_zero, List.set_cons_succ])
  refine wpAnyH_take (i := 14) (oi := ?oi85) (v := ?v85) (fuel := 1) ?hi85 ?hs85 ?hf85 ?hr85 ?hq85 (Or.inl ⟨?hw85, ?hy85⟩) hHeld ?rest85
  case hi85 => rw [List.getElem?_toArray]; rfl
  case hq85 => exact fun _ _ _ h => h
  case hs85 | hf85 | hr85 => kernel_rfl
  case hw85 => rfl
  case hy85 => (intro w1 hSw; (try dsimp only at hSw); go_simp; try with_reducible rfl)
  (try simp only [Act.put, List.setIfInBounds_toArray, List.set_cons_zero, List.set_cons_succ])
  refine wpAnyH_take (i := 15) (oi := ?oi86) (v := ?v86) (fuel := 0) ?hi86 ?hs86 ?hf86 ?hr86 ?hq86 (Or.inl ⟨?hw86, ?hy86⟩) hHeld ?rest86
  case hi86 => rw [List.getElem?_toArray]; rfl
  case hq86 => exact fun _ _ _ h => h
  case hs86 | hf86 | hr86 => kernel_rfl
  case hw86 => rfl
  case hy86 => (intro w1 hSw; (try dsimp only at hSw); go_simp; try with_reducible rfl)
  (try simp only [Act.put, List.setIfInBounds_toArray, List.set_cons_zero, List.set_cons_succ])
  refine wpAnyH_done (by kernel_rfl) ?_ _
  clear hHeld
  generalize wr13 = w8 at *
  have bX8 := hX
  have bY8 := hY
  have bZ8 := hZ
  have bel8 := hbel
  clear hbel hX hY hZ
  go_wp2_with fail
  go_ret
  exact ⟨rfl, bel8.out⟩
end Go.Proofs.Yteiglpijjffneaa
