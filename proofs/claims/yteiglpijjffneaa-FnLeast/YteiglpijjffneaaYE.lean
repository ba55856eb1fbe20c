/- The law FnLeast, drawn. -/
import Derived.Test.YteiglpijjffneaaYD
namespace Go.Proofs.Yteiglpijjffneaa
open Go.RowKit
set_option linter.unusedVariables false
set_option linter.unusedSimpArgs false

set_option maxRecDepth 100000 in
set_option maxHeartbeats 4000000 in
theorem law_fnLeast (w : World) (a : Option Addr) (len cap : Nat) (hc : len ≤ cap) (hs : Src w a len) (hl : cap < 2 ^ 63) (a1 : Option Addr) (len1 cap1 : Nat) (hc1 : len1 ≤ cap1) (hs1 : Src w a1 len1) (hl1 : cap1 < 2 ^ 63) :
    Calls Try.prog 8 #[.slice a len cap, .slice a1 len1 cap1] w fun e w' => e = .returned (.bool true) ∧ Below w.heap.size w w' := by
  have HS := hid hs
  have HS1 := hid hs1
  clear hs hs1
  by_cases hbig : (len : Int) > 1048576
  · go_enter Try.func8, Try.ntmps8
    go_wp2_with fail
    go_ret
    exact ⟨rfl, Below.refl _ _⟩
  by_cases hbig1 : (len1 : Int) > 1048576
  · go_enter Try.func8, Try.ntmps8
    go_wp2_with fail
    go_ret
    exact ⟨rfl, Below.refl _ _⟩
  go_enter Try.func8, Try.ntmps8
  go_wp2_with fail
  refine (drawRangeLeast_s w a len cap hc HS.out hl).mono ?_
  rintro e w1 ⟨⟨lo, hi, b, o, rfl, les⟩, hb1⟩
  have bel1 := hid hb1
  clear hb1
  go_wp2_with fail
  have bX2 := hid (RBox.new w1 (lo) (hi) (b) (o))
  have bel2 := hid (bel1.out.alloc bel1.out.size (cellsR4 (lo) (hi) (b) (o)))
  have leX := bel1.out.size
  clear  bel1
  generalize w1.alloc (cellsR4 (lo) (hi) (b) (o)) = w2 at *
  generalize w1.heap.size = X at *
  have l1 : (0 : Int) ≤ len1 := by omega
  rcases least_cases lo hi b o with ⟨L, H, B, O, m, hL⟩ | hE
  rotate_left
  · have A1 := hid hE.imp
    have A2 := hid hE.spc
    clear hE les
    obtain ⟨cX0, cX1, cX2, cX3⟩ := RBox.box bX2.out
    go_wp2_with fail
    refine (A1.out _).mono ?_
    rintro e w3 ⟨rfl, hb3⟩
    have bX3 := hid (bX2.out.below hb3)
    have bel3 := hid (bel2.out.to hb3)
    clear hb3 bX2 bel2
    obtain ⟨cX0, cX1, cX2, cX3⟩ := RBox.box bX3.out
    go_wp2_with fail
    refine (A2.out _).mono ?_
    rintro e w4 ⟨rfl, hb4⟩
    have bX4 := hid (bX3.out.below hb4)
    have bel4 := hid (bel3.out.to hb4)
    clear hb4 bX3 bel3
    obtain ⟨cX0, cX1, cX2, cX3⟩ := RBox.box bX4.out
    go_wp2_with fail
    refine (A2.out _).mono ?_
    rintro e w5 ⟨rfl, hb5⟩
    have bX5 := hid (bX4.out.below hb5)
    have bel5 := hid (bel4.out.to hb5)
    clear hb5 bX4 bel4
    go_wp2_with fail
    go_ret
    exact ⟨rfl, bel5.out⟩
  obtain rfl : lo = L := by have := hL.e1; omega
  obtain rfl : hi = H := by have := hL.e2; omega
  obtain rfl : b = B := by have := hL.e3; omega
  obtain rfl : o = O := by have := hL.e4; omega
  have A1 := hid hL.imp
  have A2 := hid hL.spc
  have LOW : Hid (∀ z : Int, z < m → AnsB 19 #[rv lo hi b o, .int .i64 z] false) := fun z hz => ans_has lo hi b o z (by
    cases hh : hasI lo hi b o z
    · rfl
    · obtain ⟨N, rfl, hN⟩ := (hasI_iff hL.ok z).1 hh
      have := hL.least N hN
      omega)
  have NX : Hid ((∃ n2 : Nat, (m : Int) < n2 ∧ AnsI 20 #[rv ((m : Int) + 1) hi b o] n2 ∧ AnsB 19 #[rv lo hi b o, .int .i64 n2] true) ∨ AnsI 20 #[rv ((m : Int) + 1) hi b o] (-1)) := by
    rcases least_cases ((m : Int) + 1) hi b o with ⟨L', H', B', O', n2, h2⟩ | h2
    · refine .inl ⟨n2, ?_, h2.imp, ans_has lo hi b o n2 ?_⟩
      · have := h2.of.lo
        have := h2.e1
        omega
      · obtain rfl : hi = H' := by have := h2.e2; omega
        obtain rfl : b = B' := by have := h2.e3; omega
        obtain rfl : o = O' := by have := h2.e4; omega
        exact hasI_of hL.ok (h2.of.wider (by have := h2.e1; have := hL.of.lo; omega))
    · exact .inr h2.imp
  have m0 : (0 : Int) ≤ m := by omega
  have m1 : (m : Int) ≤ 4294967295 := by have := hL.of.hi; have := hL.ok.hi; omega
  clear hL les HS
  obtain ⟨cX0, cX1, cX2, cX3⟩ := RBox.box bX2.out
  go_wp2_with fail
  refine (A1.out _).mono ?_
  rintro e w3 ⟨rfl, hb3⟩
  have bX3 := hid (bX2.out.below hb3)
  have bel3 := hid (bel2.out.to hb3)
  clear hb3 bX2 bel2
  obtain ⟨cX0, cX1, cX2, cX3⟩ := RBox.box bX3.out
  go_wp2_with fail
  refine (A2.out _).mono ?_
  rintro e w4 ⟨rfl, hb4⟩
  have bX4 := hid (bX3.out.below hb4)
  have bel4 := hid (bel3.out.to hb4)
  clear hb4 bX3 bel3
  obtain ⟨cX0, cX1, cX2, cX3⟩ := RBox.box bX4.out
  clear cX0 cX1 cX2 cX3
  by_cases hm : (m : Int) > 0
  rotate_left
  · have hmd : decide (0 < m) = false := by simp; omega
    go_wp2_with fail
    refine wp_region_held_drew (S := (fun w' => w'.cell? ⟨X, 0, none⟩ = some (.int .i64 (lo)) ∧ w'.cell? ⟨X, 1, none⟩ = some (.int .i64 (hi)) ∧ w'.cell? ⟨X, 2, none⟩ = some (.int .i64 (b)) ∧ w'.cell? ⟨X, 3, none⟩ = some (.int .i64 (o)))) (by kernel_rfl) (by exact ⟨(RBox.box bX4.out).c0, (RBox.box bX4.out).c1, (RBox.box bX4.out).c2, (RBox.box bX4.out).c3⟩) (fun hHeld => ?_)
    have hX := hid (RBox.drew bX4.out)
    have hbel := hid (Below.drew bel4.out)
    clear bX4 bel4
    generalize w4.drew = W1 at *
    refine wpAnyH_take (i := 0) (oi := ?oi1) (v := ?v1) (fuel := 15) ?hi1 ?hs1 ?hf1 ?hr1 ?hq1 (Or.inl ⟨?hw1, ?hy1⟩) hHeld ?rest1
    case hi1 => rw [List.getElem?_toArray]; rfl
    case hq1 => exact fun _ _ _ h => h
    case hs1 | hf1 | hr1 => kernel_rfl
    case hw1 => rfl
    case hy1 => (intro w1 hSw; (try dsimp only at hSw); go_simp; try with_reducible rfl)
    (try simp only [Act.put, List.setIfInBounds_toArray, List.set_cons_zero, List.set_cons_succ])
    refine wpAnyH_take (i := 1) (oi := ?oi2) (v := .bool false) (fuel := 14) ?hi2 ?hs2 ?hf2 ?hr2 ?hq2 (Or.inl ⟨?hw2, ?hy2⟩) hHeld ?rest2
    case hi2 => rw [List.getElem?_toArray]; rfl
    case hq2 => exact fun _ _ _ h => h
    case hs2 | hf2 | hr2 => kernel_rfl
    case hw2 => rfl
    case hy2 => (intro w1 hSw; (try dsimp only at hSw); go_simp; try simp [hmd])
    (try simp only [Act.put, List.setIfInBounds_toArray, List.set_cons_zero, List.set_cons_succ])
    refine wpAnyH_take (i := 2) (oi := ?oi3) (v := ?v3) (fuel := 13) ?hi3 ?hs3 ?hf3 ?hr3 ?hq3 (Or.inl ⟨?hw3, ?hy3⟩) hHeld ?rest3
    case hi3 => rw [List.getElem?_toArray]; rfl
    case hq3 => exact fun _ _ _ h => h
    case hs3 | hf3 | hr3 => kernel_rfl
    case hw3 => rfl
    case hy3 => (intro w1 hSw; (try dsimp only at hSw); go_simp; try with_reducible rfl)
    (try simp only [Act.put, List.setIfInBounds_toArray, List.set_cons_zero, List.set_cons_succ])
    refine wpAnyH_take (i := 3) (oi := ?oi4) (v := undef) (fuel := 12) ?hi4 ?hs4 ?hf4 ?hr4 ?hq4 (Or.inr ⟨?hw4, rfl⟩) hHeld ?rest4
    case hi4 => rw [List.getElem?_toArray]; rfl
    case hq4 => exact fun _ _ _ h => h
    case hs4 | hf4 | hr4 => kernel_rfl
    case hw4 => rfl
    (try simp only [Act.put, List.setIfInBounds_toArray, List.set_cons_zero, List.set_cons_succ])
    refine wpAnyH_take (i := 4) (oi := ?oi5) (v := undef) (fuel := 11) ?hi5 ?hs5 ?hf5 ?hr5 ?hq5 (Or.inr ⟨?hw5, rfl⟩) hHeld ?rest5
    case hi5 => rw [List.getElem?_toArray]; rfl
    case hq5 => exact fun _ _ _ h => h
    case hs5 | hf5 | hr5 => kernel_rfl
    case hw5 => rfl
    (try simp only [Act.put, List.setIfInBounds_toArray, List.set_cons_zero, List.set_cons_succ])
    refine wpAnyH_take (i := 5) (oi := ?oi6) (v := undef) (fuel := 10) ?hi6 ?hs6 ?hf6 ?hr6 ?hq6 (Or.inr ⟨?hw6, rfl⟩) hHeld ?rest6
    case hi6 => rw [List.getElem?_toArray]; rfl
    case hq6 => exact fun _ _ _ h => h
    case hs6 | hf6 | hr6 => kernel_rfl
    case hw6 => rfl
    (try simp only [Act.put, List.setIfInBounds_toArray, List.set_cons_zero, List.set_cons_succ])
    refine wpAnyH_take (i := 6) (oi := ?oi7) (v := undef) (fuel := 9) ?hi7 ?hs7 ?hf7 ?hr7 ?hq7 (Or.inr ⟨?hw7, rfl⟩) hHeld ?rest7
    case hi7 => rw [List.getElem?_toArray]; rfl
    case hq7 => exact fun _ _ _ h => h
    case hs7 | hf7 | hr7 => kernel_rfl
    case hw7 => rfl
    (try simp only [Act.put, List.setIfInBounds_toArray, List.set_cons_zero, List.set_cons_succ])
    refine wpAnyH_take (i := 7) (oi := ?oi8) (v := undef) (fuel := 8) ?hi8 ?hs8 ?hf8 ?hr8 ?hq8 (Or.inr ⟨?hw8, rfl⟩) hHeld ?rest8
    case hi8 => rw [List.getElem?_toArray]; rfl
    case hq8 => exact fun _ _ _ h => h
    case hs8 | hf8 | hr8 => kernel_rfl
    case hw8 => rfl
    (try simp only [Act.put, List.setIfInBounds_toArray, List.set_cons_zero, List.set_cons_succ])
    refine wpAnyH_take (i := 8) (oi := ?oi9) (v := undef) (fuel := 7) ?hi9 ?hs9 ?hf9 ?hr9 ?hq9 (Or.inr ⟨?hw9, rfl⟩) hHeld ?rest9
    case hi9 => rw [List.getElem?_toArray]; rfl
    case hq9 => exact fun _ _ _ h => h
    case hs9 | hf9 | hr9 => kernel_rfl
    case hw9 => rfl
    (try simp only [Act.put, List.setIfInBounds_toArray, List.set_cons_zero, List.set_cons_succ])
    refine wpAnyH_take (i := 9) (oi := ?oi10) (v := undef) (fuel := 6) ?hi10 ?hs10 ?hf10 ?hr10 ?hq10 (Or.inr ⟨?hw10, rfl⟩) hHeld ?rest10
    case hi10 => rw [List.getElem?_toArray]; rfl
    case hq10 => exact fun _ _ _ h => h
    case hs10 | hf10 | hr10 => kernel_rfl
    case hw10 => rfl
    (try simp only [Act.put, List.setIfInBounds_toArray, List.set_cons_zero, List.set_cons_succ])
    refine wpAnyH_take (i := 10) (oi := ?oi11) (v := undef) (fuel := 5) ?hi11 ?hs11 ?hf11 ?hr11 ?hq11 (Or.inr ⟨?hw11, rfl⟩) hHeld ?rest11
    case hi11 => rw [List.getElem?_toArray]; rfl
    case hq11 => exact fun _ _ _ h => h
    case hs11 | hf11 | hr11 => kernel_rfl
    case hw11 => rfl
    (try simp only [Act.put, List.setIfInBounds_toArray, List.set_cons_zero, List.set_cons_succ])
    refine wpAnyH_take (i := 11) (oi := ?oi12) (v := undef) (fuel := 4) ?hi12 ?hs12 ?hf12 ?hr12 ?hq12 (Or.inr ⟨?hw12, rfl⟩) hHeld ?rest12
    case hi12 => rw [List.getElem?_toArray]; rfl
    case hq12 => exact fun _ _ _ h => h
    case hs12 | hf12 | hr12 => kernel_rfl
    case hw12 => rfl
    (try simp only [Act.put, List.setIfInBounds_toArray, List.set_cons_zero, List.set_cons_succ])
    refine wpAnyH_take (i := 12) (oi := ?oi13) (v := undef) (fuel := 3) ?hi13 ?hs13 ?hf13 ?hr13 ?hq13 (Or.inr ⟨?hw13, rfl⟩) hHeld ?rest13
    case hi13 => rw [List.getElem?_toArray]; rfl
    case hq13 => exact fun _ _ _ h => h
    case hs13 | hf13 | hr13 => kernel_rfl
    case hw13 => rfl
    (try simp only [Act.put, List.setIfInBounds_toArray, List.set_cons_zero, List.set_cons_succ])
    refine wpAnyH_take (i := 13) (oi := ?oi14) (v := undef) (fuel := 2) ?hi14 ?hs14 ?hf14 ?hr14 ?hq14 (Or.inr ⟨?hw14, rfl⟩) hHeld ?rest14
    case hi14 => rw [List.getElem?_toArray]; rfl
    case hq14 => exact fun _ _ _ h => h
    case hs14 | hf14 | hr14 => kernel_rfl
    case hw14 => rfl
    (try simp only [Act.put, List.setIfInBounds_toArray, List.set_cons_zero, List.set_cons_succ])
    refine wpAnyH_take (i := 14) (oi := ?oi15) (v := undef) (fuel := 1) ?hi15 ?hs15 ?hf15 ?hr15 ?hq15 (Or.inr ⟨?hw15, rfl⟩) hHeld ?rest15
    case hi15 => rw [List.getElem?_toArray]; rfl
    case hq15 => exact fun _ _ _ h => h
    case hs15 | hf15 | hr15 => kernel_rfl
    case hw15 => rfl
    (try simp only [Act.put, List.setIfInBounds_toArray, List.set_cons_zero, List.set_cons_succ])
    refine wpAnyH_take (i := 15) (oi := ?oi16) (v := ?v16) (fuel := 0) ?hi16 ?hs16 ?hf16 ?hr16 ?hq16 (Or.inl ⟨?hw16, ?hy16⟩) hHeld ?rest16
    case hi16 => rw [List.getElem?_toArray]; rfl
    case hq16 => exact fun _ _ _ h => h
    case hs16 | hf16 | hr16 => kernel_rfl
    case hw16 => rfl
    case hy16 => (intro w1 hSw; (try dsimp only at hSw); go_simp; try with_reducible rfl)
    (try simp only [Act.put, List.setIfInBounds_toArray, List.set_cons_zero, List.set_cons_succ])
    refine wpAnyH_done (by kernel_rfl) ?_ _
    clear hHeld
    generalize W1 = w5 at *
    have bX5 := hX
    have bel5 := hbel
    clear hbel hX
    obtain ⟨cX0, cX1, cX2, cX3⟩ := RBox.box bX5.out
    go_wp2_with fail
    clear cX0 cX1 cX2 cX3
    have bX6 := hid (bX5.out.alloc (cellsR4 ((m : Int) + 1) (hi) (b) (o)))
    have neYX := RBox.lt bX5.out
    have bY6 := hid (RBox.new w5 ((m : Int) + 1) (hi) (b) (o))
    have bel6 := hid (bel5.out.alloc bel5.out.size (cellsR4 ((m : Int) + 1) (hi) (b) (o)))
    have leY := bel5.out.size
    clear bX5 bel5
    generalize w5.alloc (cellsR4 ((m : Int) + 1) (hi) (b) (o)) = w6 at *
    generalize w5.heap.size = Y at *
    rcases NX.out with ⟨n2, hn2, c1, c2⟩ | c1
    · have C1 := hid c1
      have C2 := hid c2
      have hn20 : (0 : Int) ≤ n2 := by omega
      clear c1 c2 NX LOW A1 A2
      refine (C1.out _).mono ?_
      rintro e w7 ⟨rfl, hb7⟩
      have bX7 := hid (bX6.out.below hb7)
      have bY7 := hid (bY6.out.below hb7)
      have bel7 := hid (bel6.out.to hb7)
      clear hb7 bX6 bY6 bel6
      obtain ⟨cX0, cX1, cX2, cX3⟩ := RBox.box bX7.out
      go_wp2_with fail
      refine (C2.out _).mono ?_
      rintro e w8 ⟨rfl, hb8⟩
      have bX8 := hid (bX7.out.below hb8)
      have bY8 := hid (bY7.out.below hb8)
      have bel8 := hid (bel7.out.to hb8)
      clear hb8 bX7 bY7 bel7
      go_wp2_with fail
      go_ret
      exact ⟨rfl, bel8.out⟩
    · have C1 := hid c1
      clear c1 NX LOW A1 A2
      refine (C1.out _).mono ?_
      rintro e w7 ⟨rfl, hb7⟩
      have bX7 := hid (bX6.out.below hb7)
      have bY7 := hid (bY6.out.below hb7)
      have bel7 := hid (bel6.out.to hb7)
      clear hb7 bX6 bY6 bel6
      go_wp2_with fail
      go_ret
      exact ⟨rfl, bel7.out⟩
  have hm0 : ((m : Int) == 0) = false := by simp; omega
  have hmd : decide (0 < m) = true := by simp; omega
  have hw1 : IntKind.i64.wrap ((m : Int) - 1) = (m : Int) - 1 := wrap_id (by omega) (by omega)
  have hm00 : ¬ m = 0 := by omega
  go_wp2_with fail
  refine wp_region_held_drew (S := (fun w' => w'.cell? ⟨X, 0, none⟩ = some (.int .i64 (lo)) ∧ w'.cell? ⟨X, 1, none⟩ = some (.int .i64 (hi)) ∧ w'.cell? ⟨X, 2, none⟩ = some (.int .i64 (b)) ∧ w'.cell? ⟨X, 3, none⟩ = some (.int .i64 (o)))) (by kernel_rfl) (by exact ⟨(RBox.box bX4.out).c0, (RBox.box bX4.out).c1, (RBox.box bX4.out).c2, (RBox.box bX4.out).c3⟩) (fun hHeld => ?_)
  have hX := hid (RBox.drew bX4.out)
  have hbel := hid (Below.drew bel4.out)
  clear bX4 bel4
  generalize w4.drew = W1 at *
  refine wpAnyH_take (i := 0) (oi := ?oi17) (v := ?v17) (fuel := 15) ?hi17 ?hs17 ?hf17 ?hr17 ?hq17 (Or.inl ⟨?hw17, ?hy17⟩) hHeld ?rest17
  case hi17 => rw [List.getElem?_toArray]; rfl
  case hq17 => exact fun _ _ _ h => h
  case hs17 | hf17 | hr17 => kernel_rfl
  case hw17 => rfl
  case hy17 => (intro w1 hSw; (try dsimp only at hSw); go_simp; try with_reducible rfl)
  (try simp only [Act.put, List.setIfInBounds_toArray, List.set_cons_zero, List.set_cons_succ])
  refine wpAnyH_take (i := 1) (oi := ?oi18) (v := .bool true) (fuel := 14) ?hi18 ?hs18 ?hf18 ?hr18 ?hq18 (Or.inl ⟨?hw18, ?hy18⟩) hHeld ?rest18
  case hi18 => rw [List.getElem?_toArray]; rfl
  case hq18 => exact fun _ _ _ h => h
  case hs18 | hf18 | hr18 => kernel_rfl
  case hw18 => rfl
  case hy18 => (intro w1 hSw; (try dsimp only at hSw); go_simp; try simp [hmd])
  (try simp only [Act.put, List.setIfInBounds_toArray, List.set_cons_zero, List.set_cons_succ])
  refine wpAnyH_take (i := 2) (oi := ?oi19) (v := ?v19) (fuel := 13) ?hi19 ?hs19 ?hf19 ?hr19 ?hq19 (Or.inl ⟨?hw19, ?hy19⟩) hHeld ?rest19
  case hi19 => rw [List.getElem?_toArray]; rfl
  case hq19 => exact fun _ _ _ h => h
  case hs19 | hf19 | hr19 => kernel_rfl
  case hw19 => rfl
  case hy19 => (intro w1 hSw; (try dsimp only at hSw); go_simp; try with_reducible rfl)
  (try simp only [Act.put, List.setIfInBounds_toArray, List.set_cons_zero, List.set_cons_succ])
  refine wpAnyH_take (i := 3) (oi := ?oi20) (v := ?v20) (fuel := 12) ?hi20 ?hs20 ?hf20 ?hr20 ?hq20 (Or.inl ⟨?hw20, ?hy20⟩) hHeld ?rest20
  case hi20 => rw [List.getElem?_toArray]; rfl
  case hq20 => exact fun _ _ _ h => h
  case hs20 | hf20 | hr20 => kernel_rfl
  case hw20 => rfl
  case hy20 => (intro w1 hSw; (try dsimp only at hSw); go_simp; try with_reducible rfl)
  (try simp only [Act.put, List.setIfInBounds_toArray, List.set_cons_zero, List.set_cons_succ])
  refine wpAnyH_take (i := 4) (oi := ?oi21) (v := ?v21) (fuel := 11) ?hi21 ?hs21 ?hf21 ?hr21 ?hq21 (Or.inl ⟨?hw21, ?hy21⟩) hHeld ?rest21
  case hi21 => rw [List.getElem?_toArray]; rfl
  case hq21 => exact fun _ _ _ h => h
  case hs21 | hf21 | hr21 => kernel_rfl
  case hw21 => rfl
  case hy21 => (intro w1 hSw; (try dsimp only at hSw); go_simp; try with_reducible rfl)
  (try simp only [Act.put, List.setIfInBounds_toArray, List.set_cons_zero, List.set_cons_succ])
  refine wpAnyH_take (i := 5) (oi := ?oi22) (v := ?v22) (fuel := 10) ?hi22 ?hs22 ?hf22 ?hr22 ?hq22 (Or.inl ⟨?hw22, ?hy22⟩) hHeld ?rest22
  case hi22 => rw [List.getElem?_toArray]; rfl
  case hq22 => exact fun _ _ _ h => h
  case hs22 | hf22 | hr22 => kernel_rfl
  case hw22 => rfl
  case hy22 => (intro w1 hSw; (try dsimp only at hSw); go_simp; try with_reducible rfl)
  (try simp only [Act.put, List.setIfInBounds_toArray, List.set_cons_zero, List.set_cons_succ])
  refine wpAnyH_ready (fuel := 9) (rs := [6]) (by kernel_rfl) (by simp) ?_
  refine AllReadyH.cons (o := ?oi23) ?hi23 (fun K hK => ?st23) AllReadyH.nil
  case hi23 => rw [List.getElem?_toArray]; rfl
  go_simp
  refine (LOW.out _ (by omega) _).mono ?_
  rintro ee wr6 ⟨rfl, hbn⟩
  replace hX := hid (hX.out.below hbn)
  replace hbel := hid (hbel.out.to hbn)
  clear hbn
  go_wp2_with fail
  refine hK.out _ _ ?hS23 (fun hHeld => ?re23)
  case hS23 => exact ⟨(RBox.box hX.out).c0, (RBox.box hX.out).c1, (RBox.box hX.out).c2, (RBox.box hX.out).c3⟩
  clear hK K
  (try simp only [Act.put, List.setIfInBounds_toArray, List.set_cons_zero, List.set_cons_succ])
  refine wpAnyH_take (i := 7) (oi := ?oi24) (v := ?v24) (fuel := 8) ?hi24 ?hs24 ?hf24 ?hr24 ?hq24 (Or.inl ⟨?hw24, ?hy24⟩) hHeld ?rest24
  case hi24 => rw [List.getElem?_toArray]; rfl
  case hq24 => exact fun _ _ _ h => h
  case hs24 | hf24 | hr24 => kernel_rfl
  case hw24 => rfl
  case hy24 => (intro w1 hSw; (try dsimp only at hSw); go_simp; try with_reducible rfl)
  (try simp only [Act.put, List.setIfInBounds_toArray, List.set_cons_zero, List.set_cons_succ])
  refine wpAnyH_take (i := 8) (oi := ?oi25) (v := ?v25) (fuel := 7) ?hi25 ?hs25 ?hf25 ?hr25 ?hq25 (Or.inl ⟨?hw25, ?hy25⟩) hHeld ?rest25
  case hi25 => rw [List.getElem?_toArray]; rfl
  case hq25 => exact fun _ _ _ h => h
  case hs25 | hf25 | hr25 => kernel_rfl
  case hw25 => rfl
  case hy25 => (intro w1 hSw; (try dsimp only at hSw); go_simp; try with_reducible rfl)
  (try simp only [Act.put, List.setIfInBounds_toArray, List.set_cons_zero, List.set_cons_succ])
  refine wpAnyH_take (i := 9) (oi := ?oi26) (v := ?v26) (fuel := 6) ?hi26 ?hs26 ?hf26 ?hr26 ?hq26 (Or.inl ⟨?hw26, ?hy26⟩) hHeld ?rest26
  case hi26 => rw [List.getElem?_toArray]; rfl
  case hq26 => exact fun _ _ _ h => h
  case hs26 | hf26 | hr26 => kernel_rfl
  case hw26 => rfl
  case hy26 => (intro w1 hSw; (try dsimp only at hSw); go_simp; try with_reducible rfl)
  (try simp only [Act.put, List.setIfInBounds_toArray, List.set_cons_zero, List.set_cons_succ])
  refine wpAnyH_take (i := 10) (oi := ?oi27) (v := ?v27) (fuel := 5) ?hi27 ?hs27 ?hf27 ?hr27 ?hq27 (Or.inl ⟨?hw27, ?hy27⟩) hHeld ?rest27
  case hi27 => rw [List.getElem?_toArray]; rfl
  case hq27 => exact fun _ _ _ h => h
  case hs27 | hf27 | hr27 => kernel_rfl
  case hw27 => rfl
  case hy27 => (intro w1 hSw; (try dsimp only at hSw); go_simp; try with_reducible rfl)
  (try simp only [Act.put, List.setIfInBounds_toArray, List.set_cons_zero, List.set_cons_succ])
  refine wpAnyH_take (i := 11) (oi := ?oi28) (v := ?v28) (fuel := 4) ?hi28 ?hs28 ?hf28 ?hr28 ?hq28 (Or.inl ⟨?hw28, ?hy28⟩) hHeld ?rest28
  case hi28 => rw [List.getElem?_toArray]; rfl
  case hq28 => exact fun _ _ _ h => h
  case hs28 | hf28 | hr28 => kernel_rfl
  case hw28 => rfl
  case hy28 => (intro w1 hSw; (try dsimp only at hSw); go_simp; try with_reducible rfl)
  (try simp only [Act.put, List.setIfInBounds_toArray, List.set_cons_zero, List.set_cons_succ])
  refine wpAnyH_take (i := 12) (oi := ?oi29) (v := ?v29) (fuel := 3) ?hi29 ?hs29 ?hf29 ?hr29 ?hq29 (Or.inl ⟨?hw29, ?hy29⟩) hHeld ?rest29
  case hi29 => rw [List.getElem?_toArray]; rfl
  case hq29 => exact fun _ _ _ h => h
  case hs29 | hf29 | hr29 => kernel_rfl
  case hw29 => rfl
  case hy29 => (intro w1 hSw; (try dsimp only at hSw); go_simp; try with_reducible rfl)
  (try simp only [Act.put, List.setIfInBounds_toArray, List.set_cons_zero, List.set_cons_succ])
  refine wpAnyH_ready (fuel := 2) (rs := [13]) (by kernel_rfl) (by simp) ?_
  refine AllReadyH.cons (o := ?oi30) ?hi30 (fun K hK => ?st30) AllReadyH.nil
  case hi30 => rw [List.getElem?_toArray]; rfl
  go_simp
  refine (LOW.out _ (by first | omega | exact Int.emod_lt_of_pos _ (by omega) | exact Int.tmod_lt_of_pos _ (by omega)) _).mono ?_
  rintro ee wr13 ⟨rfl, hbn⟩
  replace hX := hid (hX.out.below hbn)
  replace hbel := hid (hbel.out.to hbn)
  clear hbn
  go_wp2_with fail
  refine hK.out _ _ ?hS30 (fun hHeld => ?re30)
  case hS30 => exact ⟨(RBox.box hX.out).c0, (RBox.box hX.out).c1, (RBox.box hX.out).c2, (RBox.box hX.out).c3⟩
  clear hK K
  (try simp only [Act.put, List.setIfInBounds_toArray, List.set_cons_zero, List.set_cons_succ])
  refine wpAnyH_take (i := 14) (oi := ?oi31) (v := ?v31) (fuel := 1) ?hi31 ?hs31 ?hf31 ?hr31 ?hq31 (Or.inl ⟨?hw31, ?hy31⟩) hHeld ?rest31
  case hi31 => rw [List.getElem?_toArray]; rfl
  case hq31 => exact fun _ _ _ h => h
  case hs31 | hf31 | hr31 => kernel_rfl
  case hw31 => rfl
  case hy31 => (intro w1 hSw; (try dsimp only at hSw); go_simp; try with_reducible rfl)
  (try simp only [Act.put, List.setIfInBounds_toArray, List.set_cons_zero, List.set_cons_succ])
  refine wpAnyH_take (i := 15) (oi := ?oi32) (v := ?v32) (fuel := 0) ?hi32 ?hs32 ?hf32 ?hr32 ?hq32 (Or.inl ⟨?hw32, ?hy32⟩) hHeld ?rest32
  case hi32 => rw [List.getElem?_toArray]; rfl
  case hq32 => exact fun _ _ _ h => h
  case hs32 | hf32 | hr32 => kernel_rfl
  case hw32 => rfl
  case hy32 => (intro w1 hSw; (try dsimp only at hSw); go_simp; try with_reducible rfl)
  (try simp only [Act.put, List.setIfInBounds_toArray, List.set_cons_zero, List.set_cons_succ])
  refine wpAnyH_done (by kernel_rfl) ?_ _
  clear hHeld
  generalize wr13 = w5 at *
  have bX5 := hX
  have bel5 := hbel
  clear hbel hX
  obtain ⟨cX0, cX1, cX2, cX3⟩ := RBox.box bX5.out
  go_wp2_with fail
  clear cX0 cX1 cX2 cX3
  have bX6 := hid (bX5.out.alloc (cellsR4 ((m : Int) + 1) (hi) (b) (o)))
  have neYX := RBox.lt bX5.out
  have bY6 := hid (RBox.new w5 ((m : Int) + 1) (hi) (b) (o))
  have bel6 := hid (bel5.out.alloc bel5.out.size (cellsR4 ((m : Int) + 1) (hi) (b) (o)))
  have leY := bel5.out.size
  clear bX5 bel5
  generalize w5.alloc (cellsR4 ((m : Int) + 1) (hi) (b) (o)) = w6 at *
  generalize w5.heap.size = Y at *
  rcases NX.out with ⟨n2, hn2, c1, c2⟩ | c1
  · have C1 := hid c1
    have C2 := hid c2
    have hn20 : (0 : Int) ≤ n2 := by omega
    clear c1 c2 NX LOW A1 A2
    refine (C1.out _).mono ?_
    rintro e w7 ⟨rfl, hb7⟩
    have bX7 := hid (bX6.out.below hb7)
    have bY7 := hid (bY6.out.below hb7)
    have bel7 := hid (bel6.out.to hb7)
    clear hb7 bX6 bY6 bel6
    obtain ⟨cX0, cX1, cX2, cX3⟩ := RBox.box bX7.out
    go_wp2_with fail
    refine (C2.out _).mono ?_
    rintro e w8 ⟨rfl, hb8⟩
    have bX8 := hid (bX7.out.below hb8)
    have bY8 := hid (bY7.out.below hb8)
    have bel8 := hid (bel7.out.to hb8)
    clear hb8 bX7 bY7 bel7
    go_wp2_with fail
    go_ret
    exact ⟨rfl, bel8.out⟩
  · have C1 := hid c1
    clear c1 NX LOW A1 A2
    refine (C1.out _).mono ?_
    rintro e w7 ⟨rfl, hb7⟩
    have bX7 := hid (bX6.out.below hb7)
    have bY7 := hid (bY6.out.below hb7)
    have bel7 := hid (bel6.out.to hb7)
    clear hb7 bX6 bY6 bel6
    go_wp2_with fail
    go_ret
    exact ⟨rfl, bel7.out⟩
end Go.Proofs.Yteiglpijjffneaa
