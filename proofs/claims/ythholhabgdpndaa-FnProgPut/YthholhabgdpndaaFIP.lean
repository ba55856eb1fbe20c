/- FnInsPut: an op is read back from its bytes. -/
import Derived.Test.YthholhabgdpndaaKI
namespace Go.Proofs.Ythholhabgdpndaa
open Go.RowKit
set_option linter.unusedVariables false
set_option linter.unusedSimpArgs false


theorem str_ne {a b : ByteArray} (h : a.size ≠ b.size) : (a.toList == b.toList) = false := by
  cases e : a.toList == b.toList
  · rfl
  · exact absurd (congrArg ByteArray.size ((str_eq a b).1 e)) h
theorem putS_nil (o d s f i z : Int) : ¬ (putS o d s f i z).toList = [] := by
  rw [ByteArray.toList_eq]
  exact List.cons_ne_nil _ _
theorem putS_ne (o d s f i z : Int) : ((putS o d s f i z).toList == (⟨#[]⟩ : ByteArray).toList) = false := str_ne (by rw [putS_size]; decide)
set_option maxRecDepth 100000 in
set_option maxHeartbeats 4000000 in
theorem law_fnInsPut (w : World) (a : Option Addr) (len cap : Nat) (hc : len ≤ cap) (hs : Src w a len) (hl : cap < 2 ^ 63) :
    Calls Try.prog 3 #[.slice a len cap] w fun e w' => e = .returned (.bool true) ∧ Below w.heap.size w w' := by
  have HS := hid hs
  clear hs
  go_enter Try.func3, Try.ntmps3
  go_wp2_with fail
  · go_ret
    exact ⟨rfl, Below.refl _ _⟩
  refine (drawInsPut_w w a len cap hc HS.out hl).mono ?_
  rintro e w1 ⟨⟨o, d, s, f, i, z, rfl⟩, hb1⟩
  have hx : Box6 (w1.alloc (.cells #[.int .i64 o, .int .i64 d, .int .i64 s, .int .i64 f, .int .i64 i, .int .i64 z] 24)) w1.heap.size o d s f i z := World.alloc_heap_new w1 _
  have HX := hid hx
  have HB := hid (hb1.alloc hb1.size (.cells #[.int .i64 o, .int .i64 d, .int .i64 s, .int .i64 f, .int .i64 i, .int .i64 z] 24))
  have lX := hb1.size
  clear hx hb1 HS
  go_wp2_with fail
  generalize w1.alloc (.cells #[.int .i64 o, .int .i64 d, .int .i64 s, .int .i64 f, .int .i64 i, .int .i64 z] 24) = w2 at *
  generalize w1.heap.size = X at *
  cases hok : sokB o d s f i z
  · skip
    have hsn : Hid (insS o d s f i z = ⟨#[]⟩) := by show _ = _; simp [insS, hok]
    have hok2 : insOkB o d s f i z = false := by rw [ok_same]; exact hok
    obtain ⟨x0, x1, x2, x3, x4, x5⟩ := Box6.cells HX.out
    have xl := Box6.lt HX.out
    go_wp2_with fail
    clear x0 x1 x2 x3 x4 x5 xl
    refine (f13 o d s f i z _).mono ?_
    rw [hsn.out]
    rintro e w3 ⟨rfl, b3⟩
    replace HX := hid (HX.out.bel b3)
    replace HB := hid (HB.out.to b3)
    clear b3
    go_wp2_with fail
    refine wp_region_held_drew (S := (fun w' => (w'.cell? ⟨X, 0, none⟩ = some (.int .i64 o) ∧ w'.cell? ⟨X, 1, none⟩ = some (.int .i64 d) ∧ w'.cell? ⟨X, 2, none⟩ = some (.int .i64 s) ∧ w'.cell? ⟨X, 3, none⟩ = some (.int .i64 f) ∧ w'.cell? ⟨X, 4, none⟩ = some (.int .i64 i) ∧ w'.cell? ⟨X, 5, none⟩ = some (.int .i64 z)))) (by kernel_rfl) (by exact Box6.cells HX.out) (fun hHeld => ?_)
    have bd : Below w3.heap.size w3 w3.drew := (Below.refl _ _).drew
    replace HX := hid (HX.out.bel bd)
    replace HB := hid (HB.out.to bd)
    clear bd
    generalize w3.drew = W1 at *
    refine wpAnyH_take (i := 0) (oi := ?oi1) (v := ?v1) (fuel := 17) ?hi1 ?hs1 ?hf1 ?hr1 ?hq1 (Or.inl ⟨?hw1, ?hy1⟩) hHeld ?rest1
    case hi1 => rw [List.getElem?_toArray]; rfl
    case hq1 => exact fun _ _ _ h => h
    case hs1 | hf1 | hr1 => kernel_rfl
    case hw1 => rfl
    case hy1 => (intro w1 hSw; (try dsimp only at hSw); go_simp; try with_reducible rfl)
    (try simp only [Act.put, List.setIfInBounds_toArray, List.set_cons_zero, List.set_cons_succ])
    refine wpAnyH_take (i := 1) (oi := ?oi2) (v := ?v2) (fuel := 16) ?hi2 ?hs2 ?hf2 ?hr2 ?hq2 (Or.inl ⟨?hw2, ?hy2⟩) hHeld ?rest2
    case hi2 => rw [List.getElem?_toArray]; rfl
    case hq2 => exact fun _ _ _ h => h
    case hs2 | hf2 | hr2 => kernel_rfl
    case hw2 => rfl
    case hy2 => (intro w1 hSw; (try dsimp only at hSw); go_simp; try with_reducible rfl)
    (try simp only [Act.put, List.setIfInBounds_toArray, List.set_cons_zero, List.set_cons_succ])
    refine wpAnyH_ready (fuel := 15) (rs := [2]) (by kernel_rfl) (by simp) ?_
    refine AllReadyH.cons (o := ?oi3) ?hi3 (fun K hK => ?st3) AllReadyH.nil
    case hi3 => rw [List.getElem?_toArray]; rfl
    go_simp
    refine (f12 o d s f i z _).mono ?_
    rw [hsn.out]
    rintro ee wr2 ⟨rfl, b9⟩
    replace HX := hid (HX.out.bel b9)
    replace HB := hid (HB.out.to b9)
    clear b9
    go_wp2_with fail
    refine hK.out _ _ ?hS3 (fun hHeld => ?re3)
    case hS3 => exact Box6.cells HX.out
    clear hK K
    (try simp only [Act.put, List.setIfInBounds_toArray, List.set_cons_zero, List.set_cons_succ])
    refine wpAnyH_take (i := 3) (oi := ?oi4) (v := .bool false) (fuel := 14) ?hi4 ?hs4 ?hf4 ?hr4 ?hq4 (Or.inl ⟨?hw4, ?hy4⟩) hHeld ?rest4
    case hi4 => rw [List.getElem?_toArray]; rfl
    case hq4 => exact fun _ _ _ h => h
    case hs4 | hf4 | hr4 => kernel_rfl
    case hw4 => rfl
    case hy4 => (intro w1 hSw; (try dsimp only at hSw); go_simp; try simp [go_sem])
    (try simp only [Act.put, List.setIfInBounds_toArray, List.set_cons_zero, List.set_cons_succ])
    refine wpAnyH_take (i := 4) (oi := ?oi5) (v := ?v5) (fuel := 13) ?hi5 ?hs5 ?hf5 ?hr5 ?hq5 (Or.inl ⟨?hw5, ?hy5⟩) hHeld ?rest5
    case hi5 => rw [List.getElem?_toArray]; rfl
    case hq5 => exact fun _ _ _ h => h
    case hs5 | hf5 | hr5 => kernel_rfl
    case hw5 => rfl
    case hy5 => (intro w1 hSw; (try dsimp only at hSw); go_simp; try with_reducible rfl)
    (try simp only [Act.put, List.setIfInBounds_toArray, List.set_cons_zero, List.set_cons_succ])
    refine wpAnyH_take (i := 5) (oi := ?oi6) (v := ?v6) (fuel := 12) ?hi6 ?hs6 ?hf6 ?hr6 ?hq6 (Or.inl ⟨?hw6, ?hy6⟩) hHeld ?rest6
    case hi6 => rw [List.getElem?_toArray]; rfl
    case hq6 => exact fun _ _ _ h => h
    case hs6 | hf6 | hr6 => kernel_rfl
    case hw6 => rfl
    case hy6 => (intro w1 hSw; (try dsimp only at hSw); go_simp; try with_reducible rfl)
    (try simp only [Act.put, List.setIfInBounds_toArray, List.set_cons_zero, List.set_cons_succ])
    refine wpAnyH_take (i := 6) (oi := ?oi7) (v := .bool false) (fuel := 11) ?hi7 ?hs7 ?hf7 ?hr7 ?hq7 (Or.inl ⟨?hw7, ?hy7⟩) hHeld ?rest7
    case hi7 => rw [List.getElem?_toArray]; rfl
    case hq7 => exact fun _ _ _ h => h
    case hs7 | hf7 | hr7 => kernel_rfl
    case hw7 => rfl
    case hy7 => (intro w1 hSw; (try dsimp only at hSw); go_simp; first | (simp [go_sem, hne, hnil]; done) | exact hnil | (simp [go_sem]; done) | skip)
    (try simp only [Act.put, List.setIfInBounds_toArray, List.set_cons_zero, List.set_cons_succ])
    refine wpAnyH_take (i := 7) (oi := ?oi8) (v := ?v8) (fuel := 10) ?hi8 ?hs8 ?hf8 ?hr8 ?hq8 (Or.inl ⟨?hw8, ?hy8⟩) hHeld ?rest8
    case hi8 => rw [List.getElem?_toArray]; rfl
    case hq8 => exact fun _ _ _ h => h
    case hs8 | hf8 | hr8 => kernel_rfl
    case hw8 => rfl
    case hy8 => (intro w1 hSw; (try dsimp only at hSw); go_simp; try with_reducible rfl)
    (try simp only [Act.put, List.setIfInBounds_toArray, List.set_cons_zero, List.set_cons_succ])
    refine wpAnyH_ready (fuel := 9) (rs := [8]) (by kernel_rfl) (by simp) ?_
    refine AllReadyH.cons (o := ?oi9) ?hi9 (fun K hK => ?st9) AllReadyH.nil
    case hi9 => rw [List.getElem?_toArray]; rfl
    go_simp
    refine (f11 o d s f i z _).mono ?_
    rw [hok2]
    rintro ee wr8 ⟨rfl, b9⟩
    replace HX := hid (HX.out.bel b9)
    replace HB := hid (HB.out.to b9)
    clear b9
    go_wp2_with fail
    refine hK.out _ _ ?hS9 (fun hHeld => ?re9)
    case hS9 => exact Box6.cells HX.out
    clear hK K
    (try simp only [Act.put, List.setIfInBounds_toArray, List.set_cons_zero, List.set_cons_succ])
    refine wpAnyH_take (i := 9) (oi := ?oi10) (v := .bool false) (fuel := 8) ?hi10 ?hs10 ?hf10 ?hr10 ?hq10 (Or.inl ⟨?hw10, ?hy10⟩) hHeld ?rest10
    case hi10 => rw [List.getElem?_toArray]; rfl
    case hq10 => exact fun _ _ _ h => h
    case hs10 | hf10 | hr10 => kernel_rfl
    case hw10 => rfl
    case hy10 => (intro w1 hSw; (try dsimp only at hSw); go_simp; try simp [go_sem])
    (try simp only [Act.put, List.setIfInBounds_toArray, List.set_cons_zero, List.set_cons_succ])
    refine wpAnyH_take (i := 10) (oi := ?oi11) (v := ?v11) (fuel := 7) ?hi11 ?hs11 ?hf11 ?hr11 ?hq11 (Or.inl ⟨?hw11, ?hy11⟩) hHeld ?rest11
    case hi11 => rw [List.getElem?_toArray]; rfl
    case hq11 => exact fun _ _ _ h => h
    case hs11 | hf11 | hr11 => kernel_rfl
    case hw11 => rfl
    case hy11 => (intro w1 hSw; (try dsimp only at hSw); go_simp; try with_reducible rfl)
    (try simp only [Act.put, List.setIfInBounds_toArray, List.set_cons_zero, List.set_cons_succ])
    refine wpAnyH_take (i := 11) (oi := ?oi12) (v := ?v12) (fuel := 6) ?hi12 ?hs12 ?hf12 ?hr12 ?hq12 (Or.inl ⟨?hw12, ?hy12⟩) hHeld ?rest12
    case hi12 => rw [List.getElem?_toArray]; rfl
    case hq12 => exact fun _ _ _ h => h
    case hs12 | hf12 | hr12 => kernel_rfl
    case hw12 => rfl
    case hy12 => (intro w1 hSw; (try dsimp only at hSw); go_simp; try with_reducible rfl)
    (try simp only [Act.put, List.setIfInBounds_toArray, List.set_cons_zero, List.set_cons_succ])
    refine wpAnyH_take (i := 12) (oi := ?oi13) (v := ?v13) (fuel := 5) ?hi13 ?hs13 ?hf13 ?hr13 ?hq13 (Or.inl ⟨?hw13, ?hy13⟩) hHeld ?rest13
    case hi13 => rw [List.getElem?_toArray]; rfl
    case hq13 => exact fun _ _ _ h => h
    case hs13 | hf13 | hr13 => kernel_rfl
    case hw13 => rfl
    case hy13 => (intro w1 hSw; (try dsimp only at hSw); go_simp; try with_reducible rfl)
    (try simp only [Act.put, List.setIfInBounds_toArray, List.set_cons_zero, List.set_cons_succ])
    refine wpAnyH_take (i := 14) (oi := ?oi14) (v := ?v14) (fuel := 4) ?hi14 ?hs14 ?hf14 ?hr14 ?hq14 (Or.inl ⟨?hw14, ?hy14⟩) hHeld ?rest14
    case hi14 => rw [List.getElem?_toArray]; rfl
    case hq14 => exact fun _ _ _ h => h
    case hs14 | hf14 | hr14 => kernel_rfl
    case hw14 => rfl
    case hy14 => (intro w1 hSw; (try dsimp only at hSw); go_simp; try with_reducible rfl)
    (try simp only [Act.put, List.setIfInBounds_toArray, List.set_cons_zero, List.set_cons_succ])
    refine wpAnyH_ready (fuel := 3) (rs := [13]) (by kernel_rfl) (by simp) ?_
    refine AllReadyH.cons (o := ?oi15) ?hi15 (fun K hK => ?st15) AllReadyH.nil
    case hi15 => rw [List.getElem?_toArray]; rfl
    go_simp
    refine (f11 o d s f i z _).mono ?_
    rw [hok2]
    rintro ee wr13 ⟨rfl, b9⟩
    replace HX := hid (HX.out.bel b9)
    replace HB := hid (HB.out.to b9)
    clear b9
    go_wp2_with fail
    refine hK.out _ _ ?hS15 (fun hHeld => ?re15)
    case hS15 => exact Box6.cells HX.out
    clear hK K
    (try simp only [Act.put, List.setIfInBounds_toArray, List.set_cons_zero, List.set_cons_succ])
    refine wpAnyH_ready (fuel := 2) (rs := [15]) (by kernel_rfl) (by simp) ?_
    refine AllReadyH.cons (o := ?oi16) ?hi16 (fun K hK => ?st16) AllReadyH.nil
    case hi16 => rw [List.getElem?_toArray]; rfl
    go_simp
    refine (f9 o d s f i z _).mono ?_
    rw [hok]
    rintro ee wr15 ⟨rfl, b9⟩
    replace HX := hid (HX.out.bel b9)
    replace HB := hid (HB.out.to b9)
    clear b9
    go_wp2_with fail
    refine hK.out _ _ ?hS16 (fun hHeld => ?re16)
    case hS16 => exact Box6.cells HX.out
    clear hK K
    (try simp only [Act.put, List.setIfInBounds_toArray, List.set_cons_zero, List.set_cons_succ])
    refine wpAnyH_take (i := 16) (oi := ?oi17) (v := .bool false) (fuel := 1) ?hi17 ?hs17 ?hf17 ?hr17 ?hq17 (Or.inl ⟨?hw17, ?hy17⟩) hHeld ?rest17
    case hi17 => rw [List.getElem?_toArray]; rfl
    case hq17 => exact fun _ _ _ h => h
    case hs17 | hf17 | hr17 => kernel_rfl
    case hw17 => rfl
    case hy17 => (intro w1 hSw; (try dsimp only at hSw); go_simp; try simp [go_sem])
    (try simp only [Act.put, List.setIfInBounds_toArray, List.set_cons_zero, List.set_cons_succ])
    refine wpAnyH_take (i := 17) (oi := ?oi18) (v := ?v18) (fuel := 0) ?hi18 ?hs18 ?hf18 ?hr18 ?hq18 (Or.inl ⟨?hw18, ?hy18⟩) hHeld ?rest18
    case hi18 => rw [List.getElem?_toArray]; rfl
    case hq18 => exact fun _ _ _ h => h
    case hs18 | hf18 | hr18 => kernel_rfl
    case hw18 => rfl
    case hy18 => (intro w1 hSw; (try dsimp only at hSw); go_simp; try with_reducible rfl)
    (try simp only [Act.put, List.setIfInBounds_toArray, List.set_cons_zero, List.set_cons_succ])
    refine wpAnyH_done (by kernel_rfl) ?_ _
    clear hHeld
    generalize wr15 = w4 at *
    go_wp2_with fail
    obtain ⟨y, hy, -, hi⟩ | ⟨-, -, hi⟩ := get_cases (⟨#[]⟩ : ByteArray)
    case inl => cases hy
    refine (hi _).mono ?_
    clear hi
    rintro e w5 ⟨rfl, b5⟩
    replace HX := hid (HX.out.bel b5)
    replace HB := hid (HB.out.to b5)
    clear b5
    obtain ⟨x0, x1, x2, x3, x4, x5⟩ := Box6.cells HX.out
    have xl := Box6.lt HX.out
    go_wp2_with fail
    all_goals go_ret
    all_goals exact ⟨by simp_all, by first | exact HB.out | exact HB.out.alloc HB.out.size _⟩
  · skip
    have hsn : Hid (insS o d s f i z = (putS o d s f i z)) := by show _ = _; simp [insS, hok]
    have hok2 : insOkB o d s f i z = true := by rw [ok_same]; exact hok
    have hne := putS_ne o d s f i z
    have hnil := putS_nil o d s f i z
    obtain ⟨x0, x1, x2, x3, x4, x5⟩ := Box6.cells HX.out
    have xl := Box6.lt HX.out
    go_wp2_with fail
    clear x0 x1 x2 x3 x4 x5 xl
    refine (f13 o d s f i z _).mono ?_
    rw [hsn.out]
    rintro e w3 ⟨rfl, b3⟩
    replace HX := hid (HX.out.bel b3)
    replace HB := hid (HB.out.to b3)
    clear b3
    go_wp2_with fail
    refine wp_region_held_drew (S := (fun w' => (w'.cell? ⟨X, 0, none⟩ = some (.int .i64 o) ∧ w'.cell? ⟨X, 1, none⟩ = some (.int .i64 d) ∧ w'.cell? ⟨X, 2, none⟩ = some (.int .i64 s) ∧ w'.cell? ⟨X, 3, none⟩ = some (.int .i64 f) ∧ w'.cell? ⟨X, 4, none⟩ = some (.int .i64 i) ∧ w'.cell? ⟨X, 5, none⟩ = some (.int .i64 z)))) (by kernel_rfl) (by exact Box6.cells HX.out) (fun hHeld => ?_)
    have bd : Below w3.heap.size w3 w3.drew := (Below.refl _ _).drew
    replace HX := hid (HX.out.bel bd)
    replace HB := hid (HB.out.to bd)
    clear bd
    generalize w3.drew = W1 at *
    refine wpAnyH_take (i := 0) (oi := ?oi19) (v := ?v19) (fuel := 17) ?hi19 ?hs19 ?hf19 ?hr19 ?hq19 (Or.inl ⟨?hw19, ?hy19⟩) hHeld ?rest19
    case hi19 => rw [List.getElem?_toArray]; rfl
    case hq19 => exact fun _ _ _ h => h
    case hs19 | hf19 | hr19 => kernel_rfl
    case hw19 => rfl
    case hy19 => (intro w1 hSw; (try dsimp only at hSw); go_simp; try with_reducible rfl)
    (try simp only [Act.put, List.setIfInBounds_toArray, List.set_cons_zero, List.set_cons_succ])
    refine wpAnyH_take (i := 1) (oi := ?oi20) (v := ?v20) (fuel := 16) ?hi20 ?hs20 ?hf20 ?hr20 ?hq20 (Or.inl ⟨?hw20, ?hy20⟩) hHeld ?rest20
    case hi20 => rw [List.getElem?_toArray]; rfl
    case hq20 => exact fun _ _ _ h => h
    case hs20 | hf20 | hr20 => kernel_rfl
    case hw20 => rfl
    case hy20 => (intro w1 hSw; (try dsimp only at hSw); go_simp; try with_reducible rfl)
    (try simp only [Act.put, List.setIfInBounds_toArray, List.set_cons_zero, List.set_cons_succ])
    refine wpAnyH_ready (fuel := 15) (rs := [2]) (by kernel_rfl) (by simp) ?_
    refine AllReadyH.cons (o := ?oi21) ?hi21 (fun K hK => ?st21) AllReadyH.nil
    case hi21 => rw [List.getElem?_toArray]; rfl
    go_simp
    refine (f12 o d s f i z _).mono ?_
    rw [hsn.out]
    rintro ee wr2 ⟨rfl, b9⟩
    replace HX := hid (HX.out.bel b9)
    replace HB := hid (HB.out.to b9)
    clear b9
    go_wp2_with fail
    refine hK.out _ _ ?hS21 (fun hHeld => ?re21)
    case hS21 => exact Box6.cells HX.out
    clear hK K
    (try simp only [Act.put, List.setIfInBounds_toArray, List.set_cons_zero, List.set_cons_succ])
    refine wpAnyH_take (i := 3) (oi := ?oi22) (v := .bool false) (fuel := 14) ?hi22 ?hs22 ?hf22 ?hr22 ?hq22 (Or.inl ⟨?hw22, ?hy22⟩) hHeld ?rest22
    case hi22 => rw [List.getElem?_toArray]; rfl
    case hq22 => exact fun _ _ _ h => h
    case hs22 | hf22 | hr22 => kernel_rfl
    case hw22 => rfl
    case hy22 => (intro w1 hSw; (try dsimp only at hSw); go_simp; try simp [go_sem])
    (try simp only [Act.put, List.setIfInBounds_toArray, List.set_cons_zero, List.set_cons_succ])
    refine wpAnyH_take (i := 4) (oi := ?oi23) (v := ?v23) (fuel := 13) ?hi23 ?hs23 ?hf23 ?hr23 ?hq23 (Or.inl ⟨?hw23, ?hy23⟩) hHeld ?rest23
    case hi23 => rw [List.getElem?_toArray]; rfl
    case hq23 => exact fun _ _ _ h => h
    case hs23 | hf23 | hr23 => kernel_rfl
    case hw23 => rfl
    case hy23 => (intro w1 hSw; (try dsimp only at hSw); go_simp; try with_reducible rfl)
    (try simp only [Act.put, List.setIfInBounds_toArray, List.set_cons_zero, List.set_cons_succ])
    refine wpAnyH_take (i := 5) (oi := ?oi24) (v := ?v24) (fuel := 12) ?hi24 ?hs24 ?hf24 ?hr24 ?hq24 (Or.inl ⟨?hw24, ?hy24⟩) hHeld ?rest24
    case hi24 => rw [List.getElem?_toArray]; rfl
    case hq24 => exact fun _ _ _ h => h
    case hs24 | hf24 | hr24 => kernel_rfl
    case hw24 => rfl
    case hy24 => (intro w1 hSw; (try dsimp only at hSw); go_simp; try with_reducible rfl)
    (try simp only [Act.put, List.setIfInBounds_toArray, List.set_cons_zero, List.set_cons_succ])
    refine wpAnyH_take (i := 6) (oi := ?oi25) (v := .bool true) (fuel := 11) ?hi25 ?hs25 ?hf25 ?hr25 ?hq25 (Or.inl ⟨?hw25, ?hy25⟩) hHeld ?rest25
    case hi25 => rw [List.getElem?_toArray]; rfl
    case hq25 => exact fun _ _ _ h => h
    case hs25 | hf25 | hr25 => kernel_rfl
    case hw25 => rfl
    case hy25 => (intro w1 hSw; (try dsimp only at hSw); go_simp; first | (simp [go_sem, hne, hnil]; done) | exact hnil | (simp [go_sem]; done) | skip)
    (try simp only [Act.put, List.setIfInBounds_toArray, List.set_cons_zero, List.set_cons_succ])
    refine wpAnyH_take (i := 7) (oi := ?oi26) (v := ?v26) (fuel := 10) ?hi26 ?hs26 ?hf26 ?hr26 ?hq26 (Or.inl ⟨?hw26, ?hy26⟩) hHeld ?rest26
    case hi26 => rw [List.getElem?_toArray]; rfl
    case hq26 => exact fun _ _ _ h => h
    case hs26 | hf26 | hr26 => kernel_rfl
    case hw26 => rfl
    case hy26 => (intro w1 hSw; (try dsimp only at hSw); go_simp; try with_reducible rfl)
    (try simp only [Act.put, List.setIfInBounds_toArray, List.set_cons_zero, List.set_cons_succ])
    refine wpAnyH_ready (fuel := 9) (rs := [8]) (by kernel_rfl) (by simp) ?_
    refine AllReadyH.cons (o := ?oi27) ?hi27 (fun K hK => ?st27) AllReadyH.nil
    case hi27 => rw [List.getElem?_toArray]; rfl
    go_simp
    refine (f11 o d s f i z _).mono ?_
    rw [hok2]
    rintro ee wr8 ⟨rfl, b9⟩
    replace HX := hid (HX.out.bel b9)
    replace HB := hid (HB.out.to b9)
    clear b9
    go_wp2_with fail
    refine hK.out _ _ ?hS27 (fun hHeld => ?re27)
    case hS27 => exact Box6.cells HX.out
    clear hK K
    (try simp only [Act.put, List.setIfInBounds_toArray, List.set_cons_zero, List.set_cons_succ])
    refine wpAnyH_take (i := 9) (oi := ?oi28) (v := .bool false) (fuel := 8) ?hi28 ?hs28 ?hf28 ?hr28 ?hq28 (Or.inl ⟨?hw28, ?hy28⟩) hHeld ?rest28
    case hi28 => rw [List.getElem?_toArray]; rfl
    case hq28 => exact fun _ _ _ h => h
    case hs28 | hf28 | hr28 => kernel_rfl
    case hw28 => rfl
    case hy28 => (intro w1 hSw; (try dsimp only at hSw); go_simp; try simp [go_sem])
    (try simp only [Act.put, List.setIfInBounds_toArray, List.set_cons_zero, List.set_cons_succ])
    refine wpAnyH_take (i := 10) (oi := ?oi29) (v := ?v29) (fuel := 7) ?hi29 ?hs29 ?hf29 ?hr29 ?hq29 (Or.inl ⟨?hw29, ?hy29⟩) hHeld ?rest29
    case hi29 => rw [List.getElem?_toArray]; rfl
    case hq29 => exact fun _ _ _ h => h
    case hs29 | hf29 | hr29 => kernel_rfl
    case hw29 => rfl
    case hy29 => (intro w1 hSw; (try dsimp only at hSw); go_simp; try with_reducible rfl)
    (try simp only [Act.put, List.setIfInBounds_toArray, List.set_cons_zero, List.set_cons_succ])
    refine wpAnyH_take (i := 11) (oi := ?oi30) (v := ?v30) (fuel := 6) ?hi30 ?hs30 ?hf30 ?hr30 ?hq30 (Or.inl ⟨?hw30, ?hy30⟩) hHeld ?rest30
    case hi30 => rw [List.getElem?_toArray]; rfl
    case hq30 => exact fun _ _ _ h => h
    case hs30 | hf30 | hr30 => kernel_rfl
    case hw30 => rfl
    case hy30 => (intro w1 hSw; (try dsimp only at hSw); go_simp; try with_reducible rfl)
    (try simp only [Act.put, List.setIfInBounds_toArray, List.set_cons_zero, List.set_cons_succ])
    refine wpAnyH_take (i := 12) (oi := ?oi31) (v := ?v31) (fuel := 5) ?hi31 ?hs31 ?hf31 ?hr31 ?hq31 (Or.inl ⟨?hw31, ?hy31⟩) hHeld ?rest31
    case hi31 => rw [List.getElem?_toArray]; rfl
    case hq31 => exact fun _ _ _ h => h
    case hs31 | hf31 | hr31 => kernel_rfl
    case hw31 => rfl
    case hy31 => (intro w1 hSw; (try dsimp only at hSw); go_simp; try with_reducible rfl)
    (try simp only [Act.put, List.setIfInBounds_toArray, List.set_cons_zero, List.set_cons_succ])
    refine wpAnyH_take (i := 14) (oi := ?oi32) (v := ?v32) (fuel := 4) ?hi32 ?hs32 ?hf32 ?hr32 ?hq32 (Or.inl ⟨?hw32, ?hy32⟩) hHeld ?rest32
    case hi32 => rw [List.getElem?_toArray]; rfl
    case hq32 => exact fun _ _ _ h => h
    case hs32 | hf32 | hr32 => kernel_rfl
    case hw32 => rfl
    case hy32 => (intro w1 hSw; (try dsimp only at hSw); go_simp; try with_reducible rfl)
    (try simp only [Act.put, List.setIfInBounds_toArray, List.set_cons_zero, List.set_cons_succ])
    refine wpAnyH_ready (fuel := 3) (rs := [13]) (by kernel_rfl) (by simp) ?_
    refine AllReadyH.cons (o := ?oi33) ?hi33 (fun K hK => ?st33) AllReadyH.nil
    case hi33 => rw [List.getElem?_toArray]; rfl
    go_simp
    refine (f11 o d s f i z _).mono ?_
    rw [hok2]
    rintro ee wr13 ⟨rfl, b9⟩
    replace HX := hid (HX.out.bel b9)
    replace HB := hid (HB.out.to b9)
    clear b9
    go_wp2_with fail
    refine hK.out _ _ ?hS33 (fun hHeld => ?re33)
    case hS33 => exact Box6.cells HX.out
    clear hK K
    (try simp only [Act.put, List.setIfInBounds_toArray, List.set_cons_zero, List.set_cons_succ])
    refine wpAnyH_ready (fuel := 2) (rs := [15]) (by kernel_rfl) (by simp) ?_
    refine AllReadyH.cons (o := ?oi34) ?hi34 (fun K hK => ?st34) AllReadyH.nil
    case hi34 => rw [List.getElem?_toArray]; rfl
    go_simp
    refine (f9 o d s f i z _).mono ?_
    rw [hok]
    rintro ee wr15 ⟨rfl, b9⟩
    replace HX := hid (HX.out.bel b9)
    replace HB := hid (HB.out.to b9)
    clear b9
    go_wp2_with fail
    refine hK.out _ _ ?hS34 (fun hHeld => ?re34)
    case hS34 => exact Box6.cells HX.out
    clear hK K
    (try simp only [Act.put, List.setIfInBounds_toArray, List.set_cons_zero, List.set_cons_succ])
    refine wpAnyH_take (i := 16) (oi := ?oi35) (v := .bool false) (fuel := 1) ?hi35 ?hs35 ?hf35 ?hr35 ?hq35 (Or.inl ⟨?hw35, ?hy35⟩) hHeld ?rest35
    case hi35 => rw [List.getElem?_toArray]; rfl
    case hq35 => exact fun _ _ _ h => h
    case hs35 | hf35 | hr35 => kernel_rfl
    case hw35 => rfl
    case hy35 => (intro w1 hSw; (try dsimp only at hSw); go_simp; try simp [go_sem])
    (try simp only [Act.put, List.setIfInBounds_toArray, List.set_cons_zero, List.set_cons_succ])
    refine wpAnyH_take (i := 17) (oi := ?oi36) (v := ?v36) (fuel := 0) ?hi36 ?hs36 ?hf36 ?hr36 ?hq36 (Or.inl ⟨?hw36, ?hy36⟩) hHeld ?rest36
    case hi36 => rw [List.getElem?_toArray]; rfl
    case hq36 => exact fun _ _ _ h => h
    case hs36 | hf36 | hr36 => kernel_rfl
    case hw36 => rfl
    case hy36 => (intro w1 hSw; (try dsimp only at hSw); go_simp; try with_reducible rfl)
    (try simp only [Act.put, List.setIfInBounds_toArray, List.set_cons_zero, List.set_cons_succ])
    refine wpAnyH_done (by kernel_rfl) ?_ _
    clear hHeld
    generalize wr15 = w4 at *
    go_wp2_with fail
    have hg := get_put hok
    obtain ⟨y, hy, -, hi⟩ | ⟨hn, -, -⟩ := get_cases (putS o d s f i z)
    case inr => rw [hg] at hn; cases hn
    obtain rfl : (⟨o, d, s, f, i, z⟩ : I6) = y := by rw [hg] at hy; simpa using hy
    clear hy hg
    refine (hi _).mono ?_
    clear hi
    rintro e w5 ⟨rfl, b5⟩
    replace HX := hid (HX.out.bel b5)
    replace HB := hid (HB.out.to b5)
    clear b5
    obtain ⟨x0, x1, x2, x3, x4, x5⟩ := Box6.cells HX.out
    have xl := Box6.lt HX.out
    have hsz := putS_size o d s f i z
    go_wp2_with fail
    all_goals go_ret
    all_goals exact ⟨by simp_all, by first | exact HB.out | exact HB.out.alloc HB.out.size _⟩
end Go.Proofs.Ythholhabgdpndaa
