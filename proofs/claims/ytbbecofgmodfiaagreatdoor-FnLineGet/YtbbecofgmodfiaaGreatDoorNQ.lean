/- Lines of the program, op by op. -/
import Derived.Test.YtbbecofgmodfiaaGreatDoorNP
namespace Go.Proofs.YtbbecofgmodfiaaGreatDoor.G
open Go.RowKit
set_option linter.unusedVariables false
set_option linter.unusedSimpArgs false

set_option maxRecDepth 100000 in
set_option maxHeartbeats 4000000 in
theorem put_dx (on : Nat) (d s f i z : Int) (w : World) (hT : Tabs w) (hok : insOkB (on : Int) d s f i z = true) (hd0 : 0 ≤ d) (hd1 : d ≤ 10) (hs0 : -1 ≤ s) (hs1 : s ≤ 10) (hf0 : -128 ≤ f) (hf1 : f ≤ 127) (hi0 : 0 ≤ i) (hi1 : i ≤ 4294967295) (hon : on < 21) (hr : reachesB (on : Int) = false) (hps : partsS (on : Int) = ⟨#[100, 120]⟩)  :
    Calls Tryz.prog 6 #[.agg #[.int .i64 (on : Int), .int .i64 d, .int .i64 s, .int .i64 f, .int .i64 i, .int .i64 z]] w fun e w' => AnE 200 (((wordsL.getD on ⟨#[]⟩) ++ (SP_ ++ ((⟨#[114]⟩ : ByteArray) ++ decI d))) ++ (SP_ ++ regI s i)) e ∧ Below w.heap.size w w' := by
  have HT := hid hT
  have HPS := hid hps
  clear hT hps
  go_enter Tryz.func6, Tryz.ntmps6
  go_wp2_with fail
  have hb : Box6 (w.alloc (.cells #[.int .i64 (on : Int), .int .i64 d, .int .i64 s, .int .i64 f, .int .i64 i, .int .i64 z] 24)) w.heap.size (on : Int) d s f i z := World.alloc_heap_new w _
  have hz : Below w.heap.size w (w.alloc (.cells #[.int .i64 (on : Int), .int .i64 d, .int .i64 s, .int .i64 f, .int .i64 i, .int .i64 z] 24)) := (Below.refl _ _).alloc (Nat.le_refl _) _
  have HB := hid hb
  have HZ := hid hz
  clear hb hz
  generalize w.alloc (.cells #[.int .i64 (on : Int), .int .i64 d, .int .i64 s, .int .i64 f, .int .i64 i, .int .i64 z] 24) = w1 at *
  obtain ⟨B, hB⟩ : ∃ B, B = w.heap.size := ⟨_, rfl⟩
  have HBE := hid hB
  rw [← hB] at HB ⊢
  clear hB
  refine (f11 _ _ _ _ _ _ _).mono ?_
  rintro e w2 ⟨rfl, b2⟩
  replace HB := hid (HB.out.bel b2)
  replace HZ := hid (HZ.out.to b2)
  clear b2
  rw [hok]
  obtain ⟨c0, c1, c2, c3, c4, c5⟩ := Box6.cells HB.out
  have lB := Box6.lt HB.out
  go_wp2_with fail
  clear c0 c1 c2 c3 c4 c5 lB
  refine (first_0 on z hon hr _ (HT.out.below HZ.out)).mono ?_
  rintro e w3 ⟨⟨l0, hl0, hl0e, rfl⟩, b3⟩
  replace HB := hid (HB.out.bel b3)
  replace HZ := hid (HZ.out.to b3)
  clear b3
  obtain ⟨c0, c1, c2, c3, c4, c5⟩ := Box6.cells HB.out
  have lB := Box6.lt HB.out
  go_wp2_with fail
  clear c0 c1 c2 c3 c4 c5 lB
  refine (parts_w _ _).mono ?_
  rintro e w' ⟨rfl, hw⟩
  rw [hw]
  clear hw w'
  rw [HPS.out]
  go_wp2_with fail
  refine wp_loop_rounds 3 ?_
  rw [rounds_succ]
  obtain ⟨c0, c1, c2, c3, c4, c5⟩ := Box6.cells HB.out
  have lB := Box6.lt HB.out
  go_wp2_with fail
  clear c0 c1 c2 c3 c4 c5 lB
  refine wp_region_held_drew (S := (fun w' => w'.cell? ⟨B, 0, none⟩ = some (.int .i64 (on : Int)) ∧ w'.cell? ⟨B, 1, none⟩ = some (.int .i64 d) ∧ w'.cell? ⟨B, 2, none⟩ = some (.int .i64 s) ∧ w'.cell? ⟨B, 3, none⟩ = some (.int .i64 f) ∧ w'.cell? ⟨B, 4, none⟩ = some (.int .i64 i) ∧ w'.cell? ⟨B, 5, none⟩ = some (.int .i64 z))) (by kernel_rfl) (by exact Box6.cells HB.out) (fun hHeld => ?_)
  have hbd : Below w3.heap.size w3 w3.drew := (Below.refl _ _).drew
  replace HB := hid (HB.out.bel hbd)
  replace HZ := hid (HZ.out.to hbd)
  clear hbd
  generalize w3.drew = W1 at *
  refine wpAnyH_take (i := 0) (oi := ?oi1) (v := ?v1) (fuel := 8) ?hi1 ?hs1 ?hf1 ?hr1 ?hq1 (Or.inl ⟨?hw1, ?hy1⟩) hHeld ?rest1
  case hi1 => rw [List.getElem?_toArray]; rfl
  case hq1 => exact fun _ _ _ h => h
  case hs1 | hf1 | hr1 => kernel_rfl
  case hw1 => rfl
  case hy1 => (intro w1 hSw; (try dsimp only at hSw); go_simp; try with_reducible rfl)
  (try simp only [Act.put, List.setIfInBounds_toArray, List.set_cons_zero, List.set_cons_succ])
  refine wpAnyH_take (i := 1) (oi := ?oi2) (v := ?v2) (fuel := 7) ?hi2 ?hs2 ?hf2 ?hr2 ?hq2 (Or.inl ⟨?hw2, ?hy2⟩) hHeld ?rest2
  case hi2 => rw [List.getElem?_toArray]; rfl
  case hq2 => exact fun _ _ _ h => h
  case hs2 | hf2 | hr2 => kernel_rfl
  case hw2 => rfl
  case hy2 => (intro w1 hSw; (try dsimp only at hSw); go_simp; try with_reducible rfl)
  (try simp only [Act.put, List.setIfInBounds_toArray, List.set_cons_zero, List.set_cons_succ])
  refine wpAnyH_take (i := 2) (oi := ?oi3) (v := ?v3) (fuel := 6) ?hi3 ?hs3 ?hf3 ?hr3 ?hq3 (Or.inl ⟨?hw3, ?hy3⟩) hHeld ?rest3
  case hi3 => rw [List.getElem?_toArray]; rfl
  case hq3 => exact fun _ _ _ h => h
  case hs3 | hf3 | hr3 => kernel_rfl
  case hw3 => rfl
  case hy3 => (intro w1 hSw; (try dsimp only at hSw); go_simp; try with_reducible rfl)
  (try simp only [Act.put, List.setIfInBounds_toArray, List.set_cons_zero, List.set_cons_succ])
  refine wpAnyH_take (i := 3) (oi := ?oi4) (v := ?v4) (fuel := 5) ?hi4 ?hs4 ?hf4 ?hr4 ?hq4 (Or.inl ⟨?hw4, ?hy4⟩) hHeld ?rest4
  case hi4 => rw [List.getElem?_toArray]; rfl
  case hq4 => exact fun _ _ _ h => h
  case hs4 | hf4 | hr4 => kernel_rfl
  case hw4 => rfl
  case hy4 => (intro w1 hSw; (try dsimp only at hSw); go_simp; try with_reducible rfl)
  (try simp only [Act.put, List.setIfInBounds_toArray, List.set_cons_zero, List.set_cons_succ])
  refine wpAnyH_take (i := 4) (oi := ?oi5) (v := ?v5) (fuel := 4) ?hi5 ?hs5 ?hf5 ?hr5 ?hq5 (Or.inl ⟨?hw5, ?hy5⟩) hHeld ?rest5
  case hi5 => rw [List.getElem?_toArray]; rfl
  case hq5 => exact fun _ _ _ h => h
  case hs5 | hf5 | hr5 => kernel_rfl
  case hw5 => rfl
  case hy5 => (intro w1 hSw; (try dsimp only at hSw); go_simp; try with_reducible rfl)
  (try simp only [Act.put, List.setIfInBounds_toArray, List.set_cons_zero, List.set_cons_succ])
  refine wpAnyH_ready (fuel := 3) (rs := [5]) (by kernel_rfl) (by simp) ?_
  refine AllReadyH.cons (o := ?oi6) ?hi6 (fun K hK => ?st6) AllReadyH.nil
  case hi6 => rw [List.getElem?_toArray]; rfl
  go_simp
  refine (part_d _ _ _ _ _ _ hd0 hd1 _ (HT.out.below HZ.out)).mono ?_
  rintro ee wr ⟨⟨x0, hx0, hx0e, rfl⟩, bq⟩
  replace HB := hid (HB.out.bel bq)
  replace HZ := hid (HZ.out.to bq)
  clear bq
  go_wp2_with fail
  refine hK.out _ _ ?hS6 (fun hHeld => ?re6)
  case hS6 => exact Box6.cells HB.out
  clear hK K
  (try simp only [Act.put, List.setIfInBounds_toArray, List.set_cons_zero, List.set_cons_succ])
  refine wpAnyH_take (i := 6) (oi := ?oi7) (v := .string ((⟨#[32]⟩ : ByteArray) ++ x0)) (fuel := 2) ?hi7 ?hs7 ?hf7 ?hr7 ?hq7 (Or.inl ⟨?hw7, ?hy7⟩) hHeld ?rest7
  case hi7 => rw [List.getElem?_toArray]; rfl
  case hq7 => exact fun _ _ _ h => h
  case hs7 | hf7 | hr7 => kernel_rfl
  case hw7 => rfl
  case hy7 => (intro w1 hSw; (try dsimp only at hSw); go_simp; first | rfl | omega)
  (try simp only [Act.put, List.setIfInBounds_toArray, List.set_cons_zero, List.set_cons_succ])
  refine wpAnyH_take (i := 7) (oi := ?oi8) (v := .string (l0 ++ ((⟨#[32]⟩ : ByteArray) ++ x0))) (fuel := 1) ?hi8 ?hs8 ?hf8 ?hr8 ?hq8 (Or.inl ⟨?hw8, ?hy8⟩) hHeld ?rest8
  case hi8 => rw [List.getElem?_toArray]; rfl
  case hq8 => exact fun _ _ _ h => h
  case hs8 | hf8 | hr8 => kernel_rfl
  case hw8 => rfl
  case hy8 => (intro w1 hSw; (try dsimp only at hSw); go_simp; first | rfl | omega)
  (try simp only [Act.put, List.setIfInBounds_toArray, List.set_cons_zero, List.set_cons_succ])
  refine wpAnyH_take (i := 8) (oi := ?oi9) (v := ?v9) (fuel := 0) ?hi9 ?hs9 ?hf9 ?hr9 ?hq9 (Or.inl ⟨?hw9, ?hy9⟩) hHeld ?rest9
  case hi9 => rw [List.getElem?_toArray]; rfl
  case hq9 => exact fun _ _ _ h => h
  case hs9 | hf9 | hr9 => kernel_rfl
  case hw9 => rfl
  case hy9 => (intro w1 hSw; (try dsimp only at hSw); go_simp; try with_reducible rfl)
  (try simp only [Act.put, List.setIfInBounds_toArray, List.set_cons_zero, List.set_cons_succ])
  refine wpAnyH_done (by kernel_rfl) ?_ _
  clear hHeld
  generalize wr = w4 at *
  obtain ⟨l1, hl1e⟩ : ∃ y, y = l0 ++ ((⟨#[32]⟩ : ByteArray) ++ x0) := ⟨_, rfl⟩
  have hl1 : l1.size ≤ 47 := by rw [hl1e, ByteArray.size_append, ByteArray.size_append]; show l0.size + (1 + x0.size) ≤ _; omega
  rw [← hl1e]
  replace hl1e := hid hl1e
  go_wp2_with fail
  rw [rounds_succ]
  obtain ⟨c0, c1, c2, c3, c4, c5⟩ := Box6.cells HB.out
  have lB := Box6.lt HB.out
  go_wp2_with fail
  clear c0 c1 c2 c3 c4 c5 lB
  refine wp_region_held_drew (S := (fun w' => w'.cell? ⟨B, 0, none⟩ = some (.int .i64 (on : Int)) ∧ w'.cell? ⟨B, 1, none⟩ = some (.int .i64 d) ∧ w'.cell? ⟨B, 2, none⟩ = some (.int .i64 s) ∧ w'.cell? ⟨B, 3, none⟩ = some (.int .i64 f) ∧ w'.cell? ⟨B, 4, none⟩ = some (.int .i64 i) ∧ w'.cell? ⟨B, 5, none⟩ = some (.int .i64 z))) (by kernel_rfl) (by exact Box6.cells HB.out) (fun hHeld => ?_)
  have hbd : Below w4.heap.size w4 w4.drew := (Below.refl _ _).drew
  replace HB := hid (HB.out.bel hbd)
  replace HZ := hid (HZ.out.to hbd)
  clear hbd
  generalize w4.drew = W1 at *
  refine wpAnyH_take (i := 0) (oi := ?oi10) (v := ?v10) (fuel := 8) ?hi10 ?hs10 ?hf10 ?hr10 ?hq10 (Or.inl ⟨?hw10, ?hy10⟩) hHeld ?rest10
  case hi10 => rw [List.getElem?_toArray]; rfl
  case hq10 => exact fun _ _ _ h => h
  case hs10 | hf10 | hr10 => kernel_rfl
  case hw10 => rfl
  case hy10 => (intro w1 hSw; (try dsimp only at hSw); go_simp; try with_reducible rfl)
  (try simp only [Act.put, List.setIfInBounds_toArray, List.set_cons_zero, List.set_cons_succ])
  refine wpAnyH_take (i := 1) (oi := ?oi11) (v := ?v11) (fuel := 7) ?hi11 ?hs11 ?hf11 ?hr11 ?hq11 (Or.inl ⟨?hw11, ?hy11⟩) hHeld ?rest11
  case hi11 => rw [List.getElem?_toArray]; rfl
  case hq11 => exact fun _ _ _ h => h
  case hs11 | hf11 | hr11 => kernel_rfl
  case hw11 => rfl
  case hy11 => (intro w1 hSw; (try dsimp only at hSw); go_simp; try with_reducible rfl)
  (try simp only [Act.put, List.setIfInBounds_toArray, List.set_cons_zero, List.set_cons_succ])
  refine wpAnyH_take (i := 2) (oi := ?oi12) (v := ?v12) (fuel := 6) ?hi12 ?hs12 ?hf12 ?hr12 ?hq12 (Or.inl ⟨?hw12, ?hy12⟩) hHeld ?rest12
  case hi12 => rw [List.getElem?_toArray]; rfl
  case hq12 => exact fun _ _ _ h => h
  case hs12 | hf12 | hr12 => kernel_rfl
  case hw12 => rfl
  case hy12 => (intro w1 hSw; (try dsimp only at hSw); go_simp; try with_reducible rfl)
  (try simp only [Act.put, List.setIfInBounds_toArray, List.set_cons_zero, List.set_cons_succ])
  refine wpAnyH_take (i := 3) (oi := ?oi13) (v := ?v13) (fuel := 5) ?hi13 ?hs13 ?hf13 ?hr13 ?hq13 (Or.inl ⟨?hw13, ?hy13⟩) hHeld ?rest13
  case hi13 => rw [List.getElem?_toArray]; rfl
  case hq13 => exact fun _ _ _ h => h
  case hs13 | hf13 | hr13 => kernel_rfl
  case hw13 => rfl
  case hy13 => (intro w1 hSw; (try dsimp only at hSw); go_simp; try with_reducible rfl)
  (try simp only [Act.put, List.setIfInBounds_toArray, List.set_cons_zero, List.set_cons_succ])
  refine wpAnyH_take (i := 4) (oi := ?oi14) (v := ?v14) (fuel := 4) ?hi14 ?hs14 ?hf14 ?hr14 ?hq14 (Or.inl ⟨?hw14, ?hy14⟩) hHeld ?rest14
  case hi14 => rw [List.getElem?_toArray]; rfl
  case hq14 => exact fun _ _ _ h => h
  case hs14 | hf14 | hr14 => kernel_rfl
  case hw14 => rfl
  case hy14 => (intro w1 hSw; (try dsimp only at hSw); go_simp; try with_reducible rfl)
  (try simp only [Act.put, List.setIfInBounds_toArray, List.set_cons_zero, List.set_cons_succ])
  refine wpAnyH_ready (fuel := 3) (rs := [5]) (by kernel_rfl) (by simp) ?_
  refine AllReadyH.cons (o := ?oi15) ?hi15 (fun K hK => ?st15) AllReadyH.nil
  case hi15 => rw [List.getElem?_toArray]; rfl
  go_simp
  refine (part_x _ _ _ _ _ _ hs0 hs1 hi0 hi1 _ (HT.out.below HZ.out)).mono ?_
  rintro ee wr ⟨⟨x1, hx1, hx1e, rfl⟩, bq⟩
  replace HB := hid (HB.out.bel bq)
  replace HZ := hid (HZ.out.to bq)
  clear bq
  go_wp2_with fail
  refine hK.out _ _ ?hS15 (fun hHeld => ?re15)
  case hS15 => exact Box6.cells HB.out
  clear hK K
  (try simp only [Act.put, List.setIfInBounds_toArray, List.set_cons_zero, List.set_cons_succ])
  refine wpAnyH_take (i := 6) (oi := ?oi16) (v := .string ((⟨#[32]⟩ : ByteArray) ++ x1)) (fuel := 2) ?hi16 ?hs16 ?hf16 ?hr16 ?hq16 (Or.inl ⟨?hw16, ?hy16⟩) hHeld ?rest16
  case hi16 => rw [List.getElem?_toArray]; rfl
  case hq16 => exact fun _ _ _ h => h
  case hs16 | hf16 | hr16 => kernel_rfl
  case hw16 => rfl
  case hy16 => (intro w1 hSw; (try dsimp only at hSw); go_simp; first | rfl | omega)
  (try simp only [Act.put, List.setIfInBounds_toArray, List.set_cons_zero, List.set_cons_succ])
  refine wpAnyH_take (i := 7) (oi := ?oi17) (v := .string (l1 ++ ((⟨#[32]⟩ : ByteArray) ++ x1))) (fuel := 1) ?hi17 ?hs17 ?hf17 ?hr17 ?hq17 (Or.inl ⟨?hw17, ?hy17⟩) hHeld ?rest17
  case hi17 => rw [List.getElem?_toArray]; rfl
  case hq17 => exact fun _ _ _ h => h
  case hs17 | hf17 | hr17 => kernel_rfl
  case hw17 => rfl
  case hy17 => (intro w1 hSw; (try dsimp only at hSw); go_simp; first | rfl | omega)
  (try simp only [Act.put, List.setIfInBounds_toArray, List.set_cons_zero, List.set_cons_succ])
  refine wpAnyH_take (i := 8) (oi := ?oi18) (v := ?v18) (fuel := 0) ?hi18 ?hs18 ?hf18 ?hr18 ?hq18 (Or.inl ⟨?hw18, ?hy18⟩) hHeld ?rest18
  case hi18 => rw [List.getElem?_toArray]; rfl
  case hq18 => exact fun _ _ _ h => h
  case hs18 | hf18 | hr18 => kernel_rfl
  case hw18 => rfl
  case hy18 => (intro w1 hSw; (try dsimp only at hSw); go_simp; try with_reducible rfl)
  (try simp only [Act.put, List.setIfInBounds_toArray, List.set_cons_zero, List.set_cons_succ])
  refine wpAnyH_done (by kernel_rfl) ?_ _
  clear hHeld
  generalize wr = w5 at *
  obtain ⟨l2, hl2e⟩ : ∃ y, y = l1 ++ ((⟨#[32]⟩ : ByteArray) ++ x1) := ⟨_, rfl⟩
  have hl2 : l2.size ≤ 69 := by rw [hl2e, ByteArray.size_append, ByteArray.size_append]; show l1.size + (1 + x1.size) ≤ _; omega
  rw [← hl2e]
  replace hl2e := hid hl2e
  go_wp2_with fail
  rw [rounds_succ]
  go_wp2_with fail
  go_ret
  exact ⟨⟨l2, by omega, hid (by rw [hl2e.out, hx1e.out, hl1e.out, hx0e.out, hl0e.out]; rfl), rfl⟩, HZ.out⟩

set_option maxRecDepth 100000 in
set_option maxHeartbeats 4000000 in
theorem put_dxo (on : Nat) (d s f i z : Int) (w : World) (hT : Tabs w) (hok : insOkB (on : Int) d s f i z = true) (hd0 : 0 ≤ d) (hd1 : d ≤ 10) (hs0 : -1 ≤ s) (hs1 : s ≤ 10) (hf0 : -128 ≤ f) (hf1 : f ≤ 127) (hi0 : 0 ≤ i) (hi1 : i ≤ 4294967295) (hon : on < 21) (hr : reachesB (on : Int) = false) (hps : partsS (on : Int) = ⟨#[100, 120, 111]⟩)  :
    Calls Tryz.prog 6 #[.agg #[.int .i64 (on : Int), .int .i64 d, .int .i64 s, .int .i64 f, .int .i64 i, .int .i64 z]] w fun e w' => AnE 200 ((((wordsL.getD on ⟨#[]⟩) ++ (SP_ ++ ((⟨#[114]⟩ : ByteArray) ++ decI d))) ++ (SP_ ++ regI s i)) ++ (SP_ ++ decI f)) e ∧ Below w.heap.size w w' := by
  have HT := hid hT
  have HPS := hid hps
  clear hT hps
  go_enter Tryz.func6, Tryz.ntmps6
  go_wp2_with fail
  have hb : Box6 (w.alloc (.cells #[.int .i64 (on : Int), .int .i64 d, .int .i64 s, .int .i64 f, .int .i64 i, .int .i64 z] 24)) w.heap.size (on : Int) d s f i z := World.alloc_heap_new w _
  have hz : Below w.heap.size w (w.alloc (.cells #[.int .i64 (on : Int), .int .i64 d, .int .i64 s, .int .i64 f, .int .i64 i, .int .i64 z] 24)) := (Below.refl _ _).alloc (Nat.le_refl _) _
  have HB := hid hb
  have HZ := hid hz
  clear hb hz
  generalize w.alloc (.cells #[.int .i64 (on : Int), .int .i64 d, .int .i64 s, .int .i64 f, .int .i64 i, .int .i64 z] 24) = w1 at *
  obtain ⟨B, hB⟩ : ∃ B, B = w.heap.size := ⟨_, rfl⟩
  have HBE := hid hB
  rw [← hB] at HB ⊢
  clear hB
  refine (f11 _ _ _ _ _ _ _).mono ?_
  rintro e w2 ⟨rfl, b2⟩
  replace HB := hid (HB.out.bel b2)
  replace HZ := hid (HZ.out.to b2)
  clear b2
  rw [hok]
  obtain ⟨c0, c1, c2, c3, c4, c5⟩ := Box6.cells HB.out
  have lB := Box6.lt HB.out
  go_wp2_with fail
  clear c0 c1 c2 c3 c4 c5 lB
  refine (first_0 on z hon hr _ (HT.out.below HZ.out)).mono ?_
  rintro e w3 ⟨⟨l0, hl0, hl0e, rfl⟩, b3⟩
  replace HB := hid (HB.out.bel b3)
  replace HZ := hid (HZ.out.to b3)
  clear b3
  obtain ⟨c0, c1, c2, c3, c4, c5⟩ := Box6.cells HB.out
  have lB := Box6.lt HB.out
  go_wp2_with fail
  clear c0 c1 c2 c3 c4 c5 lB
  refine (parts_w _ _).mono ?_
  rintro e w' ⟨rfl, hw⟩
  rw [hw]
  clear hw w'
  rw [HPS.out]
  go_wp2_with fail
  refine wp_loop_rounds 4 ?_
  rw [rounds_succ]
  obtain ⟨c0, c1, c2, c3, c4, c5⟩ := Box6.cells HB.out
  have lB := Box6.lt HB.out
  go_wp2_with fail
  clear c0 c1 c2 c3 c4 c5 lB
  refine wp_region_held_drew (S := (fun w' => w'.cell? ⟨B, 0, none⟩ = some (.int .i64 (on : Int)) ∧ w'.cell? ⟨B, 1, none⟩ = some (.int .i64 d) ∧ w'.cell? ⟨B, 2, none⟩ = some (.int .i64 s) ∧ w'.cell? ⟨B, 3, none⟩ = some (.int .i64 f) ∧ w'.cell? ⟨B, 4, none⟩ = some (.int .i64 i) ∧ w'.cell? ⟨B, 5, none⟩ = some (.int .i64 z))) (by kernel_rfl) (by exact Box6.cells HB.out) (fun hHeld => ?_)
  have hbd : Below w3.heap.size w3 w3.drew := (Below.refl _ _).drew
  replace HB := hid (HB.out.bel hbd)
  replace HZ := hid (HZ.out.to hbd)
  clear hbd
  generalize w3.drew = W1 at *
  refine wpAnyH_take (i := 0) (oi := ?oi19) (v := ?v19) (fuel := 8) ?hi19 ?hs19 ?hf19 ?hr19 ?hq19 (Or.inl ⟨?hw19, ?hy19⟩) hHeld ?rest19
  case hi19 => rw [List.getElem?_toArray]; rfl
  case hq19 => exact fun _ _ _ h => h
  case hs19 | hf19 | hr19 => kernel_rfl
  case hw19 => rfl
  case hy19 => (intro w1 hSw; (try dsimp only at hSw); go_simp; try with_reducible rfl)
  (try simp only [Act.put, List.setIfInBounds_toArray, List.set_cons_zero, List.set_cons_succ])
  refine wpAnyH_take (i := 1) (oi := ?oi20) (v := ?v20) (fuel := 7) ?hi20 ?hs20 ?hf20 ?hr20 ?hq20 (Or.inl ⟨?hw20, ?hy20⟩) hHeld ?rest20
  case hi20 => rw [List.getElem?_toArray]; rfl
  case hq20 => exact fun _ _ _ h => h
  case hs20 | hf20 | hr20 => kernel_rfl
  case hw20 => rfl
  case hy20 => (intro w1 hSw; (try dsimp only at hSw); go_simp; try with_reducible rfl)
  (try simp only [Act.put, List.setIfInBounds_toArray, List.set_cons_zero, List.set_cons_succ])
  refine wpAnyH_take (i := 2) (oi := ?oi21) (v := ?v21) (fuel := 6) ?hi21 ?hs21 ?hf21 ?hr21 ?hq21 (Or.inl ⟨?hw21, ?hy21⟩) hHeld ?rest21
  case hi21 => rw [List.getElem?_toArray]; rfl
  case hq21 => exact fun _ _ _ h => h
  case hs21 | hf21 | hr21 => kernel_rfl
  case hw21 => rfl
  case hy21 => (intro w1 hSw; (try dsimp only at hSw); go_simp; try with_reducible rfl)
  (try simp only [Act.put, List.setIfInBounds_toArray, List.set_cons_zero, List.set_cons_succ])
  refine wpAnyH_take (i := 3) (oi := ?oi22) (v := ?v22) (fuel := 5) ?hi22 ?hs22 ?hf22 ?hr22 ?hq22 (Or.inl ⟨?hw22, ?hy22⟩) hHeld ?rest22
  case hi22 => rw [List.getElem?_toArray]; rfl
  case hq22 => exact fun _ _ _ h => h
  case hs22 | hf22 | hr22 => kernel_rfl
  case hw22 => rfl
  case hy22 => (intro w1 hSw; (try dsimp only at hSw); go_simp; try with_reducible rfl)
  (try simp only [Act.put, List.setIfInBounds_toArray, List.set_cons_zero, List.set_cons_succ])
  refine wpAnyH_take (i := 4) (oi := ?oi23) (v := ?v23) (fuel := 4) ?hi23 ?hs23 ?hf23 ?hr23 ?hq23 (Or.inl ⟨?hw23, ?hy23⟩) hHeld ?rest23
  case hi23 => rw [List.getElem?_toArray]; rfl
  case hq23 => exact fun _ _ _ h => h
  case hs23 | hf23 | hr23 => kernel_rfl
  case hw23 => rfl
  case hy23 => (intro w1 hSw; (try dsimp only at hSw); go_simp; try with_reducible rfl)
  (try simp only [Act.put, List.setIfInBounds_toArray, List.set_cons_zero, List.set_cons_succ])
  refine wpAnyH_ready (fuel := 3) (rs := [5]) (by kernel_rfl) (by simp) ?_
  refine AllReadyH.cons (o := ?oi24) ?hi24 (fun K hK => ?st24) AllReadyH.nil
  case hi24 => rw [List.getElem?_toArray]; rfl
  go_simp
  refine (part_d _ _ _ _ _ _ hd0 hd1 _ (HT.out.below HZ.out)).mono ?_
  rintro ee wr ⟨⟨x0, hx0, hx0e, rfl⟩, bq⟩
  replace HB := hid (HB.out.bel bq)
  replace HZ := hid (HZ.out.to bq)
  clear bq
  go_wp2_with fail
  refine hK.out _ _ ?hS24 (fun hHeld => ?re24)
  case hS24 => exact Box6.cells HB.out
  clear hK K
  (try simp only [Act.put, List.setIfInBounds_toArray, List.set_cons_zero, List.set_cons_succ])
  refine wpAnyH_take (i := 6) (oi := ?oi25) (v := .string ((⟨#[32]⟩ : ByteArray) ++ x0)) (fuel := 2) ?hi25 ?hs25 ?hf25 ?hr25 ?hq25 (Or.inl ⟨?hw25, ?hy25⟩) hHeld ?rest25
  case hi25 => rw [List.getElem?_toArray]; rfl
  case hq25 => exact fun _ _ _ h => h
  case hs25 | hf25 | hr25 => kernel_rfl
  case hw25 => rfl
  case hy25 => (intro w1 hSw; (try dsimp only at hSw); go_simp; first | rfl | omega)
  (try simp only [Act.put, List.setIfInBounds_toArray, List.set_cons_zero, List.set_cons_succ])
  refine wpAnyH_take (i := 7) (oi := ?oi26) (v := .string (l0 ++ ((⟨#[32]⟩ : ByteArray) ++ x0))) (fuel := 1) ?hi26 ?hs26 ?hf26 ?hr26 ?hq26 (Or.inl ⟨?hw26, ?hy26⟩) hHeld ?rest26
  case hi26 => rw [List.getElem?_toArray]; rfl
  case hq26 => exact fun _ _ _ h => h
  case hs26 | hf26 | hr26 => kernel_rfl
  case hw26 => rfl
  case hy26 => (intro w1 hSw; (try dsimp only at hSw); go_simp; first | rfl | omega)
  (try simp only [Act.put, List.setIfInBounds_toArray, List.set_cons_zero, List.set_cons_succ])
  refine wpAnyH_take (i := 8) (oi := ?oi27) (v := ?v27) (fuel := 0) ?hi27 ?hs27 ?hf27 ?hr27 ?hq27 (Or.inl ⟨?hw27, ?hy27⟩) hHeld ?rest27
  case hi27 => rw [List.getElem?_toArray]; rfl
  case hq27 => exact fun _ _ _ h => h
  case hs27 | hf27 | hr27 => kernel_rfl
  case hw27 => rfl
  case hy27 => (intro w1 hSw; (try dsimp only at hSw); go_simp; try with_reducible rfl)
  (try simp only [Act.put, List.setIfInBounds_toArray, List.set_cons_zero, List.set_cons_succ])
  refine wpAnyH_done (by kernel_rfl) ?_ _
  clear hHeld
  generalize wr = w4 at *
  obtain ⟨l1, hl1e⟩ : ∃ y, y = l0 ++ ((⟨#[32]⟩ : ByteArray) ++ x0) := ⟨_, rfl⟩
  have hl1 : l1.size ≤ 47 := by rw [hl1e, ByteArray.size_append, ByteArray.size_append]; show l0.size + (1 + x0.size) ≤ _; omega
  rw [← hl1e]
  replace hl1e := hid hl1e
  go_wp2_with fail
  rw [rounds_succ]
  obtain ⟨c0, c1, c2, c3, c4, c5⟩ := Box6.cells HB.out
  have lB := Box6.lt HB.out
  go_wp2_with fail
  clear c0 c1 c2 c3 c4 c5 lB
  refine wp_region_held_drew (S := (fun w' => w'.cell? ⟨B, 0, none⟩ = some (.int .i64 (on : Int)) ∧ w'.cell? ⟨B, 1, none⟩ = some (.int .i64 d) ∧ w'.cell? ⟨B, 2, none⟩ = some (.int .i64 s) ∧ w'.cell? ⟨B, 3, none⟩ = some (.int .i64 f) ∧ w'.cell? ⟨B, 4, none⟩ = some (.int .i64 i) ∧ w'.cell? ⟨B, 5, none⟩ = some (.int .i64 z))) (by kernel_rfl) (by exact Box6.cells HB.out) (fun hHeld => ?_)
  have hbd : Below w4.heap.size w4 w4.drew := (Below.refl _ _).drew
  replace HB := hid (HB.out.bel hbd)
  replace HZ := hid (HZ.out.to hbd)
  clear hbd
  generalize w4.drew = W1 at *
  refine wpAnyH_take (i := 0) (oi := ?oi28) (v := ?v28) (fuel := 8) ?hi28 ?hs28 ?hf28 ?hr28 ?hq28 (Or.inl ⟨?hw28, ?hy28⟩) hHeld ?rest28
  case hi28 => rw [List.getElem?_toArray]; rfl
  case hq28 => exact fun _ _ _ h => h
  case hs28 | hf28 | hr28 => kernel_rfl
  case hw28 => rfl
  case hy28 => (intro w1 hSw; (try dsimp only at hSw); go_simp; try with_reducible rfl)
  (try simp only [Act.put, List.setIfInBounds_toArray, List.set_cons_zero, List.set_cons_succ])
  refine wpAnyH_take (i := 1) (oi := ?oi29) (v := ?v29) (fuel := 7) ?hi29 ?hs29 ?hf29 ?hr29 ?hq29 (Or.inl ⟨?hw29, ?hy29⟩) hHeld ?rest29
  case hi29 => rw [List.getElem?_toArray]; rfl
  case hq29 => exact fun _ _ _ h => h
  case hs29 | hf29 | hr29 => kernel_rfl
  case hw29 => rfl
  case hy29 => (intro w1 hSw; (try dsimp only at hSw); go_simp; try with_reducible rfl)
  (try simp only [Act.put, List.setIfInBounds_toArray, List.set_cons_zero, List.set_cons_succ])
  refine wpAnyH_take (i := 2) (oi := ?oi30) (v := ?v30) (fuel := 6) ?hi30 ?hs30 ?hf30 ?hr30 ?hq30 (Or.inl ⟨?hw30, ?hy30⟩) hHeld ?rest30
  case hi30 => rw [List.getElem?_toArray]; rfl
  case hq30 => exact fun _ _ _ h => h
  case hs30 | hf30 | hr30 => kernel_rfl
  case hw30 => rfl
  case hy30 => (intro w1 hSw; (try dsimp only at hSw); go_simp; try with_reducible rfl)
  (try simp only [Act.put, List.setIfInBounds_toArray, List.set_cons_zero, List.set_cons_succ])
  refine wpAnyH_take (i := 3) (oi := ?oi31) (v := ?v31) (fuel := 5) ?hi31 ?hs31 ?hf31 ?hr31 ?hq31 (Or.inl ⟨?hw31, ?hy31⟩) hHeld ?rest31
  case hi31 => rw [List.getElem?_toArray]; rfl
  case hq31 => exact fun _ _ _ h => h
  case hs31 | hf31 | hr31 => kernel_rfl
  case hw31 => rfl
  case hy31 => (intro w1 hSw; (try dsimp only at hSw); go_simp; try with_reducible rfl)
  (try simp only [Act.put, List.setIfInBounds_toArray, List.set_cons_zero, List.set_cons_succ])
  refine wpAnyH_take (i := 4) (oi := ?oi32) (v := ?v32) (fuel := 4) ?hi32 ?hs32 ?hf32 ?hr32 ?hq32 (Or.inl ⟨?hw32, ?hy32⟩) hHeld ?rest32
  case hi32 => rw [List.getElem?_toArray]; rfl
  case hq32 => exact fun _ _ _ h => h
  case hs32 | hf32 | hr32 => kernel_rfl
  case hw32 => rfl
  case hy32 => (intro w1 hSw; (try dsimp only at hSw); go_simp; try with_reducible rfl)
  (try simp only [Act.put, List.setIfInBounds_toArray, List.set_cons_zero, List.set_cons_succ])
  refine wpAnyH_ready (fuel := 3) (rs := [5]) (by kernel_rfl) (by simp) ?_
  refine AllReadyH.cons (o := ?oi33) ?hi33 (fun K hK => ?st33) AllReadyH.nil
  case hi33 => rw [List.getElem?_toArray]; rfl
  go_simp
  refine (part_x _ _ _ _ _ _ hs0 hs1 hi0 hi1 _ (HT.out.below HZ.out)).mono ?_
  rintro ee wr ⟨⟨x1, hx1, hx1e, rfl⟩, bq⟩
  replace HB := hid (HB.out.bel bq)
  replace HZ := hid (HZ.out.to bq)
  clear bq
  go_wp2_with fail
  refine hK.out _ _ ?hS33 (fun hHeld => ?re33)
  case hS33 => exact Box6.cells HB.out
  clear hK K
  (try simp only [Act.put, List.setIfInBounds_toArray, List.set_cons_zero, List.set_cons_succ])
  refine wpAnyH_take (i := 6) (oi := ?oi34) (v := .string ((⟨#[32]⟩ : ByteArray) ++ x1)) (fuel := 2) ?hi34 ?hs34 ?hf34 ?hr34 ?hq34 (Or.inl ⟨?hw34, ?hy34⟩) hHeld ?rest34
  case hi34 => rw [List.getElem?_toArray]; rfl
  case hq34 => exact fun _ _ _ h => h
  case hs34 | hf34 | hr34 => kernel_rfl
  case hw34 => rfl
  case hy34 => (intro w1 hSw; (try dsimp only at hSw); go_simp; first | rfl | omega)
  (try simp only [Act.put, List.setIfInBounds_toArray, List.set_cons_zero, List.set_cons_succ])
  refine wpAnyH_take (i := 7) (oi := ?oi35) (v := .string (l1 ++ ((⟨#[32]⟩ : ByteArray) ++ x1))) (fuel := 1) ?hi35 ?hs35 ?hf35 ?hr35 ?hq35 (Or.inl ⟨?hw35, ?hy35⟩) hHeld ?rest35
  case hi35 => rw [List.getElem?_toArray]; rfl
  case hq35 => exact fun _ _ _ h => h
  case hs35 | hf35 | hr35 => kernel_rfl
  case hw35 => rfl
  case hy35 => (intro w1 hSw; (try dsimp only at hSw); go_simp; first | rfl | omega)
  (try simp only [Act.put, List.setIfInBounds_toArray, List.set_cons_zero, List.set_cons_succ])
  refine wpAnyH_take (i := 8) (oi := ?oi36) (v := ?v36) (fuel := 0) ?hi36 ?hs36 ?hf36 ?hr36 ?hq36 (Or.inl ⟨?hw36, ?hy36⟩) hHeld ?rest36
  case hi36 => rw [List.getElem?_toArray]; rfl
  case hq36 => exact fun _ _ _ h => h
  case hs36 | hf36 | hr36 => kernel_rfl
  case hw36 => rfl
  case hy36 => (intro w1 hSw; (try dsimp only at hSw); go_simp; try with_reducible rfl)
  (try simp only [Act.put, List.setIfInBounds_toArray, List.set_cons_zero, List.set_cons_succ])
  refine wpAnyH_done (by kernel_rfl) ?_ _
  clear hHeld
  generalize wr = w5 at *
  obtain ⟨l2, hl2e⟩ : ∃ y, y = l1 ++ ((⟨#[32]⟩ : ByteArray) ++ x1) := ⟨_, rfl⟩
  have hl2 : l2.size ≤ 69 := by rw [hl2e, ByteArray.size_append, ByteArray.size_append]; show l1.size + (1 + x1.size) ≤ _; omega
  rw [← hl2e]
  replace hl2e := hid hl2e
  go_wp2_with fail
  rw [rounds_succ]
  obtain ⟨c0, c1, c2, c3, c4, c5⟩ := Box6.cells HB.out
  have lB := Box6.lt HB.out
  go_wp2_with fail
  clear c0 c1 c2 c3 c4 c5 lB
  refine wp_region_held_drew (S := (fun w' => w'.cell? ⟨B, 0, none⟩ = some (.int .i64 (on : Int)) ∧ w'.cell? ⟨B, 1, none⟩ = some (.int .i64 d) ∧ w'.cell? ⟨B, 2, none⟩ = some (.int .i64 s) ∧ w'.cell? ⟨B, 3, none⟩ = some (.int .i64 f) ∧ w'.cell? ⟨B, 4, none⟩ = some (.int .i64 i) ∧ w'.cell? ⟨B, 5, none⟩ = some (.int .i64 z))) (by kernel_rfl) (by exact Box6.cells HB.out) (fun hHeld => ?_)
  have hbd : Below w5.heap.size w5 w5.drew := (Below.refl _ _).drew
  replace HB := hid (HB.out.bel hbd)
  replace HZ := hid (HZ.out.to hbd)
  clear hbd
  generalize w5.drew = W1 at *
  refine wpAnyH_take (i := 0) (oi := ?oi37) (v := ?v37) (fuel := 8) ?hi37 ?hs37 ?hf37 ?hr37 ?hq37 (Or.inl ⟨?hw37, ?hy37⟩) hHeld ?rest37
  case hi37 => rw [List.getElem?_toArray]; rfl
  case hq37 => exact fun _ _ _ h => h
  case hs37 | hf37 | hr37 => kernel_rfl
  case hw37 => rfl
  case hy37 => (intro w1 hSw; (try dsimp only at hSw); go_simp; try with_reducible rfl)
  (try simp only [Act.put, List.setIfInBounds_toArray, List.set_cons_zero, List.set_cons_succ])
  refine wpAnyH_take (i := 1) (oi := ?oi38) (v := ?v38) (fuel := 7) ?hi38 ?hs38 ?hf38 ?hr38 ?hq38 (Or.inl ⟨?hw38, ?hy38⟩) hHeld ?rest38
  case hi38 => rw [List.getElem?_toArray]; rfl
  case hq38 => exact fun _ _ _ h => h
  case hs38 | hf38 | hr38 => kernel_rfl
  case hw38 => rfl
  case hy38 => (intro w1 hSw; (try dsimp only at hSw); go_simp; try with_reducible rfl)
  (try simp only [Act.put, List.setIfInBounds_toArray, List.set_cons_zero, List.set_cons_succ])
  refine wpAnyH_take (i := 2) (oi := ?oi39) (v := ?v39) (fuel := 6) ?hi39 ?hs39 ?hf39 ?hr39 ?hq39 (Or.inl ⟨?hw39, ?hy39⟩) hHeld ?rest39
  case hi39 => rw [List.getElem?_toArray]; rfl
  case hq39 => exact fun _ _ _ h => h
  case hs39 | hf39 | hr39 => kernel_rfl
  case hw39 => rfl
  case hy39 => (intro w1 hSw; (try dsimp only at hSw); go_simp; try with_reducible rfl)
  (try simp only [Act.put, List.setIfInBounds_toArray, List.set_cons_zero, List.set_cons_succ])
  refine wpAnyH_take (i := 3) (oi := ?oi40) (v := ?v40) (fuel := 5) ?hi40 ?hs40 ?hf40 ?hr40 ?hq40 (Or.inl ⟨?hw40, ?hy40⟩) hHeld ?rest40
  case hi40 => rw [List.getElem?_toArray]; rfl
  case hq40 => exact fun _ _ _ h => h
  case hs40 | hf40 | hr40 => kernel_rfl
  case hw40 => rfl
  case hy40 => (intro w1 hSw; (try dsimp only at hSw); go_simp; try with_reducible rfl)
  (try simp only [Act.put, List.setIfInBounds_toArray, List.set_cons_zero, List.set_cons_succ])
  refine wpAnyH_take (i := 4) (oi := ?oi41) (v := ?v41) (fuel := 4) ?hi41 ?hs41 ?hf41 ?hr41 ?hq41 (Or.inl ⟨?hw41, ?hy41⟩) hHeld ?rest41
  case hi41 => rw [List.getElem?_toArray]; rfl
  case hq41 => exact fun _ _ _ h => h
  case hs41 | hf41 | hr41 => kernel_rfl
  case hw41 => rfl
  case hy41 => (intro w1 hSw; (try dsimp only at hSw); go_simp; try with_reducible rfl)
  (try simp only [Act.put, List.setIfInBounds_toArray, List.set_cons_zero, List.set_cons_succ])
  refine wpAnyH_ready (fuel := 3) (rs := [5]) (by kernel_rfl) (by simp) ?_
  refine AllReadyH.cons (o := ?oi42) ?hi42 (fun K hK => ?st42) AllReadyH.nil
  case hi42 => rw [List.getElem?_toArray]; rfl
  go_simp
  refine (part_o _ _ _ _ _ _ hf0 hf1 _ (HT.out.below HZ.out)).mono ?_
  rintro ee wr ⟨⟨x2, hx2, hx2e, rfl⟩, bq⟩
  replace HB := hid (HB.out.bel bq)
  replace HZ := hid (HZ.out.to bq)
  clear bq
  go_wp2_with fail
  refine hK.out _ _ ?hS42 (fun hHeld => ?re42)
  case hS42 => exact Box6.cells HB.out
  clear hK K
  (try simp only [Act.put, List.setIfInBounds_toArray, List.set_cons_zero, List.set_cons_succ])
  refine wpAnyH_take (i := 6) (oi := ?oi43) (v := .string ((⟨#[32]⟩ : ByteArray) ++ x2)) (fuel := 2) ?hi43 ?hs43 ?hf43 ?hr43 ?hq43 (Or.inl ⟨?hw43, ?hy43⟩) hHeld ?rest43
  case hi43 => rw [List.getElem?_toArray]; rfl
  case hq43 => exact fun _ _ _ h => h
  case hs43 | hf43 | hr43 => kernel_rfl
  case hw43 => rfl
  case hy43 => (intro w1 hSw; (try dsimp only at hSw); go_simp; first | rfl | omega)
  (try simp only [Act.put, List.setIfInBounds_toArray, List.set_cons_zero, List.set_cons_succ])
  refine wpAnyH_take (i := 7) (oi := ?oi44) (v := .string (l2 ++ ((⟨#[32]⟩ : ByteArray) ++ x2))) (fuel := 1) ?hi44 ?hs44 ?hf44 ?hr44 ?hq44 (Or.inl ⟨?hw44, ?hy44⟩) hHeld ?rest44
  case hi44 => rw [List.getElem?_toArray]; rfl
  case hq44 => exact fun _ _ _ h => h
  case hs44 | hf44 | hr44 => kernel_rfl
  case hw44 => rfl
  case hy44 => (intro w1 hSw; (try dsimp only at hSw); go_simp; first | rfl | omega)
  (try simp only [Act.put, List.setIfInBounds_toArray, List.set_cons_zero, List.set_cons_succ])
  refine wpAnyH_take (i := 8) (oi := ?oi45) (v := ?v45) (fuel := 0) ?hi45 ?hs45 ?hf45 ?hr45 ?hq45 (Or.inl ⟨?hw45, ?hy45⟩) hHeld ?rest45
  case hi45 => rw [List.getElem?_toArray]; rfl
  case hq45 => exact fun _ _ _ h => h
  case hs45 | hf45 | hr45 => kernel_rfl
  case hw45 => rfl
  case hy45 => (intro w1 hSw; (try dsimp only at hSw); go_simp; try with_reducible rfl)
  (try simp only [Act.put, List.setIfInBounds_toArray, List.set_cons_zero, List.set_cons_succ])
  refine wpAnyH_done (by kernel_rfl) ?_ _
  clear hHeld
  generalize wr = w6 at *
  obtain ⟨l3, hl3e⟩ : ∃ y, y = l2 ++ ((⟨#[32]⟩ : ByteArray) ++ x2) := ⟨_, rfl⟩
  have hl3 : l3.size ≤ 91 := by rw [hl3e, ByteArray.size_append, ByteArray.size_append]; show l2.size + (1 + x2.size) ≤ _; omega
  rw [← hl3e]
  replace hl3e := hid hl3e
  go_wp2_with fail
  rw [rounds_succ]
  go_wp2_with fail
  go_ret
  exact ⟨⟨l3, by omega, hid (by rw [hl3e.out, hx2e.out, hl2e.out, hx1e.out, hl1e.out, hx0e.out, hl0e.out]; rfl), rfl⟩, HZ.out⟩

set_option maxRecDepth 100000 in
set_option maxHeartbeats 4000000 in
theorem put_o (on : Nat) (d s f i z : Int) (w : World) (hT : Tabs w) (hok : insOkB (on : Int) d s f i z = true) (hd0 : 0 ≤ d) (hd1 : d ≤ 10) (hs0 : -1 ≤ s) (hs1 : s ≤ 10) (hf0 : -128 ≤ f) (hf1 : f ≤ 127) (hi0 : 0 ≤ i) (hi1 : i ≤ 4294967295) (hon : on < 21) (hr : reachesB (on : Int) = false) (hps : partsS (on : Int) = ⟨#[111]⟩)  :
    Calls Tryz.prog 6 #[.agg #[.int .i64 (on : Int), .int .i64 d, .int .i64 s, .int .i64 f, .int .i64 i, .int .i64 z]] w fun e w' => AnE 200 ((wordsL.getD on ⟨#[]⟩) ++ (SP_ ++ decI f)) e ∧ Below w.heap.size w w' := by
  have HT := hid hT
  have HPS := hid hps
  clear hT hps
  go_enter Tryz.func6, Tryz.ntmps6
  go_wp2_with fail
  have hb : Box6 (w.alloc (.cells #[.int .i64 (on : Int), .int .i64 d, .int .i64 s, .int .i64 f, .int .i64 i, .int .i64 z] 24)) w.heap.size (on : Int) d s f i z := World.alloc_heap_new w _
  have hz : Below w.heap.size w (w.alloc (.cells #[.int .i64 (on : Int), .int .i64 d, .int .i64 s, .int .i64 f, .int .i64 i, .int .i64 z] 24)) := (Below.refl _ _).alloc (Nat.le_refl _) _
  have HB := hid hb
  have HZ := hid hz
  clear hb hz
  generalize w.alloc (.cells #[.int .i64 (on : Int), .int .i64 d, .int .i64 s, .int .i64 f, .int .i64 i, .int .i64 z] 24) = w1 at *
  obtain ⟨B, hB⟩ : ∃ B, B = w.heap.size := ⟨_, rfl⟩
  have HBE := hid hB
  rw [← hB] at HB ⊢
  clear hB
  refine (f11 _ _ _ _ _ _ _).mono ?_
  rintro e w2 ⟨rfl, b2⟩
  replace HB := hid (HB.out.bel b2)
  replace HZ := hid (HZ.out.to b2)
  clear b2
  rw [hok]
  obtain ⟨c0, c1, c2, c3, c4, c5⟩ := Box6.cells HB.out
  have lB := Box6.lt HB.out
  go_wp2_with fail
  clear c0 c1 c2 c3 c4 c5 lB
  refine (first_0 on z hon hr _ (HT.out.below HZ.out)).mono ?_
  rintro e w3 ⟨⟨l0, hl0, hl0e, rfl⟩, b3⟩
  replace HB := hid (HB.out.bel b3)
  replace HZ := hid (HZ.out.to b3)
  clear b3
  obtain ⟨c0, c1, c2, c3, c4, c5⟩ := Box6.cells HB.out
  have lB := Box6.lt HB.out
  go_wp2_with fail
  clear c0 c1 c2 c3 c4 c5 lB
  refine (parts_w _ _).mono ?_
  rintro e w' ⟨rfl, hw⟩
  rw [hw]
  clear hw w'
  rw [HPS.out]
  go_wp2_with fail
  refine wp_loop_rounds 2 ?_
  rw [rounds_succ]
  obtain ⟨c0, c1, c2, c3, c4, c5⟩ := Box6.cells HB.out
  have lB := Box6.lt HB.out
  go_wp2_with fail
  clear c0 c1 c2 c3 c4 c5 lB
  refine wp_region_held_drew (S := (fun w' => w'.cell? ⟨B, 0, none⟩ = some (.int .i64 (on : Int)) ∧ w'.cell? ⟨B, 1, none⟩ = some (.int .i64 d) ∧ w'.cell? ⟨B, 2, none⟩ = some (.int .i64 s) ∧ w'.cell? ⟨B, 3, none⟩ = some (.int .i64 f) ∧ w'.cell? ⟨B, 4, none⟩ = some (.int .i64 i) ∧ w'.cell? ⟨B, 5, none⟩ = some (.int .i64 z))) (by kernel_rfl) (by exact Box6.cells HB.out) (fun hHeld => ?_)
  have hbd : Below w3.heap.size w3 w3.drew := (Below.refl _ _).drew
  replace HB := hid (HB.out.bel hbd)
  replace HZ := hid (HZ.out.to hbd)
  clear hbd
  generalize w3.drew = W1 at *
  refine wpAnyH_take (i := 0) (oi := ?oi46) (v := ?v46) (fuel := 8) ?hi46 ?hs46 ?hf46 ?hr46 ?hq46 (Or.inl ⟨?hw46, ?hy46⟩) hHeld ?rest46
  case hi46 => rw [List.getElem?_toArray]; rfl
  case hq46 => exact fun _ _ _ h => h
  case hs46 | hf46 | hr46 => kernel_rfl
  case hw46 => rfl
  case hy46 => (intro w1 hSw; (try dsimp only at hSw); go_simp; try with_reducible rfl)
  (try simp only [Act.put, List.setIfInBounds_toArray, List.set_cons_zero, List.set_cons_succ])
  refine wpAnyH_take (i := 1) (oi := ?oi47) (v := ?v47) (fuel := 7) ?hi47 ?hs47 ?hf47 ?hr47 ?hq47 (Or.inl ⟨?hw47, ?hy47⟩) hHeld ?rest47
  case hi47 => rw [List.getElem?_toArray]; rfl
  case hq47 => exact fun _ _ _ h => h
  case hs47 | hf47 | hr47 => kernel_rfl
  case hw47 => rfl
  case hy47 => (intro w1 hSw; (try dsimp only at hSw); go_simp; try with_reducible rfl)
  (try simp only [Act.put, List.setIfInBounds_toArray, List.set_cons_zero, List.set_cons_succ])
  refine wpAnyH_take (i := 2) (oi := ?oi48) (v := ?v48) (fuel := 6) ?hi48 ?hs48 ?hf48 ?hr48 ?hq48 (Or.inl ⟨?hw48, ?hy48⟩) hHeld ?rest48
  case hi48 => rw [List.getElem?_toArray]; rfl
  case hq48 => exact fun _ _ _ h => h
  case hs48 | hf48 | hr48 => kernel_rfl
  case hw48 => rfl
  case hy48 => (intro w1 hSw; (try dsimp only at hSw); go_simp; try with_reducible rfl)
  (try simp only [Act.put, List.setIfInBounds_toArray, List.set_cons_zero, List.set_cons_succ])
  refine wpAnyH_take (i := 3) (oi := ?oi49) (v := ?v49) (fuel := 5) ?hi49 ?hs49 ?hf49 ?hr49 ?hq49 (Or.inl ⟨?hw49, ?hy49⟩) hHeld ?rest49
  case hi49 => rw [List.getElem?_toArray]; rfl
  case hq49 => exact fun _ _ _ h => h
  case hs49 | hf49 | hr49 => kernel_rfl
  case hw49 => rfl
  case hy49 => (intro w1 hSw; (try dsimp only at hSw); go_simp; try with_reducible rfl)
  (try simp only [Act.put, List.setIfInBounds_toArray, List.set_cons_zero, List.set_cons_succ])
  refine wpAnyH_take (i := 4) (oi := ?oi50) (v := ?v50) (fuel := 4) ?hi50 ?hs50 ?hf50 ?hr50 ?hq50 (Or.inl ⟨?hw50, ?hy50⟩) hHeld ?rest50
  case hi50 => rw [List.getElem?_toArray]; rfl
  case hq50 => exact fun _ _ _ h => h
  case hs50 | hf50 | hr50 => kernel_rfl
  case hw50 => rfl
  case hy50 => (intro w1 hSw; (try dsimp only at hSw); go_simp; try with_reducible rfl)
  (try simp only [Act.put, List.setIfInBounds_toArray, List.set_cons_zero, List.set_cons_succ])
  refine wpAnyH_ready (fuel := 3) (rs := [5]) (by kernel_rfl) (by simp) ?_
  refine AllReadyH.cons (o := ?oi51) ?hi51 (fun K hK => ?st51) AllReadyH.nil
  case hi51 => rw [List.getElem?_toArray]; rfl
  go_simp
  refine (part_o _ _ _ _ _ _ hf0 hf1 _ (HT.out.below HZ.out)).mono ?_
  rintro ee wr ⟨⟨x0, hx0, hx0e, rfl⟩, bq⟩
  replace HB := hid (HB.out.bel bq)
  replace HZ := hid (HZ.out.to bq)
  clear bq
  go_wp2_with fail
  refine hK.out _ _ ?hS51 (fun hHeld => ?re51)
  case hS51 => exact Box6.cells HB.out
  clear hK K
  (try simp only [Act.put, List.setIfInBounds_toArray, List.set_cons_zero, List.set_cons_succ])
  refine wpAnyH_take (i := 6) (oi := ?oi52) (v := .string ((⟨#[32]⟩ : ByteArray) ++ x0)) (fuel := 2) ?hi52 ?hs52 ?hf52 ?hr52 ?hq52 (Or.inl ⟨?hw52, ?hy52⟩) hHeld ?rest52
  case hi52 => rw [List.getElem?_toArray]; rfl
  case hq52 => exact fun _ _ _ h => h
  case hs52 | hf52 | hr52 => kernel_rfl
  case hw52 => rfl
  case hy52 => (intro w1 hSw; (try dsimp only at hSw); go_simp; first | rfl | omega)
  (try simp only [Act.put, List.setIfInBounds_toArray, List.set_cons_zero, List.set_cons_succ])
  refine wpAnyH_take (i := 7) (oi := ?oi53) (v := .string (l0 ++ ((⟨#[32]⟩ : ByteArray) ++ x0))) (fuel := 1) ?hi53 ?hs53 ?hf53 ?hr53 ?hq53 (Or.inl ⟨?hw53, ?hy53⟩) hHeld ?rest53
  case hi53 => rw [List.getElem?_toArray]; rfl
  case hq53 => exact fun _ _ _ h => h
  case hs53 | hf53 | hr53 => kernel_rfl
  case hw53 => rfl
  case hy53 => (intro w1 hSw; (try dsimp only at hSw); go_simp; first | rfl | omega)
  (try simp only [Act.put, List.setIfInBounds_toArray, List.set_cons_zero, List.set_cons_succ])
  refine wpAnyH_take (i := 8) (oi := ?oi54) (v := ?v54) (fuel := 0) ?hi54 ?hs54 ?hf54 ?hr54 ?hq54 (Or.inl ⟨?hw54, ?hy54⟩) hHeld ?rest54
  case hi54 => rw [List.getElem?_toArray]; rfl
  case hq54 => exact fun _ _ _ h => h
  case hs54 | hf54 | hr54 => kernel_rfl
  case hw54 => rfl
  case hy54 => (intro w1 hSw; (try dsimp only at hSw); go_simp; try with_reducible rfl)
  (try simp only [Act.put, List.setIfInBounds_toArray, List.set_cons_zero, List.set_cons_succ])
  refine wpAnyH_done (by kernel_rfl) ?_ _
  clear hHeld
  generalize wr = w4 at *
  obtain ⟨l1, hl1e⟩ : ∃ y, y = l0 ++ ((⟨#[32]⟩ : ByteArray) ++ x0) := ⟨_, rfl⟩
  have hl1 : l1.size ≤ 47 := by rw [hl1e, ByteArray.size_append, ByteArray.size_append]; show l0.size + (1 + x0.size) ≤ _; omega
  rw [← hl1e]
  replace hl1e := hid hl1e
  go_wp2_with fail
  rw [rounds_succ]
  go_wp2_with fail
  go_ret
  exact ⟨⟨l1, by omega, hid (by rw [hl1e.out, hx0e.out, hl0e.out]; rfl), rfl⟩, HZ.out⟩

set_option maxRecDepth 100000 in
set_option maxHeartbeats 4000000 in
theorem put_ldxo (on : Nat) (d s f i z : Int) (w : World) (hT : Tabs w) (hok : insOkB (on : Int) d s f i z = true) (hd0 : 0 ≤ d) (hd1 : d ≤ 10) (hs0 : -1 ≤ s) (hs1 : s ≤ 10) (hf0 : -128 ≤ f) (hf1 : f ≤ 127) (hi0 : 0 ≤ i) (hi1 : i ≤ 4294967295) (hon : on < 21) (hr : reachesB (on : Int) = true) (hps : partsS (on : Int) = ⟨#[100, 120, 111]⟩) (hz0 : 0 ≤ z) (hz1 : z ≤ 4) :
    Calls Tryz.prog 6 #[.agg #[.int .i64 (on : Int), .int .i64 d, .int .i64 s, .int .i64 f, .int .i64 i, .int .i64 z]] w fun e w' => AnE 200 ((((wordsL.getD on ⟨#[]⟩ ++ decI z) ++ (SP_ ++ ((⟨#[114]⟩ : ByteArray) ++ decI d))) ++ (SP_ ++ regI s i)) ++ (SP_ ++ decI f)) e ∧ Below w.heap.size w w' := by
  have HT := hid hT
  have HPS := hid hps
  clear hT hps
  go_enter Tryz.func6, Tryz.ntmps6
  go_wp2_with fail
  have hb : Box6 (w.alloc (.cells #[.int .i64 (on : Int), .int .i64 d, .int .i64 s, .int .i64 f, .int .i64 i, .int .i64 z] 24)) w.heap.size (on : Int) d s f i z := World.alloc_heap_new w _
  have hz : Below w.heap.size w (w.alloc (.cells #[.int .i64 (on : Int), .int .i64 d, .int .i64 s, .int .i64 f, .int .i64 i, .int .i64 z] 24)) := (Below.refl _ _).alloc (Nat.le_refl _) _
  have HB := hid hb
  have HZ := hid hz
  clear hb hz
  generalize w.alloc (.cells #[.int .i64 (on : Int), .int .i64 d, .int .i64 s, .int .i64 f, .int .i64 i, .int .i64 z] 24) = w1 at *
  obtain ⟨B, hB⟩ : ∃ B, B = w.heap.size := ⟨_, rfl⟩
  have HBE := hid hB
  rw [← hB] at HB ⊢
  clear hB
  refine (f11 _ _ _ _ _ _ _).mono ?_
  rintro e w2 ⟨rfl, b2⟩
  replace HB := hid (HB.out.bel b2)
  replace HZ := hid (HZ.out.to b2)
  clear b2
  rw [hok]
  obtain ⟨c0, c1, c2, c3, c4, c5⟩ := Box6.cells HB.out
  have lB := Box6.lt HB.out
  go_wp2_with fail
  clear c0 c1 c2 c3 c4 c5 lB
  refine (first_1 on z hon hr (by omega) (by omega) _ (HT.out.below HZ.out)).mono ?_
  rintro e w3 ⟨⟨l0, hl0, hl0e, rfl⟩, b3⟩
  replace HB := hid (HB.out.bel b3)
  replace HZ := hid (HZ.out.to b3)
  clear b3
  obtain ⟨c0, c1, c2, c3, c4, c5⟩ := Box6.cells HB.out
  have lB := Box6.lt HB.out
  go_wp2_with fail
  clear c0 c1 c2 c3 c4 c5 lB
  refine (parts_w _ _).mono ?_
  rintro e w' ⟨rfl, hw⟩
  rw [hw]
  clear hw w'
  rw [HPS.out]
  go_wp2_with fail
  refine wp_loop_rounds 4 ?_
  rw [rounds_succ]
  obtain ⟨c0, c1, c2, c3, c4, c5⟩ := Box6.cells HB.out
  have lB := Box6.lt HB.out
  go_wp2_with fail
  clear c0 c1 c2 c3 c4 c5 lB
  refine wp_region_held_drew (S := (fun w' => w'.cell? ⟨B, 0, none⟩ = some (.int .i64 (on : Int)) ∧ w'.cell? ⟨B, 1, none⟩ = some (.int .i64 d) ∧ w'.cell? ⟨B, 2, none⟩ = some (.int .i64 s) ∧ w'.cell? ⟨B, 3, none⟩ = some (.int .i64 f) ∧ w'.cell? ⟨B, 4, none⟩ = some (.int .i64 i) ∧ w'.cell? ⟨B, 5, none⟩ = some (.int .i64 z))) (by kernel_rfl) (by exact Box6.cells HB.out) (fun hHeld => ?_)
  have hbd : Below w3.heap.size w3 w3.drew := (Below.refl _ _).drew
  replace HB := hid (HB.out.bel hbd)
  replace HZ := hid (HZ.out.to hbd)
  clear hbd
  generalize w3.drew = W1 at *
  refine wpAnyH_take (i := 0) (oi := ?oi55) (v := ?v55) (fuel := 8) ?hi55 ?hs55 ?hf55 ?hr55 ?hq55 (Or.inl ⟨?hw55, ?hy55⟩) hHeld ?rest55
  case hi55 => rw [List.getElem?_toArray]; rfl
  case hq55 => exact fun _ _ _ h => h
  case hs55 | hf55 | hr55 => kernel_rfl
  case hw55 => rfl
  case hy55 => (intro w1 hSw; (try dsimp only at hSw); go_simp; try with_reducible rfl)
  (try simp only [Act.put, List.setIfInBounds_toArray, List.set_cons_zero, List.set_cons_succ])
  refine wpAnyH_take (i := 1) (oi := ?oi56) (v := ?v56) (fuel := 7) ?hi56 ?hs56 ?hf56 ?hr56 ?hq56 (Or.inl ⟨?hw56, ?hy56⟩) hHeld ?rest56
  case hi56 => rw [List.getElem?_toArray]; rfl
  case hq56 => exact fun _ _ _ h => h
  case hs56 | hf56 | hr56 => kernel_rfl
  case hw56 => rfl
  case hy56 => (intro w1 hSw; (try dsimp only at hSw); go_simp; try with_reducible rfl)
  (try simp only [Act.put, List.setIfInBounds_toArray, List.set_cons_zero, List.set_cons_succ])
  refine wpAnyH_take (i := 2) (oi := ?oi57) (v := ?v57) (fuel := 6) ?hi57 ?hs57 ?hf57 ?hr57 ?hq57 (Or.inl ⟨?hw57, ?hy57⟩) hHeld ?rest57
  case hi57 => rw [List.getElem?_toArray]; rfl
  case hq57 => exact fun _ _ _ h => h
  case hs57 | hf57 | hr57 => kernel_rfl
  case hw57 => rfl
  case hy57 => (intro w1 hSw; (try dsimp only at hSw); go_simp; try with_reducible rfl)
  (try simp only [Act.put, List.setIfInBounds_toArray, List.set_cons_zero, List.set_cons_succ])
  refine wpAnyH_take (i := 3) (oi := ?oi58) (v := ?v58) (fuel := 5) ?hi58 ?hs58 ?hf58 ?hr58 ?hq58 (Or.inl ⟨?hw58, ?hy58⟩) hHeld ?rest58
  case hi58 => rw [List.getElem?_toArray]; rfl
  case hq58 => exact fun _ _ _ h => h
  case hs58 | hf58 | hr58 => kernel_rfl
  case hw58 => rfl
  case hy58 => (intro w1 hSw; (try dsimp only at hSw); go_simp; try with_reducible rfl)
  (try simp only [Act.put, List.setIfInBounds_toArray, List.set_cons_zero, List.set_cons_succ])
  refine wpAnyH_take (i := 4) (oi := ?oi59) (v := ?v59) (fuel := 4) ?hi59 ?hs59 ?hf59 ?hr59 ?hq59 (Or.inl ⟨?hw59, ?hy59⟩) hHeld ?rest59
  case hi59 => rw [List.getElem?_toArray]; rfl
  case hq59 => exact fun _ _ _ h => h
  case hs59 | hf59 | hr59 => kernel_rfl
  case hw59 => rfl
  case hy59 => (intro w1 hSw; (try dsimp only at hSw); go_simp; try with_reducible rfl)
  (try simp only [Act.put, List.setIfInBounds_toArray, List.set_cons_zero, List.set_cons_succ])
  refine wpAnyH_ready (fuel := 3) (rs := [5]) (by kernel_rfl) (by simp) ?_
  refine AllReadyH.cons (o := ?oi60) ?hi60 (fun K hK => ?st60) AllReadyH.nil
  case hi60 => rw [List.getElem?_toArray]; rfl
  go_simp
  refine (part_d _ _ _ _ _ _ hd0 hd1 _ (HT.out.below HZ.out)).mono ?_
  rintro ee wr ⟨⟨x0, hx0, hx0e, rfl⟩, bq⟩
  replace HB := hid (HB.out.bel bq)
  replace HZ := hid (HZ.out.to bq)
  clear bq
  go_wp2_with fail
  refine hK.out _ _ ?hS60 (fun hHeld => ?re60)
  case hS60 => exact Box6.cells HB.out
  clear hK K
  (try simp only [Act.put, List.setIfInBounds_toArray, List.set_cons_zero, List.set_cons_succ])
  refine wpAnyH_take (i := 6) (oi := ?oi61) (v := .string ((⟨#[32]⟩ : ByteArray) ++ x0)) (fuel := 2) ?hi61 ?hs61 ?hf61 ?hr61 ?hq61 (Or.inl ⟨?hw61, ?hy61⟩) hHeld ?rest61
  case hi61 => rw [List.getElem?_toArray]; rfl
  case hq61 => exact fun _ _ _ h => h
  case hs61 | hf61 | hr61 => kernel_rfl
  case hw61 => rfl
  case hy61 => (intro w1 hSw; (try dsimp only at hSw); go_simp; first | rfl | omega)
  (try simp only [Act.put, List.setIfInBounds_toArray, List.set_cons_zero, List.set_cons_succ])
  refine wpAnyH_take (i := 7) (oi := ?oi62) (v := .string (l0 ++ ((⟨#[32]⟩ : ByteArray) ++ x0))) (fuel := 1) ?hi62 ?hs62 ?hf62 ?hr62 ?hq62 (Or.inl ⟨?hw62, ?hy62⟩) hHeld ?rest62
  case hi62 => rw [List.getElem?_toArray]; rfl
  case hq62 => exact fun _ _ _ h => h
  case hs62 | hf62 | hr62 => kernel_rfl
  case hw62 => rfl
  case hy62 => (intro w1 hSw; (try dsimp only at hSw); go_simp; first | rfl | omega)
  (try simp only [Act.put, List.setIfInBounds_toArray, List.set_cons_zero, List.set_cons_succ])
  refine wpAnyH_take (i := 8) (oi := ?oi63) (v := ?v63) (fuel := 0) ?hi63 ?hs63 ?hf63 ?hr63 ?hq63 (Or.inl ⟨?hw63, ?hy63⟩) hHeld ?rest63
  case hi63 => rw [List.getElem?_toArray]; rfl
  case hq63 => exact fun _ _ _ h => h
  case hs63 | hf63 | hr63 => kernel_rfl
  case hw63 => rfl
  case hy63 => (intro w1 hSw; (try dsimp only at hSw); go_simp; try with_reducible rfl)
  (try simp only [Act.put, List.setIfInBounds_toArray, List.set_cons_zero, List.set_cons_succ])
  refine wpAnyH_done (by kernel_rfl) ?_ _
  clear hHeld
  generalize wr = w4 at *
  obtain ⟨l1, hl1e⟩ : ∃ y, y = l0 ++ ((⟨#[32]⟩ : ByteArray) ++ x0) := ⟨_, rfl⟩
  have hl1 : l1.size ≤ 47 := by rw [hl1e, ByteArray.size_append, ByteArray.size_append]; show l0.size + (1 + x0.size) ≤ _; omega
  rw [← hl1e]
  replace hl1e := hid hl1e
  go_wp2_with fail
  rw [rounds_succ]
  obtain ⟨c0, c1, c2, c3, c4, c5⟩ := Box6.cells HB.out
  have lB := Box6.lt HB.out
  go_wp2_with fail
  clear c0 c1 c2 c3 c4 c5 lB
  refine wp_region_held_drew (S := (fun w' => w'.cell? ⟨B, 0, none⟩ = some (.int .i64 (on : Int)) ∧ w'.cell? ⟨B, 1, none⟩ = some (.int .i64 d) ∧ w'.cell? ⟨B, 2, none⟩ = some (.int .i64 s) ∧ w'.cell? ⟨B, 3, none⟩ = some (.int .i64 f) ∧ w'.cell? ⟨B, 4, none⟩ = some (.int .i64 i) ∧ w'.cell? ⟨B, 5, none⟩ = some (.int .i64 z))) (by kernel_rfl) (by exact Box6.cells HB.out) (fun hHeld => ?_)
  have hbd : Below w4.heap.size w4 w4.drew := (Below.refl _ _).drew
  replace HB := hid (HB.out.bel hbd)
  replace HZ := hid (HZ.out.to hbd)
  clear hbd
  generalize w4.drew = W1 at *
  refine wpAnyH_take (i := 0) (oi := ?oi64) (v := ?v64) (fuel := 8) ?hi64 ?hs64 ?hf64 ?hr64 ?hq64 (Or.inl ⟨?hw64, ?hy64⟩) hHeld ?rest64
  case hi64 => rw [List.getElem?_toArray]; rfl
  case hq64 => exact fun _ _ _ h => h
  case hs64 | hf64 | hr64 => kernel_rfl
  case hw64 => rfl
  case hy64 => (intro w1 hSw; (try dsimp only at hSw); go_simp; try with_reducible rfl)
  (try simp only [Act.put, List.setIfInBounds_toArray, List.set_cons_zero, List.set_cons_succ])
  refine wpAnyH_take (i := 1) (oi := ?oi65) (v := ?v65) (fuel := 7) ?hi65 ?hs65 ?hf65 ?hr65 ?hq65 (Or.inl ⟨?hw65, ?hy65⟩) hHeld ?rest65
  case hi65 => rw [List.getElem?_toArray]; rfl
  case hq65 => exact fun _ _ _ h => h
  case hs65 | hf65 | hr65 => kernel_rfl
  case hw65 => rfl
  case hy65 => (intro w1 hSw; (try dsimp only at hSw); go_simp; try with_reducible rfl)
  (try simp only [Act.put, List.setIfInBounds_toArray, List.set_cons_zero, List.set_cons_succ])
  refine wpAnyH_take (i := 2) (oi := ?oi66) (v := ?v66) (fuel := 6) ?hi66 ?hs66 ?hf66 ?hr66 ?hq66 (Or.inl ⟨?hw66, ?hy66⟩) hHeld ?rest66
  case hi66 => rw [List.getElem?_toArray]; rfl
  case hq66 => exact fun _ _ _ h => h
  case hs66 | hf66 | hr66 => kernel_rfl
  case hw66 => rfl
  case hy66 => (intro w1 hSw; (try dsimp only at hSw); go_simp; try with_reducible rfl)
  (try simp only [Act.put, List.setIfInBounds_toArray, List.set_cons_zero, List.set_cons_succ])
  refine wpAnyH_take (i := 3) (oi := ?oi67) (v := ?v67) (fuel := 5) ?hi67 ?hs67 ?hf67 ?hr67 ?hq67 (Or.inl ⟨?hw67, ?hy67⟩) hHeld ?rest67
  case hi67 => rw [List.getElem?_toArray]; rfl
  case hq67 => exact fun _ _ _ h => h
  case hs67 | hf67 | hr67 => kernel_rfl
  case hw67 => rfl
  case hy67 => (intro w1 hSw; (try dsimp only at hSw); go_simp; try with_reducible rfl)
  (try simp only [Act.put, List.setIfInBounds_toArray, List.set_cons_zero, List.set_cons_succ])
  refine wpAnyH_take (i := 4) (oi := ?oi68) (v := ?v68) (fuel := 4) ?hi68 ?hs68 ?hf68 ?hr68 ?hq68 (Or.inl ⟨?hw68, ?hy68⟩) hHeld ?rest68
  case hi68 => rw [List.getElem?_toArray]; rfl
  case hq68 => exact fun _ _ _ h => h
  case hs68 | hf68 | hr68 => kernel_rfl
  case hw68 => rfl
  case hy68 => (intro w1 hSw; (try dsimp only at hSw); go_simp; try with_reducible rfl)
  (try simp only [Act.put, List.setIfInBounds_toArray, List.set_cons_zero, List.set_cons_succ])
  refine wpAnyH_ready (fuel := 3) (rs := [5]) (by kernel_rfl) (by simp) ?_
  refine AllReadyH.cons (o := ?oi69) ?hi69 (fun K hK => ?st69) AllReadyH.nil
  case hi69 => rw [List.getElem?_toArray]; rfl
  go_simp
  refine (part_x _ _ _ _ _ _ hs0 hs1 hi0 hi1 _ (HT.out.below HZ.out)).mono ?_
  rintro ee wr ⟨⟨x1, hx1, hx1e, rfl⟩, bq⟩
  replace HB := hid (HB.out.bel bq)
  replace HZ := hid (HZ.out.to bq)
  clear bq
  go_wp2_with fail
  refine hK.out _ _ ?hS69 (fun hHeld => ?re69)
  case hS69 => exact Box6.cells HB.out
  clear hK K
  (try simp only [Act.put, List.setIfInBounds_toArray, List.set_cons_zero, List.set_cons_succ])
  refine wpAnyH_take (i := 6) (oi := ?oi70) (v := .string ((⟨#[32]⟩ : ByteArray) ++ x1)) (fuel := 2) ?hi70 ?hs70 ?hf70 ?hr70 ?hq70 (Or.inl ⟨?hw70, ?hy70⟩) hHeld ?rest70
  case hi70 => rw [List.getElem?_toArray]; rfl
  case hq70 => exact fun _ _ _ h => h
  case hs70 | hf70 | hr70 => kernel_rfl
  case hw70 => rfl
  case hy70 => (intro w1 hSw; (try dsimp only at hSw); go_simp; first | rfl | omega)
  (try simp only [Act.put, List.setIfInBounds_toArray, List.set_cons_zero, List.set_cons_succ])
  refine wpAnyH_take (i := 7) (oi := ?oi71) (v := .string (l1 ++ ((⟨#[32]⟩ : ByteArray) ++ x1))) (fuel := 1) ?hi71 ?hs71 ?hf71 ?hr71 ?hq71 (Or.inl ⟨?hw71, ?hy71⟩) hHeld ?rest71
  case hi71 => rw [List.getElem?_toArray]; rfl
  case hq71 => exact fun _ _ _ h => h
  case hs71 | hf71 | hr71 => kernel_rfl
  case hw71 => rfl
  case hy71 => (intro w1 hSw; (try dsimp only at hSw); go_simp; first | rfl | omega)
  (try simp only [Act.put, List.setIfInBounds_toArray, List.set_cons_zero, List.set_cons_succ])
  refine wpAnyH_take (i := 8) (oi := ?oi72) (v := ?v72) (fuel := 0) ?hi72 ?hs72 ?hf72 ?hr72 ?hq72 (Or.inl ⟨?hw72, ?hy72⟩) hHeld ?rest72
  case hi72 => rw [List.getElem?_toArray]; rfl
  case hq72 => exact fun _ _ _ h => h
  case hs72 | hf72 | hr72 => kernel_rfl
  case hw72 => rfl
  case hy72 => (intro w1 hSw; (try dsimp only at hSw); go_simp; try with_reducible rfl)
  (try simp only [Act.put, List.setIfInBounds_toArray, List.set_cons_zero, List.set_cons_succ])
  refine wpAnyH_done (by kernel_rfl) ?_ _
  clear hHeld
  generalize wr = w5 at *
  obtain ⟨l2, hl2e⟩ : ∃ y, y = l1 ++ ((⟨#[32]⟩ : ByteArray) ++ x1) := ⟨_, rfl⟩
  have hl2 : l2.size ≤ 69 := by rw [hl2e, ByteArray.size_append, ByteArray.size_append]; show l1.size + (1 + x1.size) ≤ _; omega
  rw [← hl2e]
  replace hl2e := hid hl2e
  go_wp2_with fail
  rw [rounds_succ]
  obtain ⟨c0, c1, c2, c3, c4, c5⟩ := Box6.cells HB.out
  have lB := Box6.lt HB.out
  go_wp2_with fail
  clear c0 c1 c2 c3 c4 c5 lB
  refine wp_region_held_drew (S := (fun w' => w'.cell? ⟨B, 0, none⟩ = some (.int .i64 (on : Int)) ∧ w'.cell? ⟨B, 1, none⟩ = some (.int .i64 d) ∧ w'.cell? ⟨B, 2, none⟩ = some (.int .i64 s) ∧ w'.cell? ⟨B, 3, none⟩ = some (.int .i64 f) ∧ w'.cell? ⟨B, 4, none⟩ = some (.int .i64 i) ∧ w'.cell? ⟨B, 5, none⟩ = some (.int .i64 z))) (by kernel_rfl) (by exact Box6.cells HB.out) (fun hHeld => ?_)
  have hbd : Below w5.heap.size w5 w5.drew := (Below.refl _ _).drew
  replace HB := hid (HB.out.bel hbd)
  replace HZ := hid (HZ.out.to hbd)
  clear hbd
  generalize w5.drew = W1 at *
  refine wpAnyH_take (i := 0) (oi := ?oi73) (v := ?v73) (fuel := 8) ?hi73 ?hs73 ?hf73 ?hr73 ?hq73 (Or.inl ⟨?hw73, ?hy73⟩) hHeld ?rest73
  case hi73 => rw [List.getElem?_toArray]; rfl
  case hq73 => exact fun _ _ _ h => h
  case hs73 | hf73 | hr73 => kernel_rfl
  case hw73 => rfl
  case hy73 => (intro w1 hSw; (try dsimp only at hSw); go_simp; try with_reducible rfl)
  (try simp only [Act.put, List.setIfInBounds_toArray, List.set_cons_zero, List.set_cons_succ])
  refine wpAnyH_take (i := 1) (oi := ?oi74) (v := ?v74) (fuel := 7) ?hi74 ?hs74 ?hf74 ?hr74 ?hq74 (Or.inl ⟨?hw74, ?hy74⟩) hHeld ?rest74
  case hi74 => rw [List.getElem?_toArray]; rfl
  case hq74 => exact fun _ _ _ h => h
  case hs74 | hf74 | hr74 => kernel_rfl
  case hw74 => rfl
  case hy74 => (intro w1 hSw; (try dsimp only at hSw); go_simp; try with_reducible rfl)
  (try simp only [Act.put, List.setIfInBounds_toArray, List.set_cons_zero, List.set_cons_succ])
  refine wpAnyH_take (i := 2) (oi := ?oi75) (v := ?v75) (fuel := 6) ?hi75 ?hs75 ?hf75 ?hr75 ?hq75 (Or.inl ⟨?hw75, ?hy75⟩) hHeld ?rest75
  case hi75 => rw [List.getElem?_toArray]; rfl
  case hq75 => exact fun _ _ _ h => h
  case hs75 | hf75 | hr75 => kernel_rfl
  case hw75 => rfl
  case hy75 => (intro w1 hSw; (try dsimp only at hSw); go_simp; try with_reducible rfl)
  (try simp only [Act.put, List.setIfInBounds_toArray, List.set_cons_zero, List.set_cons_succ])
  refine wpAnyH_take (i := 3) (oi := ?oi76) (v := ?v76) (fuel := 5) ?hi76 ?hs76 ?hf76 ?hr76 ?hq76 (Or.inl ⟨?hw76, ?hy76⟩) hHeld ?rest76
  case hi76 => rw [List.getElem?_toArray]; rfl
  case hq76 => exact fun _ _ _ h => h
  case hs76 | hf76 | hr76 => kernel_rfl
  case hw76 => rfl
  case hy76 => (intro w1 hSw; (try dsimp only at hSw); go_simp; try with_reducible rfl)
  (try simp only [Act.put, List.setIfInBounds_toArray, List.set_cons_zero, List.set_cons_succ])
  refine wpAnyH_take (i := 4) (oi := ?oi77) (v := ?v77) (fuel := 4) ?hi77 ?hs77 ?hf77 ?hr77 ?hq77 (Or.inl ⟨?hw77, ?hy77⟩) hHeld ?rest77
  case hi77 => rw [List.getElem?_toArray]; rfl
  case hq77 => exact fun _ _ _ h => h
  case hs77 | hf77 | hr77 => kernel_rfl
  case hw77 => rfl
  case hy77 => (intro w1 hSw; (try dsimp only at hSw); go_simp; try with_reducible rfl)
  (try simp only [Act.put, List.setIfInBounds_toArray, List.set_cons_zero, List.set_cons_succ])
  refine wpAnyH_ready (fuel := 3) (rs := [5]) (by kernel_rfl) (by simp) ?_
  refine AllReadyH.cons (o := ?oi78) ?hi78 (fun K hK => ?st78) AllReadyH.nil
  case hi78 => rw [List.getElem?_toArray]; rfl
  go_simp
  refine (part_o _ _ _ _ _ _ hf0 hf1 _ (HT.out.below HZ.out)).mono ?_
  rintro ee wr ⟨⟨x2, hx2, hx2e, rfl⟩, bq⟩
  replace HB := hid (HB.out.bel bq)
  replace HZ := hid (HZ.out.to bq)
  clear bq
  go_wp2_with fail
  refine hK.out _ _ ?hS78 (fun hHeld => ?re78)
  case hS78 => exact Box6.cells HB.out
  clear hK K
  (try simp only [Act.put, List.setIfInBounds_toArray, List.set_cons_zero, List.set_cons_succ])
  refine wpAnyH_take (i := 6) (oi := ?oi79) (v := .string ((⟨#[32]⟩ : ByteArray) ++ x2)) (fuel := 2) ?hi79 ?hs79 ?hf79 ?hr79 ?hq79 (Or.inl ⟨?hw79, ?hy79⟩) hHeld ?rest79
  case hi79 => rw [List.getElem?_toArray]; rfl
  case hq79 => exact fun _ _ _ h => h
  case hs79 | hf79 | hr79 => kernel_rfl
  case hw79 => rfl
  case hy79 => (intro w1 hSw; (try dsimp only at hSw); go_simp; first | rfl | omega)
  (try simp only [Act.put, List.setIfInBounds_toArray, List.set_cons_zero, List.set_cons_succ])
  refine wpAnyH_take (i := 7) (oi := ?oi80) (v := .string (l2 ++ ((⟨#[32]⟩ : ByteArray) ++ x2))) (fuel := 1) ?hi80 ?hs80 ?hf80 ?hr80 ?hq80 (Or.inl ⟨?hw80, ?hy80⟩) hHeld ?rest80
  case hi80 => rw [List.getElem?_toArray]; rfl
  case hq80 => exact fun _ _ _ h => h
  case hs80 | hf80 | hr80 => kernel_rfl
  case hw80 => rfl
  case hy80 => (intro w1 hSw; (try dsimp only at hSw); go_simp; first | rfl | omega)
  (try simp only [Act.put, List.setIfInBounds_toArray, List.set_cons_zero, List.set_cons_succ])
  refine wpAnyH_take (i := 8) (oi := ?oi81) (v := ?v81) (fuel := 0) ?hi81 ?hs81 ?hf81 ?hr81 ?hq81 (Or.inl ⟨?hw81, ?hy81⟩) hHeld ?rest81
  case hi81 => rw [List.getElem?_toArray]; rfl
  case hq81 => exact fun _ _ _ h => h
  case hs81 | hf81 | hr81 => kernel_rfl
  case hw81 => rfl
  case hy81 => (intro w1 hSw; (try dsimp only at hSw); go_simp; try with_reducible rfl)
  (try simp only [Act.put, List.setIfInBounds_toArray, List.set_cons_zero, List.set_cons_succ])
  refine wpAnyH_done (by kernel_rfl) ?_ _
  clear hHeld
  generalize wr = w6 at *
  obtain ⟨l3, hl3e⟩ : ∃ y, y = l2 ++ ((⟨#[32]⟩ : ByteArray) ++ x2) := ⟨_, rfl⟩
  have hl3 : l3.size ≤ 91 := by rw [hl3e, ByteArray.size_append, ByteArray.size_append]; show l2.size + (1 + x2.size) ≤ _; omega
  rw [← hl3e]
  replace hl3e := hid hl3e
  go_wp2_with fail
  rw [rounds_succ]
  go_wp2_with fail
  go_ret
  exact ⟨⟨l3, by omega, hid (by rw [hl3e.out, hx2e.out, hl2e.out, hx1e.out, hl1e.out, hx0e.out, hl0e.out]; rfl), rfl⟩, HZ.out⟩

set_option maxRecDepth 100000 in
set_option maxHeartbeats 4000000 in
theorem put_ldox (on : Nat) (d s f i z : Int) (w : World) (hT : Tabs w) (hok : insOkB (on : Int) d s f i z = true) (hd0 : 0 ≤ d) (hd1 : d ≤ 10) (hs0 : -1 ≤ s) (hs1 : s ≤ 10) (hf0 : -128 ≤ f) (hf1 : f ≤ 127) (hi0 : 0 ≤ i) (hi1 : i ≤ 4294967295) (hon : on < 21) (hr : reachesB (on : Int) = true) (hps : partsS (on : Int) = ⟨#[100, 111, 120]⟩) (hz0 : 0 ≤ z) (hz1 : z ≤ 4) :
    Calls Tryz.prog 6 #[.agg #[.int .i64 (on : Int), .int .i64 d, .int .i64 s, .int .i64 f, .int .i64 i, .int .i64 z]] w fun e w' => AnE 200 ((((wordsL.getD on ⟨#[]⟩ ++ decI z) ++ (SP_ ++ ((⟨#[114]⟩ : ByteArray) ++ decI d))) ++ (SP_ ++ decI f)) ++ (SP_ ++ regI s i)) e ∧ Below w.heap.size w w' := by
  have HT := hid hT
  have HPS := hid hps
  clear hT hps
  go_enter Tryz.func6, Tryz.ntmps6
  go_wp2_with fail
  have hb : Box6 (w.alloc (.cells #[.int .i64 (on : Int), .int .i64 d, .int .i64 s, .int .i64 f, .int .i64 i, .int .i64 z] 24)) w.heap.size (on : Int) d s f i z := World.alloc_heap_new w _
  have hz : Below w.heap.size w (w.alloc (.cells #[.int .i64 (on : Int), .int .i64 d, .int .i64 s, .int .i64 f, .int .i64 i, .int .i64 z] 24)) := (Below.refl _ _).alloc (Nat.le_refl _) _
  have HB := hid hb
  have HZ := hid hz
  clear hb hz
  generalize w.alloc (.cells #[.int .i64 (on : Int), .int .i64 d, .int .i64 s, .int .i64 f, .int .i64 i, .int .i64 z] 24) = w1 at *
  obtain ⟨B, hB⟩ : ∃ B, B = w.heap.size := ⟨_, rfl⟩
  have HBE := hid hB
  rw [← hB] at HB ⊢
  clear hB
  refine (f11 _ _ _ _ _ _ _).mono ?_
  rintro e w2 ⟨rfl, b2⟩
  replace HB := hid (HB.out.bel b2)
  replace HZ := hid (HZ.out.to b2)
  clear b2
  rw [hok]
  obtain ⟨c0, c1, c2, c3, c4, c5⟩ := Box6.cells HB.out
  have lB := Box6.lt HB.out
  go_wp2_with fail
  clear c0 c1 c2 c3 c4 c5 lB
  refine (first_1 on z hon hr (by omega) (by omega) _ (HT.out.below HZ.out)).mono ?_
  rintro e w3 ⟨⟨l0, hl0, hl0e, rfl⟩, b3⟩
  replace HB := hid (HB.out.bel b3)
  replace HZ := hid (HZ.out.to b3)
  clear b3
  obtain ⟨c0, c1, c2, c3, c4, c5⟩ := Box6.cells HB.out
  have lB := Box6.lt HB.out
  go_wp2_with fail
  clear c0 c1 c2 c3 c4 c5 lB
  refine (parts_w _ _).mono ?_
  rintro e w' ⟨rfl, hw⟩
  rw [hw]
  clear hw w'
  rw [HPS.out]
  go_wp2_with fail
  refine wp_loop_rounds 4 ?_
  rw [rounds_succ]
  obtain ⟨c0, c1, c2, c3, c4, c5⟩ := Box6.cells HB.out
  have lB := Box6.lt HB.out
  go_wp2_with fail
  clear c0 c1 c2 c3 c4 c5 lB
  refine wp_region_held_drew (S := (fun w' => w'.cell? ⟨B, 0, none⟩ = some (.int .i64 (on : Int)) ∧ w'.cell? ⟨B, 1, none⟩ = some (.int .i64 d) ∧ w'.cell? ⟨B, 2, none⟩ = some (.int .i64 s) ∧ w'.cell? ⟨B, 3, none⟩ = some (.int .i64 f) ∧ w'.cell? ⟨B, 4, none⟩ = some (.int .i64 i) ∧ w'.cell? ⟨B, 5, none⟩ = some (.int .i64 z))) (by kernel_rfl) (by exact Box6.cells HB.out) (fun hHeld => ?_)
  have hbd : Below w3.heap.size w3 w3.drew := (Below.refl _ _).drew
  replace HB := hid (HB.out.bel hbd)
  replace HZ := hid (HZ.out.to hbd)
  clear hbd
  generalize w3.drew = W1 at *
  refine wpAnyH_take (i := 0) (oi := ?oi82) (v := ?v82) (fuel := 8) ?hi82 ?hs82 ?hf82 ?hr82 ?hq82 (Or.inl ⟨?hw82, ?hy82⟩) hHeld ?rest82
  case hi82 => rw [List.getElem?_toArray]; rfl
  case hq82 => exact fun _ _ _ h => h
  case hs82 | hf82 | hr82 => kernel_rfl
  case hw82 => rfl
  case hy82 => (intro w1 hSw; (try dsimp only at hSw); go_simp; try with_reducible rfl)
  (try simp only [Act.put, List.setIfInBounds_toArray, List.set_cons_zero, List.set_cons_succ])
  refine wpAnyH_take (i := 1) (oi := ?oi83) (v := ?v83) (fuel := 7) ?hi83 ?hs83 ?hf83 ?hr83 ?hq83 (Or.inl ⟨?hw83, ?hy83⟩) hHeld ?rest83
  case hi83 => rw [List.getElem?_toArray]; rfl
  case hq83 => exact fun _ _ _ h => h
  case hs83 | hf83 | hr83 => kernel_rfl
  case hw83 => rfl
  case hy83 => (intro w1 hSw; (try dsimp only at hSw); go_simp; try with_reducible rfl)
  (try simp only [Act.put, List.setIfInBounds_toArray, List.set_cons_zero, List.set_cons_succ])
  refine wpAnyH_take (i := 2) (oi := ?oi84) (v := ?v84) (fuel := 6) ?hi84 ?hs84 ?hf84 ?hr84 ?hq84 (Or.inl ⟨?hw84, ?hy84⟩) hHeld ?rest84
  case hi84 => rw [List.getElem?_toArray]; rfl
  case hq84 => exact fun _ _ _ h => h
  case hs84 | hf84 | hr84 => kernel_rfl
  case hw84 => rfl
  case hy84 => (intro w1 hSw; (try dsimp only at hSw); go_simp; try with_reducible rfl)
  (try simp only [Act.put, List.setIfInBounds_toArray, List.set_cons_zero, List.set_cons_succ])
  refine wpAnyH_take (i := 3) (oi := ?oi85) (v := ?v85) (fuel := 5) ?hi85 ?hs85 ?hf85 ?hr85 ?hq85 (Or.inl ⟨?hw85, ?hy85⟩) hHeld ?rest85
  case hi85 => rw [List.getElem?_toArray]; rfl
  case hq85 => exact fun _ _ _ h => h
  case hs85 | hf85 | hr85 => kernel_rfl
  case hw85 => rfl
  case hy85 => (intro w1 hSw; (try dsimp only at hSw); go_simp; try with_reducible rfl)
  (try simp only [Act.put, List.setIfInBounds_toArray, List.set_cons_zero, List.set_cons_succ])
  refine wpAnyH_take (i := 4) (oi := ?oi86) (v := ?v86) (fuel := 4) ?hi86 ?hs86 ?hf86 ?hr86 ?hq86 (Or.inl ⟨?hw86, ?hy86⟩) hHeld ?rest86
  case hi86 => rw [List.getElem?_toArray]; rfl
  case hq86 => exact fun _ _ _ h => h
  case hs86 | hf86 | hr86 => kernel_rfl
  case hw86 => rfl
  case hy86 => (intro w1 hSw; (try dsimp only at hSw); go_simp; try with_reducible rfl)
  (try simp only [Act.put, List.setIfInBounds_toArray, List.set_cons_zero, List.set_cons_succ])
  refine wpAnyH_ready (fuel := 3) (rs := [5]) (by kernel_rfl) (by simp) ?_
  refine AllReadyH.cons (o := ?oi87) ?hi87 (fun K hK => ?st87) AllReadyH.nil
  case hi87 => rw [List.getElem?_toArray]; rfl
  go_simp
  refine (part_d _ _ _ _ _ _ hd0 hd1 _ (HT.out.below HZ.out)).mono ?_
  rintro ee wr ⟨⟨x0, hx0, hx0e, rfl⟩, bq⟩
  replace HB := hid (HB.out.bel bq)
  replace HZ := hid (HZ.out.to bq)
  clear bq
  go_wp2_with fail
  refine hK.out _ _ ?hS87 (fun hHeld => ?re87)
  case hS87 => exact Box6.cells HB.out
  clear hK K
  (try simp only [Act.put, List.setIfInBounds_toArray, List.set_cons_zero, List.set_cons_succ])
  refine wpAnyH_take (i := 6) (oi := ?oi88) (v := .string ((⟨#[32]⟩ : ByteArray) ++ x0)) (fuel := 2) ?hi88 ?hs88 ?hf88 ?hr88 ?hq88 (Or.inl ⟨?hw88, ?hy88⟩) hHeld ?rest88
  case hi88 => rw [List.getElem?_toArray]; rfl
  case hq88 => exact fun _ _ _ h => h
  case hs88 | hf88 | hr88 => kernel_rfl
  case hw88 => rfl
  case hy88 => (intro w1 hSw; (try dsimp only at hSw); go_simp; first | rfl | omega)
  (try simp only [Act.put, List.setIfInBounds_toArray, List.set_cons_zero, List.set_cons_succ])
  refine wpAnyH_take (i := 7) (oi := ?oi89) (v := .string (l0 ++ ((⟨#[32]⟩ : ByteArray) ++ x0))) (fuel := 1) ?hi89 ?hs89 ?hf89 ?hr89 ?hq89 (Or.inl ⟨?hw89, ?hy89⟩) hHeld ?rest89
  case hi89 => rw [List.getElem?_toArray]; rfl
  case hq89 => exact fun _ _ _ h => h
  case hs89 | hf89 | hr89 => kernel_rfl
  case hw89 => rfl
  case hy89 => (intro w1 hSw; (try dsimp only at hSw); go_simp; first | rfl | omega)
  (try simp only [Act.put, List.setIfInBounds_toArray, List.set_cons_zero, List.set_cons_succ])
  refine wpAnyH_take (i := 8) (oi := ?oi90) (v := ?v90) (fuel := 0) ?hi90 ?hs90 ?hf90 ?hr90 ?hq90 (Or.inl ⟨?hw90, ?hy90⟩) hHeld ?rest90
  case hi90 => rw [List.getElem?_toArray]; rfl
  case hq90 => exact fun _ _ _ h => h
  case hs90 | hf90 | hr90 => kernel_rfl
  case hw90 => rfl
  case hy90 => (intro w1 hSw; (try dsimp only at hSw); go_simp; try with_reducible rfl)
  (try simp only [Act.put, List.setIfInBounds_toArray, List.set_cons_zero, List.set_cons_succ])
  refine wpAnyH_done (by kernel_rfl) ?_ _
  clear hHeld
  generalize wr = w4 at *
  obtain ⟨l1, hl1e⟩ : ∃ y, y = l0 ++ ((⟨#[32]⟩ : ByteArray) ++ x0) := ⟨_, rfl⟩
  have hl1 : l1.size ≤ 47 := by rw [hl1e, ByteArray.size_append, ByteArray.size_append]; show l0.size + (1 + x0.size) ≤ _; omega
  rw [← hl1e]
  replace hl1e := hid hl1e
  go_wp2_with fail
  rw [rounds_succ]
  obtain ⟨c0, c1, c2, c3, c4, c5⟩ := Box6.cells HB.out
  have lB := Box6.lt HB.out
  go_wp2_with fail
  clear c0 c1 c2 c3 c4 c5 lB
  refine wp_region_held_drew (S := (fun w' => w'.cell? ⟨B, 0, none⟩ = some (.int .i64 (on : Int)) ∧ w'.cell? ⟨B, 1, none⟩ = some (.int .i64 d) ∧ w'.cell? ⟨B, 2, none⟩ = some (.int .i64 s) ∧ w'.cell? ⟨B, 3, none⟩ = some (.int .i64 f) ∧ w'.cell? ⟨B, 4, none⟩ = some (.int .i64 i) ∧ w'.cell? ⟨B, 5, none⟩ = some (.int .i64 z))) (by kernel_rfl) (by exact Box6.cells HB.out) (fun hHeld => ?_)
  have hbd : Below w4.heap.size w4 w4.drew := (Below.refl _ _).drew
  replace HB := hid (HB.out.bel hbd)
  replace HZ := hid (HZ.out.to hbd)
  clear hbd
  generalize w4.drew = W1 at *
  refine wpAnyH_take (i := 0) (oi := ?oi91) (v := ?v91) (fuel := 8) ?hi91 ?hs91 ?hf91 ?hr91 ?hq91 (Or.inl ⟨?hw91, ?hy91⟩) hHeld ?rest91
  case hi91 => rw [List.getElem?_toArray]; rfl
  case hq91 => exact fun _ _ _ h => h
  case hs91 | hf91 | hr91 => kernel_rfl
  case hw91 => rfl
  case hy91 => (intro w1 hSw; (try dsimp only at hSw); go_simp; try with_reducible rfl)
  (try simp only [Act.put, List.setIfInBounds_toArray, List.set_cons_zero, List.set_cons_succ])
  refine wpAnyH_take (i := 1) (oi := ?oi92) (v := ?v92) (fuel := 7) ?hi92 ?hs92 ?hf92 ?hr92 ?hq92 (Or.inl ⟨?hw92, ?hy92⟩) hHeld ?rest92
  case hi92 => rw [List.getElem?_toArray]; rfl
  case hq92 => exact fun _ _ _ h => h
  case hs92 | hf92 | hr92 => kernel_rfl
  case hw92 => rfl
  case hy92 => (intro w1 hSw; (try dsimp only at hSw); go_simp; try with_reducible rfl)
  (try simp only [Act.put, List.setIfInBounds_toArray, List.set_cons_zero, List.set_cons_succ])
  refine wpAnyH_take (i := 2) (oi := ?oi93) (v := ?v93) (fuel := 6) ?hi93 ?hs93 ?hf93 ?hr93 ?hq93 (Or.inl ⟨?hw93, ?hy93⟩) hHeld ?rest93
  case hi93 => rw [List.getElem?_toArray]; rfl
  case hq93 => exact fun _ _ _ h => h
  case hs93 | hf93 | hr93 => kernel_rfl
  case hw93 => rfl
  case hy93 => (intro w1 hSw; (try dsimp only at hSw); go_simp; try with_reducible rfl)
  (try simp only [Act.put, List.setIfInBounds_toArray, List.set_cons_zero, List.set_cons_succ])
  refine wpAnyH_take (i := 3) (oi := ?oi94) (v := ?v94) (fuel := 5) ?hi94 ?hs94 ?hf94 ?hr94 ?hq94 (Or.inl ⟨?hw94, ?hy94⟩) hHeld ?rest94
  case hi94 => rw [List.getElem?_toArray]; rfl
  case hq94 => exact fun _ _ _ h => h
  case hs94 | hf94 | hr94 => kernel_rfl
  case hw94 => rfl
  case hy94 => (intro w1 hSw; (try dsimp only at hSw); go_simp; try with_reducible rfl)
  (try simp only [Act.put, List.setIfInBounds_toArray, List.set_cons_zero, List.set_cons_succ])
  refine wpAnyH_take (i := 4) (oi := ?oi95) (v := ?v95) (fuel := 4) ?hi95 ?hs95 ?hf95 ?hr95 ?hq95 (Or.inl ⟨?hw95, ?hy95⟩) hHeld ?rest95
  case hi95 => rw [List.getElem?_toArray]; rfl
  case hq95 => exact fun _ _ _ h => h
  case hs95 | hf95 | hr95 => kernel_rfl
  case hw95 => rfl
  case hy95 => (intro w1 hSw; (try dsimp only at hSw); go_simp; try with_reducible rfl)
  (try simp only [Act.put, List.setIfInBounds_toArray, List.set_cons_zero, List.set_cons_succ])
  refine wpAnyH_ready (fuel := 3) (rs := [5]) (by kernel_rfl) (by simp) ?_
  refine AllReadyH.cons (o := ?oi96) ?hi96 (fun K hK => ?st96) AllReadyH.nil
  case hi96 => rw [List.getElem?_toArray]; rfl
  go_simp
  refine (part_o _ _ _ _ _ _ hf0 hf1 _ (HT.out.below HZ.out)).mono ?_
  rintro ee wr ⟨⟨x1, hx1, hx1e, rfl⟩, bq⟩
  replace HB := hid (HB.out.bel bq)
  replace HZ := hid (HZ.out.to bq)
  clear bq
  go_wp2_with fail
  refine hK.out _ _ ?hS96 (fun hHeld => ?re96)
  case hS96 => exact Box6.cells HB.out
  clear hK K
  (try simp only [Act.put, List.setIfInBounds_toArray, List.set_cons_zero, List.set_cons_succ])
  refine wpAnyH_take (i := 6) (oi := ?oi97) (v := .string ((⟨#[32]⟩ : ByteArray) ++ x1)) (fuel := 2) ?hi97 ?hs97 ?hf97 ?hr97 ?hq97 (Or.inl ⟨?hw97, ?hy97⟩) hHeld ?rest97
  case hi97 => rw [List.getElem?_toArray]; rfl
  case hq97 => exact fun _ _ _ h => h
  case hs97 | hf97 | hr97 => kernel_rfl
  case hw97 => rfl
  case hy97 => (intro w1 hSw; (try dsimp only at hSw); go_simp; first | rfl | omega)
  (try simp only [Act.put, List.setIfInBounds_toArray, List.set_cons_zero, List.set_cons_succ])
  refine wpAnyH_take (i := 7) (oi := ?oi98) (v := .string (l1 ++ ((⟨#[32]⟩ : ByteArray) ++ x1))) (fuel := 1) ?hi98 ?hs98 ?hf98 ?hr98 ?hq98 (Or.inl ⟨?hw98, ?hy98⟩) hHeld ?rest98
  case hi98 => rw [List.getElem?_toArray]; rfl
  case hq98 => exact fun _ _ _ h => h
  case hs98 | hf98 | hr98 => kernel_rfl
  case hw98 => rfl
  case hy98 => (intro w1 hSw; (try dsimp only at hSw); go_simp; first | rfl | omega)
  (try simp only [Act.put, List.setIfInBounds_toArray, List.set_cons_zero, List.set_cons_succ])
  refine wpAnyH_take (i := 8) (oi := ?oi99) (v := ?v99) (fuel := 0) ?hi99 ?hs99 ?hf99 ?hr99 ?hq99 (Or.inl ⟨?hw99, ?hy99⟩) hHeld ?rest99
  case hi99 => rw [List.getElem?_toArray]; rfl
  case hq99 => exact fun _ _ _ h => h
  case hs99 | hf99 | hr99 => kernel_rfl
  case hw99 => rfl
  case hy99 => (intro w1 hSw; (try dsimp only at hSw); go_simp; try with_reducible rfl)
  (try simp only [Act.put, List.setIfInBounds_toArray, List.set_cons_zero, List.set_cons_succ])
  refine wpAnyH_done (by kernel_rfl) ?_ _
  clear hHeld
  generalize wr = w5 at *
  obtain ⟨l2, hl2e⟩ : ∃ y, y = l1 ++ ((⟨#[32]⟩ : ByteArray) ++ x1) := ⟨_, rfl⟩
  have hl2 : l2.size ≤ 69 := by rw [hl2e, ByteArray.size_append, ByteArray.size_append]; show l1.size + (1 + x1.size) ≤ _; omega
  rw [← hl2e]
  replace hl2e := hid hl2e
  go_wp2_with fail
  rw [rounds_succ]
  obtain ⟨c0, c1, c2, c3, c4, c5⟩ := Box6.cells HB.out
  have lB := Box6.lt HB.out
  go_wp2_with fail
  clear c0 c1 c2 c3 c4 c5 lB
  refine wp_region_held_drew (S := (fun w' => w'.cell? ⟨B, 0, none⟩ = some (.int .i64 (on : Int)) ∧ w'.cell? ⟨B, 1, none⟩ = some (.int .i64 d) ∧ w'.cell? ⟨B, 2, none⟩ = some (.int .i64 s) ∧ w'.cell? ⟨B, 3, none⟩ = some (.int .i64 f) ∧ w'.cell? ⟨B, 4, none⟩ = some (.int .i64 i) ∧ w'.cell? ⟨B, 5, none⟩ = some (.int .i64 z))) (by kernel_rfl) (by exact Box6.cells HB.out) (fun hHeld => ?_)
  have hbd : Below w5.heap.size w5 w5.drew := (Below.refl _ _).drew
  replace HB := hid (HB.out.bel hbd)
  replace HZ := hid (HZ.out.to hbd)
  clear hbd
  generalize w5.drew = W1 at *
  refine wpAnyH_take (i := 0) (oi := ?oi100) (v := ?v100) (fuel := 8) ?hi100 ?hs100 ?hf100 ?hr100 ?hq100 (Or.inl ⟨?hw100, ?hy100⟩) hHeld ?rest100
  case hi100 => rw [List.getElem?_toArray]; rfl
  case hq100 => exact fun _ _ _ h => h
  case hs100 | hf100 | hr100 => kernel_rfl
  case hw100 => rfl
  case hy100 => (intro w1 hSw; (try dsimp only at hSw); go_simp; try with_reducible rfl)
  (try simp only [Act.put, List.setIfInBounds_toArray, List.set_cons_zero, List.set_cons_succ])
  refine wpAnyH_take (i := 1) (oi := ?oi101) (v := ?v101) (fuel := 7) ?hi101 ?hs101 ?hf101 ?hr101 ?hq101 (Or.inl ⟨?hw101, ?hy101⟩) hHeld ?rest101
  case hi101 => rw [List.getElem?_toArray]; rfl
  case hq101 => exact fun _ _ _ h => h
  case hs101 | hf101 | hr101 => kernel_rfl
  case hw101 => rfl
  case hy101 => (intro w1 hSw; (try dsimp only at hSw); go_simp; try with_reducible rfl)
  (try simp only [Act.put, List.setIfInBounds_toArray, List.set_cons_zero, List.set_cons_succ])
  refine wpAnyH_take (i := 2) (oi := ?oi102) (v := ?v102) (fuel := 6) ?hi102 ?hs102 ?hf102 ?hr102 ?hq102 (Or.inl ⟨?hw102, ?hy102⟩) hHeld ?rest102
  case hi102 => rw [List.getElem?_toArray]; rfl
  case hq102 => exact fun _ _ _ h => h
  case hs102 | hf102 | hr102 => kernel_rfl
  case hw102 => rfl
  case hy102 => (intro w1 hSw; (try dsimp only at hSw); go_simp; try with_reducible rfl)
  (try simp only [Act.put, List.setIfInBounds_toArray, List.set_cons_zero, List.set_cons_succ])
  refine wpAnyH_take (i := 3) (oi := ?oi103) (v := ?v103) (fuel := 5) ?hi103 ?hs103 ?hf103 ?hr103 ?hq103 (Or.inl ⟨?hw103, ?hy103⟩) hHeld ?rest103
  case hi103 => rw [List.getElem?_toArray]; rfl
  case hq103 => exact fun _ _ _ h => h
  case hs103 | hf103 | hr103 => kernel_rfl
  case hw103 => rfl
  case hy103 => (intro w1 hSw; (try dsimp only at hSw); go_simp; try with_reducible rfl)
  (try simp only [Act.put, List.setIfInBounds_toArray, List.set_cons_zero, List.set_cons_succ])
  refine wpAnyH_take (i := 4) (oi := ?oi104) (v := ?v104) (fuel := 4) ?hi104 ?hs104 ?hf104 ?hr104 ?hq104 (Or.inl ⟨?hw104, ?hy104⟩) hHeld ?rest104
  case hi104 => rw [List.getElem?_toArray]; rfl
  case hq104 => exact fun _ _ _ h => h
  case hs104 | hf104 | hr104 => kernel_rfl
  case hw104 => rfl
  case hy104 => (intro w1 hSw; (try dsimp only at hSw); go_simp; try with_reducible rfl)
  (try simp only [Act.put, List.setIfInBounds_toArray, List.set_cons_zero, List.set_cons_succ])
  refine wpAnyH_ready (fuel := 3) (rs := [5]) (by kernel_rfl) (by simp) ?_
  refine AllReadyH.cons (o := ?oi105) ?hi105 (fun K hK => ?st105) AllReadyH.nil
  case hi105 => rw [List.getElem?_toArray]; rfl
  go_simp
  refine (part_x _ _ _ _ _ _ hs0 hs1 hi0 hi1 _ (HT.out.below HZ.out)).mono ?_
  rintro ee wr ⟨⟨x2, hx2, hx2e, rfl⟩, bq⟩
  replace HB := hid (HB.out.bel bq)
  replace HZ := hid (HZ.out.to bq)
  clear bq
  go_wp2_with fail
  refine hK.out _ _ ?hS105 (fun hHeld => ?re105)
  case hS105 => exact Box6.cells HB.out
  clear hK K
  (try simp only [Act.put, List.setIfInBounds_toArray, List.set_cons_zero, List.set_cons_succ])
  refine wpAnyH_take (i := 6) (oi := ?oi106) (v := .string ((⟨#[32]⟩ : ByteArray) ++ x2)) (fuel := 2) ?hi106 ?hs106 ?hf106 ?hr106 ?hq106 (Or.inl ⟨?hw106, ?hy106⟩) hHeld ?rest106
  case hi106 => rw [List.getElem?_toArray]; rfl
  case hq106 => exact fun _ _ _ h => h
  case hs106 | hf106 | hr106 => kernel_rfl
  case hw106 => rfl
  case hy106 => (intro w1 hSw; (try dsimp only at hSw); go_simp; first | rfl | omega)
  (try simp only [Act.put, List.setIfInBounds_toArray, List.set_cons_zero, List.set_cons_succ])
  refine wpAnyH_take (i := 7) (oi := ?oi107) (v := .string (l2 ++ ((⟨#[32]⟩ : ByteArray) ++ x2))) (fuel := 1) ?hi107 ?hs107 ?hf107 ?hr107 ?hq107 (Or.inl ⟨?hw107, ?hy107⟩) hHeld ?rest107
  case hi107 => rw [List.getElem?_toArray]; rfl
  case hq107 => exact fun _ _ _ h => h
  case hs107 | hf107 | hr107 => kernel_rfl
  case hw107 => rfl
  case hy107 => (intro w1 hSw; (try dsimp only at hSw); go_simp; first | rfl | omega)
  (try simp only [Act.put, List.setIfInBounds_toArray, List.set_cons_zero, List.set_cons_succ])
  refine wpAnyH_take (i := 8) (oi := ?oi108) (v := ?v108) (fuel := 0) ?hi108 ?hs108 ?hf108 ?hr108 ?hq108 (Or.inl ⟨?hw108, ?hy108⟩) hHeld ?rest108
  case hi108 => rw [List.getElem?_toArray]; rfl
  case hq108 => exact fun _ _ _ h => h
  case hs108 | hf108 | hr108 => kernel_rfl
  case hw108 => rfl
  case hy108 => (intro w1 hSw; (try dsimp only at hSw); go_simp; try with_reducible rfl)
  (try simp only [Act.put, List.setIfInBounds_toArray, List.set_cons_zero, List.set_cons_succ])
  refine wpAnyH_done (by kernel_rfl) ?_ _
  clear hHeld
  generalize wr = w6 at *
  obtain ⟨l3, hl3e⟩ : ∃ y, y = l2 ++ ((⟨#[32]⟩ : ByteArray) ++ x2) := ⟨_, rfl⟩
  have hl3 : l3.size ≤ 91 := by rw [hl3e, ByteArray.size_append, ByteArray.size_append]; show l2.size + (1 + x2.size) ≤ _; omega
  rw [← hl3e]
  replace hl3e := hid hl3e
  go_wp2_with fail
  rw [rounds_succ]
  go_wp2_with fail
  go_ret
  exact ⟨⟨l3, by omega, hid (by rw [hl3e.out, hx2e.out, hl2e.out, hx1e.out, hl1e.out, hx0e.out, hl0e.out]; rfl), rfl⟩, HZ.out⟩

set_option maxRecDepth 100000 in
set_option maxHeartbeats 4000000 in
theorem put_c (im : Nat) (on : Nat) (d s f i z : Int) (w : World) (hT : Tabs w) (hok : insOkB (on : Int) d s f (im : Int) z = true) (hd0 : 0 ≤ d) (hd1 : d ≤ 10) (hs0 : -1 ≤ s) (hs1 : s ≤ 10) (hf0 : -128 ≤ f) (hf1 : f ≤ 127) (hi0 : 0 ≤ i) (hi1 : i ≤ 4294967295) (hon : on < 21) (hr : reachesB (on : Int) = false) (hps : partsS (on : Int) = ⟨#[99]⟩) (him7 : im < 7) :
    Calls Tryz.prog 6 #[.agg #[.int .i64 (on : Int), .int .i64 d, .int .i64 s, .int .i64 f, .int .i64 (im : Int), .int .i64 z]] w fun e w' => AnE 200 ((wordsL.getD on ⟨#[]⟩) ++ (SP_ ++ callsL.getD im ⟨#[]⟩)) e ∧ Below w.heap.size w w' := by
  have HT := hid hT
  have HPS := hid hps
  clear hT hps
  have him' : (im : Int) < 7 := by omega
  go_enter Tryz.func6, Tryz.ntmps6
  go_wp2_with fail
  have hb : Box6 (w.alloc (.cells #[.int .i64 (on : Int), .int .i64 d, .int .i64 s, .int .i64 f, .int .i64 (im : Int), .int .i64 z] 24)) w.heap.size (on : Int) d s f (im : Int) z := World.alloc_heap_new w _
  have hz : Below w.heap.size w (w.alloc (.cells #[.int .i64 (on : Int), .int .i64 d, .int .i64 s, .int .i64 f, .int .i64 (im : Int), .int .i64 z] 24)) := (Below.refl _ _).alloc (Nat.le_refl _) _
  have HB := hid hb
  have HZ := hid hz
  clear hb hz
  generalize w.alloc (.cells #[.int .i64 (on : Int), .int .i64 d, .int .i64 s, .int .i64 f, .int .i64 (im : Int), .int .i64 z] 24) = w1 at *
  obtain ⟨B, hB⟩ : ∃ B, B = w.heap.size := ⟨_, rfl⟩
  have HBE := hid hB
  rw [← hB] at HB ⊢
  clear hB
  refine (f11 _ _ _ _ _ _ _).mono ?_
  rintro e w2 ⟨rfl, b2⟩
  replace HB := hid (HB.out.bel b2)
  replace HZ := hid (HZ.out.to b2)
  clear b2
  rw [hok]
  obtain ⟨c0, c1, c2, c3, c4, c5⟩ := Box6.cells HB.out
  have lB := Box6.lt HB.out
  go_wp2_with fail
  clear c0 c1 c2 c3 c4 c5 lB
  refine (first_0 on z hon hr _ (HT.out.below HZ.out)).mono ?_
  rintro e w3 ⟨⟨l0, hl0, hl0e, rfl⟩, b3⟩
  replace HB := hid (HB.out.bel b3)
  replace HZ := hid (HZ.out.to b3)
  clear b3
  obtain ⟨c0, c1, c2, c3, c4, c5⟩ := Box6.cells HB.out
  have lB := Box6.lt HB.out
  go_wp2_with fail
  clear c0 c1 c2 c3 c4 c5 lB
  refine (parts_w _ _).mono ?_
  rintro e w' ⟨rfl, hw⟩
  rw [hw]
  clear hw w'
  rw [HPS.out]
  go_wp2_with fail
  refine wp_loop_rounds 2 ?_
  rw [rounds_succ]
  obtain ⟨c0, c1, c2, c3, c4, c5⟩ := Box6.cells HB.out
  have lB := Box6.lt HB.out
  go_wp2_with fail
  clear c0 c1 c2 c3 c4 c5 lB
  refine wp_region_held_drew (S := (fun w' => w'.cell? ⟨B, 0, none⟩ = some (.int .i64 (on : Int)) ∧ w'.cell? ⟨B, 1, none⟩ = some (.int .i64 d) ∧ w'.cell? ⟨B, 2, none⟩ = some (.int .i64 s) ∧ w'.cell? ⟨B, 3, none⟩ = some (.int .i64 f) ∧ w'.cell? ⟨B, 4, none⟩ = some (.int .i64 (im : Int)) ∧ w'.cell? ⟨B, 5, none⟩ = some (.int .i64 z))) (by kernel_rfl) (by exact Box6.cells HB.out) (fun hHeld => ?_)
  have hbd : Below w3.heap.size w3 w3.drew := (Below.refl _ _).drew
  replace HB := hid (HB.out.bel hbd)
  replace HZ := hid (HZ.out.to hbd)
  clear hbd
  generalize w3.drew = W1 at *
  refine wpAnyH_take (i := 0) (oi := ?oi109) (v := ?v109) (fuel := 8) ?hi109 ?hs109 ?hf109 ?hr109 ?hq109 (Or.inl ⟨?hw109, ?hy109⟩) hHeld ?rest109
  case hi109 => rw [List.getElem?_toArray]; rfl
  case hq109 => exact fun _ _ _ h => h
  case hs109 | hf109 | hr109 => kernel_rfl
  case hw109 => rfl
  case hy109 => (intro w1 hSw; (try dsimp only at hSw); go_simp; try with_reducible rfl)
  (try simp only [Act.put, List.setIfInBounds_toArray, List.set_cons_zero, List.set_cons_succ])
  refine wpAnyH_take (i := 1) (oi := ?oi110) (v := ?v110) (fuel := 7) ?hi110 ?hs110 ?hf110 ?hr110 ?hq110 (Or.inl ⟨?hw110, ?hy110⟩) hHeld ?rest110
  case hi110 => rw [List.getElem?_toArray]; rfl
  case hq110 => exact fun _ _ _ h => h
  case hs110 | hf110 | hr110 => kernel_rfl
  case hw110 => rfl
  case hy110 => (intro w1 hSw; (try dsimp only at hSw); go_simp; try with_reducible rfl)
  (try simp only [Act.put, List.setIfInBounds_toArray, List.set_cons_zero, List.set_cons_succ])
  refine wpAnyH_take (i := 2) (oi := ?oi111) (v := ?v111) (fuel := 6) ?hi111 ?hs111 ?hf111 ?hr111 ?hq111 (Or.inl ⟨?hw111, ?hy111⟩) hHeld ?rest111
  case hi111 => rw [List.getElem?_toArray]; rfl
  case hq111 => exact fun _ _ _ h => h
  case hs111 | hf111 | hr111 => kernel_rfl
  case hw111 => rfl
  case hy111 => (intro w1 hSw; (try dsimp only at hSw); go_simp; try with_reducible rfl)
  (try simp only [Act.put, List.setIfInBounds_toArray, List.set_cons_zero, List.set_cons_succ])
  refine wpAnyH_take (i := 3) (oi := ?oi112) (v := ?v112) (fuel := 5) ?hi112 ?hs112 ?hf112 ?hr112 ?hq112 (Or.inl ⟨?hw112, ?hy112⟩) hHeld ?rest112
  case hi112 => rw [List.getElem?_toArray]; rfl
  case hq112 => exact fun _ _ _ h => h
  case hs112 | hf112 | hr112 => kernel_rfl
  case hw112 => rfl
  case hy112 => (intro w1 hSw; (try dsimp only at hSw); go_simp; try with_reducible rfl)
  (try simp only [Act.put, List.setIfInBounds_toArray, List.set_cons_zero, List.set_cons_succ])
  refine wpAnyH_take (i := 4) (oi := ?oi113) (v := ?v113) (fuel := 4) ?hi113 ?hs113 ?hf113 ?hr113 ?hq113 (Or.inl ⟨?hw113, ?hy113⟩) hHeld ?rest113
  case hi113 => rw [List.getElem?_toArray]; rfl
  case hq113 => exact fun _ _ _ h => h
  case hs113 | hf113 | hr113 => kernel_rfl
  case hw113 => rfl
  case hy113 => (intro w1 hSw; (try dsimp only at hSw); go_simp; try with_reducible rfl)
  (try simp only [Act.put, List.setIfInBounds_toArray, List.set_cons_zero, List.set_cons_succ])
  refine wpAnyH_ready (fuel := 3) (rs := [5]) (by kernel_rfl) (by simp) ?_
  refine AllReadyH.cons (o := ?oi114) ?hi114 (fun K hK => ?st114) AllReadyH.nil
  case hi114 => rw [List.getElem?_toArray]; rfl
  go_simp
  refine (part_c _ _ _ _ _ im him7 _ (HT.out.below HZ.out)).mono ?_
  rintro ee wr ⟨⟨x0, hx0, hx0e, rfl⟩, bq⟩
  replace HB := hid (HB.out.bel bq)
  replace HZ := hid (HZ.out.to bq)
  clear bq
  go_wp2_with fail
  refine hK.out _ _ ?hS114 (fun hHeld => ?re114)
  case hS114 => exact Box6.cells HB.out
  clear hK K
  (try simp only [Act.put, List.setIfInBounds_toArray, List.set_cons_zero, List.set_cons_succ])
  refine wpAnyH_take (i := 6) (oi := ?oi115) (v := .string ((⟨#[32]⟩ : ByteArray) ++ x0)) (fuel := 2) ?hi115 ?hs115 ?hf115 ?hr115 ?hq115 (Or.inl ⟨?hw115, ?hy115⟩) hHeld ?rest115
  case hi115 => rw [List.getElem?_toArray]; rfl
  case hq115 => exact fun _ _ _ h => h
  case hs115 | hf115 | hr115 => kernel_rfl
  case hw115 => rfl
  case hy115 => (intro w1 hSw; (try dsimp only at hSw); go_simp; first | rfl | omega)
  (try simp only [Act.put, List.setIfInBounds_toArray, List.set_cons_zero, List.set_cons_succ])
  refine wpAnyH_take (i := 7) (oi := ?oi116) (v := .string (l0 ++ ((⟨#[32]⟩ : ByteArray) ++ x0))) (fuel := 1) ?hi116 ?hs116 ?hf116 ?hr116 ?hq116 (Or.inl ⟨?hw116, ?hy116⟩) hHeld ?rest116
  case hi116 => rw [List.getElem?_toArray]; rfl
  case hq116 => exact fun _ _ _ h => h
  case hs116 | hf116 | hr116 => kernel_rfl
  case hw116 => rfl
  case hy116 => (intro w1 hSw; (try dsimp only at hSw); go_simp; first | rfl | omega)
  (try simp only [Act.put, List.setIfInBounds_toArray, List.set_cons_zero, List.set_cons_succ])
  refine wpAnyH_take (i := 8) (oi := ?oi117) (v := ?v117) (fuel := 0) ?hi117 ?hs117 ?hf117 ?hr117 ?hq117 (Or.inl ⟨?hw117, ?hy117⟩) hHeld ?rest117
  case hi117 => rw [List.getElem?_toArray]; rfl
  case hq117 => exact fun _ _ _ h => h
  case hs117 | hf117 | hr117 => kernel_rfl
  case hw117 => rfl
  case hy117 => (intro w1 hSw; (try dsimp only at hSw); go_simp; try with_reducible rfl)
  (try simp only [Act.put, List.setIfInBounds_toArray, List.set_cons_zero, List.set_cons_succ])
  refine wpAnyH_done (by kernel_rfl) ?_ _
  clear hHeld
  generalize wr = w4 at *
  obtain ⟨l1, hl1e⟩ : ∃ y, y = l0 ++ ((⟨#[32]⟩ : ByteArray) ++ x0) := ⟨_, rfl⟩
  have hl1 : l1.size ≤ 47 := by rw [hl1e, ByteArray.size_append, ByteArray.size_append]; show l0.size + (1 + x0.size) ≤ _; omega
  rw [← hl1e]
  replace hl1e := hid hl1e
  go_wp2_with fail
  rw [rounds_succ]
  go_wp2_with fail
  go_ret
  exact ⟨⟨l1, by omega, hid (by rw [hl1e.out, hx0e.out, hl0e.out]; rfl), rfl⟩, HZ.out⟩

set_option maxRecDepth 100000 in
set_option maxHeartbeats 4000000 in
theorem put_e (on : Nat) (d s f i z : Int) (w : World) (hT : Tabs w) (hok : insOkB (on : Int) d s f i z = true) (hd0 : 0 ≤ d) (hd1 : d ≤ 10) (hs0 : -1 ≤ s) (hs1 : s ≤ 10) (hf0 : -128 ≤ f) (hf1 : f ≤ 127) (hi0 : 0 ≤ i) (hi1 : i ≤ 4294967295) (hon : on < 21) (hr : reachesB (on : Int) = false) (hps : partsS (on : Int) = ⟨#[]⟩)  :
    Calls Tryz.prog 6 #[.agg #[.int .i64 (on : Int), .int .i64 d, .int .i64 s, .int .i64 f, .int .i64 i, .int .i64 z]] w fun e w' => AnE 200 (wordsL.getD on ⟨#[]⟩) e ∧ Below w.heap.size w w' := by
  have HT := hid hT
  have HPS := hid hps
  clear hT hps
  go_enter Tryz.func6, Tryz.ntmps6
  go_wp2_with fail
  have hb : Box6 (w.alloc (.cells #[.int .i64 (on : Int), .int .i64 d, .int .i64 s, .int .i64 f, .int .i64 i, .int .i64 z] 24)) w.heap.size (on : Int) d s f i z := World.alloc_heap_new w _
  have hz : Below w.heap.size w (w.alloc (.cells #[.int .i64 (on : Int), .int .i64 d, .int .i64 s, .int .i64 f, .int .i64 i, .int .i64 z] 24)) := (Below.refl _ _).alloc (Nat.le_refl _) _
  have HB := hid hb
  have HZ := hid hz
  clear hb hz
  generalize w.alloc (.cells #[.int .i64 (on : Int), .int .i64 d, .int .i64 s, .int .i64 f, .int .i64 i, .int .i64 z] 24) = w1 at *
  obtain ⟨B, hB⟩ : ∃ B, B = w.heap.size := ⟨_, rfl⟩
  have HBE := hid hB
  rw [← hB] at HB ⊢
  clear hB
  refine (f11 _ _ _ _ _ _ _).mono ?_
  rintro e w2 ⟨rfl, b2⟩
  replace HB := hid (HB.out.bel b2)
  replace HZ := hid (HZ.out.to b2)
  clear b2
  rw [hok]
  obtain ⟨c0, c1, c2, c3, c4, c5⟩ := Box6.cells HB.out
  have lB := Box6.lt HB.out
  go_wp2_with fail
  clear c0 c1 c2 c3 c4 c5 lB
  refine (first_0 on z hon hr _ (HT.out.below HZ.out)).mono ?_
  rintro e w3 ⟨⟨l0, hl0, hl0e, rfl⟩, b3⟩
  replace HB := hid (HB.out.bel b3)
  replace HZ := hid (HZ.out.to b3)
  clear b3
  obtain ⟨c0, c1, c2, c3, c4, c5⟩ := Box6.cells HB.out
  have lB := Box6.lt HB.out
  go_wp2_with fail
  clear c0 c1 c2 c3 c4 c5 lB
  refine (parts_w _ _).mono ?_
  rintro e w' ⟨rfl, hw⟩
  rw [hw]
  clear hw w'
  rw [HPS.out]
  go_wp2_with fail
  refine wp_loop_rounds 1 ?_
  rw [rounds_succ]
  go_wp2_with fail
  go_ret
  exact ⟨⟨l0, by omega, hid (by rw [hl0e.out]), rfl⟩, HZ.out⟩

end Go.Proofs.YtbbecofgmodfiaaGreatDoor.G
