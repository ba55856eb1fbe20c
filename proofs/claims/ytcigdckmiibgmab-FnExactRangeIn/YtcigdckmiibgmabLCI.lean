/- The walk of the law of RangeIn. -/
import Derived.Test.YtcigdckmiibgmabLC
namespace Go.Proofs.Ytcigdckmiibgmab
open Go.RowKit
set_option linter.unusedVariables false
set_option linter.unusedSimpArgs false

set_option maxRecDepth 100000 in
set_option maxHeartbeats 4000000 in
theorem law_in (a b c d e f g h : Int) (q : Bool) (w : World)
    (hs : Hid (∀ w, Calls Try.prog 19 #[rv a b c d, rv e f g h] w fun ee w' => ee = .returned (.bool q) ∧ Below w.heap.size w w'))
    (hp : Hid (∀ w, Calls Try.prog 20 #[rv a b c d, rv e f g h] w fun ee w' => ee = .returned (.bool q) ∧ Below w.heap.size w w')) :
    Calls Try.prog 7 #[rv a b c d, rv e f g h] w fun ee w' => ee = .returned (.bool true) ∧ Below w.heap.size w w' := by
  have tw := hid (Two.new w a b c d e f g h 23)
  go_enter Try.func7, Try.ntmps7
  go_wp2_with fail
  generalize (w.alloc (.cells #[.int .i64 a, .int .i64 b, .int .i64 c, .int .i64 d] 23)).alloc (.cells #[.int .i64 e, .int .i64 f, .int .i64 g, .int .i64 h] 23) = W0 at *
  refine wp_region_held_drew (S := (fun w' => w'.cell? ⟨w.heap.size, 0, none⟩ = some (.int .i64 a) ∧ w'.cell? ⟨w.heap.size, 1, none⟩ = some (.int .i64 b) ∧ w'.cell? ⟨w.heap.size, 2, none⟩ = some (.int .i64 c) ∧ w'.cell? ⟨w.heap.size, 3, none⟩ = some (.int .i64 d) ∧ w'.cell? ⟨w.heap.size + 1, 0, none⟩ = some (.int .i64 e) ∧ w'.cell? ⟨w.heap.size + 1, 1, none⟩ = some (.int .i64 f) ∧ w'.cell? ⟨w.heap.size + 1, 2, none⟩ = some (.int .i64 g) ∧ w'.cell? ⟨w.heap.size + 1, 3, none⟩ = some (.int .i64 h))) (by kernel_rfl) (by exact ⟨tw.out.A.c0, tw.out.A.c1, tw.out.A.c2, tw.out.A.c3, tw.out.B.c0, tw.out.B.c1, tw.out.B.c2, tw.out.B.c3⟩) (fun hHeld => ?_)
  replace tw := hid tw.out.drew
  generalize W0.drew = W1 at *
  refine wpAnyH_take (i := 0) (oi := ?oi45) (v := ?v45) (fuel := 5) ?hi45 ?hs45 ?hf45 ?hr45 ?hq45 (Or.inl ⟨?hw45, ?hy45⟩) hHeld ?rest45
  case hi45 => rw [List.getElem?_toArray]; rfl
  case hq45 => exact fun _ _ _ h => h
  case hs45 => kernel_rfl
  case hf45 => kernel_rfl
  case hr45 => kernel_rfl
  case hw45 => rfl
  case hy45 => (intro w1 hSw; (try dsimp only at hSw); go_simp; try with_reducible rfl)
  (try simp only [Act.put, List.setIfInBounds_toArray, List.set_cons_zero, List.set_cons_succ])
  refine wpAnyH_take (i := 2) (oi := ?oi46) (v := ?v46) (fuel := 4) ?hi46 ?hs46 ?hf46 ?hr46 ?hq46 (Or.inl ⟨?hw46, ?hy46⟩) hHeld ?rest46
  case hi46 => rw [List.getElem?_toArray]; rfl
  case hq46 => exact fun _ _ _ h => h
  case hs46 => kernel_rfl
  case hf46 => kernel_rfl
  case hr46 => kernel_rfl
  case hw46 => rfl
  case hy46 => (intro w1 hSw; (try dsimp only at hSw); go_simp; try with_reducible rfl)
  (try simp only [Act.put, List.setIfInBounds_toArray, List.set_cons_zero, List.set_cons_succ])
  refine wpAnyH_ready (fuel := 3) (rs := [1]) (by kernel_rfl) (by simp) ?_
  refine AllReadyH.cons (o := ?oi47) ?hi47 (fun K hK => ?st47) AllReadyH.nil
  case hi47 => rw [List.getElem?_toArray]; rfl
  go_simp
  refine (c_toRange _ _ _ _ _).mono ?_
  rintro ee wc1 ⟨rfl, hbn⟩
  replace tw := hid (tw.out.below hbn)
  clear hbn
  go_wp2_with fail
  refine hK.out _ _ ?hS47 (fun hHeld => ?re47)
  case hS47 => exact ⟨tw.out.A.c0, tw.out.A.c1, tw.out.A.c2, tw.out.A.c3, tw.out.B.c0, tw.out.B.c1, tw.out.B.c2, tw.out.B.c3⟩
  clear hK K
  (try simp only [Act.put, List.setIfInBounds_toArray, List.set_cons_zero, List.set_cons_succ])
  refine wpAnyH_ready (fuel := 2) (rs := [3]) (by kernel_rfl) (by simp) ?_
  refine AllReadyH.cons (o := ?oi48) ?hi48 (fun K hK => ?st48) AllReadyH.nil
  case hi48 => rw [List.getElem?_toArray]; rfl
  go_simp
  refine (c_toRange _ _ _ _ _).mono ?_
  rintro ee wc3 ⟨rfl, hbn⟩
  replace tw := hid (tw.out.below hbn)
  clear hbn
  go_wp2_with fail
  refine hK.out _ _ ?hS48 (fun hHeld => ?re48)
  case hS48 => exact ⟨tw.out.A.c0, tw.out.A.c1, tw.out.A.c2, tw.out.A.c3, tw.out.B.c0, tw.out.B.c1, tw.out.B.c2, tw.out.B.c3⟩
  clear hK K
  (try simp only [Act.put, List.setIfInBounds_toArray, List.set_cons_zero, List.set_cons_succ])
  refine wpAnyH_ready (fuel := 1) (rs := [4]) (by kernel_rfl) (by simp) ?_
  refine AllReadyH.cons (o := ?oi49) ?hi49 (fun K hK => ?st49) AllReadyH.nil
  case hi49 => rw [List.getElem?_toArray]; rfl
  go_simp
  refine (hs.out _).mono ?_
  rintro ee wc4 ⟨rfl, hbn⟩
  replace tw := hid (tw.out.below hbn)
  clear hbn
  go_wp2_with fail
  refine hK.out _ _ ?hS49 (fun hHeld => ?re49)
  case hS49 => exact ⟨tw.out.A.c0, tw.out.A.c1, tw.out.A.c2, tw.out.A.c3, tw.out.B.c0, tw.out.B.c1, tw.out.B.c2, tw.out.B.c3⟩
  clear hK K
  (try simp only [Act.put, List.setIfInBounds_toArray, List.set_cons_zero, List.set_cons_succ])
  refine wpAnyH_take (i := 5) (oi := ?oi50) (v := ?v50) (fuel := 0) ?hi50 ?hs50 ?hf50 ?hr50 ?hq50 (Or.inl ⟨?hw50, ?hy50⟩) hHeld ?rest50
  case hi50 => rw [List.getElem?_toArray]; rfl
  case hq50 => exact fun _ _ _ h => h
  case hs50 => kernel_rfl
  case hf50 => kernel_rfl
  case hr50 => kernel_rfl
  case hw50 => rfl
  case hy50 => (intro w1 hSw; (try dsimp only at hSw); go_simp; try with_reducible rfl)
  (try simp only [Act.put, List.setIfInBounds_toArray, List.set_cons_zero, List.set_cons_succ])
  refine wpAnyH_done (by kernel_rfl) ?_ _
  clear hHeld
  go_wp2_with fail
  refine wp_region_held_drew (S := (fun w' => w'.cell? ⟨w.heap.size, 0, none⟩ = some (.int .i64 a) ∧ w'.cell? ⟨w.heap.size, 1, none⟩ = some (.int .i64 b) ∧ w'.cell? ⟨w.heap.size, 2, none⟩ = some (.int .i64 c) ∧ w'.cell? ⟨w.heap.size, 3, none⟩ = some (.int .i64 d) ∧ w'.cell? ⟨w.heap.size + 1, 0, none⟩ = some (.int .i64 e) ∧ w'.cell? ⟨w.heap.size + 1, 1, none⟩ = some (.int .i64 f) ∧ w'.cell? ⟨w.heap.size + 1, 2, none⟩ = some (.int .i64 g) ∧ w'.cell? ⟨w.heap.size + 1, 3, none⟩ = some (.int .i64 h))) (by kernel_rfl) (by exact ⟨tw.out.A.c0, tw.out.A.c1, tw.out.A.c2, tw.out.A.c3, tw.out.B.c0, tw.out.B.c1, tw.out.B.c2, tw.out.B.c3⟩) (fun hHeld => ?_)
  replace tw := hid tw.out.drew
  generalize wc4.drew = W2 at *
  refine wpAnyH_take (i := 0) (oi := ?oi39) (v := ?v39) (fuel := 5) ?hi39 ?hs39 ?hf39 ?hr39 ?hq39 (Or.inl ⟨?hw39, ?hy39⟩) hHeld ?rest39
  case hi39 => rw [List.getElem?_toArray]; rfl
  case hq39 => exact fun _ _ _ h => h
  case hs39 => kernel_rfl
  case hf39 => kernel_rfl
  case hr39 => kernel_rfl
  case hw39 => rfl
  case hy39 => (intro w1 hSw; (try dsimp only at hSw); go_simp; try with_reducible rfl)
  (try simp only [Act.put, List.setIfInBounds_toArray, List.set_cons_zero, List.set_cons_succ])
  refine wpAnyH_take (i := 2) (oi := ?oi40) (v := ?v40) (fuel := 4) ?hi40 ?hs40 ?hf40 ?hr40 ?hq40 (Or.inl ⟨?hw40, ?hy40⟩) hHeld ?rest40
  case hi40 => rw [List.getElem?_toArray]; rfl
  case hq40 => exact fun _ _ _ h => h
  case hs40 => kernel_rfl
  case hf40 => kernel_rfl
  case hr40 => kernel_rfl
  case hw40 => rfl
  case hy40 => (intro w1 hSw; (try dsimp only at hSw); go_simp; try with_reducible rfl)
  (try simp only [Act.put, List.setIfInBounds_toArray, List.set_cons_zero, List.set_cons_succ])
  refine wpAnyH_ready (fuel := 3) (rs := [1]) (by kernel_rfl) (by simp) ?_
  refine AllReadyH.cons (o := ?oi41) ?hi41 (fun K hK => ?st41) AllReadyH.nil
  case hi41 => rw [List.getElem?_toArray]; rfl
  go_simp
  refine (c_toRange _ _ _ _ _).mono ?_
  rintro ee wd1 ⟨rfl, hbn⟩
  replace tw := hid (tw.out.below hbn)
  clear hbn
  go_wp2_with fail
  refine hK.out _ _ ?hS41 (fun hHeld => ?re41)
  case hS41 => exact ⟨tw.out.A.c0, tw.out.A.c1, tw.out.A.c2, tw.out.A.c3, tw.out.B.c0, tw.out.B.c1, tw.out.B.c2, tw.out.B.c3⟩
  clear hK K
  (try simp only [Act.put, List.setIfInBounds_toArray, List.set_cons_zero, List.set_cons_succ])
  refine wpAnyH_ready (fuel := 2) (rs := [3]) (by kernel_rfl) (by simp) ?_
  refine AllReadyH.cons (o := ?oi42) ?hi42 (fun K hK => ?st42) AllReadyH.nil
  case hi42 => rw [List.getElem?_toArray]; rfl
  go_simp
  refine (c_toRange _ _ _ _ _).mono ?_
  rintro ee wd3 ⟨rfl, hbn⟩
  replace tw := hid (tw.out.below hbn)
  clear hbn
  go_wp2_with fail
  refine hK.out _ _ ?hS42 (fun hHeld => ?re42)
  case hS42 => exact ⟨tw.out.A.c0, tw.out.A.c1, tw.out.A.c2, tw.out.A.c3, tw.out.B.c0, tw.out.B.c1, tw.out.B.c2, tw.out.B.c3⟩
  clear hK K
  (try simp only [Act.put, List.setIfInBounds_toArray, List.set_cons_zero, List.set_cons_succ])
  refine wpAnyH_ready (fuel := 1) (rs := [4]) (by kernel_rfl) (by simp) ?_
  refine AllReadyH.cons (o := ?oi43) ?hi43 (fun K hK => ?st43) AllReadyH.nil
  case hi43 => rw [List.getElem?_toArray]; rfl
  go_simp
  refine (hp.out _).mono ?_
  rintro ee wd4 ⟨rfl, hbn⟩
  replace tw := hid (tw.out.below hbn)
  clear hbn
  go_wp2_with fail
  refine hK.out _ _ ?hS43 (fun hHeld => ?re43)
  case hS43 => exact ⟨tw.out.A.c0, tw.out.A.c1, tw.out.A.c2, tw.out.A.c3, tw.out.B.c0, tw.out.B.c1, tw.out.B.c2, tw.out.B.c3⟩
  clear hK K
  (try simp only [Act.put, List.setIfInBounds_toArray, List.set_cons_zero, List.set_cons_succ])
  refine wpAnyH_take (i := 5) (oi := ?oi44) (v := ?v44) (fuel := 0) ?hi44 ?hs44 ?hf44 ?hr44 ?hq44 (Or.inl ⟨?hw44, ?hy44⟩) hHeld ?rest44
  case hi44 => rw [List.getElem?_toArray]; rfl
  case hq44 => exact fun _ _ _ h => h
  case hs44 => kernel_rfl
  case hf44 => kernel_rfl
  case hr44 => kernel_rfl
  case hw44 => rfl
  case hy44 => (intro w1 hSw; (try dsimp only at hSw); go_simp; try with_reducible rfl)
  (try simp only [Act.put, List.setIfInBounds_toArray, List.set_cons_zero, List.set_cons_succ])
  refine wpAnyH_done (by kernel_rfl) ?_ _
  clear hHeld
  go_wp2_with fail
  go_ret
  exact ⟨rfl, tw.out.bel⟩

end Go.Proofs.Ytcigdckmiibgmab
