/- The specification's lines: what is written, loosely, op by op. -/
import Derived.Test.YtkaekiodjjhjkaaQLLine
namespace Go.Proofs.Ytkaekiodjjhjkaa
open Go.RowKit
set_option linter.unusedVariables false
set_option linter.unusedSimpArgs false


def Box6 (W : World) (B : Nat) (o d s f i z : Int) : Prop := W.heap[B]? = some (.cells #[.int .i64 o, .int .i64 d, .int .i64 s, .int .i64 f, .int .i64 i, .int .i64 z] 86 (0, 0))
section
variable {W W' : World} {B : Nat} {o d s f i z : Int}
theorem Box6.lt (h : Box6 W B o d s f i z) : B < W.heap.size := (Array.getElem?_eq_some_iff.1 h).1
theorem Box6.cells (h : Box6 W B o d s f i z) : W.cell? ⟨B, 0, none⟩ = some (.int .i64 o) ∧ W.cell? ⟨B, 1, none⟩ = some (.int .i64 d) ∧ W.cell? ⟨B, 2, none⟩ = some (.int .i64 s) ∧ W.cell? ⟨B, 3, none⟩ = some (.int .i64 f) ∧ W.cell? ⟨B, 4, none⟩ = some (.int .i64 i) ∧ W.cell? ⟨B, 5, none⟩ = some (.int .i64 z) := by simp [World.cell?, show W.heap[B]? = _ from h]
theorem Box6.bel (h : Box6 W B o d s f i z) (hb : Below W.heap.size W W') : Box6 W' B o d s f i z := (hb.block B (Box6.lt h)).trans h
end
theorem word_size (i : Nat) : (wordsL.getD i ⟨#[]⟩).size ≤ 5 := by
  have h : ∀ x ∈ wordsL, x.size ≤ 5 := by decide
  rcases Nat.lt_or_ge i wordsL.length with hi | hi
  · rw [List.getD, List.getElem?_eq_getElem hi]; exact h _ (List.getElem_mem hi)
  · rw [List.getD, List.getElem?_eq_none hi]; decide
theorem call_size (i : Nat) : (callsL.getD i ⟨#[]⟩).size ≤ 5 := by
  have h : ∀ x ∈ callsL, x.size ≤ 5 := by decide
  rcases Nat.lt_or_ge i callsL.length with hi | hi
  · rw [List.getD, List.getElem?_eq_getElem hi]; exact h _ (List.getElem_mem hi)
  · rw [List.getD, List.getElem?_eq_none hi]; decide

set_option maxRecDepth 100000 in
set_option maxHeartbeats 4000000 in
theorem line_alu (on : Nat) (d s f i z : Int) (w : World) (hd0 : 0 ≤ d) (hd1 : d ≤ 10) (hs0 : -1 ≤ s) (hs1 : s ≤ 10) (hf0 : -128 ≤ f) (hf1 : f ≤ 127) (hi0 : 0 ≤ i) (hi1 : i ≤ 4294967295) (hon : on < 21) (hA : inB (on : Int) 1 11 = true) :
    Calls Try.prog 83 #[.agg #[.int .i64 (on : Int), .int .i64 d, .int .i64 s, .int .i64 f, .int .i64 i, .int .i64 z]] w fun e w' => AnS 200 e ∧ Below w.heap.size w w' := by
  have hon' : (on : Int) < 21 := by omega
  have hon0 : (0 : Int) ≤ (on : Int) := by omega
  go_enter Try.func83, Try.ntmps83
  go_wp2_with fail
  have hb : Box6 (w.alloc (.cells #[.int .i64 (on : Int), .int .i64 d, .int .i64 s, .int .i64 f, .int .i64 i, .int .i64 z] 86)) w.heap.size (on : Int) d s f i z := World.alloc_heap_new w _
  have hz : Below w.heap.size w (w.alloc (.cells #[.int .i64 (on : Int), .int .i64 d, .int .i64 s, .int .i64 f, .int .i64 i, .int .i64 z] 86)) := (Below.refl _ _).alloc (Nat.le_refl _) _
  have HB := hid hb
  have HZ := hid hz
  clear hb hz
  generalize w.alloc (.cells #[.int .i64 (on : Int), .int .i64 d, .int .i64 s, .int .i64 f, .int .i64 i, .int .i64 z] 86) = w1 at *
  obtain ⟨B, hB⟩ : ∃ B, B = w.heap.size := ⟨_, rfl⟩
  have HBE := hid hB
  rw [← hB] at HB ⊢
  clear hB
  refine wp_region_held_drew (S := (fun w' => w'.cell? ⟨B, 0, none⟩ = some (.int .i64 (on : Int)) ∧ w'.cell? ⟨B, 1, none⟩ = some (.int .i64 d) ∧ w'.cell? ⟨B, 2, none⟩ = some (.int .i64 s) ∧ w'.cell? ⟨B, 3, none⟩ = some (.int .i64 f) ∧ w'.cell? ⟨B, 4, none⟩ = some (.int .i64 i) ∧ w'.cell? ⟨B, 5, none⟩ = some (.int .i64 z))) (by kernel_rfl) (by exact Box6.cells HB.out) (fun hHeld => ?_)
  have hbd : Below w1.heap.size w1 w1.drew := (Below.refl _ _).drew
  replace HB := hid (HB.out.bel hbd)
  replace HZ := hid (HZ.out.to hbd)
  clear hbd
  generalize w1.drew = W1 at *
  refine wpAnyH_take (i := 1) (oi := ?oi1) (v := ?v1) (fuel := 5) ?hi1 ?hs1 ?hf1 ?hr1 ?hq1 (Or.inl ⟨?hw1, ?hy1⟩) hHeld ?rest1
  case hi1 => rw [List.getElem?_toArray]; rfl
  case hq1 => exact fun _ _ _ h => h
  case hs1 | hf1 | hr1 => kernel_rfl
  case hw1 => rfl
  case hy1 => (intro w1 hSw; (try dsimp only at hSw); go_simp; try with_reducible rfl)
  (try simp only [Act.put, List.setIfInBounds_toArray, List.set_cons_zero, List.set_cons_succ])
  refine wpAnyH_take (i := 2) (oi := ?oi2) (v := ?v2) (fuel := 4) ?hi2 ?hs2 ?hf2 ?hr2 ?hq2 (Or.inl ⟨?hw2, ?hy2⟩) hHeld ?rest2
  case hi2 => rw [List.getElem?_toArray]; rfl
  case hq2 => exact fun _ _ _ h => h
  case hs2 | hf2 | hr2 => kernel_rfl
  case hw2 => rfl
  case hy2 => (intro w1 hSw; (try dsimp only at hSw); go_simp; try with_reducible rfl)
  (try simp only [Act.put, List.setIfInBounds_toArray, List.set_cons_zero, List.set_cons_succ])
  refine wpAnyH_ready (fuel := 3) (rs := [0]) (by kernel_rfl) (by simp) ?_
  refine AllReadyH.cons (o := ?oi3) ?hi3 (fun K hK => ?st3) AllReadyH.nil
  case hi3 => rw [List.getElem?_toArray]; rfl
  go_simp
  refine (words_w _).mono ?_
  rintro ee wr0 ⟨rfl, hsl, b0⟩
  have HSL := hid hsl
  clear hsl
  replace HB := hid (HB.out.bel b0)
  replace HZ := hid (HZ.out.to b0)
  clear b0
  go_wp2_with fail
  generalize W1.heap.size = G at *
  refine hK.out _ _ ?hS3 (fun hHeld => ?re3)
  case hS3 => exact Box6.cells HB.out
  clear hK K
  (try simp only [Act.put, List.setIfInBounds_toArray, List.set_cons_zero, List.set_cons_succ])
  refine wpAnyH_take (i := 3) (oi := ?oi4) (v := ?v4) (fuel := 2) ?hi4 ?hs4 ?hf4 ?hr4 ?hq4 (Or.inl ⟨?hw4, ?hy4⟩) hHeld ?rest4
  case hi4 => rw [List.getElem?_toArray]; rfl
  case hq4 => exact fun _ _ _ h => h
  case hs4 | hf4 | hr4 => kernel_rfl
  case hw4 => rfl
  case hy4 => (intro w1 hSw; (try dsimp only at hSw); go_simp; try with_reducible rfl)
  (try simp only [Act.put, List.setIfInBounds_toArray, List.set_cons_zero, List.set_cons_succ])
  refine wpAnyH_ready (fuel := 1) (rs := [4]) (by kernel_rfl) (by simp) ?_
  refine AllReadyH.cons (o := ?oi5) ?hi5 (fun K hK => ?st5) AllReadyH.nil
  case hi5 => rw [List.getElem?_toArray]; rfl
  have hc := HSL.out.2 on (by show on < 21; omega)
  have hwd := word_size on
  generalize wordsL.getD on ⟨#[]⟩ = wd at *
  go_simp
  clear hc HSL
  refine hK.out _ _ ?hS5 (fun hHeld => ?re5)
  case hS5 => exact Box6.cells HB.out
  clear hK K
  (try simp only [Act.put, List.setIfInBounds_toArray, List.set_cons_zero, List.set_cons_succ])
  refine wpAnyH_take (i := 5) (oi := ?oi6) (v := ?v6) (fuel := 0) ?hi6 ?hs6 ?hf6 ?hr6 ?hq6 (Or.inl ⟨?hw6, ?hy6⟩) hHeld ?rest6
  case hi6 => rw [List.getElem?_toArray]; rfl
  case hq6 => exact fun _ _ _ h => h
  case hs6 | hf6 | hr6 => kernel_rfl
  case hw6 => rfl
  case hy6 => (intro w1 hSw; (try dsimp only at hSw); go_simp; try with_reducible rfl)
  (try simp only [Act.put, List.setIfInBounds_toArray, List.set_cons_zero, List.set_cons_succ])
  refine wpAnyH_done (by kernel_rfl) ?_ _
  clear hHeld
  generalize wr0 = w2 at *
  obtain ⟨c0, c1, c2, c3, c4, c5⟩ := Box6.cells HB.out
  have lB := Box6.lt HB.out
  go_wp2_with fail
  clear c0 c1 c2 c3 c4 c5 lB
  refine (dec_w d (by omega) (by omega) _).mono ?_
  rintro e w3 ⟨⟨x, hx, rfl⟩, b3⟩
  replace HB := hid (HB.out.bel b3)
  replace HZ := hid (HZ.out.to b3)
  clear b3
  obtain ⟨c0, c1, c2, c3, c4, c5⟩ := Box6.cells HB.out
  have lB := Box6.lt HB.out
  go_wp2_with fail
  clear c0 c1 c2 c3 c4 c5 lB
  have hdd : ((⟨#[32, 114]⟩ : ByteArray) ++ x).size ≤ 22 := by rw [ByteArray.size_append]; show 2 + x.size ≤ 22; omega
  generalize (⟨#[32, 114]⟩ : ByteArray) ++ x = dd at *
  clear hx
  refine (f49 _ _).mono ?_
  rintro e w' ⟨rfl, hw⟩
  rw [hw]; clear hw w'
  rw [hA]
  obtain ⟨c0, c1, c2, c3, c4, c5⟩ := Box6.cells HB.out
  have lB := Box6.lt HB.out
  go_wp2_with fail
  clear c0 c1 c2 c3 c4 c5 lB
  refine (reg_w s i hs0 hs1 hi0 hi1 _).mono ?_
  rintro e w4 ⟨⟨x2, hx2, rfl⟩, b4⟩
  replace HB := hid (HB.out.bel b4)
  replace HZ := hid (HZ.out.to b4)
  clear b4
  go_wp2_with fail
  go_ret
  exact ⟨⟨_, by rw [ByteArray.size_append, ByteArray.size_append, ByteArray.size_append]; show wd.size + dd.size + 1 + x2.size ≤ 200; omega, rfl⟩, HZ.out⟩

set_option maxRecDepth 100000 in
set_option maxHeartbeats 4000000 in
theorem line_jump (on : Nat) (d s f i z : Int) (w : World) (hd0 : 0 ≤ d) (hd1 : d ≤ 10) (hs0 : -1 ≤ s) (hs1 : s ≤ 10) (hf0 : -128 ≤ f) (hf1 : f ≤ 127) (hi0 : 0 ≤ i) (hi1 : i ≤ 4294967295) (hon : on < 21) (hA : inB (on : Int) 1 11 = false) (hJ : inB (on : Int) 12 15 = true) :
    Calls Try.prog 83 #[.agg #[.int .i64 (on : Int), .int .i64 d, .int .i64 s, .int .i64 f, .int .i64 i, .int .i64 z]] w fun e w' => AnS 200 e ∧ Below w.heap.size w w' := by
  have hon' : (on : Int) < 21 := by omega
  have hon0 : (0 : Int) ≤ (on : Int) := by omega
  go_enter Try.func83, Try.ntmps83
  go_wp2_with fail
  have hb : Box6 (w.alloc (.cells #[.int .i64 (on : Int), .int .i64 d, .int .i64 s, .int .i64 f, .int .i64 i, .int .i64 z] 86)) w.heap.size (on : Int) d s f i z := World.alloc_heap_new w _
  have hz : Below w.heap.size w (w.alloc (.cells #[.int .i64 (on : Int), .int .i64 d, .int .i64 s, .int .i64 f, .int .i64 i, .int .i64 z] 86)) := (Below.refl _ _).alloc (Nat.le_refl _) _
  have HB := hid hb
  have HZ := hid hz
  clear hb hz
  generalize w.alloc (.cells #[.int .i64 (on : Int), .int .i64 d, .int .i64 s, .int .i64 f, .int .i64 i, .int .i64 z] 86) = w1 at *
  obtain ⟨B, hB⟩ : ∃ B, B = w.heap.size := ⟨_, rfl⟩
  have HBE := hid hB
  rw [← hB] at HB ⊢
  clear hB
  refine wp_region_held_drew (S := (fun w' => w'.cell? ⟨B, 0, none⟩ = some (.int .i64 (on : Int)) ∧ w'.cell? ⟨B, 1, none⟩ = some (.int .i64 d) ∧ w'.cell? ⟨B, 2, none⟩ = some (.int .i64 s) ∧ w'.cell? ⟨B, 3, none⟩ = some (.int .i64 f) ∧ w'.cell? ⟨B, 4, none⟩ = some (.int .i64 i) ∧ w'.cell? ⟨B, 5, none⟩ = some (.int .i64 z))) (by kernel_rfl) (by exact Box6.cells HB.out) (fun hHeld => ?_)
  have hbd : Below w1.heap.size w1 w1.drew := (Below.refl _ _).drew
  replace HB := hid (HB.out.bel hbd)
  replace HZ := hid (HZ.out.to hbd)
  clear hbd
  generalize w1.drew = W1 at *
  refine wpAnyH_take (i := 1) (oi := ?oi1) (v := ?v1) (fuel := 5) ?hi1 ?hs1 ?hf1 ?hr1 ?hq1 (Or.inl ⟨?hw1, ?hy1⟩) hHeld ?rest1
  case hi1 => rw [List.getElem?_toArray]; rfl
  case hq1 => exact fun _ _ _ h => h
  case hs1 | hf1 | hr1 => kernel_rfl
  case hw1 => rfl
  case hy1 => (intro w1 hSw; (try dsimp only at hSw); go_simp; try with_reducible rfl)
  (try simp only [Act.put, List.setIfInBounds_toArray, List.set_cons_zero, List.set_cons_succ])
  refine wpAnyH_take (i := 2) (oi := ?oi2) (v := ?v2) (fuel := 4) ?hi2 ?hs2 ?hf2 ?hr2 ?hq2 (Or.inl ⟨?hw2, ?hy2⟩) hHeld ?rest2
  case hi2 => rw [List.getElem?_toArray]; rfl
  case hq2 => exact fun _ _ _ h => h
  case hs2 | hf2 | hr2 => kernel_rfl
  case hw2 => rfl
  case hy2 => (intro w1 hSw; (try dsimp only at hSw); go_simp; try with_reducible rfl)
  (try simp only [Act.put, List.setIfInBounds_toArray, List.set_cons_zero, List.set_cons_succ])
  refine wpAnyH_ready (fuel := 3) (rs := [0]) (by kernel_rfl) (by simp) ?_
  refine AllReadyH.cons (o := ?oi3) ?hi3 (fun K hK => ?st3) AllReadyH.nil
  case hi3 => rw [List.getElem?_toArray]; rfl
  go_simp
  refine (words_w _).mono ?_
  rintro ee wr0 ⟨rfl, hsl, b0⟩
  have HSL := hid hsl
  clear hsl
  replace HB := hid (HB.out.bel b0)
  replace HZ := hid (HZ.out.to b0)
  clear b0
  go_wp2_with fail
  generalize W1.heap.size = G at *
  refine hK.out _ _ ?hS3 (fun hHeld => ?re3)
  case hS3 => exact Box6.cells HB.out
  clear hK K
  (try simp only [Act.put, List.setIfInBounds_toArray, List.set_cons_zero, List.set_cons_succ])
  refine wpAnyH_take (i := 3) (oi := ?oi4) (v := ?v4) (fuel := 2) ?hi4 ?hs4 ?hf4 ?hr4 ?hq4 (Or.inl ⟨?hw4, ?hy4⟩) hHeld ?rest4
  case hi4 => rw [List.getElem?_toArray]; rfl
  case hq4 => exact fun _ _ _ h => h
  case hs4 | hf4 | hr4 => kernel_rfl
  case hw4 => rfl
  case hy4 => (intro w1 hSw; (try dsimp only at hSw); go_simp; try with_reducible rfl)
  (try simp only [Act.put, List.setIfInBounds_toArray, List.set_cons_zero, List.set_cons_succ])
  refine wpAnyH_ready (fuel := 1) (rs := [4]) (by kernel_rfl) (by simp) ?_
  refine AllReadyH.cons (o := ?oi5) ?hi5 (fun K hK => ?st5) AllReadyH.nil
  case hi5 => rw [List.getElem?_toArray]; rfl
  have hc := HSL.out.2 on (by show on < 21; omega)
  have hwd := word_size on
  generalize wordsL.getD on ⟨#[]⟩ = wd at *
  go_simp
  clear hc HSL
  refine hK.out _ _ ?hS5 (fun hHeld => ?re5)
  case hS5 => exact Box6.cells HB.out
  clear hK K
  (try simp only [Act.put, List.setIfInBounds_toArray, List.set_cons_zero, List.set_cons_succ])
  refine wpAnyH_take (i := 5) (oi := ?oi6) (v := ?v6) (fuel := 0) ?hi6 ?hs6 ?hf6 ?hr6 ?hq6 (Or.inl ⟨?hw6, ?hy6⟩) hHeld ?rest6
  case hi6 => rw [List.getElem?_toArray]; rfl
  case hq6 => exact fun _ _ _ h => h
  case hs6 | hf6 | hr6 => kernel_rfl
  case hw6 => rfl
  case hy6 => (intro w1 hSw; (try dsimp only at hSw); go_simp; try with_reducible rfl)
  (try simp only [Act.put, List.setIfInBounds_toArray, List.set_cons_zero, List.set_cons_succ])
  refine wpAnyH_done (by kernel_rfl) ?_ _
  clear hHeld
  generalize wr0 = w2 at *
  obtain ⟨c0, c1, c2, c3, c4, c5⟩ := Box6.cells HB.out
  have lB := Box6.lt HB.out
  go_wp2_with fail
  clear c0 c1 c2 c3 c4 c5 lB
  refine (dec_w d (by omega) (by omega) _).mono ?_
  rintro e w3 ⟨⟨x, hx, rfl⟩, b3⟩
  replace HB := hid (HB.out.bel b3)
  replace HZ := hid (HZ.out.to b3)
  clear b3
  obtain ⟨c0, c1, c2, c3, c4, c5⟩ := Box6.cells HB.out
  have lB := Box6.lt HB.out
  go_wp2_with fail
  clear c0 c1 c2 c3 c4 c5 lB
  have hdd : ((⟨#[32, 114]⟩ : ByteArray) ++ x).size ≤ 22 := by rw [ByteArray.size_append]; show 2 + x.size ≤ 22; omega
  generalize (⟨#[32, 114]⟩ : ByteArray) ++ x = dd at *
  clear hx
  refine (f49 _ _).mono ?_
  rintro e w' ⟨rfl, hw⟩
  rw [hw]; clear hw w'
  rw [hA]
  obtain ⟨c0, c1, c2, c3, c4, c5⟩ := Box6.cells HB.out
  have lB := Box6.lt HB.out
  go_wp2_with fail
  clear c0 c1 c2 c3 c4 c5 lB
  refine (f48 _ _).mono ?_
  rintro e w' ⟨rfl, hw⟩
  rw [hw]; clear hw w'
  rw [hJ]
  obtain ⟨c0, c1, c2, c3, c4, c5⟩ := Box6.cells HB.out
  have lB := Box6.lt HB.out
  go_wp2_with fail
  clear c0 c1 c2 c3 c4 c5 lB
  refine wp_region_held_drew (S := (fun w' => w'.cell? ⟨B, 0, none⟩ = some (.int .i64 (on : Int)) ∧ w'.cell? ⟨B, 1, none⟩ = some (.int .i64 d) ∧ w'.cell? ⟨B, 2, none⟩ = some (.int .i64 s) ∧ w'.cell? ⟨B, 3, none⟩ = some (.int .i64 f) ∧ w'.cell? ⟨B, 4, none⟩ = some (.int .i64 i) ∧ w'.cell? ⟨B, 5, none⟩ = some (.int .i64 z))) (by kernel_rfl) (by exact Box6.cells HB.out) (fun hHeld => ?_)
  have hbd : Below w3.heap.size w3 w3.drew := (Below.refl _ _).drew
  replace HB := hid (HB.out.bel hbd)
  replace HZ := hid (HZ.out.to hbd)
  clear hbd
  generalize w3.drew = W1 at *
  refine wpAnyH_take (i := 0) (oi := ?oi7) (v := ?v7) (fuel := 15) ?hi7 ?hs7 ?hf7 ?hr7 ?hq7 (Or.inl ⟨?hw7, ?hy7⟩) hHeld ?rest7
  case hi7 => rw [List.getElem?_toArray]; rfl
  case hq7 => exact fun _ _ _ h => h
  case hs7 | hf7 | hr7 => kernel_rfl
  case hw7 => rfl
  case hy7 => (intro w1 hSw; (try dsimp only at hSw); go_simp; try with_reducible rfl)
  (try simp only [Act.put, List.setIfInBounds_toArray, List.set_cons_zero, List.set_cons_succ])
  refine wpAnyH_take (i := 1) (oi := ?oi8) (v := ?v8) (fuel := 14) ?hi8 ?hs8 ?hf8 ?hr8 ?hq8 (Or.inl ⟨?hw8, ?hy8⟩) hHeld ?rest8
  case hi8 => rw [List.getElem?_toArray]; rfl
  case hq8 => exact fun _ _ _ h => h
  case hs8 | hf8 | hr8 => kernel_rfl
  case hw8 => rfl
  case hy8 => (intro w1 hSw; (try dsimp only at hSw); go_simp; try with_reducible rfl)
  (try simp only [Act.put, List.setIfInBounds_toArray, List.set_cons_zero, List.set_cons_succ])
  refine wpAnyH_take (i := 2) (oi := ?oi9) (v := .string (wd ++ dd)) (fuel := 13) ?hi9 ?hs9 ?hf9 ?hr9 ?hq9 (Or.inl ⟨?hw9, ?hy9⟩) hHeld ?rest9
  case hi9 => rw [List.getElem?_toArray]; rfl
  case hq9 => exact fun _ _ _ h => h
  case hs9 | hf9 | hr9 => kernel_rfl
  case hw9 => rfl
  case hy9 => (intro w1 hSw; (try dsimp only at hSw); go_simp; omega)
  (try simp only [Act.put, List.setIfInBounds_toArray, List.set_cons_zero, List.set_cons_succ])
  refine wpAnyH_take (i := 3) (oi := ?oi10) (v := .string (wd ++ dd ++ (⟨#[32]⟩ : ByteArray))) (fuel := 12) ?hi10 ?hs10 ?hf10 ?hr10 ?hq10 (Or.inl ⟨?hw10, ?hy10⟩) hHeld ?rest10
  case hi10 => rw [List.getElem?_toArray]; rfl
  case hq10 => exact fun _ _ _ h => h
  case hs10 | hf10 | hr10 => kernel_rfl
  case hw10 => rfl
  case hy10 => (intro w1 hSw; (try dsimp only at hSw); go_simp; omega)
  (try simp only [Act.put, List.setIfInBounds_toArray, List.set_cons_zero, List.set_cons_succ])
  refine wpAnyH_take (i := 4) (oi := ?oi11) (v := ?v11) (fuel := 11) ?hi11 ?hs11 ?hf11 ?hr11 ?hq11 (Or.inl ⟨?hw11, ?hy11⟩) hHeld ?rest11
  case hi11 => rw [List.getElem?_toArray]; rfl
  case hq11 => exact fun _ _ _ h => h
  case hs11 | hf11 | hr11 => kernel_rfl
  case hw11 => rfl
  case hy11 => (intro w1 hSw; (try dsimp only at hSw); go_simp; try with_reducible rfl)
  (try simp only [Act.put, List.setIfInBounds_toArray, List.set_cons_zero, List.set_cons_succ])
  refine wpAnyH_take (i := 5) (oi := ?oi12) (v := ?v12) (fuel := 10) ?hi12 ?hs12 ?hf12 ?hr12 ?hq12 (Or.inl ⟨?hw12, ?hy12⟩) hHeld ?rest12
  case hi12 => rw [List.getElem?_toArray]; rfl
  case hq12 => exact fun _ _ _ h => h
  case hs12 | hf12 | hr12 => kernel_rfl
  case hw12 => rfl
  case hy12 => (intro w1 hSw; (try dsimp only at hSw); go_simp; try with_reducible rfl)
  (try simp only [Act.put, List.setIfInBounds_toArray, List.set_cons_zero, List.set_cons_succ])
  refine wpAnyH_take (i := 6) (oi := ?oi13) (v := ?v13) (fuel := 9) ?hi13 ?hs13 ?hf13 ?hr13 ?hq13 (Or.inl ⟨?hw13, ?hy13⟩) hHeld ?rest13
  case hi13 => rw [List.getElem?_toArray]; rfl
  case hq13 => exact fun _ _ _ h => h
  case hs13 | hf13 | hr13 => kernel_rfl
  case hw13 => rfl
  case hy13 => (intro w1 hSw; (try dsimp only at hSw); go_simp; try with_reducible rfl)
  (try simp only [Act.put, List.setIfInBounds_toArray, List.set_cons_zero, List.set_cons_succ])
  refine wpAnyH_take (i := 7) (oi := ?oi14) (v := ?v14) (fuel := 8) ?hi14 ?hs14 ?hf14 ?hr14 ?hq14 (Or.inl ⟨?hw14, ?hy14⟩) hHeld ?rest14
  case hi14 => rw [List.getElem?_toArray]; rfl
  case hq14 => exact fun _ _ _ h => h
  case hs14 | hf14 | hr14 => kernel_rfl
  case hw14 => rfl
  case hy14 => (intro w1 hSw; (try dsimp only at hSw); go_simp; try with_reducible rfl)
  (try simp only [Act.put, List.setIfInBounds_toArray, List.set_cons_zero, List.set_cons_succ])
  refine wpAnyH_take (i := 11) (oi := ?oi15) (v := ?v15) (fuel := 7) ?hi15 ?hs15 ?hf15 ?hr15 ?hq15 (Or.inl ⟨?hw15, ?hy15⟩) hHeld ?rest15
  case hi15 => rw [List.getElem?_toArray]; rfl
  case hq15 => exact fun _ _ _ h => h
  case hs15 | hf15 | hr15 => kernel_rfl
  case hw15 => rfl
  case hy15 => (intro w1 hSw; (try dsimp only at hSw); go_simp; try with_reducible rfl)
  (try simp only [Act.put, List.setIfInBounds_toArray, List.set_cons_zero, List.set_cons_succ])
  refine wpAnyH_take (i := 12) (oi := ?oi16) (v := ?v16) (fuel := 6) ?hi16 ?hs16 ?hf16 ?hr16 ?hq16 (Or.inl ⟨?hw16, ?hy16⟩) hHeld ?rest16
  case hi16 => rw [List.getElem?_toArray]; rfl
  case hq16 => exact fun _ _ _ h => h
  case hs16 | hf16 | hr16 => kernel_rfl
  case hw16 => rfl
  case hy16 => (intro w1 hSw; (try dsimp only at hSw); go_simp; try with_reducible rfl)
  (try simp only [Act.put, List.setIfInBounds_toArray, List.set_cons_zero, List.set_cons_succ])
  refine wpAnyH_ready (fuel := 5) (rs := [8]) (by kernel_rfl) (by simp) ?_
  refine AllReadyH.cons (o := ?oi17) ?hi17 (fun K hK => ?st17) AllReadyH.nil
  case hi17 => rw [List.getElem?_toArray]; rfl
  go_simp
  refine (reg_w s i hs0 hs1 hi0 hi1 _).mono ?_
  rintro ee wr8 ⟨⟨x2, hx2, rfl⟩, b8⟩
  replace HB := hid (HB.out.bel b8)
  replace HZ := hid (HZ.out.to b8)
  clear b8
  go_wp2_with fail
  refine hK.out _ _ ?hS17 (fun hHeld => ?re17)
  case hS17 => exact Box6.cells HB.out
  clear hK K
  (try simp only [Act.put, List.setIfInBounds_toArray, List.set_cons_zero, List.set_cons_succ])
  refine wpAnyH_take (i := 9) (oi := ?oi18) (v := .string (wd ++ dd ++ (⟨#[32]⟩ : ByteArray) ++ x2)) (fuel := 4) ?hi18 ?hs18 ?hf18 ?hr18 ?hq18 (Or.inl ⟨?hw18, ?hy18⟩) hHeld ?rest18
  case hi18 => rw [List.getElem?_toArray]; rfl
  case hq18 => exact fun _ _ _ h => h
  case hs18 | hf18 | hr18 => kernel_rfl
  case hw18 => rfl
  case hy18 => (intro w1 hSw; (try dsimp only at hSw); go_simp; omega)
  (try simp only [Act.put, List.setIfInBounds_toArray, List.set_cons_zero, List.set_cons_succ])
  refine wpAnyH_take (i := 10) (oi := ?oi19) (v := .string (wd ++ dd ++ (⟨#[32]⟩ : ByteArray) ++ x2 ++ (⟨#[32]⟩ : ByteArray))) (fuel := 3) ?hi19 ?hs19 ?hf19 ?hr19 ?hq19 (Or.inl ⟨?hw19, ?hy19⟩) hHeld ?rest19
  case hi19 => rw [List.getElem?_toArray]; rfl
  case hq19 => exact fun _ _ _ h => h
  case hs19 | hf19 | hr19 => kernel_rfl
  case hw19 => rfl
  case hy19 => (intro w1 hSw; (try dsimp only at hSw); go_simp; omega)
  (try simp only [Act.put, List.setIfInBounds_toArray, List.set_cons_zero, List.set_cons_succ])
  refine wpAnyH_ready (fuel := 2) (rs := [13]) (by kernel_rfl) (by simp) ?_
  refine AllReadyH.cons (o := ?oi20) ?hi20 (fun K hK => ?st20) AllReadyH.nil
  case hi20 => rw [List.getElem?_toArray]; rfl
  go_simp
  refine (dec_w f (by omega) (by omega) _).mono ?_
  rintro ee wr13 ⟨⟨x3, hx3, rfl⟩, b13⟩
  replace HB := hid (HB.out.bel b13)
  replace HZ := hid (HZ.out.to b13)
  clear b13
  go_wp2_with fail
  refine hK.out _ _ ?hS20 (fun hHeld => ?re20)
  case hS20 => exact Box6.cells HB.out
  clear hK K
  (try simp only [Act.put, List.setIfInBounds_toArray, List.set_cons_zero, List.set_cons_succ])
  refine wpAnyH_take (i := 14) (oi := ?oi21) (v := .string (wd ++ dd ++ (⟨#[32]⟩ : ByteArray) ++ x2 ++ (⟨#[32]⟩ : ByteArray) ++ x3)) (fuel := 1) ?hi21 ?hs21 ?hf21 ?hr21 ?hq21 (Or.inl ⟨?hw21, ?hy21⟩) hHeld ?rest21
  case hi21 => rw [List.getElem?_toArray]; rfl
  case hq21 => exact fun _ _ _ h => h
  case hs21 | hf21 | hr21 => kernel_rfl
  case hw21 => rfl
  case hy21 => (intro w1 hSw; (try dsimp only at hSw); go_simp; omega)
  (try simp only [Act.put, List.setIfInBounds_toArray, List.set_cons_zero, List.set_cons_succ])
  refine wpAnyH_take (i := 15) (oi := ?oi22) (v := ?v22) (fuel := 0) ?hi22 ?hs22 ?hf22 ?hr22 ?hq22 (Or.inl ⟨?hw22, ?hy22⟩) hHeld ?rest22
  case hi22 => rw [List.getElem?_toArray]; rfl
  case hq22 => exact fun _ _ _ h => h
  case hs22 | hf22 | hr22 => kernel_rfl
  case hw22 => rfl
  case hy22 => (intro w1 hSw; (try dsimp only at hSw); go_simp; try with_reducible rfl)
  (try simp only [Act.put, List.setIfInBounds_toArray, List.set_cons_zero, List.set_cons_succ])
  refine wpAnyH_done (by kernel_rfl) ?_ _
  clear hHeld
  generalize wr13 = w9 at *
  go_wp2_with fail
  go_ret
  exact ⟨⟨_, by rw [ByteArray.size_append, ByteArray.size_append, ByteArray.size_append, ByteArray.size_append, ByteArray.size_append]; show wd.size + dd.size + 1 + x2.size + 1 + x3.size ≤ 200; omega, rfl⟩, HZ.out⟩

set_option maxRecDepth 100000 in
set_option maxHeartbeats 4000000 in
theorem line_go (on : Nat) (d s f i z : Int) (w : World) (hd0 : 0 ≤ d) (hd1 : d ≤ 10) (hs0 : -1 ≤ s) (hs1 : s ≤ 10) (hf0 : -128 ≤ f) (hf1 : f ≤ 127) (hi0 : 0 ≤ i) (hi1 : i ≤ 4294967295) (hon : on < 21) (hA : inB (on : Int) 1 11 = false) (hJ : inB (on : Int) 12 15 = false) (h16 : ((on : Int) == 16) = true) :
    Calls Try.prog 83 #[.agg #[.int .i64 (on : Int), .int .i64 d, .int .i64 s, .int .i64 f, .int .i64 i, .int .i64 z]] w fun e w' => AnS 200 e ∧ Below w.heap.size w w' := by
  have hon' : (on : Int) < 21 := by omega
  have hon0 : (0 : Int) ≤ (on : Int) := by omega
  go_enter Try.func83, Try.ntmps83
  go_wp2_with fail
  have hb : Box6 (w.alloc (.cells #[.int .i64 (on : Int), .int .i64 d, .int .i64 s, .int .i64 f, .int .i64 i, .int .i64 z] 86)) w.heap.size (on : Int) d s f i z := World.alloc_heap_new w _
  have hz : Below w.heap.size w (w.alloc (.cells #[.int .i64 (on : Int), .int .i64 d, .int .i64 s, .int .i64 f, .int .i64 i, .int .i64 z] 86)) := (Below.refl _ _).alloc (Nat.le_refl _) _
  have HB := hid hb
  have HZ := hid hz
  clear hb hz
  generalize w.alloc (.cells #[.int .i64 (on : Int), .int .i64 d, .int .i64 s, .int .i64 f, .int .i64 i, .int .i64 z] 86) = w1 at *
  obtain ⟨B, hB⟩ : ∃ B, B = w.heap.size := ⟨_, rfl⟩
  have HBE := hid hB
  rw [← hB] at HB ⊢
  clear hB
  refine wp_region_held_drew (S := (fun w' => w'.cell? ⟨B, 0, none⟩ = some (.int .i64 (on : Int)) ∧ w'.cell? ⟨B, 1, none⟩ = some (.int .i64 d) ∧ w'.cell? ⟨B, 2, none⟩ = some (.int .i64 s) ∧ w'.cell? ⟨B, 3, none⟩ = some (.int .i64 f) ∧ w'.cell? ⟨B, 4, none⟩ = some (.int .i64 i) ∧ w'.cell? ⟨B, 5, none⟩ = some (.int .i64 z))) (by kernel_rfl) (by exact Box6.cells HB.out) (fun hHeld => ?_)
  have hbd : Below w1.heap.size w1 w1.drew := (Below.refl _ _).drew
  replace HB := hid (HB.out.bel hbd)
  replace HZ := hid (HZ.out.to hbd)
  clear hbd
  generalize w1.drew = W1 at *
  refine wpAnyH_take (i := 1) (oi := ?oi1) (v := ?v1) (fuel := 5) ?hi1 ?hs1 ?hf1 ?hr1 ?hq1 (Or.inl ⟨?hw1, ?hy1⟩) hHeld ?rest1
  case hi1 => rw [List.getElem?_toArray]; rfl
  case hq1 => exact fun _ _ _ h => h
  case hs1 | hf1 | hr1 => kernel_rfl
  case hw1 => rfl
  case hy1 => (intro w1 hSw; (try dsimp only at hSw); go_simp; try with_reducible rfl)
  (try simp only [Act.put, List.setIfInBounds_toArray, List.set_cons_zero, List.set_cons_succ])
  refine wpAnyH_take (i := 2) (oi := ?oi2) (v := ?v2) (fuel := 4) ?hi2 ?hs2 ?hf2 ?hr2 ?hq2 (Or.inl ⟨?hw2, ?hy2⟩) hHeld ?rest2
  case hi2 => rw [List.getElem?_toArray]; rfl
  case hq2 => exact fun _ _ _ h => h
  case hs2 | hf2 | hr2 => kernel_rfl
  case hw2 => rfl
  case hy2 => (intro w1 hSw; (try dsimp only at hSw); go_simp; try with_reducible rfl)
  (try simp only [Act.put, List.setIfInBounds_toArray, List.set_cons_zero, List.set_cons_succ])
  refine wpAnyH_ready (fuel := 3) (rs := [0]) (by kernel_rfl) (by simp) ?_
  refine AllReadyH.cons (o := ?oi3) ?hi3 (fun K hK => ?st3) AllReadyH.nil
  case hi3 => rw [List.getElem?_toArray]; rfl
  go_simp
  refine (words_w _).mono ?_
  rintro ee wr0 ⟨rfl, hsl, b0⟩
  have HSL := hid hsl
  clear hsl
  replace HB := hid (HB.out.bel b0)
  replace HZ := hid (HZ.out.to b0)
  clear b0
  go_wp2_with fail
  generalize W1.heap.size = G at *
  refine hK.out _ _ ?hS3 (fun hHeld => ?re3)
  case hS3 => exact Box6.cells HB.out
  clear hK K
  (try simp only [Act.put, List.setIfInBounds_toArray, List.set_cons_zero, List.set_cons_succ])
  refine wpAnyH_take (i := 3) (oi := ?oi4) (v := ?v4) (fuel := 2) ?hi4 ?hs4 ?hf4 ?hr4 ?hq4 (Or.inl ⟨?hw4, ?hy4⟩) hHeld ?rest4
  case hi4 => rw [List.getElem?_toArray]; rfl
  case hq4 => exact fun _ _ _ h => h
  case hs4 | hf4 | hr4 => kernel_rfl
  case hw4 => rfl
  case hy4 => (intro w1 hSw; (try dsimp only at hSw); go_simp; try with_reducible rfl)
  (try simp only [Act.put, List.setIfInBounds_toArray, List.set_cons_zero, List.set_cons_succ])
  refine wpAnyH_ready (fuel := 1) (rs := [4]) (by kernel_rfl) (by simp) ?_
  refine AllReadyH.cons (o := ?oi5) ?hi5 (fun K hK => ?st5) AllReadyH.nil
  case hi5 => rw [List.getElem?_toArray]; rfl
  have hc := HSL.out.2 on (by show on < 21; omega)
  have hwd := word_size on
  generalize wordsL.getD on ⟨#[]⟩ = wd at *
  go_simp
  clear hc HSL
  refine hK.out _ _ ?hS5 (fun hHeld => ?re5)
  case hS5 => exact Box6.cells HB.out
  clear hK K
  (try simp only [Act.put, List.setIfInBounds_toArray, List.set_cons_zero, List.set_cons_succ])
  refine wpAnyH_take (i := 5) (oi := ?oi6) (v := ?v6) (fuel := 0) ?hi6 ?hs6 ?hf6 ?hr6 ?hq6 (Or.inl ⟨?hw6, ?hy6⟩) hHeld ?rest6
  case hi6 => rw [List.getElem?_toArray]; rfl
  case hq6 => exact fun _ _ _ h => h
  case hs6 | hf6 | hr6 => kernel_rfl
  case hw6 => rfl
  case hy6 => (intro w1 hSw; (try dsimp only at hSw); go_simp; try with_reducible rfl)
  (try simp only [Act.put, List.setIfInBounds_toArray, List.set_cons_zero, List.set_cons_succ])
  refine wpAnyH_done (by kernel_rfl) ?_ _
  clear hHeld
  generalize wr0 = w2 at *
  obtain ⟨c0, c1, c2, c3, c4, c5⟩ := Box6.cells HB.out
  have lB := Box6.lt HB.out
  go_wp2_with fail
  clear c0 c1 c2 c3 c4 c5 lB
  refine (dec_w d (by omega) (by omega) _).mono ?_
  rintro e w3 ⟨⟨x, hx, rfl⟩, b3⟩
  replace HB := hid (HB.out.bel b3)
  replace HZ := hid (HZ.out.to b3)
  clear b3
  obtain ⟨c0, c1, c2, c3, c4, c5⟩ := Box6.cells HB.out
  have lB := Box6.lt HB.out
  go_wp2_with fail
  clear c0 c1 c2 c3 c4 c5 lB
  have hdd : ((⟨#[32, 114]⟩ : ByteArray) ++ x).size ≤ 22 := by rw [ByteArray.size_append]; show 2 + x.size ≤ 22; omega
  generalize (⟨#[32, 114]⟩ : ByteArray) ++ x = dd at *
  clear hx
  refine (f49 _ _).mono ?_
  rintro e w' ⟨rfl, hw⟩
  rw [hw]; clear hw w'
  rw [hA]
  obtain ⟨c0, c1, c2, c3, c4, c5⟩ := Box6.cells HB.out
  have lB := Box6.lt HB.out
  go_wp2_with fail
  clear c0 c1 c2 c3 c4 c5 lB
  refine (f48 _ _).mono ?_
  rintro e w' ⟨rfl, hw⟩
  rw [hw]; clear hw w'
  rw [hJ]
  obtain ⟨c0, c1, c2, c3, c4, c5⟩ := Box6.cells HB.out
  have lB := Box6.lt HB.out
  go_wp2_with fail
  clear c0 c1 c2 c3 c4 c5 lB
  refine (dec_w f (by omega) (by omega) _).mono ?_
  rintro e w4 ⟨⟨x2, hx2, rfl⟩, b4⟩
  replace HB := hid (HB.out.bel b4)
  replace HZ := hid (HZ.out.to b4)
  clear b4
  go_wp2_with fail
  go_ret
  exact ⟨⟨_, by rw [ByteArray.size_append, ByteArray.size_append]; show wd.size + 1 + x2.size ≤ 200; omega, rfl⟩, HZ.out⟩

set_option maxRecDepth 100000 in
set_option maxHeartbeats 4000000 in
theorem line_load (on : Nat) (d s f i z : Int) (w : World) (hd0 : 0 ≤ d) (hd1 : d ≤ 10) (hs0 : -1 ≤ s) (hs1 : s ≤ 10) (hf0 : -128 ≤ f) (hf1 : f ≤ 127) (hi0 : 0 ≤ i) (hi1 : i ≤ 4294967295) (hon : on < 21) (hA : inB (on : Int) 1 11 = false) (hJ : inB (on : Int) 12 15 = false) (h16 : ((on : Int) == 16) = false) (h17 : ((on : Int) == 17) = true) (hz0 : 0 ≤ z) (hz1 : z ≤ 4) :
    Calls Try.prog 83 #[.agg #[.int .i64 (on : Int), .int .i64 d, .int .i64 s, .int .i64 f, .int .i64 i, .int .i64 z]] w fun e w' => AnS 200 e ∧ Below w.heap.size w w' := by
  have hon' : (on : Int) < 21 := by omega
  have hon0 : (0 : Int) ≤ (on : Int) := by omega
  go_enter Try.func83, Try.ntmps83
  go_wp2_with fail
  have hb : Box6 (w.alloc (.cells #[.int .i64 (on : Int), .int .i64 d, .int .i64 s, .int .i64 f, .int .i64 i, .int .i64 z] 86)) w.heap.size (on : Int) d s f i z := World.alloc_heap_new w _
  have hz : Below w.heap.size w (w.alloc (.cells #[.int .i64 (on : Int), .int .i64 d, .int .i64 s, .int .i64 f, .int .i64 i, .int .i64 z] 86)) := (Below.refl _ _).alloc (Nat.le_refl _) _
  have HB := hid hb
  have HZ := hid hz
  clear hb hz
  generalize w.alloc (.cells #[.int .i64 (on : Int), .int .i64 d, .int .i64 s, .int .i64 f, .int .i64 i, .int .i64 z] 86) = w1 at *
  obtain ⟨B, hB⟩ : ∃ B, B = w.heap.size := ⟨_, rfl⟩
  have HBE := hid hB
  rw [← hB] at HB ⊢
  clear hB
  refine wp_region_held_drew (S := (fun w' => w'.cell? ⟨B, 0, none⟩ = some (.int .i64 (on : Int)) ∧ w'.cell? ⟨B, 1, none⟩ = some (.int .i64 d) ∧ w'.cell? ⟨B, 2, none⟩ = some (.int .i64 s) ∧ w'.cell? ⟨B, 3, none⟩ = some (.int .i64 f) ∧ w'.cell? ⟨B, 4, none⟩ = some (.int .i64 i) ∧ w'.cell? ⟨B, 5, none⟩ = some (.int .i64 z))) (by kernel_rfl) (by exact Box6.cells HB.out) (fun hHeld => ?_)
  have hbd : Below w1.heap.size w1 w1.drew := (Below.refl _ _).drew
  replace HB := hid (HB.out.bel hbd)
  replace HZ := hid (HZ.out.to hbd)
  clear hbd
  generalize w1.drew = W1 at *
  refine wpAnyH_take (i := 1) (oi := ?oi1) (v := ?v1) (fuel := 5) ?hi1 ?hs1 ?hf1 ?hr1 ?hq1 (Or.inl ⟨?hw1, ?hy1⟩) hHeld ?rest1
  case hi1 => rw [List.getElem?_toArray]; rfl
  case hq1 => exact fun _ _ _ h => h
  case hs1 | hf1 | hr1 => kernel_rfl
  case hw1 => rfl
  case hy1 => (intro w1 hSw; (try dsimp only at hSw); go_simp; try with_reducible rfl)
  (try simp only [Act.put, List.setIfInBounds_toArray, List.set_cons_zero, List.set_cons_succ])
  refine wpAnyH_take (i := 2) (oi := ?oi2) (v := ?v2) (fuel := 4) ?hi2 ?hs2 ?hf2 ?hr2 ?hq2 (Or.inl ⟨?hw2, ?hy2⟩) hHeld ?rest2
  case hi2 => rw [List.getElem?_toArray]; rfl
  case hq2 => exact fun _ _ _ h => h
  case hs2 | hf2 | hr2 => kernel_rfl
  case hw2 => rfl
  case hy2 => (intro w1 hSw; (try dsimp only at hSw); go_simp; try with_reducible rfl)
  (try simp only [Act.put, List.setIfInBounds_toArray, List.set_cons_zero, List.set_cons_succ])
  refine wpAnyH_ready (fuel := 3) (rs := [0]) (by kernel_rfl) (by simp) ?_
  refine AllReadyH.cons (o := ?oi3) ?hi3 (fun K hK => ?st3) AllReadyH.nil
  case hi3 => rw [List.getElem?_toArray]; rfl
  go_simp
  refine (words_w _).mono ?_
  rintro ee wr0 ⟨rfl, hsl, b0⟩
  have HSL := hid hsl
  clear hsl
  replace HB := hid (HB.out.bel b0)
  replace HZ := hid (HZ.out.to b0)
  clear b0
  go_wp2_with fail
  generalize W1.heap.size = G at *
  refine hK.out _ _ ?hS3 (fun hHeld => ?re3)
  case hS3 => exact Box6.cells HB.out
  clear hK K
  (try simp only [Act.put, List.setIfInBounds_toArray, List.set_cons_zero, List.set_cons_succ])
  refine wpAnyH_take (i := 3) (oi := ?oi4) (v := ?v4) (fuel := 2) ?hi4 ?hs4 ?hf4 ?hr4 ?hq4 (Or.inl ⟨?hw4, ?hy4⟩) hHeld ?rest4
  case hi4 => rw [List.getElem?_toArray]; rfl
  case hq4 => exact fun _ _ _ h => h
  case hs4 | hf4 | hr4 => kernel_rfl
  case hw4 => rfl
  case hy4 => (intro w1 hSw; (try dsimp only at hSw); go_simp; try with_reducible rfl)
  (try simp only [Act.put, List.setIfInBounds_toArray, List.set_cons_zero, List.set_cons_succ])
  refine wpAnyH_ready (fuel := 1) (rs := [4]) (by kernel_rfl) (by simp) ?_
  refine AllReadyH.cons (o := ?oi5) ?hi5 (fun K hK => ?st5) AllReadyH.nil
  case hi5 => rw [List.getElem?_toArray]; rfl
  have hc := HSL.out.2 on (by show on < 21; omega)
  have hwd := word_size on
  generalize wordsL.getD on ⟨#[]⟩ = wd at *
  go_simp
  clear hc HSL
  refine hK.out _ _ ?hS5 (fun hHeld => ?re5)
  case hS5 => exact Box6.cells HB.out
  clear hK K
  (try simp only [Act.put, List.setIfInBounds_toArray, List.set_cons_zero, List.set_cons_succ])
  refine wpAnyH_take (i := 5) (oi := ?oi6) (v := ?v6) (fuel := 0) ?hi6 ?hs6 ?hf6 ?hr6 ?hq6 (Or.inl ⟨?hw6, ?hy6⟩) hHeld ?rest6
  case hi6 => rw [List.getElem?_toArray]; rfl
  case hq6 => exact fun _ _ _ h => h
  case hs6 | hf6 | hr6 => kernel_rfl
  case hw6 => rfl
  case hy6 => (intro w1 hSw; (try dsimp only at hSw); go_simp; try with_reducible rfl)
  (try simp only [Act.put, List.setIfInBounds_toArray, List.set_cons_zero, List.set_cons_succ])
  refine wpAnyH_done (by kernel_rfl) ?_ _
  clear hHeld
  generalize wr0 = w2 at *
  obtain ⟨c0, c1, c2, c3, c4, c5⟩ := Box6.cells HB.out
  have lB := Box6.lt HB.out
  go_wp2_with fail
  clear c0 c1 c2 c3 c4 c5 lB
  refine (dec_w d (by omega) (by omega) _).mono ?_
  rintro e w3 ⟨⟨x, hx, rfl⟩, b3⟩
  replace HB := hid (HB.out.bel b3)
  replace HZ := hid (HZ.out.to b3)
  clear b3
  obtain ⟨c0, c1, c2, c3, c4, c5⟩ := Box6.cells HB.out
  have lB := Box6.lt HB.out
  go_wp2_with fail
  clear c0 c1 c2 c3 c4 c5 lB
  have hdd : ((⟨#[32, 114]⟩ : ByteArray) ++ x).size ≤ 22 := by rw [ByteArray.size_append]; show 2 + x.size ≤ 22; omega
  generalize (⟨#[32, 114]⟩ : ByteArray) ++ x = dd at *
  clear hx
  refine (f49 _ _).mono ?_
  rintro e w' ⟨rfl, hw⟩
  rw [hw]; clear hw w'
  rw [hA]
  obtain ⟨c0, c1, c2, c3, c4, c5⟩ := Box6.cells HB.out
  have lB := Box6.lt HB.out
  go_wp2_with fail
  clear c0 c1 c2 c3 c4 c5 lB
  refine (f48 _ _).mono ?_
  rintro e w' ⟨rfl, hw⟩
  rw [hw]; clear hw w'
  rw [hJ]
  obtain ⟨c0, c1, c2, c3, c4, c5⟩ := Box6.cells HB.out
  have lB := Box6.lt HB.out
  go_wp2_with fail
  clear c0 c1 c2 c3 c4 c5 lB
  refine wp_region_held_drew (S := (fun w' => w'.cell? ⟨B, 0, none⟩ = some (.int .i64 (on : Int)) ∧ w'.cell? ⟨B, 1, none⟩ = some (.int .i64 d) ∧ w'.cell? ⟨B, 2, none⟩ = some (.int .i64 s) ∧ w'.cell? ⟨B, 3, none⟩ = some (.int .i64 f) ∧ w'.cell? ⟨B, 4, none⟩ = some (.int .i64 i) ∧ w'.cell? ⟨B, 5, none⟩ = some (.int .i64 z))) (by kernel_rfl) (by exact Box6.cells HB.out) (fun hHeld => ?_)
  have hbd : Below w3.heap.size w3 w3.drew := (Below.refl _ _).drew
  replace HB := hid (HB.out.bel hbd)
  replace HZ := hid (HZ.out.to hbd)
  clear hbd
  generalize w3.drew = W1 at *
  refine wpAnyH_take (i := 0) (oi := ?oi23) (v := ?v23) (fuel := 17) ?hi23 ?hs23 ?hf23 ?hr23 ?hq23 (Or.inl ⟨?hw23, ?hy23⟩) hHeld ?rest23
  case hi23 => rw [List.getElem?_toArray]; rfl
  case hq23 => exact fun _ _ _ h => h
  case hs23 | hf23 | hr23 => kernel_rfl
  case hw23 => rfl
  case hy23 => (intro w1 hSw; (try dsimp only at hSw); go_simp; try with_reducible rfl)
  (try simp only [Act.put, List.setIfInBounds_toArray, List.set_cons_zero, List.set_cons_succ])
  refine wpAnyH_take (i := 1) (oi := ?oi24) (v := ?v24) (fuel := 16) ?hi24 ?hs24 ?hf24 ?hr24 ?hq24 (Or.inl ⟨?hw24, ?hy24⟩) hHeld ?rest24
  case hi24 => rw [List.getElem?_toArray]; rfl
  case hq24 => exact fun _ _ _ h => h
  case hs24 | hf24 | hr24 => kernel_rfl
  case hw24 => rfl
  case hy24 => (intro w1 hSw; (try dsimp only at hSw); go_simp; try with_reducible rfl)
  (try simp only [Act.put, List.setIfInBounds_toArray, List.set_cons_zero, List.set_cons_succ])
  refine wpAnyH_take (i := 2) (oi := ?oi25) (v := ?v25) (fuel := 15) ?hi25 ?hs25 ?hf25 ?hr25 ?hq25 (Or.inl ⟨?hw25, ?hy25⟩) hHeld ?rest25
  case hi25 => rw [List.getElem?_toArray]; rfl
  case hq25 => exact fun _ _ _ h => h
  case hs25 | hf25 | hr25 => kernel_rfl
  case hw25 => rfl
  case hy25 => (intro w1 hSw; (try dsimp only at hSw); go_simp; try with_reducible rfl)
  (try simp only [Act.put, List.setIfInBounds_toArray, List.set_cons_zero, List.set_cons_succ])
  refine wpAnyH_take (i := 5) (oi := ?oi26) (v := ?v26) (fuel := 14) ?hi26 ?hs26 ?hf26 ?hr26 ?hq26 (Or.inl ⟨?hw26, ?hy26⟩) hHeld ?rest26
  case hi26 => rw [List.getElem?_toArray]; rfl
  case hq26 => exact fun _ _ _ h => h
  case hs26 | hf26 | hr26 => kernel_rfl
  case hw26 => rfl
  case hy26 => (intro w1 hSw; (try dsimp only at hSw); go_simp; try with_reducible rfl)
  (try simp only [Act.put, List.setIfInBounds_toArray, List.set_cons_zero, List.set_cons_succ])
  refine wpAnyH_take (i := 8) (oi := ?oi27) (v := ?v27) (fuel := 13) ?hi27 ?hs27 ?hf27 ?hr27 ?hq27 (Or.inl ⟨?hw27, ?hy27⟩) hHeld ?rest27
  case hi27 => rw [List.getElem?_toArray]; rfl
  case hq27 => exact fun _ _ _ h => h
  case hs27 | hf27 | hr27 => kernel_rfl
  case hw27 => rfl
  case hy27 => (intro w1 hSw; (try dsimp only at hSw); go_simp; try with_reducible rfl)
  (try simp only [Act.put, List.setIfInBounds_toArray, List.set_cons_zero, List.set_cons_succ])
  refine wpAnyH_take (i := 9) (oi := ?oi28) (v := ?v28) (fuel := 12) ?hi28 ?hs28 ?hf28 ?hr28 ?hq28 (Or.inl ⟨?hw28, ?hy28⟩) hHeld ?rest28
  case hi28 => rw [List.getElem?_toArray]; rfl
  case hq28 => exact fun _ _ _ h => h
  case hs28 | hf28 | hr28 => kernel_rfl
  case hw28 => rfl
  case hy28 => (intro w1 hSw; (try dsimp only at hSw); go_simp; try with_reducible rfl)
  (try simp only [Act.put, List.setIfInBounds_toArray, List.set_cons_zero, List.set_cons_succ])
  refine wpAnyH_take (i := 13) (oi := ?oi29) (v := ?v29) (fuel := 11) ?hi29 ?hs29 ?hf29 ?hr29 ?hq29 (Or.inl ⟨?hw29, ?hy29⟩) hHeld ?rest29
  case hi29 => rw [List.getElem?_toArray]; rfl
  case hq29 => exact fun _ _ _ h => h
  case hs29 | hf29 | hr29 => kernel_rfl
  case hw29 => rfl
  case hy29 => (intro w1 hSw; (try dsimp only at hSw); go_simp; try with_reducible rfl)
  (try simp only [Act.put, List.setIfInBounds_toArray, List.set_cons_zero, List.set_cons_succ])
  refine wpAnyH_take (i := 14) (oi := ?oi30) (v := ?v30) (fuel := 10) ?hi30 ?hs30 ?hf30 ?hr30 ?hq30 (Or.inl ⟨?hw30, ?hy30⟩) hHeld ?rest30
  case hi30 => rw [List.getElem?_toArray]; rfl
  case hq30 => exact fun _ _ _ h => h
  case hs30 | hf30 | hr30 => kernel_rfl
  case hw30 => rfl
  case hy30 => (intro w1 hSw; (try dsimp only at hSw); go_simp; try with_reducible rfl)
  (try simp only [Act.put, List.setIfInBounds_toArray, List.set_cons_zero, List.set_cons_succ])
  refine wpAnyH_ready (fuel := 9) (rs := [3]) (by kernel_rfl) (by simp) ?_
  refine AllReadyH.cons (o := ?oi31) ?hi31 (fun K hK => ?st31) AllReadyH.nil
  case hi31 => rw [List.getElem?_toArray]; rfl
  go_simp
  refine (dec_w z (by omega) (by omega) _).mono ?_
  rintro ee wr3 ⟨⟨x2, hx2, rfl⟩, b3⟩
  replace HB := hid (HB.out.bel b3)
  replace HZ := hid (HZ.out.to b3)
  clear b3
  go_wp2_with fail
  refine hK.out _ _ ?hS31 (fun hHeld => ?re31)
  case hS31 => exact Box6.cells HB.out
  clear hK K
  (try simp only [Act.put, List.setIfInBounds_toArray, List.set_cons_zero, List.set_cons_succ])
  refine wpAnyH_take (i := 4) (oi := ?oi32) (v := .string (wd ++ x2)) (fuel := 8) ?hi32 ?hs32 ?hf32 ?hr32 ?hq32 (Or.inl ⟨?hw32, ?hy32⟩) hHeld ?rest32
  case hi32 => rw [List.getElem?_toArray]; rfl
  case hq32 => exact fun _ _ _ h => h
  case hs32 | hf32 | hr32 => kernel_rfl
  case hw32 => rfl
  case hy32 => (intro w1 hSw; (try dsimp only at hSw); go_simp; omega)
  (try simp only [Act.put, List.setIfInBounds_toArray, List.set_cons_zero, List.set_cons_succ])
  refine wpAnyH_take (i := 6) (oi := ?oi33) (v := .string (wd ++ x2 ++ dd)) (fuel := 7) ?hi33 ?hs33 ?hf33 ?hr33 ?hq33 (Or.inl ⟨?hw33, ?hy33⟩) hHeld ?rest33
  case hi33 => rw [List.getElem?_toArray]; rfl
  case hq33 => exact fun _ _ _ h => h
  case hs33 | hf33 | hr33 => kernel_rfl
  case hw33 => rfl
  case hy33 => (intro w1 hSw; (try dsimp only at hSw); go_simp; omega)
  (try simp only [Act.put, List.setIfInBounds_toArray, List.set_cons_zero, List.set_cons_succ])
  refine wpAnyH_take (i := 7) (oi := ?oi34) (v := .string (wd ++ x2 ++ dd ++ (⟨#[32, 114]⟩ : ByteArray))) (fuel := 6) ?hi34 ?hs34 ?hf34 ?hr34 ?hq34 (Or.inl ⟨?hw34, ?hy34⟩) hHeld ?rest34
  case hi34 => rw [List.getElem?_toArray]; rfl
  case hq34 => exact fun _ _ _ h => h
  case hs34 | hf34 | hr34 => kernel_rfl
  case hw34 => rfl
  case hy34 => (intro w1 hSw; (try dsimp only at hSw); go_simp; omega)
  (try simp only [Act.put, List.setIfInBounds_toArray, List.set_cons_zero, List.set_cons_succ])
  refine wpAnyH_ready (fuel := 5) (rs := [10]) (by kernel_rfl) (by simp) ?_
  refine AllReadyH.cons (o := ?oi35) ?hi35 (fun K hK => ?st35) AllReadyH.nil
  case hi35 => rw [List.getElem?_toArray]; rfl
  go_simp
  refine (dec_w s (by omega) (by omega) _).mono ?_
  rintro ee wr10 ⟨⟨x3, hx3, rfl⟩, b10⟩
  replace HB := hid (HB.out.bel b10)
  replace HZ := hid (HZ.out.to b10)
  clear b10
  go_wp2_with fail
  refine hK.out _ _ ?hS35 (fun hHeld => ?re35)
  case hS35 => exact Box6.cells HB.out
  clear hK K
  (try simp only [Act.put, List.setIfInBounds_toArray, List.set_cons_zero, List.set_cons_succ])
  refine wpAnyH_take (i := 11) (oi := ?oi36) (v := .string (wd ++ x2 ++ dd ++ (⟨#[32, 114]⟩ : ByteArray) ++ x3)) (fuel := 4) ?hi36 ?hs36 ?hf36 ?hr36 ?hq36 (Or.inl ⟨?hw36, ?hy36⟩) hHeld ?rest36
  case hi36 => rw [List.getElem?_toArray]; rfl
  case hq36 => exact fun _ _ _ h => h
  case hs36 | hf36 | hr36 => kernel_rfl
  case hw36 => rfl
  case hy36 => (intro w1 hSw; (try dsimp only at hSw); go_simp; omega)
  (try simp only [Act.put, List.setIfInBounds_toArray, List.set_cons_zero, List.set_cons_succ])
  refine wpAnyH_take (i := 12) (oi := ?oi37) (v := .string (wd ++ x2 ++ dd ++ (⟨#[32, 114]⟩ : ByteArray) ++ x3 ++ (⟨#[32]⟩ : ByteArray))) (fuel := 3) ?hi37 ?hs37 ?hf37 ?hr37 ?hq37 (Or.inl ⟨?hw37, ?hy37⟩) hHeld ?rest37
  case hi37 => rw [List.getElem?_toArray]; rfl
  case hq37 => exact fun _ _ _ h => h
  case hs37 | hf37 | hr37 => kernel_rfl
  case hw37 => rfl
  case hy37 => (intro w1 hSw; (try dsimp only at hSw); go_simp; omega)
  (try simp only [Act.put, List.setIfInBounds_toArray, List.set_cons_zero, List.set_cons_succ])
  refine wpAnyH_ready (fuel := 2) (rs := [15]) (by kernel_rfl) (by simp) ?_
  refine AllReadyH.cons (o := ?oi38) ?hi38 (fun K hK => ?st38) AllReadyH.nil
  case hi38 => rw [List.getElem?_toArray]; rfl
  go_simp
  refine (dec_w f (by omega) (by omega) _).mono ?_
  rintro ee wr15 ⟨⟨x4, hx4, rfl⟩, b15⟩
  replace HB := hid (HB.out.bel b15)
  replace HZ := hid (HZ.out.to b15)
  clear b15
  go_wp2_with fail
  refine hK.out _ _ ?hS38 (fun hHeld => ?re38)
  case hS38 => exact Box6.cells HB.out
  clear hK K
  (try simp only [Act.put, List.setIfInBounds_toArray, List.set_cons_zero, List.set_cons_succ])
  refine wpAnyH_take (i := 16) (oi := ?oi39) (v := .string (wd ++ x2 ++ dd ++ (⟨#[32, 114]⟩ : ByteArray) ++ x3 ++ (⟨#[32]⟩ : ByteArray) ++ x4)) (fuel := 1) ?hi39 ?hs39 ?hf39 ?hr39 ?hq39 (Or.inl ⟨?hw39, ?hy39⟩) hHeld ?rest39
  case hi39 => rw [List.getElem?_toArray]; rfl
  case hq39 => exact fun _ _ _ h => h
  case hs39 | hf39 | hr39 => kernel_rfl
  case hw39 => rfl
  case hy39 => (intro w1 hSw; (try dsimp only at hSw); go_simp; omega)
  (try simp only [Act.put, List.setIfInBounds_toArray, List.set_cons_zero, List.set_cons_succ])
  refine wpAnyH_take (i := 17) (oi := ?oi40) (v := ?v40) (fuel := 0) ?hi40 ?hs40 ?hf40 ?hr40 ?hq40 (Or.inl ⟨?hw40, ?hy40⟩) hHeld ?rest40
  case hi40 => rw [List.getElem?_toArray]; rfl
  case hq40 => exact fun _ _ _ h => h
  case hs40 | hf40 | hr40 => kernel_rfl
  case hw40 => rfl
  case hy40 => (intro w1 hSw; (try dsimp only at hSw); go_simp; try with_reducible rfl)
  (try simp only [Act.put, List.setIfInBounds_toArray, List.set_cons_zero, List.set_cons_succ])
  refine wpAnyH_done (by kernel_rfl) ?_ _
  clear hHeld
  generalize wr15 = w9 at *
  go_wp2_with fail
  go_ret
  exact ⟨⟨_, by rw [ByteArray.size_append, ByteArray.size_append, ByteArray.size_append, ByteArray.size_append, ByteArray.size_append, ByteArray.size_append]; show wd.size + x2.size + dd.size + 2 + x3.size + 1 + x4.size ≤ 200; omega, rfl⟩, HZ.out⟩

set_option maxRecDepth 100000 in
set_option maxHeartbeats 4000000 in
theorem line_store (on : Nat) (d s f i z : Int) (w : World) (hd0 : 0 ≤ d) (hd1 : d ≤ 10) (hs0 : -1 ≤ s) (hs1 : s ≤ 10) (hf0 : -128 ≤ f) (hf1 : f ≤ 127) (hi0 : 0 ≤ i) (hi1 : i ≤ 4294967295) (hon : on < 21) (hA : inB (on : Int) 1 11 = false) (hJ : inB (on : Int) 12 15 = false) (h16 : ((on : Int) == 16) = false) (h17 : ((on : Int) == 17) = false) (h18 : ((on : Int) == 18) = true) (hz0 : 0 ≤ z) (hz1 : z ≤ 4) :
    Calls Try.prog 83 #[.agg #[.int .i64 (on : Int), .int .i64 d, .int .i64 s, .int .i64 f, .int .i64 i, .int .i64 z]] w fun e w' => AnS 200 e ∧ Below w.heap.size w w' := by
  have hon' : (on : Int) < 21 := by omega
  have hon0 : (0 : Int) ≤ (on : Int) := by omega
  go_enter Try.func83, Try.ntmps83
  go_wp2_with fail
  have hb : Box6 (w.alloc (.cells #[.int .i64 (on : Int), .int .i64 d, .int .i64 s, .int .i64 f, .int .i64 i, .int .i64 z] 86)) w.heap.size (on : Int) d s f i z := World.alloc_heap_new w _
  have hz : Below w.heap.size w (w.alloc (.cells #[.int .i64 (on : Int), .int .i64 d, .int .i64 s, .int .i64 f, .int .i64 i, .int .i64 z] 86)) := (Below.refl _ _).alloc (Nat.le_refl _) _
  have HB := hid hb
  have HZ := hid hz
  clear hb hz
  generalize w.alloc (.cells #[.int .i64 (on : Int), .int .i64 d, .int .i64 s, .int .i64 f, .int .i64 i, .int .i64 z] 86) = w1 at *
  obtain ⟨B, hB⟩ : ∃ B, B = w.heap.size := ⟨_, rfl⟩
  have HBE := hid hB
  rw [← hB] at HB ⊢
  clear hB
  refine wp_region_held_drew (S := (fun w' => w'.cell? ⟨B, 0, none⟩ = some (.int .i64 (on : Int)) ∧ w'.cell? ⟨B, 1, none⟩ = some (.int .i64 d) ∧ w'.cell? ⟨B, 2, none⟩ = some (.int .i64 s) ∧ w'.cell? ⟨B, 3, none⟩ = some (.int .i64 f) ∧ w'.cell? ⟨B, 4, none⟩ = some (.int .i64 i) ∧ w'.cell? ⟨B, 5, none⟩ = some (.int .i64 z))) (by kernel_rfl) (by exact Box6.cells HB.out) (fun hHeld => ?_)
  have hbd : Below w1.heap.size w1 w1.drew := (Below.refl _ _).drew
  replace HB := hid (HB.out.bel hbd)
  replace HZ := hid (HZ.out.to hbd)
  clear hbd
  generalize w1.drew = W1 at *
  refine wpAnyH_take (i := 1) (oi := ?oi1) (v := ?v1) (fuel := 5) ?hi1 ?hs1 ?hf1 ?hr1 ?hq1 (Or.inl ⟨?hw1, ?hy1⟩) hHeld ?rest1
  case hi1 => rw [List.getElem?_toArray]; rfl
  case hq1 => exact fun _ _ _ h => h
  case hs1 | hf1 | hr1 => kernel_rfl
  case hw1 => rfl
  case hy1 => (intro w1 hSw; (try dsimp only at hSw); go_simp; try with_reducible rfl)
  (try simp only [Act.put, List.setIfInBounds_toArray, List.set_cons_zero, List.set_cons_succ])
  refine wpAnyH_take (i := 2) (oi := ?oi2) (v := ?v2) (fuel := 4) ?hi2 ?hs2 ?hf2 ?hr2 ?hq2 (Or.inl ⟨?hw2, ?hy2⟩) hHeld ?rest2
  case hi2 => rw [List.getElem?_toArray]; rfl
  case hq2 => exact fun _ _ _ h => h
  case hs2 | hf2 | hr2 => kernel_rfl
  case hw2 => rfl
  case hy2 => (intro w1 hSw; (try dsimp only at hSw); go_simp; try with_reducible rfl)
  (try simp only [Act.put, List.setIfInBounds_toArray, List.set_cons_zero, List.set_cons_succ])
  refine wpAnyH_ready (fuel := 3) (rs := [0]) (by kernel_rfl) (by simp) ?_
  refine AllReadyH.cons (o := ?oi3) ?hi3 (fun K hK => ?st3) AllReadyH.nil
  case hi3 => rw [List.getElem?_toArray]; rfl
  go_simp
  refine (words_w _).mono ?_
  rintro ee wr0 ⟨rfl, hsl, b0⟩
  have HSL := hid hsl
  clear hsl
  replace HB := hid (HB.out.bel b0)
  replace HZ := hid (HZ.out.to b0)
  clear b0
  go_wp2_with fail
  generalize W1.heap.size = G at *
  refine hK.out _ _ ?hS3 (fun hHeld => ?re3)
  case hS3 => exact Box6.cells HB.out
  clear hK K
  (try simp only [Act.put, List.setIfInBounds_toArray, List.set_cons_zero, List.set_cons_succ])
  refine wpAnyH_take (i := 3) (oi := ?oi4) (v := ?v4) (fuel := 2) ?hi4 ?hs4 ?hf4 ?hr4 ?hq4 (Or.inl ⟨?hw4, ?hy4⟩) hHeld ?rest4
  case hi4 => rw [List.getElem?_toArray]; rfl
  case hq4 => exact fun _ _ _ h => h
  case hs4 | hf4 | hr4 => kernel_rfl
  case hw4 => rfl
  case hy4 => (intro w1 hSw; (try dsimp only at hSw); go_simp; try with_reducible rfl)
  (try simp only [Act.put, List.setIfInBounds_toArray, List.set_cons_zero, List.set_cons_succ])
  refine wpAnyH_ready (fuel := 1) (rs := [4]) (by kernel_rfl) (by simp) ?_
  refine AllReadyH.cons (o := ?oi5) ?hi5 (fun K hK => ?st5) AllReadyH.nil
  case hi5 => rw [List.getElem?_toArray]; rfl
  have hc := HSL.out.2 on (by show on < 21; omega)
  have hwd := word_size on
  generalize wordsL.getD on ⟨#[]⟩ = wd at *
  go_simp
  clear hc HSL
  refine hK.out _ _ ?hS5 (fun hHeld => ?re5)
  case hS5 => exact Box6.cells HB.out
  clear hK K
  (try simp only [Act.put, List.setIfInBounds_toArray, List.set_cons_zero, List.set_cons_succ])
  refine wpAnyH_take (i := 5) (oi := ?oi6) (v := ?v6) (fuel := 0) ?hi6 ?hs6 ?hf6 ?hr6 ?hq6 (Or.inl ⟨?hw6, ?hy6⟩) hHeld ?rest6
  case hi6 => rw [List.getElem?_toArray]; rfl
  case hq6 => exact fun _ _ _ h => h
  case hs6 | hf6 | hr6 => kernel_rfl
  case hw6 => rfl
  case hy6 => (intro w1 hSw; (try dsimp only at hSw); go_simp; try with_reducible rfl)
  (try simp only [Act.put, List.setIfInBounds_toArray, List.set_cons_zero, List.set_cons_succ])
  refine wpAnyH_done (by kernel_rfl) ?_ _
  clear hHeld
  generalize wr0 = w2 at *
  obtain ⟨c0, c1, c2, c3, c4, c5⟩ := Box6.cells HB.out
  have lB := Box6.lt HB.out
  go_wp2_with fail
  clear c0 c1 c2 c3 c4 c5 lB
  refine (dec_w d (by omega) (by omega) _).mono ?_
  rintro e w3 ⟨⟨x, hx, rfl⟩, b3⟩
  replace HB := hid (HB.out.bel b3)
  replace HZ := hid (HZ.out.to b3)
  clear b3
  obtain ⟨c0, c1, c2, c3, c4, c5⟩ := Box6.cells HB.out
  have lB := Box6.lt HB.out
  go_wp2_with fail
  clear c0 c1 c2 c3 c4 c5 lB
  have hdd : ((⟨#[32, 114]⟩ : ByteArray) ++ x).size ≤ 22 := by rw [ByteArray.size_append]; show 2 + x.size ≤ 22; omega
  generalize (⟨#[32, 114]⟩ : ByteArray) ++ x = dd at *
  clear hx
  refine (f49 _ _).mono ?_
  rintro e w' ⟨rfl, hw⟩
  rw [hw]; clear hw w'
  rw [hA]
  obtain ⟨c0, c1, c2, c3, c4, c5⟩ := Box6.cells HB.out
  have lB := Box6.lt HB.out
  go_wp2_with fail
  clear c0 c1 c2 c3 c4 c5 lB
  refine (f48 _ _).mono ?_
  rintro e w' ⟨rfl, hw⟩
  rw [hw]; clear hw w'
  rw [hJ]
  obtain ⟨c0, c1, c2, c3, c4, c5⟩ := Box6.cells HB.out
  have lB := Box6.lt HB.out
  go_wp2_with fail
  clear c0 c1 c2 c3 c4 c5 lB
  refine wp_region_held_drew (S := (fun w' => w'.cell? ⟨B, 0, none⟩ = some (.int .i64 (on : Int)) ∧ w'.cell? ⟨B, 1, none⟩ = some (.int .i64 d) ∧ w'.cell? ⟨B, 2, none⟩ = some (.int .i64 s) ∧ w'.cell? ⟨B, 3, none⟩ = some (.int .i64 f) ∧ w'.cell? ⟨B, 4, none⟩ = some (.int .i64 i) ∧ w'.cell? ⟨B, 5, none⟩ = some (.int .i64 z))) (by kernel_rfl) (by exact Box6.cells HB.out) (fun hHeld => ?_)
  have hbd : Below w3.heap.size w3 w3.drew := (Below.refl _ _).drew
  replace HB := hid (HB.out.bel hbd)
  replace HZ := hid (HZ.out.to hbd)
  clear hbd
  generalize w3.drew = W1 at *
  refine wpAnyH_take (i := 0) (oi := ?oi41) (v := ?v41) (fuel := 19) ?hi41 ?hs41 ?hf41 ?hr41 ?hq41 (Or.inl ⟨?hw41, ?hy41⟩) hHeld ?rest41
  case hi41 => rw [List.getElem?_toArray]; rfl
  case hq41 => exact fun _ _ _ h => h
  case hs41 | hf41 | hr41 => kernel_rfl
  case hw41 => rfl
  case hy41 => (intro w1 hSw; (try dsimp only at hSw); go_simp; try with_reducible rfl)
  (try simp only [Act.put, List.setIfInBounds_toArray, List.set_cons_zero, List.set_cons_succ])
  refine wpAnyH_take (i := 1) (oi := ?oi42) (v := ?v42) (fuel := 18) ?hi42 ?hs42 ?hf42 ?hr42 ?hq42 (Or.inl ⟨?hw42, ?hy42⟩) hHeld ?rest42
  case hi42 => rw [List.getElem?_toArray]; rfl
  case hq42 => exact fun _ _ _ h => h
  case hs42 | hf42 | hr42 => kernel_rfl
  case hw42 => rfl
  case hy42 => (intro w1 hSw; (try dsimp only at hSw); go_simp; try with_reducible rfl)
  (try simp only [Act.put, List.setIfInBounds_toArray, List.set_cons_zero, List.set_cons_succ])
  refine wpAnyH_take (i := 2) (oi := ?oi43) (v := ?v43) (fuel := 17) ?hi43 ?hs43 ?hf43 ?hr43 ?hq43 (Or.inl ⟨?hw43, ?hy43⟩) hHeld ?rest43
  case hi43 => rw [List.getElem?_toArray]; rfl
  case hq43 => exact fun _ _ _ h => h
  case hs43 | hf43 | hr43 => kernel_rfl
  case hw43 => rfl
  case hy43 => (intro w1 hSw; (try dsimp only at hSw); go_simp; try with_reducible rfl)
  (try simp only [Act.put, List.setIfInBounds_toArray, List.set_cons_zero, List.set_cons_succ])
  refine wpAnyH_take (i := 5) (oi := ?oi44) (v := ?v44) (fuel := 16) ?hi44 ?hs44 ?hf44 ?hr44 ?hq44 (Or.inl ⟨?hw44, ?hy44⟩) hHeld ?rest44
  case hi44 => rw [List.getElem?_toArray]; rfl
  case hq44 => exact fun _ _ _ h => h
  case hs44 | hf44 | hr44 => kernel_rfl
  case hw44 => rfl
  case hy44 => (intro w1 hSw; (try dsimp only at hSw); go_simp; try with_reducible rfl)
  (try simp only [Act.put, List.setIfInBounds_toArray, List.set_cons_zero, List.set_cons_succ])
  refine wpAnyH_take (i := 8) (oi := ?oi45) (v := ?v45) (fuel := 15) ?hi45 ?hs45 ?hf45 ?hr45 ?hq45 (Or.inl ⟨?hw45, ?hy45⟩) hHeld ?rest45
  case hi45 => rw [List.getElem?_toArray]; rfl
  case hq45 => exact fun _ _ _ h => h
  case hs45 | hf45 | hr45 => kernel_rfl
  case hw45 => rfl
  case hy45 => (intro w1 hSw; (try dsimp only at hSw); go_simp; try with_reducible rfl)
  (try simp only [Act.put, List.setIfInBounds_toArray, List.set_cons_zero, List.set_cons_succ])
  refine wpAnyH_take (i := 9) (oi := ?oi46) (v := ?v46) (fuel := 14) ?hi46 ?hs46 ?hf46 ?hr46 ?hq46 (Or.inl ⟨?hw46, ?hy46⟩) hHeld ?rest46
  case hi46 => rw [List.getElem?_toArray]; rfl
  case hq46 => exact fun _ _ _ h => h
  case hs46 | hf46 | hr46 => kernel_rfl
  case hw46 => rfl
  case hy46 => (intro w1 hSw; (try dsimp only at hSw); go_simp; try with_reducible rfl)
  (try simp only [Act.put, List.setIfInBounds_toArray, List.set_cons_zero, List.set_cons_succ])
  refine wpAnyH_take (i := 13) (oi := ?oi47) (v := ?v47) (fuel := 13) ?hi47 ?hs47 ?hf47 ?hr47 ?hq47 (Or.inl ⟨?hw47, ?hy47⟩) hHeld ?rest47
  case hi47 => rw [List.getElem?_toArray]; rfl
  case hq47 => exact fun _ _ _ h => h
  case hs47 | hf47 | hr47 => kernel_rfl
  case hw47 => rfl
  case hy47 => (intro w1 hSw; (try dsimp only at hSw); go_simp; try with_reducible rfl)
  (try simp only [Act.put, List.setIfInBounds_toArray, List.set_cons_zero, List.set_cons_succ])
  refine wpAnyH_take (i := 14) (oi := ?oi48) (v := ?v48) (fuel := 12) ?hi48 ?hs48 ?hf48 ?hr48 ?hq48 (Or.inl ⟨?hw48, ?hy48⟩) hHeld ?rest48
  case hi48 => rw [List.getElem?_toArray]; rfl
  case hq48 => exact fun _ _ _ h => h
  case hs48 | hf48 | hr48 => kernel_rfl
  case hw48 => rfl
  case hy48 => (intro w1 hSw; (try dsimp only at hSw); go_simp; try with_reducible rfl)
  (try simp only [Act.put, List.setIfInBounds_toArray, List.set_cons_zero, List.set_cons_succ])
  refine wpAnyH_take (i := 15) (oi := ?oi49) (v := ?v49) (fuel := 11) ?hi49 ?hs49 ?hf49 ?hr49 ?hq49 (Or.inl ⟨?hw49, ?hy49⟩) hHeld ?rest49
  case hi49 => rw [List.getElem?_toArray]; rfl
  case hq49 => exact fun _ _ _ h => h
  case hs49 | hf49 | hr49 => kernel_rfl
  case hw49 => rfl
  case hy49 => (intro w1 hSw; (try dsimp only at hSw); go_simp; try with_reducible rfl)
  (try simp only [Act.put, List.setIfInBounds_toArray, List.set_cons_zero, List.set_cons_succ])
  refine wpAnyH_take (i := 16) (oi := ?oi50) (v := ?v50) (fuel := 10) ?hi50 ?hs50 ?hf50 ?hr50 ?hq50 (Or.inl ⟨?hw50, ?hy50⟩) hHeld ?rest50
  case hi50 => rw [List.getElem?_toArray]; rfl
  case hq50 => exact fun _ _ _ h => h
  case hs50 | hf50 | hr50 => kernel_rfl
  case hw50 => rfl
  case hy50 => (intro w1 hSw; (try dsimp only at hSw); go_simp; try with_reducible rfl)
  (try simp only [Act.put, List.setIfInBounds_toArray, List.set_cons_zero, List.set_cons_succ])
  refine wpAnyH_ready (fuel := 9) (rs := [3]) (by kernel_rfl) (by simp) ?_
  refine AllReadyH.cons (o := ?oi51) ?hi51 (fun K hK => ?st51) AllReadyH.nil
  case hi51 => rw [List.getElem?_toArray]; rfl
  go_simp
  refine (dec_w z (by omega) (by omega) _).mono ?_
  rintro ee wr3 ⟨⟨x2, hx2, rfl⟩, b3⟩
  replace HB := hid (HB.out.bel b3)
  replace HZ := hid (HZ.out.to b3)
  clear b3
  go_wp2_with fail
  refine hK.out _ _ ?hS51 (fun hHeld => ?re51)
  case hS51 => exact Box6.cells HB.out
  clear hK K
  (try simp only [Act.put, List.setIfInBounds_toArray, List.set_cons_zero, List.set_cons_succ])
  refine wpAnyH_take (i := 4) (oi := ?oi52) (v := .string (wd ++ x2)) (fuel := 8) ?hi52 ?hs52 ?hf52 ?hr52 ?hq52 (Or.inl ⟨?hw52, ?hy52⟩) hHeld ?rest52
  case hi52 => rw [List.getElem?_toArray]; rfl
  case hq52 => exact fun _ _ _ h => h
  case hs52 | hf52 | hr52 => kernel_rfl
  case hw52 => rfl
  case hy52 => (intro w1 hSw; (try dsimp only at hSw); go_simp; omega)
  (try simp only [Act.put, List.setIfInBounds_toArray, List.set_cons_zero, List.set_cons_succ])
  refine wpAnyH_take (i := 6) (oi := ?oi53) (v := .string (wd ++ x2 ++ dd)) (fuel := 7) ?hi53 ?hs53 ?hf53 ?hr53 ?hq53 (Or.inl ⟨?hw53, ?hy53⟩) hHeld ?rest53
  case hi53 => rw [List.getElem?_toArray]; rfl
  case hq53 => exact fun _ _ _ h => h
  case hs53 | hf53 | hr53 => kernel_rfl
  case hw53 => rfl
  case hy53 => (intro w1 hSw; (try dsimp only at hSw); go_simp; omega)
  (try simp only [Act.put, List.setIfInBounds_toArray, List.set_cons_zero, List.set_cons_succ])
  refine wpAnyH_take (i := 7) (oi := ?oi54) (v := .string (wd ++ x2 ++ dd ++ (⟨#[32]⟩ : ByteArray))) (fuel := 6) ?hi54 ?hs54 ?hf54 ?hr54 ?hq54 (Or.inl ⟨?hw54, ?hy54⟩) hHeld ?rest54
  case hi54 => rw [List.getElem?_toArray]; rfl
  case hq54 => exact fun _ _ _ h => h
  case hs54 | hf54 | hr54 => kernel_rfl
  case hw54 => rfl
  case hy54 => (intro w1 hSw; (try dsimp only at hSw); go_simp; omega)
  (try simp only [Act.put, List.setIfInBounds_toArray, List.set_cons_zero, List.set_cons_succ])
  refine wpAnyH_ready (fuel := 5) (rs := [10]) (by kernel_rfl) (by simp) ?_
  refine AllReadyH.cons (o := ?oi55) ?hi55 (fun K hK => ?st55) AllReadyH.nil
  case hi55 => rw [List.getElem?_toArray]; rfl
  go_simp
  refine (dec_w f (by omega) (by omega) _).mono ?_
  rintro ee wr10 ⟨⟨x3, hx3, rfl⟩, b10⟩
  replace HB := hid (HB.out.bel b10)
  replace HZ := hid (HZ.out.to b10)
  clear b10
  go_wp2_with fail
  refine hK.out _ _ ?hS55 (fun hHeld => ?re55)
  case hS55 => exact Box6.cells HB.out
  clear hK K
  (try simp only [Act.put, List.setIfInBounds_toArray, List.set_cons_zero, List.set_cons_succ])
  refine wpAnyH_take (i := 11) (oi := ?oi56) (v := .string (wd ++ x2 ++ dd ++ (⟨#[32]⟩ : ByteArray) ++ x3)) (fuel := 4) ?hi56 ?hs56 ?hf56 ?hr56 ?hq56 (Or.inl ⟨?hw56, ?hy56⟩) hHeld ?rest56
  case hi56 => rw [List.getElem?_toArray]; rfl
  case hq56 => exact fun _ _ _ h => h
  case hs56 | hf56 | hr56 => kernel_rfl
  case hw56 => rfl
  case hy56 => (intro w1 hSw; (try dsimp only at hSw); go_simp; omega)
  (try simp only [Act.put, List.setIfInBounds_toArray, List.set_cons_zero, List.set_cons_succ])
  refine wpAnyH_take (i := 12) (oi := ?oi57) (v := .string (wd ++ x2 ++ dd ++ (⟨#[32]⟩ : ByteArray) ++ x3 ++ (⟨#[32]⟩ : ByteArray))) (fuel := 3) ?hi57 ?hs57 ?hf57 ?hr57 ?hq57 (Or.inl ⟨?hw57, ?hy57⟩) hHeld ?rest57
  case hi57 => rw [List.getElem?_toArray]; rfl
  case hq57 => exact fun _ _ _ h => h
  case hs57 | hf57 | hr57 => kernel_rfl
  case hw57 => rfl
  case hy57 => (intro w1 hSw; (try dsimp only at hSw); go_simp; omega)
  (try simp only [Act.put, List.setIfInBounds_toArray, List.set_cons_zero, List.set_cons_succ])
  refine wpAnyH_ready (fuel := 2) (rs := [17]) (by kernel_rfl) (by simp) ?_
  refine AllReadyH.cons (o := ?oi58) ?hi58 (fun K hK => ?st58) AllReadyH.nil
  case hi58 => rw [List.getElem?_toArray]; rfl
  go_simp
  refine (reg_w s i hs0 hs1 hi0 hi1 _).mono ?_
  rintro ee wr17 ⟨⟨x4, hx4, rfl⟩, b17⟩
  replace HB := hid (HB.out.bel b17)
  replace HZ := hid (HZ.out.to b17)
  clear b17
  go_wp2_with fail
  refine hK.out _ _ ?hS58 (fun hHeld => ?re58)
  case hS58 => exact Box6.cells HB.out
  clear hK K
  (try simp only [Act.put, List.setIfInBounds_toArray, List.set_cons_zero, List.set_cons_succ])
  refine wpAnyH_take (i := 18) (oi := ?oi59) (v := .string (wd ++ x2 ++ dd ++ (⟨#[32]⟩ : ByteArray) ++ x3 ++ (⟨#[32]⟩ : ByteArray) ++ x4)) (fuel := 1) ?hi59 ?hs59 ?hf59 ?hr59 ?hq59 (Or.inl ⟨?hw59, ?hy59⟩) hHeld ?rest59
  case hi59 => rw [List.getElem?_toArray]; rfl
  case hq59 => exact fun _ _ _ h => h
  case hs59 | hf59 | hr59 => kernel_rfl
  case hw59 => rfl
  case hy59 => (intro w1 hSw; (try dsimp only at hSw); go_simp; omega)
  (try simp only [Act.put, List.setIfInBounds_toArray, List.set_cons_zero, List.set_cons_succ])
  refine wpAnyH_take (i := 19) (oi := ?oi60) (v := ?v60) (fuel := 0) ?hi60 ?hs60 ?hf60 ?hr60 ?hq60 (Or.inl ⟨?hw60, ?hy60⟩) hHeld ?rest60
  case hi60 => rw [List.getElem?_toArray]; rfl
  case hq60 => exact fun _ _ _ h => h
  case hs60 | hf60 | hr60 => kernel_rfl
  case hw60 => rfl
  case hy60 => (intro w1 hSw; (try dsimp only at hSw); go_simp; try with_reducible rfl)
  (try simp only [Act.put, List.setIfInBounds_toArray, List.set_cons_zero, List.set_cons_succ])
  refine wpAnyH_done (by kernel_rfl) ?_ _
  clear hHeld
  generalize wr17 = w9 at *
  go_wp2_with fail
  go_ret
  exact ⟨⟨_, by rw [ByteArray.size_append, ByteArray.size_append, ByteArray.size_append, ByteArray.size_append, ByteArray.size_append, ByteArray.size_append]; show wd.size + x2.size + dd.size + 1 + x3.size + 1 + x4.size ≤ 200; omega, rfl⟩, HZ.out⟩

set_option maxRecDepth 100000 in
set_option maxHeartbeats 4000000 in
theorem line_call (on : Nat) (d s f i z : Int) (w : World) (hd0 : 0 ≤ d) (hd1 : d ≤ 10) (hs0 : -1 ≤ s) (hs1 : s ≤ 10) (hf0 : -128 ≤ f) (hf1 : f ≤ 127) (hi0 : 0 ≤ i) (hi1 : i ≤ 4294967295) (hon : on < 21) (hA : inB (on : Int) 1 11 = false) (hJ : inB (on : Int) 12 15 = false) (h16 : ((on : Int) == 16) = false) (h17 : ((on : Int) == 17) = false) (h18 : ((on : Int) == 18) = false) (h19 : ((on : Int) == 19) = true) (im : Nat) (him : i = im) (him7 : im < 7) :
    Calls Try.prog 83 #[.agg #[.int .i64 (on : Int), .int .i64 d, .int .i64 s, .int .i64 f, .int .i64 i, .int .i64 z]] w fun e w' => AnS 200 e ∧ Below w.heap.size w w' := by
  subst him
  have him' : (im : Int) < 7 := by omega
  have hon' : (on : Int) < 21 := by omega
  have hon0 : (0 : Int) ≤ (on : Int) := by omega
  go_enter Try.func83, Try.ntmps83
  go_wp2_with fail
  have hb : Box6 (w.alloc (.cells #[.int .i64 (on : Int), .int .i64 d, .int .i64 s, .int .i64 f, .int .i64 (im : Int), .int .i64 z] 86)) w.heap.size (on : Int) d s f (im : Int) z := World.alloc_heap_new w _
  have hz : Below w.heap.size w (w.alloc (.cells #[.int .i64 (on : Int), .int .i64 d, .int .i64 s, .int .i64 f, .int .i64 (im : Int), .int .i64 z] 86)) := (Below.refl _ _).alloc (Nat.le_refl _) _
  have HB := hid hb
  have HZ := hid hz
  clear hb hz
  generalize w.alloc (.cells #[.int .i64 (on : Int), .int .i64 d, .int .i64 s, .int .i64 f, .int .i64 (im : Int), .int .i64 z] 86) = w1 at *
  obtain ⟨B, hB⟩ : ∃ B, B = w.heap.size := ⟨_, rfl⟩
  have HBE := hid hB
  rw [← hB] at HB ⊢
  clear hB
  refine wp_region_held_drew (S := (fun w' => w'.cell? ⟨B, 0, none⟩ = some (.int .i64 (on : Int)) ∧ w'.cell? ⟨B, 1, none⟩ = some (.int .i64 d) ∧ w'.cell? ⟨B, 2, none⟩ = some (.int .i64 s) ∧ w'.cell? ⟨B, 3, none⟩ = some (.int .i64 f) ∧ w'.cell? ⟨B, 4, none⟩ = some (.int .i64 (im : Int)) ∧ w'.cell? ⟨B, 5, none⟩ = some (.int .i64 z))) (by kernel_rfl) (by exact Box6.cells HB.out) (fun hHeld => ?_)
  have hbd : Below w1.heap.size w1 w1.drew := (Below.refl _ _).drew
  replace HB := hid (HB.out.bel hbd)
  replace HZ := hid (HZ.out.to hbd)
  clear hbd
  generalize w1.drew = W1 at *
  refine wpAnyH_take (i := 1) (oi := ?oi1) (v := ?v1) (fuel := 5) ?hi1 ?hs1 ?hf1 ?hr1 ?hq1 (Or.inl ⟨?hw1, ?hy1⟩) hHeld ?rest1
  case hi1 => rw [List.getElem?_toArray]; rfl
  case hq1 => exact fun _ _ _ h => h
  case hs1 | hf1 | hr1 => kernel_rfl
  case hw1 => rfl
  case hy1 => (intro w1 hSw; (try dsimp only at hSw); go_simp; try with_reducible rfl)
  (try simp only [Act.put, List.setIfInBounds_toArray, List.set_cons_zero, List.set_cons_succ])
  refine wpAnyH_take (i := 2) (oi := ?oi2) (v := ?v2) (fuel := 4) ?hi2 ?hs2 ?hf2 ?hr2 ?hq2 (Or.inl ⟨?hw2, ?hy2⟩) hHeld ?rest2
  case hi2 => rw [List.getElem?_toArray]; rfl
  case hq2 => exact fun _ _ _ h => h
  case hs2 | hf2 | hr2 => kernel_rfl
  case hw2 => rfl
  case hy2 => (intro w1 hSw; (try dsimp only at hSw); go_simp; try with_reducible rfl)
  (try simp only [Act.put, List.setIfInBounds_toArray, List.set_cons_zero, List.set_cons_succ])
  refine wpAnyH_ready (fuel := 3) (rs := [0]) (by kernel_rfl) (by simp) ?_
  refine AllReadyH.cons (o := ?oi3) ?hi3 (fun K hK => ?st3) AllReadyH.nil
  case hi3 => rw [List.getElem?_toArray]; rfl
  go_simp
  refine (words_w _).mono ?_
  rintro ee wr0 ⟨rfl, hsl, b0⟩
  have HSL := hid hsl
  clear hsl
  replace HB := hid (HB.out.bel b0)
  replace HZ := hid (HZ.out.to b0)
  clear b0
  go_wp2_with fail
  generalize W1.heap.size = G at *
  refine hK.out _ _ ?hS3 (fun hHeld => ?re3)
  case hS3 => exact Box6.cells HB.out
  clear hK K
  (try simp only [Act.put, List.setIfInBounds_toArray, List.set_cons_zero, List.set_cons_succ])
  refine wpAnyH_take (i := 3) (oi := ?oi4) (v := ?v4) (fuel := 2) ?hi4 ?hs4 ?hf4 ?hr4 ?hq4 (Or.inl ⟨?hw4, ?hy4⟩) hHeld ?rest4
  case hi4 => rw [List.getElem?_toArray]; rfl
  case hq4 => exact fun _ _ _ h => h
  case hs4 | hf4 | hr4 => kernel_rfl
  case hw4 => rfl
  case hy4 => (intro w1 hSw; (try dsimp only at hSw); go_simp; try with_reducible rfl)
  (try simp only [Act.put, List.setIfInBounds_toArray, List.set_cons_zero, List.set_cons_succ])
  refine wpAnyH_ready (fuel := 1) (rs := [4]) (by kernel_rfl) (by simp) ?_
  refine AllReadyH.cons (o := ?oi5) ?hi5 (fun K hK => ?st5) AllReadyH.nil
  case hi5 => rw [List.getElem?_toArray]; rfl
  have hc := HSL.out.2 on (by show on < 21; omega)
  have hwd := word_size on
  generalize wordsL.getD on ⟨#[]⟩ = wd at *
  go_simp
  clear hc HSL
  refine hK.out _ _ ?hS5 (fun hHeld => ?re5)
  case hS5 => exact Box6.cells HB.out
  clear hK K
  (try simp only [Act.put, List.setIfInBounds_toArray, List.set_cons_zero, List.set_cons_succ])
  refine wpAnyH_take (i := 5) (oi := ?oi6) (v := ?v6) (fuel := 0) ?hi6 ?hs6 ?hf6 ?hr6 ?hq6 (Or.inl ⟨?hw6, ?hy6⟩) hHeld ?rest6
  case hi6 => rw [List.getElem?_toArray]; rfl
  case hq6 => exact fun _ _ _ h => h
  case hs6 | hf6 | hr6 => kernel_rfl
  case hw6 => rfl
  case hy6 => (intro w1 hSw; (try dsimp only at hSw); go_simp; try with_reducible rfl)
  (try simp only [Act.put, List.setIfInBounds_toArray, List.set_cons_zero, List.set_cons_succ])
  refine wpAnyH_done (by kernel_rfl) ?_ _
  clear hHeld
  generalize wr0 = w2 at *
  obtain ⟨c0, c1, c2, c3, c4, c5⟩ := Box6.cells HB.out
  have lB := Box6.lt HB.out
  go_wp2_with fail
  clear c0 c1 c2 c3 c4 c5 lB
  refine (dec_w d (by omega) (by omega) _).mono ?_
  rintro e w3 ⟨⟨x, hx, rfl⟩, b3⟩
  replace HB := hid (HB.out.bel b3)
  replace HZ := hid (HZ.out.to b3)
  clear b3
  obtain ⟨c0, c1, c2, c3, c4, c5⟩ := Box6.cells HB.out
  have lB := Box6.lt HB.out
  go_wp2_with fail
  clear c0 c1 c2 c3 c4 c5 lB
  have hdd : ((⟨#[32, 114]⟩ : ByteArray) ++ x).size ≤ 22 := by rw [ByteArray.size_append]; show 2 + x.size ≤ 22; omega
  generalize (⟨#[32, 114]⟩ : ByteArray) ++ x = dd at *
  clear hx
  refine (f49 _ _).mono ?_
  rintro e w' ⟨rfl, hw⟩
  rw [hw]; clear hw w'
  rw [hA]
  obtain ⟨c0, c1, c2, c3, c4, c5⟩ := Box6.cells HB.out
  have lB := Box6.lt HB.out
  go_wp2_with fail
  clear c0 c1 c2 c3 c4 c5 lB
  refine (f48 _ _).mono ?_
  rintro e w' ⟨rfl, hw⟩
  rw [hw]; clear hw w'
  rw [hJ]
  obtain ⟨c0, c1, c2, c3, c4, c5⟩ := Box6.cells HB.out
  have lB := Box6.lt HB.out
  go_wp2_with fail
  clear c0 c1 c2 c3 c4 c5 lB
  refine wp_region_held_drew (S := (fun w' => w'.cell? ⟨B, 0, none⟩ = some (.int .i64 (on : Int)) ∧ w'.cell? ⟨B, 1, none⟩ = some (.int .i64 d) ∧ w'.cell? ⟨B, 2, none⟩ = some (.int .i64 s) ∧ w'.cell? ⟨B, 3, none⟩ = some (.int .i64 f) ∧ w'.cell? ⟨B, 4, none⟩ = some (.int .i64 (im : Int)) ∧ w'.cell? ⟨B, 5, none⟩ = some (.int .i64 z))) (by kernel_rfl) (by exact Box6.cells HB.out) (fun hHeld => ?_)
  have hbd : Below w3.heap.size w3 w3.drew := (Below.refl _ _).drew
  replace HB := hid (HB.out.bel hbd)
  replace HZ := hid (HZ.out.to hbd)
  clear hbd
  generalize w3.drew = W1 at *
  refine wpAnyH_take (i := 0) (oi := ?oi61) (v := ?v61) (fuel := 8) ?hi61 ?hs61 ?hf61 ?hr61 ?hq61 (Or.inl ⟨?hw61, ?hy61⟩) hHeld ?rest61
  case hi61 => rw [List.getElem?_toArray]; rfl
  case hq61 => exact fun _ _ _ h => h
  case hs61 | hf61 | hr61 => kernel_rfl
  case hw61 => rfl
  case hy61 => (intro w1 hSw; (try dsimp only at hSw); go_simp; try with_reducible rfl)
  (try simp only [Act.put, List.setIfInBounds_toArray, List.set_cons_zero, List.set_cons_succ])
  refine wpAnyH_take (i := 1) (oi := ?oi62) (v := .string (wd ++ (⟨#[32]⟩ : ByteArray))) (fuel := 7) ?hi62 ?hs62 ?hf62 ?hr62 ?hq62 (Or.inl ⟨?hw62, ?hy62⟩) hHeld ?rest62
  case hi62 => rw [List.getElem?_toArray]; rfl
  case hq62 => exact fun _ _ _ h => h
  case hs62 | hf62 | hr62 => kernel_rfl
  case hw62 => rfl
  case hy62 => (intro w1 hSw; (try dsimp only at hSw); go_simp; omega)
  (try simp only [Act.put, List.setIfInBounds_toArray, List.set_cons_zero, List.set_cons_succ])
  refine wpAnyH_take (i := 3) (oi := ?oi63) (v := ?v63) (fuel := 6) ?hi63 ?hs63 ?hf63 ?hr63 ?hq63 (Or.inl ⟨?hw63, ?hy63⟩) hHeld ?rest63
  case hi63 => rw [List.getElem?_toArray]; rfl
  case hq63 => exact fun _ _ _ h => h
  case hs63 | hf63 | hr63 => kernel_rfl
  case hw63 => rfl
  case hy63 => (intro w1 hSw; (try dsimp only at hSw); go_simp; try with_reducible rfl)
  (try simp only [Act.put, List.setIfInBounds_toArray, List.set_cons_zero, List.set_cons_succ])
  refine wpAnyH_take (i := 4) (oi := ?oi64) (v := ?v64) (fuel := 5) ?hi64 ?hs64 ?hf64 ?hr64 ?hq64 (Or.inl ⟨?hw64, ?hy64⟩) hHeld ?rest64
  case hi64 => rw [List.getElem?_toArray]; rfl
  case hq64 => exact fun _ _ _ h => h
  case hs64 | hf64 | hr64 => kernel_rfl
  case hw64 => rfl
  case hy64 => (intro w1 hSw; (try dsimp only at hSw); go_simp; try with_reducible rfl)
  (try simp only [Act.put, List.setIfInBounds_toArray, List.set_cons_zero, List.set_cons_succ])
  refine wpAnyH_ready (fuel := 4) (rs := [2]) (by kernel_rfl) (by simp) ?_
  refine AllReadyH.cons (o := ?oi65) ?hi65 (fun K hK => ?st65) AllReadyH.nil
  case hi65 => rw [List.getElem?_toArray]; rfl
  go_simp
  refine (calls_w _).mono ?_
  rintro ee wr2 ⟨rfl, hsl, b2⟩
  have HSL := hid hsl
  clear hsl
  replace HB := hid (HB.out.bel b2)
  replace HZ := hid (HZ.out.to b2)
  clear b2
  go_wp2_with fail
  generalize W1.heap.size = G at *
  refine hK.out _ _ ?hS65 (fun hHeld => ?re65)
  case hS65 => exact Box6.cells HB.out
  clear hK K
  (try simp only [Act.put, List.setIfInBounds_toArray, List.set_cons_zero, List.set_cons_succ])
  refine wpAnyH_take (i := 5) (oi := ?oi66) (v := ?v66) (fuel := 3) ?hi66 ?hs66 ?hf66 ?hr66 ?hq66 (Or.inl ⟨?hw66, ?hy66⟩) hHeld ?rest66
  case hi66 => rw [List.getElem?_toArray]; rfl
  case hq66 => exact fun _ _ _ h => h
  case hs66 | hf66 | hr66 => kernel_rfl
  case hw66 => rfl
  case hy66 => (intro w1 hSw; (try dsimp only at hSw); go_simp; try with_reducible rfl)
  (try simp only [Act.put, List.setIfInBounds_toArray, List.set_cons_zero, List.set_cons_succ])
  refine wpAnyH_ready (fuel := 2) (rs := [6]) (by kernel_rfl) (by simp) ?_
  refine AllReadyH.cons (o := ?oi67) ?hi67 (fun K hK => ?st67) AllReadyH.nil
  case hi67 => rw [List.getElem?_toArray]; rfl
  have hc := HSL.out.2 im (by show im < 7; omega)
  have hcw := call_size im
  generalize callsL.getD im ⟨#[]⟩ = cw at *
  go_simp
  clear hc HSL
  refine hK.out _ _ ?hS67 (fun hHeld => ?re67)
  case hS67 => exact Box6.cells HB.out
  clear hK K
  (try simp only [Act.put, List.setIfInBounds_toArray, List.set_cons_zero, List.set_cons_succ])
  refine wpAnyH_take (i := 7) (oi := ?oi68) (v := .string (wd ++ (⟨#[32]⟩ : ByteArray) ++ cw)) (fuel := 1) ?hi68 ?hs68 ?hf68 ?hr68 ?hq68 (Or.inl ⟨?hw68, ?hy68⟩) hHeld ?rest68
  case hi68 => rw [List.getElem?_toArray]; rfl
  case hq68 => exact fun _ _ _ h => h
  case hs68 | hf68 | hr68 => kernel_rfl
  case hw68 => rfl
  case hy68 => (intro w1 hSw; (try dsimp only at hSw); go_simp; omega)
  (try simp only [Act.put, List.setIfInBounds_toArray, List.set_cons_zero, List.set_cons_succ])
  refine wpAnyH_take (i := 8) (oi := ?oi69) (v := ?v69) (fuel := 0) ?hi69 ?hs69 ?hf69 ?hr69 ?hq69 (Or.inl ⟨?hw69, ?hy69⟩) hHeld ?rest69
  case hi69 => rw [List.getElem?_toArray]; rfl
  case hq69 => exact fun _ _ _ h => h
  case hs69 | hf69 | hr69 => kernel_rfl
  case hw69 => rfl
  case hy69 => (intro w1 hSw; (try dsimp only at hSw); go_simp; try with_reducible rfl)
  (try simp only [Act.put, List.setIfInBounds_toArray, List.set_cons_zero, List.set_cons_succ])
  refine wpAnyH_done (by kernel_rfl) ?_ _
  clear hHeld
  generalize wr2 = w9 at *
  go_wp2_with fail
  go_ret
  exact ⟨⟨_, by rw [ByteArray.size_append, ByteArray.size_append]; show wd.size + 1 + cw.size ≤ 200; omega, rfl⟩, HZ.out⟩

set_option maxRecDepth 100000 in
set_option maxHeartbeats 4000000 in
theorem line_exit (on : Nat) (d s f i z : Int) (w : World) (hd0 : 0 ≤ d) (hd1 : d ≤ 10) (hs0 : -1 ≤ s) (hs1 : s ≤ 10) (hf0 : -128 ≤ f) (hf1 : f ≤ 127) (hi0 : 0 ≤ i) (hi1 : i ≤ 4294967295) (hon : on < 21) (hA : inB (on : Int) 1 11 = false) (hJ : inB (on : Int) 12 15 = false) (h16 : ((on : Int) == 16) = false) (h17 : ((on : Int) == 17) = false) (h18 : ((on : Int) == 18) = false) (h19 : ((on : Int) == 19) = false) :
    Calls Try.prog 83 #[.agg #[.int .i64 (on : Int), .int .i64 d, .int .i64 s, .int .i64 f, .int .i64 i, .int .i64 z]] w fun e w' => AnS 200 e ∧ Below w.heap.size w w' := by
  have hon' : (on : Int) < 21 := by omega
  have hon0 : (0 : Int) ≤ (on : Int) := by omega
  go_enter Try.func83, Try.ntmps83
  go_wp2_with fail
  have hb : Box6 (w.alloc (.cells #[.int .i64 (on : Int), .int .i64 d, .int .i64 s, .int .i64 f, .int .i64 i, .int .i64 z] 86)) w.heap.size (on : Int) d s f i z := World.alloc_heap_new w _
  have hz : Below w.heap.size w (w.alloc (.cells #[.int .i64 (on : Int), .int .i64 d, .int .i64 s, .int .i64 f, .int .i64 i, .int .i64 z] 86)) := (Below.refl _ _).alloc (Nat.le_refl _) _
  have HB := hid hb
  have HZ := hid hz
  clear hb hz
  generalize w.alloc (.cells #[.int .i64 (on : Int), .int .i64 d, .int .i64 s, .int .i64 f, .int .i64 i, .int .i64 z] 86) = w1 at *
  obtain ⟨B, hB⟩ : ∃ B, B = w.heap.size := ⟨_, rfl⟩
  have HBE := hid hB
  rw [← hB] at HB ⊢
  clear hB
  refine wp_region_held_drew (S := (fun w' => w'.cell? ⟨B, 0, none⟩ = some (.int .i64 (on : Int)) ∧ w'.cell? ⟨B, 1, none⟩ = some (.int .i64 d) ∧ w'.cell? ⟨B, 2, none⟩ = some (.int .i64 s) ∧ w'.cell? ⟨B, 3, none⟩ = some (.int .i64 f) ∧ w'.cell? ⟨B, 4, none⟩ = some (.int .i64 i) ∧ w'.cell? ⟨B, 5, none⟩ = some (.int .i64 z))) (by kernel_rfl) (by exact Box6.cells HB.out) (fun hHeld => ?_)
  have hbd : Below w1.heap.size w1 w1.drew := (Below.refl _ _).drew
  replace HB := hid (HB.out.bel hbd)
  replace HZ := hid (HZ.out.to hbd)
  clear hbd
  generalize w1.drew = W1 at *
  refine wpAnyH_take (i := 1) (oi := ?oi1) (v := ?v1) (fuel := 5) ?hi1 ?hs1 ?hf1 ?hr1 ?hq1 (Or.inl ⟨?hw1, ?hy1⟩) hHeld ?rest1
  case hi1 => rw [List.getElem?_toArray]; rfl
  case hq1 => exact fun _ _ _ h => h
  case hs1 | hf1 | hr1 => kernel_rfl
  case hw1 => rfl
  case hy1 => (intro w1 hSw; (try dsimp only at hSw); go_simp; try with_reducible rfl)
  (try simp only [Act.put, List.setIfInBounds_toArray, List.set_cons_zero, List.set_cons_succ])
  refine wpAnyH_take (i := 2) (oi := ?oi2) (v := ?v2) (fuel := 4) ?hi2 ?hs2 ?hf2 ?hr2 ?hq2 (Or.inl ⟨?hw2, ?hy2⟩) hHeld ?rest2
  case hi2 => rw [List.getElem?_toArray]; rfl
  case hq2 => exact fun _ _ _ h => h
  case hs2 | hf2 | hr2 => kernel_rfl
  case hw2 => rfl
  case hy2 => (intro w1 hSw; (try dsimp only at hSw); go_simp; try with_reducible rfl)
  (try simp only [Act.put, List.setIfInBounds_toArray, List.set_cons_zero, List.set_cons_succ])
  refine wpAnyH_ready (fuel := 3) (rs := [0]) (by kernel_rfl) (by simp) ?_
  refine AllReadyH.cons (o := ?oi3) ?hi3 (fun K hK => ?st3) AllReadyH.nil
  case hi3 => rw [List.getElem?_toArray]; rfl
  go_simp
  refine (words_w _).mono ?_
  rintro ee wr0 ⟨rfl, hsl, b0⟩
  have HSL := hid hsl
  clear hsl
  replace HB := hid (HB.out.bel b0)
  replace HZ := hid (HZ.out.to b0)
  clear b0
  go_wp2_with fail
  generalize W1.heap.size = G at *
  refine hK.out _ _ ?hS3 (fun hHeld => ?re3)
  case hS3 => exact Box6.cells HB.out
  clear hK K
  (try simp only [Act.put, List.setIfInBounds_toArray, List.set_cons_zero, List.set_cons_succ])
  refine wpAnyH_take (i := 3) (oi := ?oi4) (v := ?v4) (fuel := 2) ?hi4 ?hs4 ?hf4 ?hr4 ?hq4 (Or.inl ⟨?hw4, ?hy4⟩) hHeld ?rest4
  case hi4 => rw [List.getElem?_toArray]; rfl
  case hq4 => exact fun _ _ _ h => h
  case hs4 | hf4 | hr4 => kernel_rfl
  case hw4 => rfl
  case hy4 => (intro w1 hSw; (try dsimp only at hSw); go_simp; try with_reducible rfl)
  (try simp only [Act.put, List.setIfInBounds_toArray, List.set_cons_zero, List.set_cons_succ])
  refine wpAnyH_ready (fuel := 1) (rs := [4]) (by kernel_rfl) (by simp) ?_
  refine AllReadyH.cons (o := ?oi5) ?hi5 (fun K hK => ?st5) AllReadyH.nil
  case hi5 => rw [List.getElem?_toArray]; rfl
  have hc := HSL.out.2 on (by show on < 21; omega)
  have hwd := word_size on
  generalize wordsL.getD on ⟨#[]⟩ = wd at *
  go_simp
  clear hc HSL
  refine hK.out _ _ ?hS5 (fun hHeld => ?re5)
  case hS5 => exact Box6.cells HB.out
  clear hK K
  (try simp only [Act.put, List.setIfInBounds_toArray, List.set_cons_zero, List.set_cons_succ])
  refine wpAnyH_take (i := 5) (oi := ?oi6) (v := ?v6) (fuel := 0) ?hi6 ?hs6 ?hf6 ?hr6 ?hq6 (Or.inl ⟨?hw6, ?hy6⟩) hHeld ?rest6
  case hi6 => rw [List.getElem?_toArray]; rfl
  case hq6 => exact fun _ _ _ h => h
  case hs6 | hf6 | hr6 => kernel_rfl
  case hw6 => rfl
  case hy6 => (intro w1 hSw; (try dsimp only at hSw); go_simp; try with_reducible rfl)
  (try simp only [Act.put, List.setIfInBounds_toArray, List.set_cons_zero, List.set_cons_succ])
  refine wpAnyH_done (by kernel_rfl) ?_ _
  clear hHeld
  generalize wr0 = w2 at *
  obtain ⟨c0, c1, c2, c3, c4, c5⟩ := Box6.cells HB.out
  have lB := Box6.lt HB.out
  go_wp2_with fail
  clear c0 c1 c2 c3 c4 c5 lB
  refine (dec_w d (by omega) (by omega) _).mono ?_
  rintro e w3 ⟨⟨x, hx, rfl⟩, b3⟩
  replace HB := hid (HB.out.bel b3)
  replace HZ := hid (HZ.out.to b3)
  clear b3
  obtain ⟨c0, c1, c2, c3, c4, c5⟩ := Box6.cells HB.out
  have lB := Box6.lt HB.out
  go_wp2_with fail
  clear c0 c1 c2 c3 c4 c5 lB
  have hdd : ((⟨#[32, 114]⟩ : ByteArray) ++ x).size ≤ 22 := by rw [ByteArray.size_append]; show 2 + x.size ≤ 22; omega
  generalize (⟨#[32, 114]⟩ : ByteArray) ++ x = dd at *
  clear hx
  refine (f49 _ _).mono ?_
  rintro e w' ⟨rfl, hw⟩
  rw [hw]; clear hw w'
  rw [hA]
  obtain ⟨c0, c1, c2, c3, c4, c5⟩ := Box6.cells HB.out
  have lB := Box6.lt HB.out
  go_wp2_with fail
  clear c0 c1 c2 c3 c4 c5 lB
  refine (f48 _ _).mono ?_
  rintro e w' ⟨rfl, hw⟩
  rw [hw]; clear hw w'
  rw [hJ]
  obtain ⟨c0, c1, c2, c3, c4, c5⟩ := Box6.cells HB.out
  have lB := Box6.lt HB.out
  go_wp2_with fail
  clear c0 c1 c2 c3 c4 c5 lB
  go_ret
  exact ⟨⟨wd, by omega, rfl⟩, HZ.out⟩

theorem line_w (o d s f i z : Int) (w : World) (h : sokB o d s f i z = true) :
    Calls Try.prog 83 #[.agg #[.int .i64 o, .int .i64 d, .int .i64 s, .int .i64 f, .int .i64 i, .int .i64 z]] w fun e w' => AnS 200 e ∧ Below w.heap.size w w' := by
  simp only [sokB, Bool.and_eq_true] at h
  obtain ⟨⟨⟨⟨hd, hs⟩, hf⟩, hi⟩, hb⟩ := h
  have h1 : 0 ≤ d ∧ d ≤ 10 := by simpa [inB] using hd
  have h2 : -1 ≤ s ∧ s ≤ 10 := by simpa [inB] using hs
  have h3 : -128 ≤ f ∧ f ≤ 127 := by simpa [inB] using hf
  have h4 : 0 ≤ i ∧ i ≤ 4294967295 := by simpa [inB] using hi
  unfold bareB at hb
  cases hA : inB o 1 11
  · cases hJ : inB o 12 15
    · rw [hA, hJ] at hb
      simp only [Bool.false_eq_true, if_false] at hb
      by_cases e16 : o = 16
      · subst e16
        exact line_go 16 d s f i z w h1.1 h1.2 h2.1 h2.2 h3.1 h3.2 h4.1 h4.2 (by omega) hA hJ rfl
      by_cases e17 : o = 17
      · subst e17
        have hz : 0 ≤ z ∧ z ≤ 4 := by simp [isB] at hb; omega
        exact line_load 17 d s f i z w h1.1 h1.2 h2.1 h2.2 h3.1 h3.2 h4.1 h4.2 (by omega) hA hJ rfl rfl hz.1 hz.2
      by_cases e18 : o = 18
      · subst e18
        have hz : 0 ≤ z ∧ z ≤ 4 := by simp [isB] at hb; omega
        exact line_store 18 d s f i z w h1.1 h1.2 h2.1 h2.2 h3.1 h3.2 h4.1 h4.2 (by omega) hA hJ rfl rfl rfl hz.1 hz.2
      by_cases e19 : o = 19
      · subst e19
        have hz : 1 ≤ i ∧ i ≤ 6 := by simp [isB, inB] at hb; omega
        exact line_call 19 d s f i z w h1.1 h1.2 h2.1 h2.2 h3.1 h3.2 h4.1 h4.2 (by omega) hA hJ rfl rfl rfl rfl i.toNat (by omega) (by omega)
      have e20 : o = 20 := by simp [isB, e16, e17, e18, e19] at hb; exact hb.1
      subst e20
      exact line_exit 20 d s f i z w h1.1 h1.2 h2.1 h2.2 h3.1 h3.2 h4.1 h4.2 (by omega) hA hJ rfl rfl rfl rfl
    · have ho : 12 ≤ o ∧ o ≤ 15 := by simpa [inB] using hJ
      obtain ⟨n, rfl⟩ : ∃ n : Nat, o = n := ⟨o.toNat, by omega⟩
      exact line_jump n d s f i z w h1.1 h1.2 h2.1 h2.2 h3.1 h3.2 h4.1 h4.2 (by omega) hA hJ
  · have ho : 1 ≤ o ∧ o ≤ 11 := by simpa [inB] using hA
    obtain ⟨n, rfl⟩ : ∃ n : Nat, o = n := ⟨o.toNat, by omega⟩
    exact line_alu n d s f i z w h1.1 h1.2 h2.1 h2.2 h3.1 h3.2 h4.1 h4.2 (by omega) hA

end Go.Proofs.Ytkaekiodjjhjkaa
