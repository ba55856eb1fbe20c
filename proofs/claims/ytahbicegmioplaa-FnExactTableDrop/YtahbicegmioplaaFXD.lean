/- The walk of the law FnExactTableDrop. -/
import Derived.Test.YtahbicegmioplaaUE
import Derived.Test.YtahbicegmioplaaDV
namespace Go.Proofs.Ytahbicegmioplaa
open Go.RowKit
set_option linter.unusedSimpArgs false
set_option linter.unusedVariables false

theorem TabP.alloc {n₀ : Nat} {w : World} {ks : List Int} {vs : List ByteArray} {a b : Option Addr} (h : TabP n₀ w ks vs a b) (X : Obj) : TabP n₀ (w.alloc X) ks vs a b := TabP.exc (S := fun _ => False) h (Exc.of ((Below.refl _ _).alloc (Nat.le_refl _) _)) (fun _ _ => id)
theorem dropT_len (k s r : Int) (ks : List Int) (vs : List ByteArray) (key : Int) : (dropT k s r ks vs key).1.ks.length ≤ 1048576 ∧ (dropT k s r ks vs key).1.vs.length ≤ 1048576 := by
  unfold dropT
  by_cases hok : okB k s r ks vs = true
  · have hsh := shape2_len (okB_true.1 hok).shape
    have hp := putP_length (ks.zip vs) key (zerosB s.toNat)
    have hz : (ks.zip vs).length ≤ 8 := by simp; omega
    have hf : (dropP (ks.zip vs) key).length ≤ (ks.zip vs).length := List.length_filter_le _ _
    rw [if_pos hok]
    split
    · split
      · simp only [List.length_map]; omega
      · simp only [List.length_map]; omega
    · simp only; omega
  · rw [if_neg hok]; simp

set_option maxRecDepth 100000 in
set_option maxHeartbeats 8000000 in
theorem law_exactDrop (k s r : Int) (ks : List Int) (vs : List ByteArray) (a b : Option Addr) (c d : Nat) (key : Int) (w : World) (hA : ArgI w a ks) (hB : ArgS w b vs) (hm : ks.length ≤ maxLen) (hm2 : vs.length ≤ maxLen) (hss : ∀ s ∈ vs, s.size ≤ maxLen) :
    Calls Try.prog 8 #[.agg #[.int .i64 k, .int .i64 s, .int .i64 r, .slice a ks.length c, .slice b vs.length d], .int .i64 key] w fun e w' => e = .returned (.bool true) ∧ Below w.heap.size w w' := by
  have hcA : ∀ X, Below w.heap.size w (w.alloc X) := fun X => (Below.refl _ _).alloc (Nat.le_refl _) _
  have hlen := dropT_len k s r ks vs key
  obtain ⟨⟨⟨K, S, R, KS, VS, CD⟩, CO⟩, hTR⟩ : ∃ q, dropT k s r ks vs key = q := ⟨_, rfl⟩
  rw [hTR] at hlen
  have hKS : KS.length ≤ 1048576 := hlen.1
  have hVS : VS.length ≤ 1048576 := hlen.2
  have HTR := hid hTR
  have HSA := hid hA
  have HSB := hid hB
  clear hTR hA hB hlen
  obtain ⟨n1, hN1⟩ : ∃ n1 : Nat, n1 = 1 + ks.length + vs.length := ⟨_, rfl⟩
  obtain ⟨n2, hN2⟩ : ∃ n2 : Nat, n2 = 1 + KS.length + VS.length := ⟨_, rfl⟩
  have hn1 : (0 : Int) ≤ (n1 : Int) := by omega
  have hn2 : (0 : Int) ≤ (n2 : Int) := by omega
  go_enter Try.func8, Try.ntmps8
  go_wp2_with fail
  refine (f9 k s r ks vs a b c d _ (ArgS.below HSB.out (hcA _) (Nat.le_refl _)) hm hm2 hss).mono ?_
  rintro e w1 ⟨⟨q, rfl, hq⟩, hb1⟩
  have he1 : Exc (fun _ => False) w w1 := Exc.trans (Exc.of ((Below.refl _ _).alloc (Nat.le_refl _) (.cells #[.int .i64 k, .int .i64 s, .int .i64 r, .slice a ks.length c, .slice b vs.length d] 45))) (Exc.of hb1)
  have HBT1 := hid (B5.exc (S := fun _ => False) (B5.new w 45 _ _ _ _ _) (Exc.of hb1) id)
  have z1 := he1.size
  have c1 : Below w.heap.size w w1 := he1.below (Nat.le_refl _) (fun _ h => h.elim)
  have y1 : w.heap.size ≤ w1.heap.size := c1.size
  rcases hq with rfl | ⟨hk, hv, hq0⟩
  · go_wp2_with fail
    go_ret
    exact ⟨rfl, c1⟩
  obtain ⟨qT0, qT1, qT2, qT3, qT4⟩ := B5.cells HBT1.out
  have qTl := B5.lt HBT1.out
  go_wp2_with fail
  refine (f11r k s r ks vs a b c d _ (ArgI.below HSA.out c1 (Nat.le_refl _)) (ArgS.below HSB.out c1 (Nat.le_refl _)) hk hv).mono ?_
  rintro e w2 ⟨g1, g2, rfl, i2, s2, l1, l2, m1, m2, _, hb2, _, _⟩
  clear qT0 qT1 qT2 qT3 qT4 qTl
  have he2 : Exc (fun _ => False) w1 w2 := Exc.of hb2
  have HBT2 := hid (B5.exc HBT1.out he2 id)
  clear HBT1
  have z2 := he2.size
  have c2 : Below w.heap.size w w2 := c1.trans (he2.below (by omega) (fun _ h => h.elim))
  have y2 : w.heap.size ≤ w2.heap.size := c2.size
  obtain ⟨qT0, qT1, qT2, qT3, qT4⟩ := B5.cells HBT2.out
  have qTl := B5.lt HBT2.out
  go_wp2_with fail
  refine (f22x k s r ks vs g1 g2 _ _ key _ i2 s2 m1 m2 hk hv rfl rfl).mono ?_
  rw [HTR.out]
  dsimp only
  rintro e w3 ⟨V3, rfl, htab3, hb3⟩
  obtain ⟨a3, b3, c3', d3', rfl, P3⟩ := Tab.parts htab3
  clear qT0 qT1 qT2 qT3 qT4 qTl
  have he3 : Exc (fun _ => False) w2 w3 := Exc.of hb3
  have HBT3 := hid (B5.exc HBT2.out he3 id)
  clear HBT2
  have z3 := he3.size
  have c3 : Below w.heap.size w w3 := c2.trans (he3.below (by omega) (fun _ h => h.elim))
  have y3 : w.heap.size ≤ w3.heap.size := c3.size
  have HTW3 := hid P3
  have HWlt : Hid (∀ q, isBlk a3 q ∨ isBlk b3 q → q < w3.heap.size) := fun q h => h.elim (fun h => (P3.bi q h).2) (fun h => (P3.bs q h).2)
  clear P3 htab3 i2 s2
  obtain ⟨qT0, qT1, qT2, qT3, qT4⟩ := B5.cells HBT3.out
  have qTl := B5.lt HBT3.out
  go_wp2_with fail
  have c3a : Below w.heap.size w (w3.alloc (.cells #[.int .i64 K, .int .i64 S, .int .i64 R, .slice a3 KS.length c3', .slice b3 VS.length d3'] 28)) := c3.alloc y3 _
  refine (f11r k s r ks vs a b c d _ (ArgI.below HSA.out c3a (Nat.le_refl _)) (ArgS.below HSB.out c3a (Nat.le_refl _)) hk hv).mono ?_
  rintro e w4 ⟨g3, g4, rfl, i4, s4, l3, l4, m3, m4, n34, hb4, R3, R4⟩
  simp only [World.size_alloc] at l3 l4
  clear qT0 qT1 qT2 qT3 qT4 qTl
  have he4 : Exc (fun _ => False) w3 w4 := Exc.trans (Exc.of ((Below.refl _ _).alloc (Nat.le_refl _) (.cells #[.int .i64 K, .int .i64 S, .int .i64 R, .slice a3 KS.length c3', .slice b3 VS.length d3'] 28))) (Exc.of hb4)
  have HBT4 := hid (B5.exc HBT3.out he4 id)
  clear HBT3
  have HTW4 := hid (TabP.exc HTW3.out he4 (fun _ _ => id))
  clear HTW3
  have HBW4 := hid (B5.exc (S := fun _ => False) (B5.new w3 28 _ _ _ _ _) (Exc.of hb4) id)
  have z4 := he4.size
  have c4 : Below w.heap.size w w4 := c3.trans (he4.below (by omega) (fun _ h => h.elim))
  have y4 : w.heap.size ≤ w4.heap.size := c4.size
  have HTX4 := hid (tab_of i4 s4 m3 m4 l3 l4 n34 R3 R4)
  clear i4 s4 R3 R4
  obtain ⟨qT0, qT1, qT2, qT3, qT4⟩ := B5.cells HBT4.out
  have qTl := B5.lt HBT4.out
  go_wp2_with fail
  refine (f23 k s r ks vs _ _ _ _ key _ (TabP.alloc HTX4.out (.cells #[.int .i64 k, .int .i64 s, .int .i64 r, .slice (some ⟨g3, 0, none⟩) ks.length ks.length, .slice (some ⟨g4, 0, none⟩) vs.length vs.length] 28)).ints (TabP.alloc HTX4.out (.cells #[.int .i64 k, .int .i64 s, .int .i64 r, .slice (some ⟨g3, 0, none⟩) ks.length ks.length, .slice (some ⟨g4, 0, none⟩) vs.length vs.length] 28)).strs (Nat.le_refl _) hk hv).mono ?_
  rw [HTR.out]
  dsimp only
  rintro e w5 ⟨V5, rfl, htab5, hb5⟩
  obtain ⟨a5, b5, c5', d5', rfl, P5⟩ := Tab.parts htab5
  clear qT0 qT1 qT2 qT3 qT4 qTl
  have he5 : Exc (fun _ => False) w4 w5 := Exc.trans (Exc.of ((Below.refl _ _).alloc (Nat.le_refl _) (.cells #[.int .i64 k, .int .i64 s, .int .i64 r, .slice (some ⟨g3, 0, none⟩) ks.length ks.length, .slice (some ⟨g4, 0, none⟩) vs.length vs.length] 28))) (Exc.of hb5)
  have HBT5 := hid (B5.exc HBT4.out he5 id)
  clear HBT4
  have HBW5 := hid (B5.exc HBW4.out he5 id)
  clear HBW4
  have HTW5 := hid (TabP.exc HTW4.out he5 (fun _ _ => id))
  clear HTW4
  have HTX5 := hid (TabP.exc HTX4.out he5 (fun _ _ => id))
  clear HTX4
  have HBX5 := hid (B5.exc (S := fun _ => False) (B5.new w4 28 _ _ _ _ _) (Exc.of hb5) id)
  have z5 := he5.size
  have c5 : Below w.heap.size w w5 := c4.trans (he5.below (by omega) (fun _ h => h.elim))
  have y5 : w.heap.size ≤ w5.heap.size := c5.size
  simp only [World.size_alloc] at P5
  have HTG5 := hid P5
  have HGlt : Hid (∀ q, isBlk a5 q ∨ isBlk b5 q → w4.heap.size + 1 ≤ q ∧ q < w5.heap.size) := fun q h => h.elim (fun h => P5.bi q h) (fun h => P5.bs q h)
  clear P5 htab5
  obtain ⟨qT0, qT1, qT2, qT3, qT4⟩ := B5.cells HBT5.out
  have qTl := B5.lt HBT5.out
  obtain ⟨qW0, qW1, qW2, qW3, qW4⟩ := B5.cells HBW5.out
  have qWl := B5.lt HBW5.out
  obtain ⟨qX0, qX1, qX2, qX3, qX4⟩ := B5.cells HBX5.out
  have qXl := B5.lt HBX5.out
  go_wp2_with fail
  refine (f13g K S R KS VS a5 a3 b5 b3 _ _ _ _ _ (TabP.alloc HTG5.out (.cells #[.int .i64 K, .int .i64 S, .int .i64 R, .slice a5 KS.length c5', .slice b5 VS.length d5'] 28)).ints (TabP.alloc HTW5.out (.cells #[.int .i64 K, .int .i64 S, .int .i64 R, .slice a5 KS.length c5', .slice b5 VS.length d5'] 28)).ints (TabP.alloc HTG5.out (.cells #[.int .i64 K, .int .i64 S, .int .i64 R, .slice a5 KS.length c5', .slice b5 VS.length d5'] 28)).strs (TabP.alloc HTW5.out (.cells #[.int .i64 K, .int .i64 S, .int .i64 R, .slice a5 KS.length c5', .slice b5 VS.length d5'] 28)).strs hKS hVS).mono ?_
  rintro e w6 ⟨rfl, hb6⟩
  clear qT0 qT1 qT2 qT3 qT4 qTl
  clear qW0 qW1 qW2 qW3 qW4 qWl
  clear qX0 qX1 qX2 qX3 qX4 qXl
  have he6 : Exc (fun _ => False) w5 w6 := Exc.trans (Exc.of ((Below.refl _ _).alloc (Nat.le_refl _) (.cells #[.int .i64 K, .int .i64 S, .int .i64 R, .slice a5 KS.length c5', .slice b5 VS.length d5'] 28))) (Exc.of hb6)
  have HBT6 := hid (B5.exc HBT5.out he6 id)
  clear HBT5
  have HBW6 := hid (B5.exc HBW5.out he6 id)
  clear HBW5
  have HBX6 := hid (B5.exc HBX5.out he6 id)
  clear HBX5
  have HTW6 := hid (TabP.exc HTW5.out he6 (fun _ _ => id))
  clear HTW5
  have HTX6 := hid (TabP.exc HTX5.out he6 (fun _ _ => id))
  clear HTX5
  have HTG6 := hid (TabP.exc HTG5.out he6 (fun _ _ => id))
  clear HTG5
  have HBG6 := hid (B5.exc (S := fun _ => False) (B5.new w5 28 _ _ _ _ _) (Exc.of hb6) id)
  have z6 := he6.size
  have c6 : Below w.heap.size w w6 := c5.trans (he6.below (by omega) (fun _ h => h.elim))
  have y6 : w.heap.size ≤ w6.heap.size := c6.size
  obtain ⟨qT0, qT1, qT2, qT3, qT4⟩ := B5.cells HBT6.out
  have qTl := B5.lt HBT6.out
  obtain ⟨qW0, qW1, qW2, qW3, qW4⟩ := B5.cells HBW6.out
  have qWl := B5.lt HBW6.out
  obtain ⟨qX0, qX1, qX2, qX3, qX4⟩ := B5.cells HBX6.out
  have qXl := B5.lt HBX6.out
  obtain ⟨qG0, qG1, qG2, qG3, qG4⟩ := B5.cells HBG6.out
  have qGl := B5.lt HBG6.out
  go_wp2_with fail
  refine wp_region_held_drew (S := (fun w' => w'.cell? ⟨w.heap.size, 0, none⟩ = some (.int .i64 k) ∧ w'.cell? ⟨w.heap.size, 1, none⟩ = some (.int .i64 s) ∧ w'.cell? ⟨w.heap.size, 2, none⟩ = some (.int .i64 r) ∧ w'.cell? ⟨w.heap.size, 3, none⟩ = some (.slice a ks.length c) ∧ w'.cell? ⟨w.heap.size, 4, none⟩ = some (.slice b vs.length d) ∧ w'.cell? ⟨w4.heap.size, 0, none⟩ = some (.int .i64 k) ∧ w'.cell? ⟨w4.heap.size, 1, none⟩ = some (.int .i64 s) ∧ w'.cell? ⟨w4.heap.size, 2, none⟩ = some (.int .i64 r) ∧ w'.cell? ⟨w4.heap.size, 3, none⟩ = some (.slice (some ⟨g3, 0, none⟩) ks.length ks.length) ∧ w'.cell? ⟨w4.heap.size, 4, none⟩ = some (.slice (some ⟨g4, 0, none⟩) vs.length vs.length))) (by kernel_rfl) (by simp [*]) (fun hHeld => ?_)
  refine wpAnyH_take (i := 0) (oi := ?oi1) (v := ?v1) (fuel := 4) ?hi1 ?hs1 ?hf1 ?hr1 ?hq1 (Or.inl ⟨?hw1, ?hy1⟩) hHeld ?rest1
  case hi1 => rw [List.getElem?_toArray]; rfl
  case hq1 => exact fun _ _ _ h => h
  case hs1 => kernel_rfl
  case hf1 => kernel_rfl
  case hr1 => kernel_rfl
  case hw1 => rfl
  case hy1 => (intro w1 hSw; (try dsimp only at hSw); go_simp; try with_reducible rfl)
  (try simp only [Act.put, List.setIfInBounds_toArray, List.set_cons_zero, List.set_cons_succ])
  refine wpAnyH_take (i := 1) (oi := ?oi2) (v := ?v2) (fuel := 3) ?hi2 ?hs2 ?hf2 ?hr2 ?hq2 (Or.inl ⟨?hw2, ?hy2⟩) hHeld ?rest2
  case hi2 => rw [List.getElem?_toArray]; rfl
  case hq2 => exact fun _ _ _ h => h
  case hs2 => kernel_rfl
  case hf2 => kernel_rfl
  case hr2 => kernel_rfl
  case hw2 => rfl
  case hy2 => (intro w1 hSw; (try dsimp only at hSw); go_simp; try with_reducible rfl)
  (try simp only [Act.put, List.setIfInBounds_toArray, List.set_cons_zero, List.set_cons_succ])
  refine wpAnyH_ready (fuel := 2) (rs := [2]) (by kernel_rfl) (by simp) ?_
  refine AllReadyH.cons (o := ?oi3) ?hi3 (fun K hK => ?st3) AllReadyH.nil
  case hi3 => rw [List.getElem?_toArray]; rfl
  go_simp
  refine (f11 k s r ks vs a b c d _ (ArgI.below HSA.out c6.drew (Nat.le_refl _)) (ArgS.below HSB.out c6.drew (Nat.le_refl _)) hk hv).mono ?_
  rintro e w7 ⟨g5, g6, rfl, i7, s7, l5, l6, m5, m6, n56, hb7'⟩
  have hb7 : Below w6.heap.size w6 w7 := (Below.refl _ _).drew.trans hb7'
  have hc7 : ∀ b o, b < w6.heap.size → w7.cell? ⟨b, o, none⟩ = w6.cell? ⟨b, o, none⟩ := fun b o h => hb7.cell (p := ⟨b, o, none⟩) h
  go_wp2_with fail
  refine hK.out _ _ ?hS3 (fun hHeld => ?re3)
  case hS3 => simp [*]
  clear hK K
  (try simp only [Act.put, List.setIfInBounds_toArray, List.set_cons_zero, List.set_cons_succ])
  refine wpAnyH_ready (fuel := 1) (rs := [3]) (by kernel_rfl) (by simp) ?_
  refine AllReadyH.cons (o := ?oi4) ?hi4 (fun K hK => ?st4) AllReadyH.nil
  case hi4 => rw [List.getElem?_toArray]; rfl
  go_simp
  have hx7 : Exc (fun _ => False) w6 w7 := Exc.of hb7
  have z7' := hb7.size
  refine (f13g k s r ks vs (some ⟨g3, 0, none⟩) (some ⟨g5, 0, none⟩) (some ⟨g4, 0, none⟩) (some ⟨g6, 0, none⟩) _ _ _ _ _ (TabP.exc HTX6.out hx7 (fun _ _ => id)).ints (.inr ⟨g5, 0, rfl, m5, i7⟩) (TabP.exc HTX6.out hx7 (fun _ _ => id)).strs (.inr ⟨g6, 0, rfl, m6, s7⟩) hk hv).mono ?_
  rintro e w8 ⟨rfl, hb8⟩
  have hc8 : ∀ b o, b < w7.heap.size → w8.cell? ⟨b, o, none⟩ = w7.cell? ⟨b, o, none⟩ := fun b o h => hb8.cell (p := ⟨b, o, none⟩) h
  have u7 : w.heap.size < w7.heap.size := by omega
  have u8 : w4.heap.size < w7.heap.size := by omega
  go_wp2_with fail
  refine hK.out _ _ ?hS4 (fun hHeld => ?re4)
  case hS4 => simp [*]
  clear hK K
  (try simp only [Act.put, List.setIfInBounds_toArray, List.set_cons_zero, List.set_cons_succ])
  refine wpAnyH_ready (fuel := 0) (rs := [4]) (by kernel_rfl) (by simp) ?_
  refine AllReadyH.cons (o := ?oi5) ?hi5 (fun K hK => ?st5) AllReadyH.nil
  case hi5 => rw [List.getElem?_toArray]; rfl
  go_simp
  refine hK.out _ _ ?hS5 (fun hHeld => ?re5)
  case hS5 => simp [*]
  clear hK K
  (try simp only [Act.put, List.setIfInBounds_toArray, List.set_cons_zero, List.set_cons_succ])
  refine wpAnyH_done (by kernel_rfl) ?_ _
  clear hHeld hc7 hc8 hb7'
  clear qT0 qT1 qT2 qT3 qT4 qTl
  clear qW0 qW1 qW2 qW3 qW4 qWl
  clear qX0 qX1 qX2 qX3 qX4 qXl
  clear qG0 qG1 qG2 qG3 qG4 qGl
  have he7 : Exc (fun _ => False) w6 w7 := Exc.of hb7
  have HBT7 := hid (B5.exc HBT6.out he7 id)
  clear HBT6
  have HBW7 := hid (B5.exc HBW6.out he7 id)
  clear HBW6
  have HBX7 := hid (B5.exc HBX6.out he7 id)
  clear HBX6
  have HBG7 := hid (B5.exc HBG6.out he7 id)
  clear HBG6
  have HTW7 := hid (TabP.exc HTW6.out he7 (fun _ _ => id))
  clear HTW6
  have HTX7 := hid (TabP.exc HTX6.out he7 (fun _ _ => id))
  clear HTX6
  have HTG7 := hid (TabP.exc HTG6.out he7 (fun _ _ => id))
  clear HTG6
  have z7 := he7.size
  have c7 : Below w.heap.size w w7 := c6.trans (he7.below (by omega) (fun _ h => h.elim))
  have y7 : w.heap.size ≤ w7.heap.size := c7.size
  have he8 : Exc (fun _ => False) w7 w8 := Exc.of hb8
  have HBT8 := hid (B5.exc HBT7.out he8 id)
  clear HBT7
  have HBW8 := hid (B5.exc HBW7.out he8 id)
  clear HBW7
  have HBX8 := hid (B5.exc HBX7.out he8 id)
  clear HBX7
  have HBG8 := hid (B5.exc HBG7.out he8 id)
  clear HBG7
  have HTW8 := hid (TabP.exc HTW7.out he8 (fun _ _ => id))
  clear HTW7
  have HTX8 := hid (TabP.exc HTX7.out he8 (fun _ _ => id))
  clear HTX7
  have HTG8 := hid (TabP.exc HTG7.out he8 (fun _ _ => id))
  clear HTG7
  have z8 := he8.size
  have c8 : Below w.heap.size w w8 := c7.trans (he8.below (by omega) (fun _ h => h.elim))
  have y8 : w.heap.size ≤ w8.heap.size := c8.size
  obtain ⟨qX0, qX1, qX2, qX3, qX4⟩ := B5.cells HBX8.out
  have qXl := B5.lt HBX8.out
  go_wp2_with fail
  refine (f16 k s r (some ⟨g3, 0, none⟩) (some ⟨g4, 0, none⟩) ks.length vs.length _ _ _ HTX8.out.wi HTX8.out.ws hk hv (fun q h => (HTX8.out.bi q h).2) (fun q h => (HTX8.out.bs q h).2) HTX8.out.ap).mono ?_
  rw [← hN1]
  rintro e w9 ⟨rfl, _, _, hb9⟩
  have nbT : ¬ (fun q => isBlk (some ⟨g3, 0, none⟩) q ∨ isBlk (some ⟨g4, 0, none⟩) q) w.heap.size := by rintro (⟨o, h⟩ | ⟨o, h⟩) <;> simp at h <;> omega
  have nbW : ¬ (fun q => isBlk (some ⟨g3, 0, none⟩) q ∨ isBlk (some ⟨g4, 0, none⟩) q) w3.heap.size := by rintro (⟨o, h⟩ | ⟨o, h⟩) <;> simp at h <;> omega
  have nbX : ¬ (fun q => isBlk (some ⟨g3, 0, none⟩) q ∨ isBlk (some ⟨g4, 0, none⟩) q) w4.heap.size := by rintro (⟨o, h⟩ | ⟨o, h⟩) <;> simp at h <;> omega
  have nbG : ¬ (fun q => isBlk (some ⟨g3, 0, none⟩) q ∨ isBlk (some ⟨g4, 0, none⟩) q) w5.heap.size := by rintro (⟨o, h⟩ | ⟨o, h⟩) <;> simp at h <;> omega
  have ntW : ∀ q, isBlk a3 q ∨ isBlk b3 q → ¬ (fun q => isBlk (some ⟨g3, 0, none⟩) q ∨ isBlk (some ⟨g4, 0, none⟩) q) q := by intro q h; have h' := HWlt.out q h; rintro (⟨o, h⟩ | ⟨o, h⟩) <;> simp at h <;> omega
  have ntG : ∀ q, isBlk a5 q ∨ isBlk b5 q → ¬ (fun q => isBlk (some ⟨g3, 0, none⟩) q ∨ isBlk (some ⟨g4, 0, none⟩) q) q := by intro q h; have h' := HGlt.out q h; rintro (⟨o, h⟩ | ⟨o, h⟩) <;> simp at h <;> omega
  have exB : ∀ q, (fun q => isBlk (some ⟨g3, 0, none⟩) q ∨ isBlk (some ⟨g4, 0, none⟩) q) q → w.heap.size ≤ q := by rintro q (⟨o, h⟩ | ⟨o, h⟩) <;> simp at h <;> omega
  clear qX0 qX1 qX2 qX3 qX4 qXl
  clear HTX8
  have he9 : Exc (fun q => isBlk (some ⟨g3, 0, none⟩) q ∨ isBlk (some ⟨g4, 0, none⟩) q) w8 w9 := hb9
  have HBT9 := hid (B5.exc HBT8.out he9 (nbT))
  clear HBT8
  have HBW9 := hid (B5.exc HBW8.out he9 (nbW))
  clear HBW8
  have HBX9 := hid (B5.exc HBX8.out he9 (nbX))
  clear HBX8
  have HBG9 := hid (B5.exc HBG8.out he9 (nbG))
  clear HBG8
  have HTW9 := hid (TabP.exc HTW8.out he9 (ntW))
  clear HTW8
  have HTG9 := hid (TabP.exc HTG8.out he9 (ntG))
  clear HTG8
  have z9 := he9.size
  have c9 : Below w.heap.size w w9 := c8.trans (he9.below (by omega) exB)
  have y9 : w.heap.size ≤ w9.heap.size := c9.size
  clear nbT nbW nbX nbG ntW ntG exB
  obtain ⟨qW0, qW1, qW2, qW3, qW4⟩ := B5.cells HBW9.out
  have qWl := B5.lt HBW9.out
  obtain ⟨qG0, qG1, qG2, qG3, qG4⟩ := B5.cells HBG9.out
  have qGl := B5.lt HBG9.out
  go_wp2_with fail
  refine (f13g K S R KS VS a5 a3 b5 b3 _ _ _ _ _ HTG9.out.ints HTW9.out.ints HTG9.out.strs HTW9.out.strs hKS hVS).mono ?_
  rintro e w10 ⟨rfl, hb10⟩
  clear qW0 qW1 qW2 qW3 qW4 qWl
  clear qG0 qG1 qG2 qG3 qG4 qGl
  have he10 : Exc (fun _ => False) w9 w10 := Exc.of hb10
  have HBT10 := hid (B5.exc HBT9.out he10 id)
  clear HBT9
  have HBW10 := hid (B5.exc HBW9.out he10 id)
  clear HBW9
  have HBX10 := hid (B5.exc HBX9.out he10 id)
  clear HBX9
  have HBG10 := hid (B5.exc HBG9.out he10 id)
  clear HBG9
  have HTW10 := hid (TabP.exc HTW9.out he10 (fun _ _ => id))
  clear HTW9
  have HTG10 := hid (TabP.exc HTG9.out he10 (fun _ _ => id))
  clear HTG9
  have z10 := he10.size
  have c10 : Below w.heap.size w w10 := c9.trans (he10.below (by omega) (fun _ h => h.elim))
  have y10 : w.heap.size ≤ w10.heap.size := c10.size
  obtain ⟨qG0, qG1, qG2, qG3, qG4⟩ := B5.cells HBG10.out
  have qGl := B5.lt HBG10.out
  go_wp2_with fail
  refine (f16 K S R a5 b5 KS.length VS.length _ _ _ HTG10.out.wi HTG10.out.ws hKS hVS (fun q h => (HTG10.out.bi q h).2) (fun q h => (HTG10.out.bs q h).2) HTG10.out.ap).mono ?_
  rw [← hN2]
  rintro e w11 ⟨rfl, AI, AS, hb11⟩
  have nbT : ¬ (fun q => isBlk a5 q ∨ isBlk b5 q) w.heap.size := by intro h; have := HGlt.out _ h; omega
  have nbW : ¬ (fun q => isBlk a5 q ∨ isBlk b5 q) w3.heap.size := by intro h; have := HGlt.out _ h; omega
  have nbX : ¬ (fun q => isBlk a5 q ∨ isBlk b5 q) w4.heap.size := by intro h; have := HGlt.out _ h; omega
  have nbG : ¬ (fun q => isBlk a5 q ∨ isBlk b5 q) w5.heap.size := by intro h; have := HGlt.out _ h; omega
  have ntW : ∀ q, isBlk a3 q ∨ isBlk b3 q → ¬ (fun q => isBlk a5 q ∨ isBlk b5 q) q := by intro q h h2; have h' := HWlt.out q h; have := HGlt.out q h2; omega
  have exB : ∀ q, (fun q => isBlk a5 q ∨ isBlk b5 q) q → w.heap.size ≤ q := by intro q h; have := HGlt.out q h; omega
  have HAI := hid AI
  have HAS := hid AS
  clear AI AS
  clear qG0 qG1 qG2 qG3 qG4 qGl
  clear HTG10
  have he11 : Exc (fun q => isBlk a5 q ∨ isBlk b5 q) w10 w11 := hb11
  have HBT11 := hid (B5.exc HBT10.out he11 (nbT))
  clear HBT10
  have HBW11 := hid (B5.exc HBW10.out he11 (nbW))
  clear HBW10
  have HBX11 := hid (B5.exc HBX10.out he11 (nbX))
  clear HBX10
  have HBG11 := hid (B5.exc HBG10.out he11 (nbG))
  clear HBG10
  have HTW11 := hid (TabP.exc HTW10.out he11 (ntW))
  clear HTW10
  have z11 := he11.size
  have c11 : Below w.heap.size w w11 := c10.trans (he11.below (by omega) exB)
  have y11 : w.heap.size ≤ w11.heap.size := c11.size
  clear nbT nbW nbX nbG ntW exB
  obtain ⟨qG0, qG1, qG2, qG3, qG4⟩ := B5.cells HBG11.out
  have qGl := B5.lt HBG11.out
  go_wp2_with fail
  refine (f17 K S R a5 b5 KS.length VS.length _ _ _ HAI.out HAS.out hKS hVS).mono ?_
  rw [← hN2]
  rintro e w12 ⟨rfl, hb12⟩
  clear qG0 qG1 qG2 qG3 qG4 qGl
  have he12 : Exc (fun _ => False) w11 w12 := Exc.of hb12
  have HBT12 := hid (B5.exc HBT11.out he12 id)
  clear HBT11
  have HBW12 := hid (B5.exc HBW11.out he12 id)
  clear HBW11
  have HBX12 := hid (B5.exc HBX11.out he12 id)
  clear HBX11
  have HBG12 := hid (B5.exc HBG11.out he12 id)
  clear HBG11
  have HTW12 := hid (TabP.exc HTW11.out he12 (fun _ _ => id))
  clear HTW11
  have z12 := he12.size
  have c12 : Below w.heap.size w w12 := c11.trans (he12.below (by omega) (fun _ h => h.elim))
  have y12 : w.heap.size ≤ w12.heap.size := c12.size
  obtain ⟨qT0, qT1, qT2, qT3, qT4⟩ := B5.cells HBT12.out
  have qTl := B5.lt HBT12.out
  go_wp2_with fail
  refine (f11r k s r ks vs a b c d _ (ArgI.below HSA.out c12 (Nat.le_refl _)) (ArgS.below HSB.out c12 (Nat.le_refl _)) hk hv).mono ?_
  rintro e w13 ⟨g7, g8, rfl, i13, s13, l7, l8, m7, m8, _, hb13, _, _⟩
  clear qT0 qT1 qT2 qT3 qT4 qTl
  have he13 : Exc (fun _ => False) w12 w13 := Exc.of hb13
  have HBT13 := hid (B5.exc HBT12.out he13 id)
  clear HBT12
  have HBW13 := hid (B5.exc HBW12.out he13 id)
  clear HBW12
  have HBX13 := hid (B5.exc HBX12.out he13 id)
  clear HBX12
  have HBG13 := hid (B5.exc HBG12.out he13 id)
  clear HBG12
  have HTW13 := hid (TabP.exc HTW12.out he13 (fun _ _ => id))
  clear HTW12
  have z13 := he13.size
  have c13 : Below w.heap.size w w13 := c12.trans (he13.below (by omega) (fun _ h => h.elim))
  have y13 : w.heap.size ≤ w13.heap.size := c13.size
  go_wp2_with fail
  refine (f23 k s r ks vs _ _ _ _ key _ (.inr ⟨g7, 0, rfl, m7, i13⟩) (.inr ⟨g8, 0, rfl, m8, s13⟩) (Nat.le_refl _) hk hv).mono ?_
  rw [HTR.out]
  dsimp only
  rintro e w14 ⟨V14, rfl, htab14, hb14⟩
  obtain ⟨a14, b14, c14', d14', rfl, P14⟩ := Tab.parts htab14
  have he14 : Exc (fun _ => False) w13 w14 := Exc.of hb14
  have HBT14 := hid (B5.exc HBT13.out he14 id)
  clear HBT13
  have HBW14 := hid (B5.exc HBW13.out he14 id)
  clear HBW13
  have HBX14 := hid (B5.exc HBX13.out he14 id)
  clear HBX13
  have HBG14 := hid (B5.exc HBG13.out he14 id)
  clear HBG13
  have HTW14 := hid (TabP.exc HTW13.out he14 (fun _ _ => id))
  clear HTW13
  have z14 := he14.size
  have c14 : Below w.heap.size w w14 := c13.trans (he14.below (by omega) (fun _ h => h.elim))
  have y14 : w.heap.size ≤ w14.heap.size := c14.size
  have HTH14 := hid P14
  clear P14 htab14 i13 s13
  obtain ⟨qW0, qW1, qW2, qW3, qW4⟩ := B5.cells HBW14.out
  have qWl := B5.lt HBW14.out
  go_wp2_with fail
  refine (f13g K S R KS VS a14 a3 b14 b3 _ _ _ _ _ (TabP.alloc HTH14.out (.cells #[.int .i64 K, .int .i64 S, .int .i64 R, .slice a14 KS.length c14', .slice b14 VS.length d14'] 28)).ints (TabP.alloc HTW14.out (.cells #[.int .i64 K, .int .i64 S, .int .i64 R, .slice a14 KS.length c14', .slice b14 VS.length d14'] 28)).ints (TabP.alloc HTH14.out (.cells #[.int .i64 K, .int .i64 S, .int .i64 R, .slice a14 KS.length c14', .slice b14 VS.length d14'] 28)).strs (TabP.alloc HTW14.out (.cells #[.int .i64 K, .int .i64 S, .int .i64 R, .slice a14 KS.length c14', .slice b14 VS.length d14'] 28)).strs hKS hVS).mono ?_
  rintro e w15 ⟨rfl, hb15⟩
  clear qW0 qW1 qW2 qW3 qW4 qWl
  have he15 : Exc (fun _ => False) w14 w15 := Exc.trans (Exc.of ((Below.refl _ _).alloc (Nat.le_refl _) (.cells #[.int .i64 K, .int .i64 S, .int .i64 R, .slice a14 KS.length c14', .slice b14 VS.length d14'] 28))) (Exc.of hb15)
  have HBT15 := hid (B5.exc HBT14.out he15 id)
  clear HBT14
  have HBW15 := hid (B5.exc HBW14.out he15 id)
  clear HBW14
  have HBX15 := hid (B5.exc HBX14.out he15 id)
  clear HBX14
  have HBG15 := hid (B5.exc HBG14.out he15 id)
  clear HBG14
  have HTW15 := hid (TabP.exc HTW14.out he15 (fun _ _ => id))
  clear HTW14
  have HTH15 := hid (TabP.exc HTH14.out he15 (fun _ _ => id))
  clear HTH14
  have HBH15 := hid (B5.exc (S := fun _ => False) (B5.new w14 28 _ _ _ _ _) (Exc.of hb15) id)
  have z15 := he15.size
  have c15 : Below w.heap.size w w15 := c14.trans (he15.below (by omega) (fun _ h => h.elim))
  have y15 : w.heap.size ≤ w15.heap.size := c15.size
  obtain ⟨qG0, qG1, qG2, qG3, qG4⟩ := B5.cells HBG15.out
  have qGl := B5.lt HBG15.out
  go_wp2_with fail
  refine (f17 K S R a5 b5 KS.length VS.length _ _ _ ((((HAI.out.exc he12 (fun _ _ => id)).exc he13 (fun _ _ => id)).exc he14 (fun _ _ => id)).exc he15 (fun _ _ => id)) ((((HAS.out.exc he12 (fun _ _ => id)).exc he13 (fun _ _ => id)).exc he14 (fun _ _ => id)).exc he15 (fun _ _ => id)) hKS hVS).mono ?_
  rw [← hN2]
  rintro e w16 ⟨rfl, hb16⟩
  go_wp2_with fail
  go_ret
  exact ⟨rfl, c15.trans (hb16.mono y15)⟩

end Go.Proofs.Ytahbicegmioplaa
