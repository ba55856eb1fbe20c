/- The walk of the law FnExactTableNext. -/
import Derived.Test.YtafhbigkdkgjoaaTR
import Derived.Deep.RegionHeld3
namespace Go.Proofs.Ytafhbigkdkgjoaa
open Go.RowKit
set_option linter.unusedSimpArgs false

set_option maxRecDepth 100000 in
set_option maxHeartbeats 4000000 in
theorem f8 (k s r : Int) (ks : List Int) (vs : List ByteArray) (a b : Option Addr) (c d : Nat) (key : Int) (w : World) (hA : ArgI w a ks) (hB : ArgS w b vs) (hm : ks.length ≤ maxLen) (hm2 : vs.length ≤ maxLen) (hss : ∀ s ∈ vs, s.size ≤ maxLen) :
    Calls Try.prog 8 #[.agg #[.int .i64 k, .int .i64 s, .int .i64 r, .slice a ks.length c, .slice b vs.length d], .int .i64 key] w fun e w' => e = .returned (.bool true) ∧ Below w.heap.size w w' := by
  have hcA : ∀ X, Below w.heap.size w (w.alloc X) := fun X => (Below.refl _ _).alloc (Nat.le_refl _) _
  obtain ⟨x, y, hxy⟩ : ∃ x y, nextT k s r ks vs key = (x, y) := ⟨_, _, rfl⟩
  have HA : Hid _ := hA
  have HB : Hid _ := hB
  have HXY : Hid _ := hxy
  clear hA hB hxy
  go_enter Try.func8, Try.ntmps8
  go_wp2_with fail
  refine (f9 k s r ks vs a b c d _ (ArgS.below HB.out (hcA _) (Nat.le_refl _)) hm hm2 hss).mono ?_
  rintro e w1 ⟨⟨q, rfl, hq⟩, hb1⟩
  obtain ⟨hc1, hf1⟩ := bcell hb1
  have z1 := hb1.size
  simp only [World.size_alloc] at z1
  have x1 : w.heap.size < w1.heap.size := by omega
  have c1 : Below w.heap.size w w1 := (hcA _).trans (hb1.mono (by simp))
  rcases hq with rfl | ⟨hk, hv, hq0⟩
  · go_wp2_with fail
    go_ret
    exact ⟨rfl, c1⟩
  go_wp2_with fail
  refine (f11 k s r ks vs a b c d _ (ArgI.below HA.out c1 (Nat.le_refl _)) (ArgS.below HB.out c1 (Nat.le_refl _)) hk hv).mono ?_
  rintro e w2 ⟨g1, g2, rfl, i2, s2, l1, l2, m1, m2, _, hb2⟩
  obtain ⟨hc2, hf2⟩ := bcell hb2
  have z2 := hb2.size
  have x2 : w.heap.size < w2.heap.size := by omega
  have c2 : Below w.heap.size w w2 := c1.trans (hb2.mono (by omega))
  go_wp2_with fail
  refine (f24 k s r ks vs _ _ _ _ key _ (.inr ⟨g1, 0, rfl, m1, i2⟩) (.inr ⟨g2, 0, rfl, m2, s2⟩) hk hv).mono ?_
  rw [HXY.out]
  rintro e w3 ⟨rfl, hb3⟩
  obtain ⟨hc3, hf3⟩ := bcell hb3
  have z3 := hb3.size
  have x3 : w.heap.size < w3.heap.size := by omega
  have c3 : Below w.heap.size w w3 := c2.trans (hb3.mono (by omega))
  go_wp2_with fail
  refine (f11 k s r ks vs a b c d _ (ArgI.below HA.out c3 (Nat.le_refl _)) (ArgS.below HB.out c3 (Nat.le_refl _)) hk hv).mono ?_
  rintro e w4 ⟨g3, g4, rfl, i4, s4, l3, l4, m3, m4, _, hb4⟩
  obtain ⟨hc4, hf4⟩ := bcell hb4
  have z4 := hb4.size
  have x4 : w.heap.size < w4.heap.size := by omega
  have c4 : Below w.heap.size w w4 := c3.trans (hb4.mono (by omega))
  have hcX : ∀ X, Below w4.heap.size w4 (w4.alloc X) := fun X => (Below.refl _ _).alloc (Nat.le_refl _) _
  go_wp2_with fail
  refine (f25 k s r ks vs _ _ _ _ key _ (.inr ⟨g3, 0, rfl, by simp; omega, i4.below (hcX _) m3⟩) (.inr ⟨g4, 0, rfl, by simp; omega, s4.below (hcX _) m4⟩) (Nat.le_refl _) hk hv).mono ?_
  rw [HXY.out]
  rintro e w5 ⟨rfl, hb5⟩
  obtain ⟨hc5, hf5⟩ := bcell hb5
  have z5 := hb5.size
  simp only [World.size_alloc] at z5
  have x5 : w.heap.size < w5.heap.size := by omega
  have x5' : w4.heap.size < w5.heap.size := by omega
  have k5 : Below w4.heap.size w4 w5 := (hcX _).trans (hb5.mono (by simp))
  have c5 : Below w.heap.size w w5 := c4.trans (k5.mono (by omega))
  have i5 := i4.below k5 m3
  have s5 := s4.below k5 m4
  have b0 : w5.cell? ⟨w.heap.size, 0, none⟩ = some (.int .i64 k) := by rw [hc5 _ _ (by simp; omega), World.cell?_alloc_lt _ _ _ x4, hc4 _ _ x3, hc3 _ _ x2, hc2 _ _ x1, hc1 _ _ (by simp)]; simp
  have b1 : w5.cell? ⟨w.heap.size, 1, none⟩ = some (.int .i64 s) := by rw [hc5 _ _ (by simp; omega), World.cell?_alloc_lt _ _ _ x4, hc4 _ _ x3, hc3 _ _ x2, hc2 _ _ x1, hc1 _ _ (by simp)]; simp
  have b2 : w5.cell? ⟨w.heap.size, 2, none⟩ = some (.int .i64 r) := by rw [hc5 _ _ (by simp; omega), World.cell?_alloc_lt _ _ _ x4, hc4 _ _ x3, hc3 _ _ x2, hc2 _ _ x1, hc1 _ _ (by simp)]; simp
  have b3 : w5.cell? ⟨w.heap.size, 3, none⟩ = some (.slice a ks.length c) := by rw [hc5 _ _ (by simp; omega), World.cell?_alloc_lt _ _ _ x4, hc4 _ _ x3, hc3 _ _ x2, hc2 _ _ x1, hc1 _ _ (by simp)]; simp
  have b4 : w5.cell? ⟨w.heap.size, 4, none⟩ = some (.slice b vs.length d) := by rw [hc5 _ _ (by simp; omega), World.cell?_alloc_lt _ _ _ x4, hc4 _ _ x3, hc3 _ _ x2, hc2 _ _ x1, hc1 _ _ (by simp)]; simp
  have d0 : w5.cell? ⟨w4.heap.size, 0, none⟩ = some (.int .i64 k) := by rw [hc5 _ _ (by simp)]; simp
  have d1 : w5.cell? ⟨w4.heap.size, 1, none⟩ = some (.int .i64 s) := by rw [hc5 _ _ (by simp)]; simp
  have d2 : w5.cell? ⟨w4.heap.size, 2, none⟩ = some (.int .i64 r) := by rw [hc5 _ _ (by simp)]; simp
  have d3 : w5.cell? ⟨w4.heap.size, 3, none⟩ = some (.slice (some ⟨g3, 0, none⟩) ks.length ks.length) := by rw [hc5 _ _ (by simp)]; simp
  have d4 : w5.cell? ⟨w4.heap.size, 4, none⟩ = some (.slice (some ⟨g4, 0, none⟩) vs.length vs.length) := by rw [hc5 _ _ (by simp)]; simp
  clear hc1 hf1 hc2 hf2 hc3 hf3 hc4 hf4 hc5 hf5
  go_wp2_with fail
  refine wp_region_held_drew (S := (fun w' => w'.cell? ⟨w.heap.size, 0, none⟩ = some (.int .i64 k) ∧ w'.cell? ⟨w.heap.size, 1, none⟩ = some (.int .i64 s) ∧ w'.cell? ⟨w.heap.size, 2, none⟩ = some (.int .i64 r) ∧ w'.cell? ⟨w.heap.size, 3, none⟩ = some (.slice a ks.length c) ∧ w'.cell? ⟨w.heap.size, 4, none⟩ = some (.slice b vs.length d) ∧ w'.cell? ⟨w4.heap.size, 0, none⟩ = some (.int .i64 k) ∧ w'.cell? ⟨w4.heap.size, 1, none⟩ = some (.int .i64 s) ∧ w'.cell? ⟨w4.heap.size, 2, none⟩ = some (.int .i64 r) ∧ w'.cell? ⟨w4.heap.size, 3, none⟩ = some (.slice (some ⟨g3, 0, none⟩) ks.length ks.length) ∧ w'.cell? ⟨w4.heap.size, 4, none⟩ = some (.slice (some ⟨g4, 0, none⟩) vs.length vs.length))) (by kernel_rfl) (by simp [*]) (fun hHeld => ?_)
  refine wpAnyH_take (i := 0) (oi := ?oi1) (v := ?v1) (fuel := 4) ?hi1 ?hs1 ?hf1 ?hr1 ?hq1 (Or.inl ⟨?hw1, ?hy1⟩) hHeld ?rest1
  case hi1 => rw [List.getElem?_toArray]; rfl
  case hq1 => exact fun _ _ _ h => h
  case hs1 => kernel_rfl
  case hf1 => kernel_rfl
  case hr1 => kernel_rfl
  case hw1 => rfl
  case hy1 => (intro w1 hSw; (try dsimp only at hSw); go_simp; try with_reducible rfl)
  (try simp only [Act.put, List.setIfInBounds_toArray, List.set_cons_zero, List.set_cons_succ])
  refine wpAnyH_take (i := 1) (oi := ?oi2) (v := ?v2) (fuel := 3) ?hi2 ?hs2 ?hf2 ?hr2 ?hq2 (Or.inl ⟨?hw2, ?hy2⟩) hHeld ?rest2
  case hi2 => rw [List.getElem?_toArray]; rfl
  case hq2 => exact fun _ _ _ h => h
  case hs2 => kernel_rfl
  case hf2 => kernel_rfl
  case hr2 => kernel_rfl
  case hw2 => rfl
  case hy2 => (intro w1 hSw; (try dsimp only at hSw); go_simp; try with_reducible rfl)
  (try simp only [Act.put, List.setIfInBounds_toArray, List.set_cons_zero, List.set_cons_succ])
  refine wpAnyH_ready (fuel := 2) (rs := [2]) (by kernel_rfl) (by simp) ?_
  refine AllReadyH.cons (o := ?oi3) ?hi3 (fun K hK => ?st3) AllReadyH.nil
  case hi3 => rw [List.getElem?_toArray]; rfl
  go_simp
  refine (f11 k s r ks vs a b c d _ (ArgI.below HA.out c5.drew (Nat.le_refl _)) (ArgS.below HB.out c5.drew (Nat.le_refl _)) hk hv).mono ?_
  rintro e w6 ⟨g5, g6, rfl, i6, s6, l5, l6, m5, m6, n56, hb6⟩
  have hc6 : ∀ b o, b < w5.heap.size → w6.cell? ⟨b, o, none⟩ = w5.cell? ⟨b, o, none⟩ := fun b o h => hb6.cell (p := ⟨b, o, none⟩) h
  go_wp2_with fail
  refine hK.out _ _ ?hS3 (fun hHeld => ?re3)
  case hS3 => simp [*]
  clear hK K
  (try simp only [Act.put, List.setIfInBounds_toArray, List.set_cons_zero, List.set_cons_succ])
  refine wpAnyH_ready (fuel := 1) (rs := [3]) (by kernel_rfl) (by simp) ?_
  refine AllReadyH.cons (o := ?oi4) ?hi4 (fun K hK => ?st4) AllReadyH.nil
  case hi4 => rw [List.getElem?_toArray]; rfl
  go_simp
  have z6 := hb6.size
  have z6' : w5.heap.size ≤ w6.heap.size := z6
  have hb6' : Below w5.heap.size w5 w6 := (Below.refl _ _).drew.trans hb6
  refine (f13 k s r ks vs g3 g5 g4 g6 _ _ _ _ _ (i5.below hb6' (by omega)) i6 (s5.below hb6' (by omega)) s6 hk hv (by omega) m5 (by omega) m6).mono ?_
  rintro e w7 ⟨rfl, hb7⟩
  have hc7 : ∀ b o, b < w6.heap.size → w7.cell? ⟨b, o, none⟩ = w6.cell? ⟨b, o, none⟩ := fun b o h => hb7.cell (p := ⟨b, o, none⟩) h
  have y6 : w.heap.size < w6.heap.size := by omega
  have y7 : w4.heap.size < w6.heap.size := by omega
  go_wp2_with fail
  refine hK.out _ _ ?hS4 (fun hHeld => ?re4)
  case hS4 => simp [*]
  clear hK K
  (try simp only [Act.put, List.setIfInBounds_toArray, List.set_cons_zero, List.set_cons_succ])
  refine wpAnyH_ready (fuel := 0) (rs := [4]) (by kernel_rfl) (by simp) ?_
  refine AllReadyH.cons (o := ?oi5) ?hi5 (fun K hK => ?st5) AllReadyH.nil
  case hi5 => rw [List.getElem?_toArray]; rfl
  go_simp
  refine hK.out _ _ ?hS5 (fun hHeld => ?re5)
  case hS5 => simp [*]
  clear hK K
  (try simp only [Act.put, List.setIfInBounds_toArray, List.set_cons_zero, List.set_cons_succ])
  refine wpAnyH_done (by kernel_rfl) ?_ _
  clear hHeld
  go_wp2_with fail
  go_ret
  exact ⟨rfl, (c5.trans (hb6'.mono (by omega))).trans (hb7.mono (by omega))⟩

end Go.Proofs.Ytafhbigkdkgjoaa
