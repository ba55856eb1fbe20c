/- The walk of the law FnExactStartOk. -/
import Derived.Test.YtghcknbpipaghaaSE
namespace Go.Proofs.Ytghcknbpipaghaa
open Go.RowKit
set_option linter.unusedSimpArgs false
set_option linter.unusedVariables false

set_option maxRecDepth 100000 in
set_option maxHeartbeats 8000000 in
theorem law_startOk (xs : List Q.I6) (came : ByteArray) (ts : List TT) (rs ss : List Int) (a1 a2 a3 a4 : Option Addr) (c1 c2 c3 c4 : Nat) (w : World) (hA : StA w a1 a2 a3 a4 xs ts rs ss) (hB : StB xs came ts rs ss) :
    Calls Try.prog 3 #[.agg #[.slice a1 xs.length c1, .string came, .slice a2 ts.length c2, .slice a3 rs.length c3, .slice a4 ss.length c4]] w fun e w' => e = .returned (.bool true) ∧ Below w.heap.size w w' := by
  have HA : Hid (StA w a1 a2 a3 a4 xs ts rs ss) := hA
  clear hA
  have HC0 : Hid (∀ X, Below w.heap.size w (w.alloc X)) := hidI (fun X => (Below.refl _ _).alloc (Nat.le_refl _) _)
  have HX0 := hidI (BoxS.new w (.slice a1 xs.length c1) (.string came) (.slice a2 ts.length c2) (.slice a3 rs.length c3) (.slice a4 ss.length c4) 26)
  go_enter Try.func3, Try.ntmps3
  go_wp2_with fail
  refine (szSt xs came ts rs ss _ _ _ _ _ _ _ _ _ (HA.out.below (HC0.out _)) hB).mono ?_
  rintro e w1 ⟨⟨q, rfl, hq⟩, hb1⟩
  have X1 := HX0.out.below hb1 (by simp)
  have HC1 := hidI ((HC0.out _).trans (hb1.mono (by simp)))
  have HX1 := hidI X1
  clear HX0 hb1
  obtain ⟨x0, x1, x2, x3, x4, xl, xf⟩ := X1
  rcases hq with rfl | ⟨hN, hq0, hq1⟩
  · go_wp2_with fail
    go_ret
    exact ⟨rfl, HC1.out⟩
  have HN := hidI hN
  clear hN
  go_wp2_with fail
  refine (toSt xs came ts rs ss _ _ _ _ _ _ _ _ _ (HA.out.below HC1.out) HN.out).mono ?_
  rintro e w2 ⟨g1, g2, g3, g4, rfl, hO, l1, l2, l3, l4, hb2⟩
  have X2 := HX1.out.below hb2 xl
  have HC2 := hidI (HC1.out.trans (hb2.mono HC1.out.size))
  have HX2 := hidI X2
  have HO := hidI hO
  clear hb2 x0 x1 x2 x3 x4 xl xf hO l1 l2 l3 l4 HX1
  obtain ⟨x0, x1, x2, x3, x4, xl, xf⟩ := X2
  go_wp2_with fail
  refine (okSpec xs came ts rs ss _ _ _ _ _ HO.out HN.out).mono ?_
  rintro e w3 ⟨⟨q0, rfl, hq0⟩, hb3⟩
  have X3 := HX2.out.below hb3 xl
  have HC3 := hidI (HC2.out.trans (hb3.mono HC2.out.size))
  have HX3 := hidI X3
  have HQ0 := hidI hq0
  clear hb3 x0 x1 x2 x3 x4 xl xf HO hq0 HX2
  obtain ⟨x0, x1, x2, x3, x4, xl, xf⟩ := X3
  go_wp2_with fail
  refine (toSt xs came ts rs ss _ _ _ _ _ _ _ _ _ (HA.out.below HC3.out) HN.out).mono ?_
  rintro e w4 ⟨g1, g2, g3, g4, rfl, hO, l1, l2, l3, l4, hb4⟩
  have X4 := HX3.out.below hb4 xl
  have HC4 := hidI (HC3.out.trans (hb4.mono HC3.out.size))
  have HX4 := hidI X4
  have HO := hidI hO
  clear hb4 x0 x1 x2 x3 x4 xl xf hO l1 l2 l3 l4 HX3
  obtain ⟨x0, x1, x2, x3, x4, xl, xf⟩ := X4
  have HCA : Hid (∀ X, Below w4.heap.size w4 (w4.alloc X)) := hidI (fun X => (Below.refl _ _).alloc (Nat.le_refl _) _)
  have HY0 := hidI (BoxS.new w4 (.slice (some ⟨g1, 0, none⟩) xs.length xs.length) (.string came) (.slice (some ⟨g2, 0, none⟩) ts.length ts.length) (.slice (some ⟨g3, 0, none⟩) rs.length rs.length) (.slice (some ⟨g4, 0, none⟩) ss.length ss.length) 32)
  go_wp2_with fail
  refine (okImpl xs came ts rs ss _ _ _ _ _ (HO.out.below (HCA.out _)) HN.out).mono ?_
  rintro e w5 ⟨⟨q5, rfl, hq5⟩, hb5⟩
  have Y5 := HY0.out.below hb5 (by simp)
  have X5 := (HX4.out.below (HCA.out _) xl).below hb5 (by simp; omega)
  have HC5 := hidI (HC4.out.trans (((HCA.out _).trans (hb5.mono (by simp))).mono HC4.out.size))
  have HO5 := hidI ((HO.out.below (HCA.out _)).below hb5)
  have HX5 := hidI X5
  have HY5 := hidI Y5
  have hqq : q5 = q0 := by
    have := hq5.trans HQ0.out.symm
    cases q5 <;> cases q0 <;> simp_all
  clear hb5 x0 x1 x2 x3 x4 xl xf HO hq5 HQ0 HX4 HY0
  subst hqq
  obtain ⟨x0, x1, x2, x3, x4, xl, xf⟩ := X5
  obtain ⟨y0, y1, y2, y3, y4, yl, yf⟩ := Y5
  have hne : (q5 != q5) = false := by simp
  go_wp2_with fail
  refine wp_region_held_drew (S := (fun w' => w'.cell? ⟨w4.heap.size, 0, none⟩ = some (.slice (some ⟨g1, 0, none⟩) xs.length xs.length) ∧ w'.cell? ⟨w4.heap.size, 1, none⟩ = some (.string came) ∧ w'.cell? ⟨w4.heap.size, 2, none⟩ = some (.slice (some ⟨g2, 0, none⟩) ts.length ts.length) ∧ w'.cell? ⟨w4.heap.size, 3, none⟩ = some (.slice (some ⟨g3, 0, none⟩) rs.length rs.length) ∧ w'.cell? ⟨w4.heap.size, 4, none⟩ = some (.slice (some ⟨g4, 0, none⟩) ss.length ss.length) ∧ w'.cell? ⟨w.heap.size, 0, none⟩ = some (.slice a1 xs.length c1) ∧ w'.cell? ⟨w.heap.size, 1, none⟩ = some (.string came) ∧ w'.cell? ⟨w.heap.size, 2, none⟩ = some (.slice a2 ts.length c2) ∧ w'.cell? ⟨w.heap.size, 3, none⟩ = some (.slice a3 rs.length c3) ∧ w'.cell? ⟨w.heap.size, 4, none⟩ = some (.slice a4 ss.length c4))) (by kernel_rfl) (by simp [*]) (fun hHeld => ?_)
  refine wpAnyH_take (i := 0) (oi := ?oi41) (v := ?v41) (fuel := 4) ?hi41 ?hs41 ?hf41 ?hr41 ?hq41 (Or.inl ⟨?hw41, ?hy41⟩) hHeld ?rest41
  case hi41 => rw [List.getElem?_toArray]; rfl
  case hq41 => exact fun _ _ _ h => h
  case hs41 => kernel_rfl
  case hf41 => kernel_rfl
  case hr41 => kernel_rfl
  case hw41 => rfl
  case hy41 => (intro w1 hSw; (try dsimp only at hSw); go_simp; try with_reducible rfl)
  (try simp only [Act.put, List.setIfInBounds_toArray, List.set_cons_zero, List.set_cons_succ])
  refine wpAnyH_take (i := 1) (oi := ?oi42) (v := ?v42) (fuel := 3) ?hi42 ?hs42 ?hf42 ?hr42 ?hq42 (Or.inl ⟨?hw42, ?hy42⟩) hHeld ?rest42
  case hi42 => rw [List.getElem?_toArray]; rfl
  case hq42 => exact fun _ _ _ h => h
  case hs42 => kernel_rfl
  case hf42 => kernel_rfl
  case hr42 => kernel_rfl
  case hw42 => rfl
  case hy42 => (intro w1 hSw; (try dsimp only at hSw); go_simp; try with_reducible rfl)
  (try simp only [Act.put, List.setIfInBounds_toArray, List.set_cons_zero, List.set_cons_succ])
  refine wpAnyH_ready (fuel := 2) (rs := [2]) (by kernel_rfl) (by simp) ?_
  refine AllReadyH.cons (o := ?oi43) ?hi43 (fun K hK => ?st43) AllReadyH.nil
  case hi43 => rw [List.getElem?_toArray]; rfl
  go_simp
  refine (toSt xs came ts rs ss _ _ _ _ _ _ _ _ _ (HA.out.below HC5.out.drew) HN.out).mono ?_
  rintro e w6 ⟨k1, k2, k3, k4, rfl, hK6, l1, l2, l3, l4, hb6⟩
  have X6 := (HX5.out.below (n := w5.heap.size) (Below.refl _ _).drew xl).below hb6 xl
  have Y6 := (HY5.out.below (n := w5.heap.size) (Below.refl _ _).drew yl).below hb6 yl
  have HC6 := hidI (HC5.out.drew.trans (hb6.mono HC5.out.size))
  have HO6 := hidI ((HO5.out.below (Below.refl _ _).drew).below hb6)
  have HK6 := hidI hK6
  clear hb6 x0 x1 x2 x3 x4 xl xf y0 y1 y2 y3 y4 yl yf l1 l2 l3 l4 hK6
  obtain ⟨x0, x1, x2, x3, x4, xl, xf⟩ := X6
  obtain ⟨y0, y1, y2, y3, y4, yl, yf⟩ := Y6
  go_wp2_with fail
  refine hK.out _ _ ?hS43 (fun hHeld => ?re43)
  case hS43 => simp [*]
  clear hK K
  (try simp only [Act.put, List.setIfInBounds_toArray, List.set_cons_zero, List.set_cons_succ])
  refine wpAnyH_ready (fuel := 1) (rs := [3]) (by kernel_rfl) (by simp) ?_
  refine AllReadyH.cons (o := ?oi44) ?hi44 (fun K hK => ?st44) AllReadyH.nil
  case hi44 => rw [List.getElem?_toArray]; rfl
  go_simp
  refine (eqSt xs came ts rs ss _ _ _ _ _ _ _ _ _ HO6.out HK6.out HN.out).mono ?_
  rintro e w7 ⟨rfl, hb7⟩
  have c7 : ∀ b o, b < w6.heap.size → w7.cell? ⟨b, o, none⟩ = w6.cell? ⟨b, o, none⟩ := fun b o h => hb7.cell (p := ⟨b, o, none⟩) h
  have HC7 := hidI (HC6.out.trans (hb7.mono HC6.out.size))
  go_wp2_with fail
  refine hK.out _ _ ?hS44 (fun hHeld => ?re44)
  case hS44 => simp [*]
  clear hK K
  (try simp only [Act.put, List.setIfInBounds_toArray, List.set_cons_zero, List.set_cons_succ])
  refine wpAnyH_ready (fuel := 0) (rs := [4]) (by kernel_rfl) (by simp) ?_
  refine AllReadyH.cons (o := ?oi45) ?hi45 (fun K hK => ?st45) AllReadyH.nil
  case hi45 => rw [List.getElem?_toArray]; rfl
  go_simp
  refine hK.out _ _ ?hS45 (fun hHeld => ?re45)
  case hS45 => simp [*]
  clear hK K
  (try simp only [Act.put, List.setIfInBounds_toArray, List.set_cons_zero, List.set_cons_succ])
  refine wpAnyH_done (by kernel_rfl) ?_ _
  clear hHeld
  go_wp2_with fail
  go_ret
  exact ⟨rfl, HC7.out⟩

end Go.Proofs.Ytghcknbpipaghaa
