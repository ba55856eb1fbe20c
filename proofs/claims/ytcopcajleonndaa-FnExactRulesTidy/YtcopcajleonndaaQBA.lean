/- Contracts for branches: two ranges, of which the numbers that are left. -/
import Derived.Test.YtcopcajleonndaaQRU
namespace Go.Proofs.Ytcopcajleonndaa
open Go.RowKit
set_option linter.unusedVariables false
set_option linter.unusedSimpArgs false

theorem fourA (w : World) (a b c d e f g h : Int) : RBox ((((w.alloc (cellsR4 a b c d)).alloc (cellsR4 e f g h)).alloc (cellsR4 0 0 0 0)).alloc (cellsR4 0 0 0 0)) w.heap.size a b c d := (twoA w a b c d e f g h).alloc _
theorem fourB (w : World) (a b c d e f g h : Int) : RBox ((((w.alloc (cellsR4 a b c d)).alloc (cellsR4 e f g h)).alloc (cellsR4 0 0 0 0)).alloc (cellsR4 0 0 0 0)) (w.heap.size + 1) e f g h := (twoB w a b c d e f g h).alloc _
theorem fourQ (w : World) (a b c d e f g h : Int) : RBox ((((w.alloc (cellsR4 a b c d)).alloc (cellsR4 e f g h)).alloc (cellsR4 0 0 0 0)).alloc (cellsR4 0 0 0 0)) (w.heap.size + 2) 0 0 0 0 := (twoQ w a b c d e f g h).alloc _
theorem fourR (w : World) (a b c d e f g h : Int) : RBox ((((w.alloc (cellsR4 a b c d)).alloc (cellsR4 e f g h)).alloc (cellsR4 0 0 0 0)).alloc (cellsR4 0 0 0 0)) (w.heap.size + 3) 0 0 0 0 := by
  have h0 := RBox.new (two w a b c d e f g h) 0 0 0 0
  simp only [World.size_alloc] at h0
  exact h0
theorem fourW (w : World) (a b c d e f g h : Int) : Below w.heap.size w ((((w.alloc (cellsR4 a b c d)).alloc (cellsR4 e f g h)).alloc (cellsR4 0 0 0 0)).alloc (cellsR4 0 0 0 0)) := (twoW w a b c d e f g h).alloc (by simp; omega) _

/-- A range as RangeTidy answers. -/
def tidyP (lo hi b o : Int) : Int × Int × Int × Int := if someI lo hi b o then (tLo lo.toNat hi.toNat b.toNat, tHi lo.toNat hi.toNat b.toNat o.toNat, tB lo.toNat hi.toNat b.toNat, tO lo.toNat hi.toNat o.toNat) else (1, 0, 0, 0)
theorem tidyP_no {lo hi b o : Int} (h : someI lo hi b o = false) : tidyP lo hi b o = (1, 0, 0, 0) := by rw [tidyP, h]; rfl
theorem tidyP_yes {L H B O : Nat} (h : OkN L H B O) (hs : someN L H B O = true) : tidyP L H B O = (((tLo L H B : Nat) : Int), ((tHi L H B O : Nat) : Int), ((tB L H B : Nat) : Int), ((tO L H O : Nat) : Int)) := by
  rw [tidyP, someI_nat h, hs]; simp
theorem c_RangeTidyI (lo hi b o : Int) (w : World) :
    Calls Try.prog 51 #[rv lo hi b o] w fun e w' => e = .returned (rv (tidyP lo hi b o).1 (tidyP lo hi b o).2.1 (tidyP lo hi b o).2.2.1 (tidyP lo hi b o).2.2.2) ∧ Below w.heap.size w w' := by
  cases hs : someI lo hi b o
  · rw [tidyP_no hs]
    exact c_RangeTidy_no lo hi b o w (fun w => by have := c_RangeSomeI lo hi b o w; rw [hs] at this; exact this)
  · obtain ⟨L, H, B, O, rfl, rfl, rfl, rfl, h, hs'⟩ := someI_yes hs
    rw [tidyP_yes h hs']
    exact c_RangeTidy L H B O w h hs'

set_option maxRecDepth 100000 in
set_option maxHeartbeats 1000000 in
theorem c_isKnown (lo hi b o : Int) (w : World) :
    Calls Try.prog 79 #[rv lo hi b o] w fun e w' => e = .returned (.bool (lo == hi)) ∧ Below w.heap.size w w' := by
  go_enter Try.func79, Try.ntmps79
  go_wp2
  go_ret
  exact ⟨rfl, (Below.refl _ _).alloc (Nat.le_refl _) _⟩

set_option maxRecDepth 100000 in
set_option maxHeartbeats 2000000 in
theorem w_below (a b c d e f g h : Int) (x y z u x' y' z' u' : Int) (w : World) (a0 : 0 ≤ a) (a1 : a ≤ 4294967295) (f0 : 0 ≤ f) (f1 : f ≤ 4294967295) (tA : Hid (∀ w, Calls Try.prog 51 #[rv a (min b (f - 1)) c d] w fun ee w' => ee = .returned (rv x y z u) ∧ Below w.heap.size w w')) (tB : Hid (∀ w, Calls Try.prog 51 #[rv (max e (a + 1)) f g h] w fun ee w' => ee = .returned (rv x' y' z' u') ∧ Below w.heap.size w w')) :
    Calls Try.prog 64 #[rv a b c d, rv e f g h] w fun ee w' => ee = .returned (.tuple #[rv x y z u, rv x' y' z' u']) ∧ Below w.heap.size w w' := by
  have bA0 : Hid (RBox ((((w.alloc (cellsR4 a (min b (f - 1)) c d)).alloc (cellsR4 (max e (a + 1)) f g h)).alloc (cellsR4 0 0 0 0)).alloc (cellsR4 0 0 0 0)) w.heap.size a (min b (f - 1)) c d) := fourA w a (min b (f - 1)) c d (max e (a + 1)) f g h
  have bB0 : Hid (RBox ((((w.alloc (cellsR4 a (min b (f - 1)) c d)).alloc (cellsR4 (max e (a + 1)) f g h)).alloc (cellsR4 0 0 0 0)).alloc (cellsR4 0 0 0 0)) (w.heap.size + 1) (max e (a + 1)) f g h) := fourB w a (min b (f - 1)) c d (max e (a + 1)) f g h
  have bQ0 : Hid (RBox ((((w.alloc (cellsR4 a (min b (f - 1)) c d)).alloc (cellsR4 (max e (a + 1)) f g h)).alloc (cellsR4 0 0 0 0)).alloc (cellsR4 0 0 0 0)) (w.heap.size + 2) 0 0 0 0) := fourQ w a (min b (f - 1)) c d (max e (a + 1)) f g h
  have bR0 : Hid (RBox ((((w.alloc (cellsR4 a (min b (f - 1)) c d)).alloc (cellsR4 (max e (a + 1)) f g h)).alloc (cellsR4 0 0 0 0)).alloc (cellsR4 0 0 0 0)) (w.heap.size + 3) 0 0 0 0) := fourR w a (min b (f - 1)) c d (max e (a + 1)) f g h
  have bel0 : Hid (Below w.heap.size w ((((w.alloc (cellsR4 a (min b (f - 1)) c d)).alloc (cellsR4 (max e (a + 1)) f g h)).alloc (cellsR4 0 0 0 0)).alloc (cellsR4 0 0 0 0))) := fourW w a (min b (f - 1)) c d (max e (a + 1)) f g h
  go_enter Try.func64, Try.ntmps64
  go_wp2_with fail
  generalize (((w.alloc (cellsR4 a (min b (f - 1)) c d)).alloc (cellsR4 (max e (a + 1)) f g h)).alloc (cellsR4 0 0 0 0)).alloc (cellsR4 0 0 0 0) = w0 at *
  obtain ⟨cA0, cA1, cA2, cA3⟩ := RBox.box bA0.out
  obtain ⟨cB0, cB1, cB2, cB3⟩ := RBox.box bB0.out
  refine wp_region_held_drew (S := (fun w' => w'.cell? ⟨w.heap.size, 0, none⟩ = some (.int .i64 (a)) ∧ w'.cell? ⟨w.heap.size, 1, none⟩ = some (.int .i64 ((min b (f - 1)))) ∧ w'.cell? ⟨w.heap.size, 2, none⟩ = some (.int .i64 (c)) ∧ w'.cell? ⟨w.heap.size, 3, none⟩ = some (.int .i64 (d)) ∧ w'.cell? ⟨w.heap.size + 1, 0, none⟩ = some (.int .i64 ((max e (a + 1)))) ∧ w'.cell? ⟨w.heap.size + 1, 1, none⟩ = some (.int .i64 (f)) ∧ w'.cell? ⟨w.heap.size + 1, 2, none⟩ = some (.int .i64 (g)) ∧ w'.cell? ⟨w.heap.size + 1, 3, none⟩ = some (.int .i64 (h)))) (by kernel_rfl) (by exact ⟨(RBox.box bA0.out).c0, (RBox.box bA0.out).c1, (RBox.box bA0.out).c2, (RBox.box bA0.out).c3, (RBox.box bB0.out).c0, (RBox.box bB0.out).c1, (RBox.box bB0.out).c2, (RBox.box bB0.out).c3⟩) (fun hHeld => ?_)
  have hA := hid (RBox.drew bA0.out)
  have hB := hid (RBox.drew bB0.out)
  have hQ := hid (RBox.drew bQ0.out)
  have hR := hid (RBox.drew bR0.out)
  have hbel := hid (Below.drew bel0.out)
  clear bA0 bB0 bQ0 bR0 bel0
  generalize w0.drew = W1 at *
  refine wpAnyH_take (i := 0) (oi := ?oi1) (v := ?v1) (fuel := 5) ?hi1 ?hs1 ?hf1 ?hr1 ?hq1 (Or.inl ⟨?hw1, ?hy1⟩) hHeld ?rest1
  case hi1 => rw [List.getElem?_toArray]; rfl
  case hq1 => exact fun _ _ _ h => h
  case hs1 => kernel_rfl
  case hf1 => kernel_rfl
  case hr1 => kernel_rfl
  case hw1 => rfl
  case hy1 => (intro w1 hSw; (try dsimp only at hSw); go_simp; try with_reducible rfl)
  (try simp only [Act.put, List.setIfInBounds_toArray, List.set_cons_zero, List.set_cons_succ])
  refine wpAnyH_take (i := 2) (oi := ?oi2) (v := ?v2) (fuel := 4) ?hi2 ?hs2 ?hf2 ?hr2 ?hq2 (Or.inl ⟨?hw2, ?hy2⟩) hHeld ?rest2
  case hi2 => rw [List.getElem?_toArray]; rfl
  case hq2 => exact fun _ _ _ h => h
  case hs2 => kernel_rfl
  case hf2 => kernel_rfl
  case hr2 => kernel_rfl
  case hw2 => rfl
  case hy2 => (intro w1 hSw; (try dsimp only at hSw); go_simp; try with_reducible rfl)
  (try simp only [Act.put, List.setIfInBounds_toArray, List.set_cons_zero, List.set_cons_succ])
  refine wpAnyH_ready (fuel := 3) (rs := [1]) (by kernel_rfl) (by simp) ?_
  refine AllReadyH.cons (o := ?oi3) ?hi3 (fun K hK => ?st3) AllReadyH.nil
  case hi3 => rw [List.getElem?_toArray]; rfl
  go_simp
  refine (tA.out _).mono ?_
  rintro ee wr1 ⟨rfl, hbn⟩
  replace hA := hid (hA.out.below hbn)
  replace hB := hid (hB.out.below hbn)
  replace hQ := hid (hQ.out.below hbn)
  replace hR := hid (hR.out.below hbn)
  replace hbel := hid (hbel.out.trans (hbn.mono hbel.out.size))
  clear hbn
  go_wp2_with fail
  refine hK.out _ _ ?hS3 (fun hHeld => ?re3)
  case hS3 => exact ⟨(RBox.box hA.out).c0, (RBox.box hA.out).c1, (RBox.box hA.out).c2, (RBox.box hA.out).c3, (RBox.box hB.out).c0, (RBox.box hB.out).c1, (RBox.box hB.out).c2, (RBox.box hB.out).c3⟩
  clear hK K
  (try simp only [Act.put, List.setIfInBounds_toArray, List.set_cons_zero, List.set_cons_succ])
  refine wpAnyH_ready (fuel := 2) (rs := [3]) (by kernel_rfl) (by simp) ?_
  refine AllReadyH.cons (o := ?oi4) ?hi4 (fun K hK => ?st4) AllReadyH.nil
  case hi4 => rw [List.getElem?_toArray]; rfl
  go_simp
  refine (tB.out _).mono ?_
  rintro ee wr3 ⟨rfl, hbn⟩
  replace hA := hid (hA.out.below hbn)
  replace hB := hid (hB.out.below hbn)
  replace hQ := hid (hQ.out.below hbn)
  replace hR := hid (hR.out.below hbn)
  replace hbel := hid (hbel.out.trans (hbn.mono hbel.out.size))
  clear hbn
  go_wp2_with fail
  refine hK.out _ _ ?hS4 (fun hHeld => ?re4)
  case hS4 => exact ⟨(RBox.box hA.out).c0, (RBox.box hA.out).c1, (RBox.box hA.out).c2, (RBox.box hA.out).c3, (RBox.box hB.out).c0, (RBox.box hB.out).c1, (RBox.box hB.out).c2, (RBox.box hB.out).c3⟩
  clear hK K
  (try simp only [Act.put, List.setIfInBounds_toArray, List.set_cons_zero, List.set_cons_succ])
  refine wpAnyH_ready (fuel := 1) (rs := [4]) (by kernel_rfl) (by simp) ?_
  refine AllReadyH.cons (o := ?oi5) ?hi5 (fun K hK => ?st5) AllReadyH.nil
  case hi5 => rw [List.getElem?_toArray]; rfl
  obtain ⟨g0, g1, g2, g3⟩ := RBox.box hQ.out
  have fq := RBox.frozen hQ.out
  go_simp
  clear g0 g1 g2 g3 fq
  replace hA := hid (hA.out.st4o (k := w.heap.size + 2) (by first | omega | (have := RBox.lt hA.out; omega)) (x) (y) (z) (u))
  replace hB := hid (hB.out.st4o (k := w.heap.size + 2) (by first | omega | (have := RBox.lt hB.out; omega)) (x) (y) (z) (u))
  replace hR := hid (hR.out.st4o (k := w.heap.size + 2) (by first | omega | (have := RBox.lt hR.out; omega)) (x) (y) (z) (u))
  replace hQ := hid (hQ.out.st4 (x' := x) (y' := y) (z' := z) (u' := u))
  replace hbel := hid (st4_below (w.heap.size + 2) (x) (y) (z) (u) hbel.out (by omega))
  unfold Go.Proofs.Ytcopcajleonndaa.st4 at hbel hA hB hQ hR
  generalize ((((wr3.setCell ⟨w.heap.size + 2, 0, none⟩ (.int .i64 (x))).setCell ⟨w.heap.size + 2, 1, none⟩ (.int .i64 (y))).setCell ⟨w.heap.size + 2, 2, none⟩ (.int .i64 (z))).setCell ⟨w.heap.size + 2, 3, none⟩ (.int .i64 (u))) = ws4 at *
  refine hK.out _ _ ?hS5 (fun hHeld => ?re5)
  case hS5 => exact ⟨(RBox.box hA.out).c0, (RBox.box hA.out).c1, (RBox.box hA.out).c2, (RBox.box hA.out).c3, (RBox.box hB.out).c0, (RBox.box hB.out).c1, (RBox.box hB.out).c2, (RBox.box hB.out).c3⟩
  clear hK K
  (try simp only [Act.put, List.setIfInBounds_toArray, List.set_cons_zero, List.set_cons_succ])
  refine wpAnyH_ready (fuel := 0) (rs := [5]) (by kernel_rfl) (by simp) ?_
  refine AllReadyH.cons (o := ?oi6) ?hi6 (fun K hK => ?st6) AllReadyH.nil
  case hi6 => rw [List.getElem?_toArray]; rfl
  obtain ⟨g0, g1, g2, g3⟩ := RBox.box hR.out
  have fq := RBox.frozen hR.out
  go_simp
  clear g0 g1 g2 g3 fq
  replace hA := hid (hA.out.st4o (k := w.heap.size + 3) (by first | omega | (have := RBox.lt hA.out; omega)) (x') (y') (z') (u'))
  replace hB := hid (hB.out.st4o (k := w.heap.size + 3) (by first | omega | (have := RBox.lt hB.out; omega)) (x') (y') (z') (u'))
  replace hQ := hid (hQ.out.st4o (k := w.heap.size + 3) (by first | omega | (have := RBox.lt hQ.out; omega)) (x') (y') (z') (u'))
  replace hR := hid (hR.out.st4 (x' := x') (y' := y') (z' := z') (u' := u'))
  replace hbel := hid (st4_below (w.heap.size + 3) (x') (y') (z') (u') hbel.out (by omega))
  unfold Go.Proofs.Ytcopcajleonndaa.st4 at hbel hA hB hQ hR
  generalize ((((ws4.setCell ⟨w.heap.size + 3, 0, none⟩ (.int .i64 (x'))).setCell ⟨w.heap.size + 3, 1, none⟩ (.int .i64 (y'))).setCell ⟨w.heap.size + 3, 2, none⟩ (.int .i64 (z'))).setCell ⟨w.heap.size + 3, 3, none⟩ (.int .i64 (u'))) = ws5 at *
  refine hK.out _ _ ?hS6 (fun hHeld => ?re6)
  case hS6 => exact ⟨(RBox.box hA.out).c0, (RBox.box hA.out).c1, (RBox.box hA.out).c2, (RBox.box hA.out).c3, (RBox.box hB.out).c0, (RBox.box hB.out).c1, (RBox.box hB.out).c2, (RBox.box hB.out).c3⟩
  clear hK K
  (try simp only [Act.put, List.setIfInBounds_toArray, List.set_cons_zero, List.set_cons_succ])
  refine wpAnyH_done (by kernel_rfl) ?_ _
  clear hHeld
  generalize ws5 = w1 at *
  have bA1 := hA
  have bB1 := hB
  have bQ1 := hQ
  have bR1 := hR
  have bel1 := hbel
  clear hbel hA hB hQ hR
  clear cA0 cA1 cA2 cA3 cB0 cB1 cB2 cB3
  obtain ⟨p0, p1, p2, p3⟩ := RBox.box bQ1.out
  obtain ⟨q0, q1, q2, q3⟩ := RBox.box bR1.out
  go_wp2_with fail
  refine bodyPost_ret (v := .tuple #[rv x y z u, rv x' y' z' u']) (by simp [results, Try.results64, go_sem, p0, p1, p2, p3, q0, q1, q2, q3]) rfl ⟨rfl, bel1.out⟩

set_option maxRecDepth 100000 in
set_option maxHeartbeats 2000000 in
theorem w_notBelow (a b c d e f g h : Int) (x y z u x' y' z' u' : Int) (w : World)  (tA : Hid (∀ w, Calls Try.prog 51 #[rv (max a e) b c d] w fun ee w' => ee = .returned (rv x y z u) ∧ Below w.heap.size w w')) (tB : Hid (∀ w, Calls Try.prog 51 #[rv e (min f b) g h] w fun ee w' => ee = .returned (rv x' y' z' u') ∧ Below w.heap.size w w')) :
    Calls Try.prog 65 #[rv a b c d, rv e f g h] w fun ee w' => ee = .returned (.tuple #[rv x y z u, rv x' y' z' u']) ∧ Below w.heap.size w w' := by
  have bA0 : Hid (RBox ((((w.alloc (cellsR4 (max a e) b c d)).alloc (cellsR4 e (min f b) g h)).alloc (cellsR4 0 0 0 0)).alloc (cellsR4 0 0 0 0)) w.heap.size (max a e) b c d) := fourA w (max a e) b c d e (min f b) g h
  have bB0 : Hid (RBox ((((w.alloc (cellsR4 (max a e) b c d)).alloc (cellsR4 e (min f b) g h)).alloc (cellsR4 0 0 0 0)).alloc (cellsR4 0 0 0 0)) (w.heap.size + 1) e (min f b) g h) := fourB w (max a e) b c d e (min f b) g h
  have bQ0 : Hid (RBox ((((w.alloc (cellsR4 (max a e) b c d)).alloc (cellsR4 e (min f b) g h)).alloc (cellsR4 0 0 0 0)).alloc (cellsR4 0 0 0 0)) (w.heap.size + 2) 0 0 0 0) := fourQ w (max a e) b c d e (min f b) g h
  have bR0 : Hid (RBox ((((w.alloc (cellsR4 (max a e) b c d)).alloc (cellsR4 e (min f b) g h)).alloc (cellsR4 0 0 0 0)).alloc (cellsR4 0 0 0 0)) (w.heap.size + 3) 0 0 0 0) := fourR w (max a e) b c d e (min f b) g h
  have bel0 : Hid (Below w.heap.size w ((((w.alloc (cellsR4 (max a e) b c d)).alloc (cellsR4 e (min f b) g h)).alloc (cellsR4 0 0 0 0)).alloc (cellsR4 0 0 0 0))) := fourW w (max a e) b c d e (min f b) g h
  go_enter Try.func65, Try.ntmps65
  go_wp2_with fail
  generalize (((w.alloc (cellsR4 (max a e) b c d)).alloc (cellsR4 e (min f b) g h)).alloc (cellsR4 0 0 0 0)).alloc (cellsR4 0 0 0 0) = w0 at *
  obtain ⟨cA0, cA1, cA2, cA3⟩ := RBox.box bA0.out
  obtain ⟨cB0, cB1, cB2, cB3⟩ := RBox.box bB0.out
  refine wp_region_held_drew (S := (fun w' => w'.cell? ⟨w.heap.size, 0, none⟩ = some (.int .i64 ((max a e))) ∧ w'.cell? ⟨w.heap.size, 1, none⟩ = some (.int .i64 (b)) ∧ w'.cell? ⟨w.heap.size, 2, none⟩ = some (.int .i64 (c)) ∧ w'.cell? ⟨w.heap.size, 3, none⟩ = some (.int .i64 (d)) ∧ w'.cell? ⟨w.heap.size + 1, 0, none⟩ = some (.int .i64 (e)) ∧ w'.cell? ⟨w.heap.size + 1, 1, none⟩ = some (.int .i64 ((min f b))) ∧ w'.cell? ⟨w.heap.size + 1, 2, none⟩ = some (.int .i64 (g)) ∧ w'.cell? ⟨w.heap.size + 1, 3, none⟩ = some (.int .i64 (h)))) (by kernel_rfl) (by exact ⟨(RBox.box bA0.out).c0, (RBox.box bA0.out).c1, (RBox.box bA0.out).c2, (RBox.box bA0.out).c3, (RBox.box bB0.out).c0, (RBox.box bB0.out).c1, (RBox.box bB0.out).c2, (RBox.box bB0.out).c3⟩) (fun hHeld => ?_)
  have hA := hid (RBox.drew bA0.out)
  have hB := hid (RBox.drew bB0.out)
  have hQ := hid (RBox.drew bQ0.out)
  have hR := hid (RBox.drew bR0.out)
  have hbel := hid (Below.drew bel0.out)
  clear bA0 bB0 bQ0 bR0 bel0
  generalize w0.drew = W1 at *
  refine wpAnyH_take (i := 0) (oi := ?oi7) (v := ?v7) (fuel := 5) ?hi7 ?hs7 ?hf7 ?hr7 ?hq7 (Or.inl ⟨?hw7, ?hy7⟩) hHeld ?rest7
  case hi7 => rw [List.getElem?_toArray]; rfl
  case hq7 => exact fun _ _ _ h => h
  case hs7 => kernel_rfl
  case hf7 => kernel_rfl
  case hr7 => kernel_rfl
  case hw7 => rfl
  case hy7 => (intro w1 hSw; (try dsimp only at hSw); go_simp; try with_reducible rfl)
  (try simp only [Act.put, List.setIfInBounds_toArray, List.set_cons_zero, List.set_cons_succ])
  refine wpAnyH_take (i := 2) (oi := ?oi8) (v := ?v8) (fuel := 4) ?hi8 ?hs8 ?hf8 ?hr8 ?hq8 (Or.inl ⟨?hw8, ?hy8⟩) hHeld ?rest8
  case hi8 => rw [List.getElem?_toArray]; rfl
  case hq8 => exact fun _ _ _ h => h
  case hs8 => kernel_rfl
  case hf8 => kernel_rfl
  case hr8 => kernel_rfl
  case hw8 => rfl
  case hy8 => (intro w1 hSw; (try dsimp only at hSw); go_simp; try with_reducible rfl)
  (try simp only [Act.put, List.setIfInBounds_toArray, List.set_cons_zero, List.set_cons_succ])
  refine wpAnyH_ready (fuel := 3) (rs := [1]) (by kernel_rfl) (by simp) ?_
  refine AllReadyH.cons (o := ?oi9) ?hi9 (fun K hK => ?st9) AllReadyH.nil
  case hi9 => rw [List.getElem?_toArray]; rfl
  go_simp
  refine (tA.out _).mono ?_
  rintro ee wr1 ⟨rfl, hbn⟩
  replace hA := hid (hA.out.below hbn)
  replace hB := hid (hB.out.below hbn)
  replace hQ := hid (hQ.out.below hbn)
  replace hR := hid (hR.out.below hbn)
  replace hbel := hid (hbel.out.trans (hbn.mono hbel.out.size))
  clear hbn
  go_wp2_with fail
  refine hK.out _ _ ?hS9 (fun hHeld => ?re9)
  case hS9 => exact ⟨(RBox.box hA.out).c0, (RBox.box hA.out).c1, (RBox.box hA.out).c2, (RBox.box hA.out).c3, (RBox.box hB.out).c0, (RBox.box hB.out).c1, (RBox.box hB.out).c2, (RBox.box hB.out).c3⟩
  clear hK K
  (try simp only [Act.put, List.setIfInBounds_toArray, List.set_cons_zero, List.set_cons_succ])
  refine wpAnyH_ready (fuel := 2) (rs := [3]) (by kernel_rfl) (by simp) ?_
  refine AllReadyH.cons (o := ?oi10) ?hi10 (fun K hK => ?st10) AllReadyH.nil
  case hi10 => rw [List.getElem?_toArray]; rfl
  go_simp
  refine (tB.out _).mono ?_
  rintro ee wr3 ⟨rfl, hbn⟩
  replace hA := hid (hA.out.below hbn)
  replace hB := hid (hB.out.below hbn)
  replace hQ := hid (hQ.out.below hbn)
  replace hR := hid (hR.out.below hbn)
  replace hbel := hid (hbel.out.trans (hbn.mono hbel.out.size))
  clear hbn
  go_wp2_with fail
  refine hK.out _ _ ?hS10 (fun hHeld => ?re10)
  case hS10 => exact ⟨(RBox.box hA.out).c0, (RBox.box hA.out).c1, (RBox.box hA.out).c2, (RBox.box hA.out).c3, (RBox.box hB.out).c0, (RBox.box hB.out).c1, (RBox.box hB.out).c2, (RBox.box hB.out).c3⟩
  clear hK K
  (try simp only [Act.put, List.setIfInBounds_toArray, List.set_cons_zero, List.set_cons_succ])
  refine wpAnyH_ready (fuel := 1) (rs := [4]) (by kernel_rfl) (by simp) ?_
  refine AllReadyH.cons (o := ?oi11) ?hi11 (fun K hK => ?st11) AllReadyH.nil
  case hi11 => rw [List.getElem?_toArray]; rfl
  obtain ⟨g0, g1, g2, g3⟩ := RBox.box hQ.out
  have fq := RBox.frozen hQ.out
  go_simp
  clear g0 g1 g2 g3 fq
  replace hA := hid (hA.out.st4o (k := w.heap.size + 2) (by first | omega | (have := RBox.lt hA.out; omega)) (x) (y) (z) (u))
  replace hB := hid (hB.out.st4o (k := w.heap.size + 2) (by first | omega | (have := RBox.lt hB.out; omega)) (x) (y) (z) (u))
  replace hR := hid (hR.out.st4o (k := w.heap.size + 2) (by first | omega | (have := RBox.lt hR.out; omega)) (x) (y) (z) (u))
  replace hQ := hid (hQ.out.st4 (x' := x) (y' := y) (z' := z) (u' := u))
  replace hbel := hid (st4_below (w.heap.size + 2) (x) (y) (z) (u) hbel.out (by omega))
  unfold Go.Proofs.Ytcopcajleonndaa.st4 at hbel hA hB hQ hR
  generalize ((((wr3.setCell ⟨w.heap.size + 2, 0, none⟩ (.int .i64 (x))).setCell ⟨w.heap.size + 2, 1, none⟩ (.int .i64 (y))).setCell ⟨w.heap.size + 2, 2, none⟩ (.int .i64 (z))).setCell ⟨w.heap.size + 2, 3, none⟩ (.int .i64 (u))) = ws4 at *
  refine hK.out _ _ ?hS11 (fun hHeld => ?re11)
  case hS11 => exact ⟨(RBox.box hA.out).c0, (RBox.box hA.out).c1, (RBox.box hA.out).c2, (RBox.box hA.out).c3, (RBox.box hB.out).c0, (RBox.box hB.out).c1, (RBox.box hB.out).c2, (RBox.box hB.out).c3⟩
  clear hK K
  (try simp only [Act.put, List.setIfInBounds_toArray, List.set_cons_zero, List.set_cons_succ])
  refine wpAnyH_ready (fuel := 0) (rs := [5]) (by kernel_rfl) (by simp) ?_
  refine AllReadyH.cons (o := ?oi12) ?hi12 (fun K hK => ?st12) AllReadyH.nil
  case hi12 => rw [List.getElem?_toArray]; rfl
  obtain ⟨g0, g1, g2, g3⟩ := RBox.box hR.out
  have fq := RBox.frozen hR.out
  go_simp
  clear g0 g1 g2 g3 fq
  replace hA := hid (hA.out.st4o (k := w.heap.size + 3) (by first | omega | (have := RBox.lt hA.out; omega)) (x') (y') (z') (u'))
  replace hB := hid (hB.out.st4o (k := w.heap.size + 3) (by first | omega | (have := RBox.lt hB.out; omega)) (x') (y') (z') (u'))
  replace hQ := hid (hQ.out.st4o (k := w.heap.size + 3) (by first | omega | (have := RBox.lt hQ.out; omega)) (x') (y') (z') (u'))
  replace hR := hid (hR.out.st4 (x' := x') (y' := y') (z' := z') (u' := u'))
  replace hbel := hid (st4_below (w.heap.size + 3) (x') (y') (z') (u') hbel.out (by omega))
  unfold Go.Proofs.Ytcopcajleonndaa.st4 at hbel hA hB hQ hR
  generalize ((((ws4.setCell ⟨w.heap.size + 3, 0, none⟩ (.int .i64 (x'))).setCell ⟨w.heap.size + 3, 1, none⟩ (.int .i64 (y'))).setCell ⟨w.heap.size + 3, 2, none⟩ (.int .i64 (z'))).setCell ⟨w.heap.size + 3, 3, none⟩ (.int .i64 (u'))) = ws5 at *
  refine hK.out _ _ ?hS12 (fun hHeld => ?re12)
  case hS12 => exact ⟨(RBox.box hA.out).c0, (RBox.box hA.out).c1, (RBox.box hA.out).c2, (RBox.box hA.out).c3, (RBox.box hB.out).c0, (RBox.box hB.out).c1, (RBox.box hB.out).c2, (RBox.box hB.out).c3⟩
  clear hK K
  (try simp only [Act.put, List.setIfInBounds_toArray, List.set_cons_zero, List.set_cons_succ])
  refine wpAnyH_done (by kernel_rfl) ?_ _
  clear hHeld
  generalize ws5 = w1 at *
  have bA1 := hA
  have bB1 := hB
  have bQ1 := hQ
  have bR1 := hR
  have bel1 := hbel
  clear hbel hA hB hQ hR
  clear cA0 cA1 cA2 cA3 cB0 cB1 cB2 cB3
  obtain ⟨p0, p1, p2, p3⟩ := RBox.box bQ1.out
  obtain ⟨q0, q1, q2, q3⟩ := RBox.box bR1.out
  go_wp2_with fail
  refine bodyPost_ret (v := .tuple #[rv x y z u, rv x' y' z' u']) (by simp [results, Try.results65, go_sem, p0, p1, p2, p3, q0, q1, q2, q3]) rfl ⟨rfl, bel1.out⟩

end Go.Proofs.Ytcopcajleonndaa
