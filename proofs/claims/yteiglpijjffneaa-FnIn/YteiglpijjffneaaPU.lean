/- Contracts of the draws: two ranges. -/
import Derived.Test.YteiglpijjffneaaPT
namespace Go.Proofs.Yteiglpijjffneaa
open Go.RowKit
set_option linter.unusedVariables false
set_option linter.unusedSimpArgs false

theorem tidy_les {lo hi b o : Nat} (h : OkN lo hi b o) : tLo lo hi b ≤ 4294967295 ∧ tHi lo hi b o ≤ 4294967295 ∧ tB lo hi b ≤ 4294967295 ∧ tO lo hi o ≤ 4294967295 :=
  ⟨tLo_le h.lo h.b, tHi_le h.hi, tB_le h.lo h.b, tO_le h.o⟩
theorem c_joinTwo {a b c d e f g h : Nat} (A : OkN a b c d) (B : OkN e f g h) (w : World) :
    Calls Try.prog 67 #[rv a b c d, rv e f g h] w fun ee w' => (∃ x y z u : Nat, ee = .returned (rv x y z u) ∧ (x ≤ 4294967295 ∧ y ≤ 4294967295 ∧ z ≤ 4294967295 ∧ u ≤ 4294967295)) ∧ Below w.heap.size w w' := by
  refine (c_l2Join a b c d e f g h w A B).mono ?_
  rintro ee w' ⟨rfl, hb⟩
  exact ⟨⟨_, _, _, _, rfl, tidy_les (join_ok A B)⟩, hb⟩

set_option maxRecDepth 100000 in
set_option maxHeartbeats 4000000 in
theorem two_k {w0 w : World} {B : Nat} {a : Option Addr} {len cap p : Nat} (h : RS w0 w B a len cap p) (hp : p ≤ 600000) :
    Calls Try.prog 65 #[.pointer (some ⟨B, 0, none⟩)] w fun e w' => ∃ (lo hi b o lo' hi' b' o' q : Nat), e = .returned (.tuple #[rv lo hi b o, rv lo' hi' b' o']) ∧ (lo ≤ 4294967295 ∧ hi ≤ 4294967295 ∧ b ≤ 4294967295 ∧ o ≤ 4294967295) ∧ (lo' ≤ 4294967295 ∧ hi' ≤ 4294967295 ∧ b' ≤ 4294967295 ∧ o' ≤ 4294967295) ∧ K3 w0 w w' B a len cap q := by
  have H0 := hid (((K3.start h).alloc (cellsR4 0 0 0 0)).alloc (cellsR4 0 0 0 0))
  have P0 := hid ((RBox.new w 0 0 0 0).alloc (cellsR4 0 0 0 0))
  have Q0 : Hid (RBox ((w.alloc (cellsR4 0 0 0 0)).alloc (cellsR4 0 0 0 0)) (w.heap.size + 1) 0 0 0 0) := by
    have h0 := RBox.new (w.alloc (cellsR4 0 0 0 0)) 0 0 0 0
    simp only [World.size_alloc] at h0
    exact h0
  have hB : B < w.heap.size := h.lt
  clear h
  go_enter Try.func65, Try.ntmps65
  go_wp2_with fail
  generalize (w.alloc (cellsR4 0 0 0 0)).alloc (cellsR4 0 0 0 0) = wA at *
  refine (range_k H0.out.rs (by omega)).mono ?_
  rintro e w1 ⟨lo, hi, b, o, v, q, rfl, hok, hv, hq, k1⟩
  have H1 := hid ((H0.out.draw k1).alloc (cellsR4 lo hi b o))
  have P1 := hid ((P0.out.kept (by omega) k1).alloc (cellsR4 lo hi b o))
  have Q1 := hid ((Q0.out.kept (by omega) k1).alloc (cellsR4 lo hi b o))
  have hX0 := RBox.lt (Q0.out.kept (by omega) k1)
  have X1 := hid (RBox.new w1 lo hi b o)
  clear k1 H0 P0 Q0
  go_wp2_with fail
  generalize w1.alloc (cellsR4 lo hi b o) = wB at *
  refine (range_k H1.out.rs (by omega)).mono ?_
  generalize w1.heap.size = X at *
  rintro e w2 ⟨lo', hi', b', o', v', q', rfl, hok', hv', hq', k2⟩
  have H2 := hid ((H1.out.draw k2).alloc (cellsR4 lo' hi' b' o'))
  have P2 := hid ((P1.out.kept (by omega) k2).alloc (cellsR4 lo' hi' b' o'))
  have Q2 := hid ((Q1.out.kept (by omega) k2).alloc (cellsR4 lo' hi' b' o'))
  have X2 := hid ((X1.out.kept (by omega) k2).alloc (cellsR4 lo' hi' b' o'))
  have hY0 := RBox.lt (X1.out.kept (by omega) k2)
  have Y2 := hid (RBox.new w2 lo' hi' b' o')
  clear k2 H1 P1 Q1 X1
  go_wp2_with fail
  generalize w2.alloc (cellsR4 lo' hi' b' o') = wC at *
  refine (pick_k H2.out.rs (by omega) 8 (by omega) (by omega)).mono ?_
  generalize w2.heap.size = Y at *
  rintro e w3 ⟨kk, rfl, hkk, k3⟩
  have H3 := hid (H2.out.draw k3)
  have P3 := hid (P2.out.kept (by omega) k3)
  have Q3 := hid (Q2.out.kept (by omega) k3)
  have X3 := hid (X2.out.kept (by omega) k3)
  have Y3 := hid (Y2.out.kept (by omega) k3)
  clear k3 H2 P2 Q2 X2 Y2
  by_cases c0 : kk = 0
  · subst c0
    go_wp2_with fail
    refine wp_region_held_drew (S := (fun w' => w'.cell? ⟨Y, 0, none⟩ = some (.int .i64 (lo' : Nat)) ∧ w'.cell? ⟨Y, 1, none⟩ = some (.int .i64 (hi' : Nat)) ∧ w'.cell? ⟨Y, 2, none⟩ = some (.int .i64 (b' : Nat)) ∧ w'.cell? ⟨Y, 3, none⟩ = some (.int .i64 (o' : Nat)))) (by kernel_rfl) (by exact ⟨(RBox.box Y3.out).c0, (RBox.box Y3.out).c1, (RBox.box Y3.out).c2, (RBox.box Y3.out).c3⟩) (fun hHeld => ?_)
    have hP := hid (RBox.drew P3.out)
    have hQ := hid (RBox.drew Q3.out)
    have hX := hid (RBox.drew X3.out)
    have hY := hid (RBox.drew Y3.out)
    have hK3 := hid (K3.drew H3.out)
    clear P3 Q3 X3 Y3 H3
    generalize w3.drew = W1 at *
    refine wpAnyH_take (i := 0) (oi := ?oi1) (v := ?v1) (fuel := 4) ?hi1 ?hs1 ?hf1 ?hr1 ?hq1 (Or.inl ⟨?hw1, ?hy1⟩) hHeld ?rest1
    case hi1 => rw [List.getElem?_toArray]; rfl
    case hq1 => exact fun _ _ _ h => h
    case hs1 | hf1 | hr1 => kernel_rfl
    case hw1 => rfl
    case hy1 => (intro w1 hSw; (try dsimp only at hSw); go_simp; try with_reducible rfl)
    (try simp only [Act.put, List.setIfInBounds_toArray, List.set_cons_zero, List.set_cons_succ])
    refine wpAnyH_take (i := 2) (oi := ?oi2) (v := ?v2) (fuel := 3) ?hi2 ?hs2 ?hf2 ?hr2 ?hq2 (Or.inl ⟨?hw2, ?hy2⟩) hHeld ?rest2
    case hi2 => rw [List.getElem?_toArray]; rfl
    case hq2 => exact fun _ _ _ h => h
    case hs2 | hf2 | hr2 => kernel_rfl
    case hw2 => rfl
    case hy2 => (intro w1 hSw; (try dsimp only at hSw); go_simp; try with_reducible rfl)
    (try simp only [Act.put, List.setIfInBounds_toArray, List.set_cons_zero, List.set_cons_succ])
    refine wpAnyH_ready (fuel := 2) (rs := [1]) (by kernel_rfl) (by simp) ?_
    refine AllReadyH.cons (o := ?oi3) ?hi3 (fun K hK => ?st3) AllReadyH.nil
    case hi3 => rw [List.getElem?_toArray]; rfl
    go_simp
    refine (any_k hK3.out.rs (by omega)).mono ?_
    rintro e w4 ⟨lo4, hi4, b4, o4, q4, rfl, les4, hq4, k4⟩
    have tP := hid (hP.out.kept (by omega) k4)
    have tQ := hid (hQ.out.kept (by omega) k4)
    have tX := hid (hX.out.kept (by omega) k4)
    have tY := hid (hY.out.kept (by omega) k4)
    have tK3 := hid (hK3.out.draw k4)
    clear hP hQ hX hY hK3
    have hP := tP
    have hQ := tQ
    have hX := tX
    have hY := tY
    have hK3 := tK3
    clear tP tQ tX tY tK3
    clear k4
    go_wp2_with fail
    refine hK.out _ _ ?hS3 (fun hHeld => ?re3)
    case hS3 => exact ⟨(RBox.box hY.out).c0, (RBox.box hY.out).c1, (RBox.box hY.out).c2, (RBox.box hY.out).c3⟩
    clear hK K
    (try simp only [Act.put, List.setIfInBounds_toArray, List.set_cons_zero, List.set_cons_succ])
    refine wpAnyH_ready (fuel := 1) (rs := [3]) (by kernel_rfl) (by simp) ?_
    refine AllReadyH.cons (o := ?oi4) ?hi4 (fun K hK => ?st4) AllReadyH.nil
    case hi4 => rw [List.getElem?_toArray]; rfl
    obtain ⟨g0, g1, g2, g3⟩ := RBox.box hP.out
    have fq := RBox.frozen hP.out
    go_simp
    clear g0 g1 g2 g3 fq
    have tP := hid (hP.out.st4 (x' := (lo4 : Nat)) (y' := (hi4 : Nat)) (z' := (b4 : Nat)) (u' := (o4 : Nat)))
    have tQ := hid (hQ.out.st4o (k := w.heap.size) (by omega) (lo4 : Nat) (hi4 : Nat) (b4 : Nat) (o4 : Nat))
    have tX := hid (hX.out.st4o (k := w.heap.size) (by omega) (lo4 : Nat) (hi4 : Nat) (b4 : Nat) (o4 : Nat))
    have tY := hid (hY.out.st4o (k := w.heap.size) (by omega) (lo4 : Nat) (hi4 : Nat) (b4 : Nat) (o4 : Nat))
    have tK3 := hid (hK3.out.st4 w.heap.size (lo4 : Nat) (hi4 : Nat) (b4 : Nat) (o4 : Nat) (by omega))
    clear hP hQ hX hY hK3
    have hP := tP
    have hQ := tQ
    have hX := tX
    have hY := tY
    have hK3 := tK3
    clear tP tQ tX tY tK3
    unfold Go.Proofs.Yteiglpijjffneaa.st4 at hP hQ hX hY hK3
    generalize ((((w4.setCell ⟨w.heap.size, 0, none⟩ (.int .i64 (lo4 : Nat))).setCell ⟨w.heap.size, 1, none⟩ (.int .i64 (hi4 : Nat))).setCell ⟨w.heap.size, 2, none⟩ (.int .i64 (b4 : Nat))).setCell ⟨w.heap.size, 3, none⟩ (.int .i64 (o4 : Nat))) = w5 at *
    refine hK.out _ _ ?hS4 (fun hHeld => ?re4)
    case hS4 => exact ⟨(RBox.box hY.out).c0, (RBox.box hY.out).c1, (RBox.box hY.out).c2, (RBox.box hY.out).c3⟩
    clear hK K
    (try simp only [Act.put, List.setIfInBounds_toArray, List.set_cons_zero, List.set_cons_succ])
    refine wpAnyH_ready (fuel := 0) (rs := [4]) (by kernel_rfl) (by simp) ?_
    refine AllReadyH.cons (o := ?oi5) ?hi5 (fun K hK => ?st5) AllReadyH.nil
    case hi5 => rw [List.getElem?_toArray]; rfl
    obtain ⟨g0, g1, g2, g3⟩ := RBox.box hQ.out
    have fq := RBox.frozen hQ.out
    go_simp
    clear g0 g1 g2 g3 fq
    have tP := hid (hP.out.st4o (k := (w.heap.size + 1)) (by omega) (lo' : Nat) (hi' : Nat) (b' : Nat) (o' : Nat))
    have tQ := hid (hQ.out.st4 (x' := (lo' : Nat)) (y' := (hi' : Nat)) (z' := (b' : Nat)) (u' := (o' : Nat)))
    have tX := hid (hX.out.st4o (k := (w.heap.size + 1)) (by omega) (lo' : Nat) (hi' : Nat) (b' : Nat) (o' : Nat))
    have tY := hid (hY.out.st4o (k := (w.heap.size + 1)) (by omega) (lo' : Nat) (hi' : Nat) (b' : Nat) (o' : Nat))
    have tK3 := hid (hK3.out.st4 (w.heap.size + 1) (lo' : Nat) (hi' : Nat) (b' : Nat) (o' : Nat) (by omega))
    clear hP hQ hX hY hK3
    have hP := tP
    have hQ := tQ
    have hX := tX
    have hY := tY
    have hK3 := tK3
    clear tP tQ tX tY tK3
    unfold Go.Proofs.Yteiglpijjffneaa.st4 at hP hQ hX hY hK3
    generalize ((((w5.setCell ⟨(w.heap.size + 1), 0, none⟩ (.int .i64 (lo' : Nat))).setCell ⟨(w.heap.size + 1), 1, none⟩ (.int .i64 (hi' : Nat))).setCell ⟨(w.heap.size + 1), 2, none⟩ (.int .i64 (b' : Nat))).setCell ⟨(w.heap.size + 1), 3, none⟩ (.int .i64 (o' : Nat))) = w6 at *
    refine hK.out _ _ ?hS5 (fun hHeld => ?re5)
    case hS5 => exact ⟨(RBox.box hY.out).c0, (RBox.box hY.out).c1, (RBox.box hY.out).c2, (RBox.box hY.out).c3⟩
    clear hK K
    (try simp only [Act.put, List.setIfInBounds_toArray, List.set_cons_zero, List.set_cons_succ])
    refine wpAnyH_done (by kernel_rfl) ?_ _
    clear hHeld
    obtain ⟨p0, p1, p2, p3⟩ := RBox.box hP.out
    obtain ⟨r0, r1, r2, r3⟩ := RBox.box hQ.out
    go_wp2_with fail
    refine bodyPost_ret (v := .tuple #[rv lo4 hi4 b4 o4, rv lo' hi' b' o']) (by simp [results, Try.results65, go_sem, p0, p1, p2, p3, r0, r1, r2, r3]) rfl ⟨lo4, hi4, b4, o4, lo', hi', b', o', _, rfl, les4, hok'.les, hK3.out⟩
  have d0 : ((kk : Int) == 0) = false := by simp; omega
  go_wp2_with fail
  refine (pick_k H3.out.rs (by omega) 4 (by omega) (by omega)).mono ?_
  rintro e w4 ⟨k2, rfl, hk2, k4⟩
  have H4 := hid (H3.out.draw k4)
  have P4 := hid (P3.out.kept (by omega) k4)
  have Q4 := hid (Q3.out.kept (by omega) k4)
  have X4 := hid (X3.out.kept (by omega) k4)
  have Y4 := hid (Y3.out.kept (by omega) k4)
  clear k4 H3 P3 Q3 X3 Y3
  by_cases c2 : k2 = 0
  · subst c2
    have J := join_ok hok hok'
    have JL := c_joinTwo hok hok'
    go_wp2_with fail
    refine wp_region_held_drew (S := (fun w' => w'.cell? ⟨X, 0, none⟩ = some (.int .i64 (lo : Nat)) ∧ w'.cell? ⟨X, 1, none⟩ = some (.int .i64 (hi : Nat)) ∧ w'.cell? ⟨X, 2, none⟩ = some (.int .i64 (b : Nat)) ∧ w'.cell? ⟨X, 3, none⟩ = some (.int .i64 (o : Nat)) ∧ w'.cell? ⟨Y, 0, none⟩ = some (.int .i64 (lo' : Nat)) ∧ w'.cell? ⟨Y, 1, none⟩ = some (.int .i64 (hi' : Nat)) ∧ w'.cell? ⟨Y, 2, none⟩ = some (.int .i64 (b' : Nat)) ∧ w'.cell? ⟨Y, 3, none⟩ = some (.int .i64 (o' : Nat)))) (by kernel_rfl) (by exact ⟨(RBox.box X4.out).c0, (RBox.box X4.out).c1, (RBox.box X4.out).c2, (RBox.box X4.out).c3, (RBox.box Y4.out).c0, (RBox.box Y4.out).c1, (RBox.box Y4.out).c2, (RBox.box Y4.out).c3⟩) (fun hHeld => ?_)
    have hP := hid (RBox.drew P4.out)
    have hQ := hid (RBox.drew Q4.out)
    have hX := hid (RBox.drew X4.out)
    have hY := hid (RBox.drew Y4.out)
    have hK3 := hid (K3.drew H4.out)
    clear P4 Q4 X4 Y4 H4
    generalize w4.drew = W1 at *
    refine wpAnyH_take (i := 0) (oi := ?oi6) (v := ?v6) (fuel := 5) ?hi6 ?hs6 ?hf6 ?hr6 ?hq6 (Or.inl ⟨?hw6, ?hy6⟩) hHeld ?rest6
    case hi6 => rw [List.getElem?_toArray]; rfl
    case hq6 => exact fun _ _ _ h => h
    case hs6 | hf6 | hr6 => kernel_rfl
    case hw6 => rfl
    case hy6 => (intro w1 hSw; (try dsimp only at hSw); go_simp; try with_reducible rfl)
    (try simp only [Act.put, List.setIfInBounds_toArray, List.set_cons_zero, List.set_cons_succ])
    refine wpAnyH_take (i := 1) (oi := ?oi7) (v := ?v7) (fuel := 4) ?hi7 ?hs7 ?hf7 ?hr7 ?hq7 (Or.inl ⟨?hw7, ?hy7⟩) hHeld ?rest7
    case hi7 => rw [List.getElem?_toArray]; rfl
    case hq7 => exact fun _ _ _ h => h
    case hs7 | hf7 | hr7 => kernel_rfl
    case hw7 => rfl
    case hy7 => (intro w1 hSw; (try dsimp only at hSw); go_simp; try with_reducible rfl)
    (try simp only [Act.put, List.setIfInBounds_toArray, List.set_cons_zero, List.set_cons_succ])
    refine wpAnyH_take (i := 2) (oi := ?oi8) (v := ?v8) (fuel := 3) ?hi8 ?hs8 ?hf8 ?hr8 ?hq8 (Or.inl ⟨?hw8, ?hy8⟩) hHeld ?rest8
    case hi8 => rw [List.getElem?_toArray]; rfl
    case hq8 => exact fun _ _ _ h => h
    case hs8 | hf8 | hr8 => kernel_rfl
    case hw8 => rfl
    case hy8 => (intro w1 hSw; (try dsimp only at hSw); go_simp; try with_reducible rfl)
    (try simp only [Act.put, List.setIfInBounds_toArray, List.set_cons_zero, List.set_cons_succ])
    refine wpAnyH_ready (fuel := 2) (rs := [3]) (by kernel_rfl) (by simp) ?_
    refine AllReadyH.cons (o := ?oi9) ?hi9 (fun K hK => ?st9) AllReadyH.nil
    case hi9 => rw [List.getElem?_toArray]; rfl
    go_simp
    refine (JL _).mono ?_
    rintro e w5 ⟨⟨x1, x2, x3, x4, rfl, les5⟩, b5⟩
    have tP := hid (hP.out.below b5)
    have tQ := hid (hQ.out.below b5)
    have tX := hid (hX.out.below b5)
    have tY := hid (hY.out.below b5)
    have tK3 := hid (hK3.out.below b5)
    clear hP hQ hX hY hK3
    have hP := tP
    have hQ := tQ
    have hX := tX
    have hY := tY
    have hK3 := tK3
    clear tP tQ tX tY tK3
    clear b5
    go_wp2_with fail
    refine hK.out _ _ ?hS9 (fun hHeld => ?re9)
    case hS9 => exact ⟨(RBox.box hX.out).c0, (RBox.box hX.out).c1, (RBox.box hX.out).c2, (RBox.box hX.out).c3, (RBox.box hY.out).c0, (RBox.box hY.out).c1, (RBox.box hY.out).c2, (RBox.box hY.out).c3⟩
    clear hK K
    (try simp only [Act.put, List.setIfInBounds_toArray, List.set_cons_zero, List.set_cons_succ])
    refine wpAnyH_ready (fuel := 1) (rs := [4]) (by kernel_rfl) (by simp) ?_
    refine AllReadyH.cons (o := ?oi10) ?hi10 (fun K hK => ?st10) AllReadyH.nil
    case hi10 => rw [List.getElem?_toArray]; rfl
    obtain ⟨g0, g1, g2, g3⟩ := RBox.box hP.out
    have fq := RBox.frozen hP.out
    go_simp
    clear g0 g1 g2 g3 fq
    have tP := hid (hP.out.st4 (x' := (lo : Nat)) (y' := (hi : Nat)) (z' := (b : Nat)) (u' := (o : Nat)))
    have tQ := hid (hQ.out.st4o (k := w.heap.size) (by omega) (lo : Nat) (hi : Nat) (b : Nat) (o : Nat))
    have tX := hid (hX.out.st4o (k := w.heap.size) (by omega) (lo : Nat) (hi : Nat) (b : Nat) (o : Nat))
    have tY := hid (hY.out.st4o (k := w.heap.size) (by omega) (lo : Nat) (hi : Nat) (b : Nat) (o : Nat))
    have tK3 := hid (hK3.out.st4 w.heap.size (lo : Nat) (hi : Nat) (b : Nat) (o : Nat) (by omega))
    clear hP hQ hX hY hK3
    have hP := tP
    have hQ := tQ
    have hX := tX
    have hY := tY
    have hK3 := tK3
    clear tP tQ tX tY tK3
    unfold Go.Proofs.Yteiglpijjffneaa.st4 at hP hQ hX hY hK3
    generalize ((((w5.setCell ⟨w.heap.size, 0, none⟩ (.int .i64 (lo : Nat))).setCell ⟨w.heap.size, 1, none⟩ (.int .i64 (hi : Nat))).setCell ⟨w.heap.size, 2, none⟩ (.int .i64 (b : Nat))).setCell ⟨w.heap.size, 3, none⟩ (.int .i64 (o : Nat))) = w6 at *
    refine hK.out _ _ ?hS10 (fun hHeld => ?re10)
    case hS10 => exact ⟨(RBox.box hX.out).c0, (RBox.box hX.out).c1, (RBox.box hX.out).c2, (RBox.box hX.out).c3, (RBox.box hY.out).c0, (RBox.box hY.out).c1, (RBox.box hY.out).c2, (RBox.box hY.out).c3⟩
    clear hK K
    (try simp only [Act.put, List.setIfInBounds_toArray, List.set_cons_zero, List.set_cons_succ])
    refine wpAnyH_ready (fuel := 0) (rs := [5]) (by kernel_rfl) (by simp) ?_
    refine AllReadyH.cons (o := ?oi11) ?hi11 (fun K hK => ?st11) AllReadyH.nil
    case hi11 => rw [List.getElem?_toArray]; rfl
    obtain ⟨g0, g1, g2, g3⟩ := RBox.box hQ.out
    have fq := RBox.frozen hQ.out
    go_simp
    clear g0 g1 g2 g3 fq
    have tP := hid (hP.out.st4o (k := (w.heap.size + 1)) (by omega) (x1 : Nat) (x2 : Nat) (x3 : Nat) (x4 : Nat))
    have tQ := hid (hQ.out.st4 (x' := (x1 : Nat)) (y' := (x2 : Nat)) (z' := (x3 : Nat)) (u' := (x4 : Nat)))
    have tX := hid (hX.out.st4o (k := (w.heap.size + 1)) (by omega) (x1 : Nat) (x2 : Nat) (x3 : Nat) (x4 : Nat))
    have tY := hid (hY.out.st4o (k := (w.heap.size + 1)) (by omega) (x1 : Nat) (x2 : Nat) (x3 : Nat) (x4 : Nat))
    have tK3 := hid (hK3.out.st4 (w.heap.size + 1) (x1 : Nat) (x2 : Nat) (x3 : Nat) (x4 : Nat) (by omega))
    clear hP hQ hX hY hK3
    have hP := tP
    have hQ := tQ
    have hX := tX
    have hY := tY
    have hK3 := tK3
    clear tP tQ tX tY tK3
    unfold Go.Proofs.Yteiglpijjffneaa.st4 at hP hQ hX hY hK3
    generalize ((((w6.setCell ⟨(w.heap.size + 1), 0, none⟩ (.int .i64 (x1 : Nat))).setCell ⟨(w.heap.size + 1), 1, none⟩ (.int .i64 (x2 : Nat))).setCell ⟨(w.heap.size + 1), 2, none⟩ (.int .i64 (x3 : Nat))).setCell ⟨(w.heap.size + 1), 3, none⟩ (.int .i64 (x4 : Nat))) = w7 at *
    refine hK.out _ _ ?hS11 (fun hHeld => ?re11)
    case hS11 => exact ⟨(RBox.box hX.out).c0, (RBox.box hX.out).c1, (RBox.box hX.out).c2, (RBox.box hX.out).c3, (RBox.box hY.out).c0, (RBox.box hY.out).c1, (RBox.box hY.out).c2, (RBox.box hY.out).c3⟩
    clear hK K
    (try simp only [Act.put, List.setIfInBounds_toArray, List.set_cons_zero, List.set_cons_succ])
    refine wpAnyH_done (by kernel_rfl) ?_ _
    clear hHeld
    obtain ⟨p0, p1, p2, p3⟩ := RBox.box hP.out
    obtain ⟨r0, r1, r2, r3⟩ := RBox.box hQ.out
    go_wp2_with fail
    refine bodyPost_ret (v := .tuple #[rv lo hi b o, rv x1 x2 x3 x4]) (by simp [results, Try.results65, go_sem, p0, p1, p2, p3, r0, r1, r2, r3]) rfl ⟨lo, hi, b, o, x1, x2, x3, x4, _, rfl, hok.les, les5, hK3.out⟩
  have d2 : ((k2 : Int) == 0) = false := by simp; omega
  go_wp2_with fail
  refine wp_region_held_drew (S := (fun w' => w'.cell? ⟨X, 0, none⟩ = some (.int .i64 (lo : Nat)) ∧ w'.cell? ⟨X, 1, none⟩ = some (.int .i64 (hi : Nat)) ∧ w'.cell? ⟨X, 2, none⟩ = some (.int .i64 (b : Nat)) ∧ w'.cell? ⟨X, 3, none⟩ = some (.int .i64 (o : Nat)) ∧ w'.cell? ⟨Y, 0, none⟩ = some (.int .i64 (lo' : Nat)) ∧ w'.cell? ⟨Y, 1, none⟩ = some (.int .i64 (hi' : Nat)) ∧ w'.cell? ⟨Y, 2, none⟩ = some (.int .i64 (b' : Nat)) ∧ w'.cell? ⟨Y, 3, none⟩ = some (.int .i64 (o' : Nat)))) (by kernel_rfl) (by exact ⟨(RBox.box X4.out).c0, (RBox.box X4.out).c1, (RBox.box X4.out).c2, (RBox.box X4.out).c3, (RBox.box Y4.out).c0, (RBox.box Y4.out).c1, (RBox.box Y4.out).c2, (RBox.box Y4.out).c3⟩) (fun hHeld => ?_)
  have hP := hid (RBox.drew P4.out)
  have hQ := hid (RBox.drew Q4.out)
  have hX := hid (RBox.drew X4.out)
  have hY := hid (RBox.drew Y4.out)
  have hK3 := hid (K3.drew H4.out)
  clear P4 Q4 X4 Y4 H4
  generalize w4.drew = W1 at *
  refine wpAnyH_take (i := 0) (oi := ?oi12) (v := ?v12) (fuel := 3) ?hi12 ?hs12 ?hf12 ?hr12 ?hq12 (Or.inl ⟨?hw12, ?hy12⟩) hHeld ?rest12
  case hi12 => rw [List.getElem?_toArray]; rfl
  case hq12 => exact fun _ _ _ h => h
  case hs12 | hf12 | hr12 => kernel_rfl
  case hw12 => rfl
  case hy12 => (intro w1 hSw; (try dsimp only at hSw); go_simp; try with_reducible rfl)
  (try simp only [Act.put, List.setIfInBounds_toArray, List.set_cons_zero, List.set_cons_succ])
  refine wpAnyH_take (i := 1) (oi := ?oi13) (v := ?v13) (fuel := 2) ?hi13 ?hs13 ?hf13 ?hr13 ?hq13 (Or.inl ⟨?hw13, ?hy13⟩) hHeld ?rest13
  case hi13 => rw [List.getElem?_toArray]; rfl
  case hq13 => exact fun _ _ _ h => h
  case hs13 | hf13 | hr13 => kernel_rfl
  case hw13 => rfl
  case hy13 => (intro w1 hSw; (try dsimp only at hSw); go_simp; try with_reducible rfl)
  (try simp only [Act.put, List.setIfInBounds_toArray, List.set_cons_zero, List.set_cons_succ])
  refine wpAnyH_ready (fuel := 1) (rs := [2]) (by kernel_rfl) (by simp) ?_
  refine AllReadyH.cons (o := ?oi14) ?hi14 (fun K hK => ?st14) AllReadyH.nil
  case hi14 => rw [List.getElem?_toArray]; rfl
  obtain ⟨g0, g1, g2, g3⟩ := RBox.box hP.out
  have fq := RBox.frozen hP.out
  go_simp
  clear g0 g1 g2 g3 fq
  have tP := hid (hP.out.st4 (x' := (lo : Nat)) (y' := (hi : Nat)) (z' := (b : Nat)) (u' := (o : Nat)))
  have tQ := hid (hQ.out.st4o (k := w.heap.size) (by omega) (lo : Nat) (hi : Nat) (b : Nat) (o : Nat))
  have tX := hid (hX.out.st4o (k := w.heap.size) (by omega) (lo : Nat) (hi : Nat) (b : Nat) (o : Nat))
  have tY := hid (hY.out.st4o (k := w.heap.size) (by omega) (lo : Nat) (hi : Nat) (b : Nat) (o : Nat))
  have tK3 := hid (hK3.out.st4 w.heap.size (lo : Nat) (hi : Nat) (b : Nat) (o : Nat) (by omega))
  clear hP hQ hX hY hK3
  have hP := tP
  have hQ := tQ
  have hX := tX
  have hY := tY
  have hK3 := tK3
  clear tP tQ tX tY tK3
  unfold Go.Proofs.Yteiglpijjffneaa.st4 at hP hQ hX hY hK3
  generalize ((((W1.setCell ⟨w.heap.size, 0, none⟩ (.int .i64 (lo : Nat))).setCell ⟨w.heap.size, 1, none⟩ (.int .i64 (hi : Nat))).setCell ⟨w.heap.size, 2, none⟩ (.int .i64 (b : Nat))).setCell ⟨w.heap.size, 3, none⟩ (.int .i64 (o : Nat))) = w6 at *
  refine hK.out _ _ ?hS14 (fun hHeld => ?re14)
  case hS14 => exact ⟨(RBox.box hX.out).c0, (RBox.box hX.out).c1, (RBox.box hX.out).c2, (RBox.box hX.out).c3, (RBox.box hY.out).c0, (RBox.box hY.out).c1, (RBox.box hY.out).c2, (RBox.box hY.out).c3⟩
  clear hK K
  (try simp only [Act.put, List.setIfInBounds_toArray, List.set_cons_zero, List.set_cons_succ])
  refine wpAnyH_ready (fuel := 0) (rs := [3]) (by kernel_rfl) (by simp) ?_
  refine AllReadyH.cons (o := ?oi15) ?hi15 (fun K hK => ?st15) AllReadyH.nil
  case hi15 => rw [List.getElem?_toArray]; rfl
  obtain ⟨g0, g1, g2, g3⟩ := RBox.box hQ.out
  have fq := RBox.frozen hQ.out
  go_simp
  clear g0 g1 g2 g3 fq
  have tP := hid (hP.out.st4o (k := (w.heap.size + 1)) (by omega) (lo' : Nat) (hi' : Nat) (b' : Nat) (o' : Nat))
  have tQ := hid (hQ.out.st4 (x' := (lo' : Nat)) (y' := (hi' : Nat)) (z' := (b' : Nat)) (u' := (o' : Nat)))
  have tX := hid (hX.out.st4o (k := (w.heap.size + 1)) (by omega) (lo' : Nat) (hi' : Nat) (b' : Nat) (o' : Nat))
  have tY := hid (hY.out.st4o (k := (w.heap.size + 1)) (by omega) (lo' : Nat) (hi' : Nat) (b' : Nat) (o' : Nat))
  have tK3 := hid (hK3.out.st4 (w.heap.size + 1) (lo' : Nat) (hi' : Nat) (b' : Nat) (o' : Nat) (by omega))
  clear hP hQ hX hY hK3
  have hP := tP
  have hQ := tQ
  have hX := tX
  have hY := tY
  have hK3 := tK3
  clear tP tQ tX tY tK3
  unfold Go.Proofs.Yteiglpijjffneaa.st4 at hP hQ hX hY hK3
  generalize ((((w6.setCell ⟨(w.heap.size + 1), 0, none⟩ (.int .i64 (lo' : Nat))).setCell ⟨(w.heap.size + 1), 1, none⟩ (.int .i64 (hi' : Nat))).setCell ⟨(w.heap.size + 1), 2, none⟩ (.int .i64 (b' : Nat))).setCell ⟨(w.heap.size + 1), 3, none⟩ (.int .i64 (o' : Nat))) = w7 at *
  refine hK.out _ _ ?hS15 (fun hHeld => ?re15)
  case hS15 => exact ⟨(RBox.box hX.out).c0, (RBox.box hX.out).c1, (RBox.box hX.out).c2, (RBox.box hX.out).c3, (RBox.box hY.out).c0, (RBox.box hY.out).c1, (RBox.box hY.out).c2, (RBox.box hY.out).c3⟩
  clear hK K
  (try simp only [Act.put, List.setIfInBounds_toArray, List.set_cons_zero, List.set_cons_succ])
  refine wpAnyH_done (by kernel_rfl) ?_ _
  clear hHeld
  obtain ⟨p0, p1, p2, p3⟩ := RBox.box hP.out
  obtain ⟨r0, r1, r2, r3⟩ := RBox.box hQ.out
  go_wp2_with fail
  refine bodyPost_ret (v := .tuple #[rv lo hi b o, rv lo' hi' b' o']) (by simp [results, Try.results65, go_sem, p0, p1, p2, p3, r0, r1, r2, r3]) rfl ⟨lo, hi, b, o, lo', hi', b', o', _, rfl, hok.les, hok'.les, hK3.out⟩

end Go.Proofs.Yteiglpijjffneaa
