/- The draw of an op and two ranges. -/
import Derived.Test.YtnebjocnbfoafaaPT
namespace Go.Proofs.Ytnebjocnbfoafaa
open Go.RowKit
set_option linter.unusedVariables false
set_option linter.unusedSimpArgs false

set_option maxRecDepth 100000 in
set_option maxHeartbeats 4000000 in
theorem drawRangeOf_s (w : World) (a : Option Addr) (len cap : Nat) (hc : len ≤ cap) (hs : Src w a len) (hl : cap < 2 ^ 63) :
    Calls Try.prog 5 #[.slice a len cap] w fun e w' => ∃ (op lo hi b o lo' hi' b' o' : Nat), e = .returned (.tuple #[.int .i64 op, rv lo hi b o, rv lo' hi' b' o']) ∧ (1 ≤ op ∧ op ≤ 12) ∧ OkN lo hi b o ∧ (lo' ≤ 4294967295 ∧ hi' ≤ 4294967295 ∧ b' ≤ 4294967295 ∧ o' ≤ 4294967295) ∧ Below w.heap.size w w' := by
  have hs2 : Src ((w.alloc (cellsR4 0 0 0 0)).alloc (cellsR4 0 0 0 0)) a len := by
    rcases hs with h0 | ⟨g, off, ha, hg, hcell⟩
    · exact .inl h0
    · refine .inr ⟨g, off, ha, by simp; omega, fun j hj => ?_⟩
      obtain ⟨v, hv, hh⟩ := hcell j hj
      exact ⟨v, hv, ((newB w (cellsR4 0 0 0 0) (cellsR4 0 0 0 0)).cell (p := ⟨g, off + j, none⟩) hg).trans hh⟩
  have HS := hid hs2
  have P0 := hid ((RBox.new w 0 0 0 0).alloc (cellsR4 0 0 0 0))
  have Q0 : Hid (RBox ((w.alloc (cellsR4 0 0 0 0)).alloc (cellsR4 0 0 0 0)) (w.heap.size + 1) 0 0 0 0) := by
    have h0 := RBox.new (w.alloc (cellsR4 0 0 0 0)) 0 0 0 0
    simp only [World.size_alloc] at h0
    exact h0
  have BA := hid (newB w (cellsR4 0 0 0 0) (cellsR4 0 0 0 0))
  have hsz : ((w.alloc (cellsR4 0 0 0 0)).alloc (cellsR4 0 0 0 0)).heap.size = w.heap.size + 2 := by simp
  clear hs hs2
  go_enter Try.func5, Try.ntmps5
  go_wp2_with fail
  generalize (w.alloc (cellsR4 0 0 0 0)).alloc (cellsR4 0 0 0 0) = wA at *
  refine (open_k wA a len cap hc HS.out hl).mono ?_
  rw [hsz]
  rintro e w1 ⟨n, rfl, h1⟩
  have H1 := hid (K3.start h1)
  have P1 := hid (P0.out.below (show Below wA.heap.size wA w1 from h1.bel))
  have Q1 := hid (Q0.out.below (show Below wA.heap.size wA w1 from h1.bel))
  clear h1 HS P0 Q0
  go_wp2_with fail
  refine (range_k H1.out.rs (by omega)).mono ?_
  rintro e w2 ⟨lo, hi, b, o, v, q, rfl, hok, hv, hq, k1⟩
  have H2 := hid ((H1.out.draw k1).alloc (cellsR4 lo hi b o))
  have P2 := hid ((P1.out.kept (by omega) k1).alloc (cellsR4 lo hi b o))
  have Q2 := hid ((Q1.out.kept (by omega) k1).alloc (cellsR4 lo hi b o))
  have hX0 := RBox.lt (Q1.out.kept (by omega) k1)
  have hX1 : w1.heap.size ≤ w2.heap.size := k1.kp.1
  have hXB : w.heap.size + 2 < w2.heap.size := Nat.lt_of_lt_of_le k1.lt k1.kp.1
  have X2 := hid (RBox.new w2 lo hi b o)
  clear k1 H1 P1 Q1
  go_wp2_with fail
  generalize w2.alloc (cellsR4 lo hi b o) = wB at *
  refine (range_k H2.out.rs (by omega)).mono ?_
  generalize w2.heap.size = X at *
  rintro e w3 ⟨lo', hi', b', o', v', q', rfl, hok', hv', hq', k2⟩
  have H3 := hid ((H2.out.draw k2).alloc (cellsR4 lo' hi' b' o'))
  have P3 := hid ((P2.out.kept (by omega) k2).alloc (cellsR4 lo' hi' b' o'))
  have Q3 := hid ((Q2.out.kept (by omega) k2).alloc (cellsR4 lo' hi' b' o'))
  have X3 := hid ((X2.out.kept (by omega) k2).alloc (cellsR4 lo' hi' b' o'))
  have hY0 := RBox.lt (X2.out.kept (by omega) k2)
  have Y3 := hid (RBox.new w3 lo' hi' b' o')
  clear k2 H2 P2 Q2 X2
  go_wp2_with fail
  generalize w3.alloc (cellsR4 lo' hi' b' o') = wC at *
  refine (pick_k H3.out.rs (by omega) 8 (by omega) (by omega)).mono ?_
  generalize w3.heap.size = Y at *
  rintro e w4 ⟨kk, rfl, hkk, k3⟩
  have H4 := hid (H3.out.draw k3)
  have P4 := hid (P3.out.kept (by omega) k3)
  have Q4 := hid (Q3.out.kept (by omega) k3)
  have X4 := hid (X3.out.kept (by omega) k3)
  have Y4 := hid (Y3.out.kept (by omega) k3)
  clear k3 H3 P3 Q3 X3 Y3
  by_cases c0 : kk = 0
  · subst c0
    go_wp2_with fail
    refine (any_k H4.out.rs (by omega)).mono ?_
    rintro e w5 ⟨lo4, hi4, b4, o4, q4, rfl, les4, hq4, k4⟩
    have H5 := hid (H4.out.draw k4)
    have P5 := hid (P4.out.kept (by omega) k4)
    have Q5 := hid (Q4.out.kept (by omega) k4)
    have X5 := hid (X4.out.kept (by omega) k4)
    have Y5 := hid (Y4.out.kept (by omega) k4)
    clear k4 H4 P4 Q4 X4 Y4
    have yl := RBox.lt Y5.out
    obtain ⟨g0, g1, g2, g3⟩ := RBox.box Y5.out
    have fq := RBox.frozen Y5.out
    have H6 := hid (H5.out.st4 Y (lo4 : Nat) (hi4 : Nat) (b4 : Nat) (o4 : Nat) (by omega))
    have P6 := hid (P5.out.st4o (k := Y) (by omega) (lo4 : Nat) (hi4 : Nat) (b4 : Nat) (o4 : Nat))
    have Q6 := hid (Q5.out.st4o (k := Y) (by omega) (lo4 : Nat) (hi4 : Nat) (b4 : Nat) (o4 : Nat))
    have X6 := hid (X5.out.st4o (k := Y) (by omega) (lo4 : Nat) (hi4 : Nat) (b4 : Nat) (o4 : Nat))
    have Y6 := hid (Y5.out.st4 (x' := (lo4 : Nat)) (y' := (hi4 : Nat)) (z' := (b4 : Nat)) (u' := (o4 : Nat)))
    go_wp2_with fail
    unfold Go.Proofs.Ytnebjocnbfoafaa.st4 at H6 P6 Q6 X6 Y6
    clear g0 g1 g2 g3 fq H5 P5 Q5 X5 Y5
    generalize (((w5.setCell ⟨Y, 0, none⟩ (.int .i64 (lo4 : Nat))).setCell ⟨Y, 1, none⟩ (.int .i64 (hi4 : Nat))).setCell ⟨Y, 2, none⟩ (.int .i64 (b4 : Nat))).setCell ⟨Y, 3, none⟩ (.int .i64 (o4 : Nat)) = w6 at *
    refine wp_region_held_drew (S := (fun w' => w'.cell? ⟨X, 0, none⟩ = some (.int .i64 (lo : Nat)) ∧ w'.cell? ⟨X, 1, none⟩ = some (.int .i64 (hi : Nat)) ∧ w'.cell? ⟨X, 2, none⟩ = some (.int .i64 (b : Nat)) ∧ w'.cell? ⟨X, 3, none⟩ = some (.int .i64 (o : Nat)) ∧ w'.cell? ⟨Y, 0, none⟩ = some (.int .i64 (lo4 : Nat)) ∧ w'.cell? ⟨Y, 1, none⟩ = some (.int .i64 (hi4 : Nat)) ∧ w'.cell? ⟨Y, 2, none⟩ = some (.int .i64 (b4 : Nat)) ∧ w'.cell? ⟨Y, 3, none⟩ = some (.int .i64 (o4 : Nat)))) (by kernel_rfl) (by exact ⟨(RBox.box X6.out).c0, (RBox.box X6.out).c1, (RBox.box X6.out).c2, (RBox.box X6.out).c3, (RBox.box Y6.out).c0, (RBox.box Y6.out).c1, (RBox.box Y6.out).c2, (RBox.box Y6.out).c3⟩) (fun hHeld => ?_)
    have hP := hid (RBox.drew P6.out)
    have hQ := hid (RBox.drew Q6.out)
    have hX := hid (RBox.drew X6.out)
    have hY := hid (RBox.drew Y6.out)
    have hK3 := hid (K3.drew H6.out)
    clear P6 Q6 X6 Y6 H6
    generalize w6.drew = W1 at *
    refine wpAnyH_take (i := 0) (oi := ?oi1) (v := ?v1) (fuel := 7) ?hi1 ?hs1 ?hf1 ?hr1 ?hq1 (Or.inl ⟨?hw1, ?hy1⟩) hHeld ?rest1
    case hi1 => rw [List.getElem?_toArray]; rfl
    case hq1 => exact fun _ _ _ h => h
    case hs1 | hf1 | hr1 => kernel_rfl
    case hw1 => rfl
    case hy1 => (intro w1 hSw; (try dsimp only at hSw); go_simp; try with_reducible rfl)
    (try simp only [Act.put, List.setIfInBounds_toArray, List.set_cons_zero, List.set_cons_succ])
    refine wpAnyH_take (i := 3) (oi := ?oi2) (v := ?v2) (fuel := 6) ?hi2 ?hs2 ?hf2 ?hr2 ?hq2 (Or.inl ⟨?hw2, ?hy2⟩) hHeld ?rest2
    case hi2 => rw [List.getElem?_toArray]; rfl
    case hq2 => exact fun _ _ _ h => h
    case hs2 | hf2 | hr2 => kernel_rfl
    case hw2 => rfl
    case hy2 => (intro w1 hSw; (try dsimp only at hSw); go_simp; try with_reducible rfl)
    (try simp only [Act.put, List.setIfInBounds_toArray, List.set_cons_zero, List.set_cons_succ])
    refine wpAnyH_take (i := 4) (oi := ?oi3) (v := ?v3) (fuel := 5) ?hi3 ?hs3 ?hf3 ?hr3 ?hq3 (Or.inl ⟨?hw3, ?hy3⟩) hHeld ?rest3
    case hi3 => rw [List.getElem?_toArray]; rfl
    case hq3 => exact fun _ _ _ h => h
    case hs3 | hf3 | hr3 => kernel_rfl
    case hw3 => rfl
    case hy3 => (intro w1 hSw; (try dsimp only at hSw); go_simp; try with_reducible rfl)
    (try simp only [Act.put, List.setIfInBounds_toArray, List.set_cons_zero, List.set_cons_succ])
    refine wpAnyH_ready (fuel := 4) (rs := [1]) (by kernel_rfl) (by simp) ?_
    refine AllReadyH.cons (o := ?oi4) ?hi4 (fun K hK => ?st4) AllReadyH.nil
    case hi4 => rw [List.getElem?_toArray]; rfl
    go_simp
    refine hK.out _ _ ?hS4 (fun hHeld => ?re4)
    case hS4 => first | exact ⟨(RBox.box hX.out).c0, (RBox.box hX.out).c1, (RBox.box hX.out).c2, (RBox.box hX.out).c3, (RBox.box hY.out).c0, (RBox.box hY.out).c1, (RBox.box hY.out).c2, (RBox.box hY.out).c3⟩ | exact ⟨(RBox.box (hX.out.alloc _)).c0, (RBox.box (hX.out.alloc _)).c1, (RBox.box (hX.out.alloc _)).c2, (RBox.box (hX.out.alloc _)).c3, (RBox.box (hY.out.alloc _)).c0, (RBox.box (hY.out.alloc _)).c1, (RBox.box (hY.out.alloc _)).c2, (RBox.box (hY.out.alloc _)).c3⟩
    clear hK K
    (try simp only [Act.put, List.setIfInBounds_toArray, List.set_cons_zero, List.set_cons_succ])
    refine wpAnyH_ready (fuel := 3) (rs := [2]) (by kernel_rfl) (by simp) ?_
    refine AllReadyH.cons (o := ?oi5) ?hi5 (fun K hK => ?st5) AllReadyH.nil
    case hi5 => rw [List.getElem?_toArray]; rfl
    go_simp
    refine (one_k hK3.out.rs (by omega) [1, 2, 3, 4, 5, 6, 7, 8, 9, 10, 11, 2, 3, 12] 3 (by decide) (by decide)).mono ?_
    rintro e w8 ⟨v8, hv8, rfl, k8⟩
    obtain ⟨op, rfl⟩ : ∃ m : Nat, v8 = m := ⟨v8.toNat, by simp only [List.mem_cons, List.not_mem_nil, or_false] at hv8; omega⟩
    have hop : 1 ≤ op ∧ op ≤ 12 := by simp only [List.mem_cons, List.not_mem_nil, or_false] at hv8; omega
    have hbel := hid (BA.out.trans ((hK3.out.draw k8).rs.bel.mono (show w.heap.size ≤ wA.heap.size by omega)))
    have tP := hid (hP.out.kept (by omega) k8)
    have tQ := hid (hQ.out.kept (by omega) k8)
    have tX := hid (hX.out.kept (by omega) k8)
    have tY := hid (hY.out.kept (by omega) k8)
    clear hP hQ hX hY
    have hP := tP
    have hQ := tQ
    have hX := tX
    have hY := tY
    clear tP tQ tX tY
    clear k8 hK3 hv8
    go_wp2_with fail
    refine hK.out _ _ ?hS5 (fun hHeld => ?re5)
    case hS5 => first | exact ⟨(RBox.box hX.out).c0, (RBox.box hX.out).c1, (RBox.box hX.out).c2, (RBox.box hX.out).c3, (RBox.box hY.out).c0, (RBox.box hY.out).c1, (RBox.box hY.out).c2, (RBox.box hY.out).c3⟩ | exact ⟨(RBox.box (hX.out.alloc _)).c0, (RBox.box (hX.out.alloc _)).c1, (RBox.box (hX.out.alloc _)).c2, (RBox.box (hX.out.alloc _)).c3, (RBox.box (hY.out.alloc _)).c0, (RBox.box (hY.out.alloc _)).c1, (RBox.box (hY.out.alloc _)).c2, (RBox.box (hY.out.alloc _)).c3⟩
    clear hK K
    (try simp only [Act.put, List.setIfInBounds_toArray, List.set_cons_zero, List.set_cons_succ])
    refine wpAnyH_take (i := 5) (oi := ?oi6) (v := ?v6) (fuel := 2) ?hi6 ?hs6 ?hf6 ?hr6 ?hq6 (Or.inl ⟨?hw6, ?hy6⟩) hHeld ?rest6
    case hi6 => rw [List.getElem?_toArray]; rfl
    case hq6 => exact fun _ _ _ h => h
    case hs6 | hf6 | hr6 => kernel_rfl
    case hw6 => rfl
    case hy6 => (intro w1 hSw; (try dsimp only at hSw); go_simp; try with_reducible rfl)
    (try simp only [Act.put, List.setIfInBounds_toArray, List.set_cons_zero, List.set_cons_succ])
    refine wpAnyH_ready (fuel := 1) (rs := [6]) (by kernel_rfl) (by simp) ?_
    refine AllReadyH.cons (o := ?oi7) ?hi7 (fun K hK => ?st7) AllReadyH.nil
    case hi7 => rw [List.getElem?_toArray]; rfl
    obtain ⟨g0, g1, g2, g3⟩ := RBox.box hP.out
    have fq := RBox.frozen hP.out
    go_simp
    clear g0 g1 g2 g3 fq
    have tP := hid (hP.out.st4 (x' := (lo : Nat)) (y' := (hi : Nat)) (z' := (b : Nat)) (u' := (o : Nat)))
    have tQ := hid (hQ.out.st4o (k := w.heap.size) (by omega) (lo : Nat) (hi : Nat) (b : Nat) (o : Nat))
    have tX := hid (hX.out.st4o (k := w.heap.size) (by omega) (lo : Nat) (hi : Nat) (b : Nat) (o : Nat))
    have tY := hid (hY.out.st4o (k := w.heap.size) (by omega) (lo : Nat) (hi : Nat) (b : Nat) (o : Nat))
    have tbel := hid (st4_below w.heap.size (lo : Nat) (hi : Nat) (b : Nat) (o : Nat) hbel.out (by omega))
    clear hP hQ hX hY hbel
    have hP := tP
    have hQ := tQ
    have hX := tX
    have hY := tY
    have hbel := tbel
    clear tP tQ tX tY tbel
    unfold Go.Proofs.Ytnebjocnbfoafaa.st4 at hP hQ hX hY hbel
    generalize ((((w8.setCell ⟨w.heap.size, 0, none⟩ (.int .i64 (lo : Nat))).setCell ⟨w.heap.size, 1, none⟩ (.int .i64 (hi : Nat))).setCell ⟨w.heap.size, 2, none⟩ (.int .i64 (b : Nat))).setCell ⟨w.heap.size, 3, none⟩ (.int .i64 (o : Nat))) = w9 at *
    refine hK.out _ _ ?hS7 (fun hHeld => ?re7)
    case hS7 => first | exact ⟨(RBox.box hX.out).c0, (RBox.box hX.out).c1, (RBox.box hX.out).c2, (RBox.box hX.out).c3, (RBox.box hY.out).c0, (RBox.box hY.out).c1, (RBox.box hY.out).c2, (RBox.box hY.out).c3⟩ | exact ⟨(RBox.box (hX.out.alloc _)).c0, (RBox.box (hX.out.alloc _)).c1, (RBox.box (hX.out.alloc _)).c2, (RBox.box (hX.out.alloc _)).c3, (RBox.box (hY.out.alloc _)).c0, (RBox.box (hY.out.alloc _)).c1, (RBox.box (hY.out.alloc _)).c2, (RBox.box (hY.out.alloc _)).c3⟩
    clear hK K
    (try simp only [Act.put, List.setIfInBounds_toArray, List.set_cons_zero, List.set_cons_succ])
    refine wpAnyH_ready (fuel := 0) (rs := [7]) (by kernel_rfl) (by simp) ?_
    refine AllReadyH.cons (o := ?oi8) ?hi8 (fun K hK => ?st8) AllReadyH.nil
    case hi8 => rw [List.getElem?_toArray]; rfl
    obtain ⟨g0, g1, g2, g3⟩ := RBox.box hQ.out
    have fq := RBox.frozen hQ.out
    go_simp
    clear g0 g1 g2 g3 fq
    have tP := hid (hP.out.st4o (k := (w.heap.size + 1)) (by omega) (lo4 : Nat) (hi4 : Nat) (b4 : Nat) (o4 : Nat))
    have tQ := hid (hQ.out.st4 (x' := (lo4 : Nat)) (y' := (hi4 : Nat)) (z' := (b4 : Nat)) (u' := (o4 : Nat)))
    have tX := hid (hX.out.st4o (k := (w.heap.size + 1)) (by omega) (lo4 : Nat) (hi4 : Nat) (b4 : Nat) (o4 : Nat))
    have tY := hid (hY.out.st4o (k := (w.heap.size + 1)) (by omega) (lo4 : Nat) (hi4 : Nat) (b4 : Nat) (o4 : Nat))
    have tbel := hid (st4_below (w.heap.size + 1) (lo4 : Nat) (hi4 : Nat) (b4 : Nat) (o4 : Nat) hbel.out (by omega))
    clear hP hQ hX hY hbel
    have hP := tP
    have hQ := tQ
    have hX := tX
    have hY := tY
    have hbel := tbel
    clear tP tQ tX tY tbel
    unfold Go.Proofs.Ytnebjocnbfoafaa.st4 at hP hQ hX hY hbel
    generalize ((((w9.setCell ⟨(w.heap.size + 1), 0, none⟩ (.int .i64 (lo4 : Nat))).setCell ⟨(w.heap.size + 1), 1, none⟩ (.int .i64 (hi4 : Nat))).setCell ⟨(w.heap.size + 1), 2, none⟩ (.int .i64 (b4 : Nat))).setCell ⟨(w.heap.size + 1), 3, none⟩ (.int .i64 (o4 : Nat))) = w10 at *
    refine hK.out _ _ ?hS8 (fun hHeld => ?re8)
    case hS8 => first | exact ⟨(RBox.box hX.out).c0, (RBox.box hX.out).c1, (RBox.box hX.out).c2, (RBox.box hX.out).c3, (RBox.box hY.out).c0, (RBox.box hY.out).c1, (RBox.box hY.out).c2, (RBox.box hY.out).c3⟩ | exact ⟨(RBox.box (hX.out.alloc _)).c0, (RBox.box (hX.out.alloc _)).c1, (RBox.box (hX.out.alloc _)).c2, (RBox.box (hX.out.alloc _)).c3, (RBox.box (hY.out.alloc _)).c0, (RBox.box (hY.out.alloc _)).c1, (RBox.box (hY.out.alloc _)).c2, (RBox.box (hY.out.alloc _)).c3⟩
    clear hK K
    (try simp only [Act.put, List.setIfInBounds_toArray, List.set_cons_zero, List.set_cons_succ])
    refine wpAnyH_done (by kernel_rfl) ?_ _
    clear hHeld
    obtain ⟨p0, p1, p2, p3⟩ := RBox.box hP.out
    obtain ⟨r0, r1, r2, r3⟩ := RBox.box hQ.out
    go_wp2_with fail
    refine bodyPost_ret (v := .tuple #[.int .i64 op, rv lo hi b o, rv lo4 hi4 b4 o4]) (by simp [results, Try.results5, go_sem, p0, p1, p2, p3, r0, r1, r2, r3]) rfl ⟨op, lo, hi, b, o, lo4, hi4, b4, o4, rfl, hop, hok, les4, hbel.out⟩
  have d0 : ((kk : Int) == 0) = false := by simp; omega
  go_wp2_with fail
  refine wp_region_held_drew (S := (fun w' => w'.cell? ⟨X, 0, none⟩ = some (.int .i64 (lo : Nat)) ∧ w'.cell? ⟨X, 1, none⟩ = some (.int .i64 (hi : Nat)) ∧ w'.cell? ⟨X, 2, none⟩ = some (.int .i64 (b : Nat)) ∧ w'.cell? ⟨X, 3, none⟩ = some (.int .i64 (o : Nat)) ∧ w'.cell? ⟨Y, 0, none⟩ = some (.int .i64 (lo' : Nat)) ∧ w'.cell? ⟨Y, 1, none⟩ = some (.int .i64 (hi' : Nat)) ∧ w'.cell? ⟨Y, 2, none⟩ = some (.int .i64 (b' : Nat)) ∧ w'.cell? ⟨Y, 3, none⟩ = some (.int .i64 (o' : Nat)))) (by kernel_rfl) (by exact ⟨(RBox.box X4.out).c0, (RBox.box X4.out).c1, (RBox.box X4.out).c2, (RBox.box X4.out).c3, (RBox.box Y4.out).c0, (RBox.box Y4.out).c1, (RBox.box Y4.out).c2, (RBox.box Y4.out).c3⟩) (fun hHeld => ?_)
  have hP := hid (RBox.drew P4.out)
  have hQ := hid (RBox.drew Q4.out)
  have hX := hid (RBox.drew X4.out)
  have hY := hid (RBox.drew Y4.out)
  have hK3 := hid (K3.drew H4.out)
  clear P4 Q4 X4 Y4 H4
  generalize w4.drew = W1 at *
  refine wpAnyH_take (i := 0) (oi := ?oi9) (v := ?v9) (fuel := 7) ?hi9 ?hs9 ?hf9 ?hr9 ?hq9 (Or.inl ⟨?hw9, ?hy9⟩) hHeld ?rest9
  case hi9 => rw [List.getElem?_toArray]; rfl
  case hq9 => exact fun _ _ _ h => h
  case hs9 | hf9 | hr9 => kernel_rfl
  case hw9 => rfl
  case hy9 => (intro w1 hSw; (try dsimp only at hSw); go_simp; try with_reducible rfl)
  (try simp only [Act.put, List.setIfInBounds_toArray, List.set_cons_zero, List.set_cons_succ])
  refine wpAnyH_take (i := 3) (oi := ?oi10) (v := ?v10) (fuel := 6) ?hi10 ?hs10 ?hf10 ?hr10 ?hq10 (Or.inl ⟨?hw10, ?hy10⟩) hHeld ?rest10
  case hi10 => rw [List.getElem?_toArray]; rfl
  case hq10 => exact fun _ _ _ h => h
  case hs10 | hf10 | hr10 => kernel_rfl
  case hw10 => rfl
  case hy10 => (intro w1 hSw; (try dsimp only at hSw); go_simp; try with_reducible rfl)
  (try simp only [Act.put, List.setIfInBounds_toArray, List.set_cons_zero, List.set_cons_succ])
  refine wpAnyH_take (i := 4) (oi := ?oi11) (v := ?v11) (fuel := 5) ?hi11 ?hs11 ?hf11 ?hr11 ?hq11 (Or.inl ⟨?hw11, ?hy11⟩) hHeld ?rest11
  case hi11 => rw [List.getElem?_toArray]; rfl
  case hq11 => exact fun _ _ _ h => h
  case hs11 | hf11 | hr11 => kernel_rfl
  case hw11 => rfl
  case hy11 => (intro w1 hSw; (try dsimp only at hSw); go_simp; try with_reducible rfl)
  (try simp only [Act.put, List.setIfInBounds_toArray, List.set_cons_zero, List.set_cons_succ])
  refine wpAnyH_ready (fuel := 4) (rs := [1]) (by kernel_rfl) (by simp) ?_
  refine AllReadyH.cons (o := ?oi12) ?hi12 (fun K hK => ?st12) AllReadyH.nil
  case hi12 => rw [List.getElem?_toArray]; rfl
  go_simp
  refine hK.out _ _ ?hS12 (fun hHeld => ?re12)
  case hS12 => first | exact ⟨(RBox.box hX.out).c0, (RBox.box hX.out).c1, (RBox.box hX.out).c2, (RBox.box hX.out).c3, (RBox.box hY.out).c0, (RBox.box hY.out).c1, (RBox.box hY.out).c2, (RBox.box hY.out).c3⟩ | exact ⟨(RBox.box (hX.out.alloc _)).c0, (RBox.box (hX.out.alloc _)).c1, (RBox.box (hX.out.alloc _)).c2, (RBox.box (hX.out.alloc _)).c3, (RBox.box (hY.out.alloc _)).c0, (RBox.box (hY.out.alloc _)).c1, (RBox.box (hY.out.alloc _)).c2, (RBox.box (hY.out.alloc _)).c3⟩
  clear hK K
  (try simp only [Act.put, List.setIfInBounds_toArray, List.set_cons_zero, List.set_cons_succ])
  refine wpAnyH_ready (fuel := 3) (rs := [2]) (by kernel_rfl) (by simp) ?_
  refine AllReadyH.cons (o := ?oi13) ?hi13 (fun K hK => ?st13) AllReadyH.nil
  case hi13 => rw [List.getElem?_toArray]; rfl
  go_simp
  refine (one_k hK3.out.rs (by omega) [1, 2, 3, 4, 5, 6, 7, 8, 9, 10, 11, 2, 3, 12] 3 (by decide) (by decide)).mono ?_
  rintro e w8 ⟨v8, hv8, rfl, k8⟩
  obtain ⟨op, rfl⟩ : ∃ m : Nat, v8 = m := ⟨v8.toNat, by simp only [List.mem_cons, List.not_mem_nil, or_false] at hv8; omega⟩
  have hop : 1 ≤ op ∧ op ≤ 12 := by simp only [List.mem_cons, List.not_mem_nil, or_false] at hv8; omega
  have hbel := hid (BA.out.trans ((hK3.out.draw k8).rs.bel.mono (show w.heap.size ≤ wA.heap.size by omega)))
  have tP := hid (hP.out.kept (by omega) k8)
  have tQ := hid (hQ.out.kept (by omega) k8)
  have tX := hid (hX.out.kept (by omega) k8)
  have tY := hid (hY.out.kept (by omega) k8)
  clear hP hQ hX hY
  have hP := tP
  have hQ := tQ
  have hX := tX
  have hY := tY
  clear tP tQ tX tY
  clear k8 hK3 hv8
  go_wp2_with fail
  refine hK.out _ _ ?hS13 (fun hHeld => ?re13)
  case hS13 => first | exact ⟨(RBox.box hX.out).c0, (RBox.box hX.out).c1, (RBox.box hX.out).c2, (RBox.box hX.out).c3, (RBox.box hY.out).c0, (RBox.box hY.out).c1, (RBox.box hY.out).c2, (RBox.box hY.out).c3⟩ | exact ⟨(RBox.box (hX.out.alloc _)).c0, (RBox.box (hX.out.alloc _)).c1, (RBox.box (hX.out.alloc _)).c2, (RBox.box (hX.out.alloc _)).c3, (RBox.box (hY.out.alloc _)).c0, (RBox.box (hY.out.alloc _)).c1, (RBox.box (hY.out.alloc _)).c2, (RBox.box (hY.out.alloc _)).c3⟩
  clear hK K
  (try simp only [Act.put, List.setIfInBounds_toArray, List.set_cons_zero, List.set_cons_succ])
  refine wpAnyH_take (i := 5) (oi := ?oi14) (v := ?v14) (fuel := 2) ?hi14 ?hs14 ?hf14 ?hr14 ?hq14 (Or.inl ⟨?hw14, ?hy14⟩) hHeld ?rest14
  case hi14 => rw [List.getElem?_toArray]; rfl
  case hq14 => exact fun _ _ _ h => h
  case hs14 | hf14 | hr14 => kernel_rfl
  case hw14 => rfl
  case hy14 => (intro w1 hSw; (try dsimp only at hSw); go_simp; try with_reducible rfl)
  (try simp only [Act.put, List.setIfInBounds_toArray, List.set_cons_zero, List.set_cons_succ])
  refine wpAnyH_ready (fuel := 1) (rs := [6]) (by kernel_rfl) (by simp) ?_
  refine AllReadyH.cons (o := ?oi15) ?hi15 (fun K hK => ?st15) AllReadyH.nil
  case hi15 => rw [List.getElem?_toArray]; rfl
  obtain ⟨g0, g1, g2, g3⟩ := RBox.box hP.out
  have fq := RBox.frozen hP.out
  go_simp
  clear g0 g1 g2 g3 fq
  have tP := hid (hP.out.st4 (x' := (lo : Nat)) (y' := (hi : Nat)) (z' := (b : Nat)) (u' := (o : Nat)))
  have tQ := hid (hQ.out.st4o (k := w.heap.size) (by omega) (lo : Nat) (hi : Nat) (b : Nat) (o : Nat))
  have tX := hid (hX.out.st4o (k := w.heap.size) (by omega) (lo : Nat) (hi : Nat) (b : Nat) (o : Nat))
  have tY := hid (hY.out.st4o (k := w.heap.size) (by omega) (lo : Nat) (hi : Nat) (b : Nat) (o : Nat))
  have tbel := hid (st4_below w.heap.size (lo : Nat) (hi : Nat) (b : Nat) (o : Nat) hbel.out (by omega))
  clear hP hQ hX hY hbel
  have hP := tP
  have hQ := tQ
  have hX := tX
  have hY := tY
  have hbel := tbel
  clear tP tQ tX tY tbel
  unfold Go.Proofs.Ytnebjocnbfoafaa.st4 at hP hQ hX hY hbel
  generalize ((((w8.setCell ⟨w.heap.size, 0, none⟩ (.int .i64 (lo : Nat))).setCell ⟨w.heap.size, 1, none⟩ (.int .i64 (hi : Nat))).setCell ⟨w.heap.size, 2, none⟩ (.int .i64 (b : Nat))).setCell ⟨w.heap.size, 3, none⟩ (.int .i64 (o : Nat))) = w9 at *
  refine hK.out _ _ ?hS15 (fun hHeld => ?re15)
  case hS15 => first | exact ⟨(RBox.box hX.out).c0, (RBox.box hX.out).c1, (RBox.box hX.out).c2, (RBox.box hX.out).c3, (RBox.box hY.out).c0, (RBox.box hY.out).c1, (RBox.box hY.out).c2, (RBox.box hY.out).c3⟩ | exact ⟨(RBox.box (hX.out.alloc _)).c0, (RBox.box (hX.out.alloc _)).c1, (RBox.box (hX.out.alloc _)).c2, (RBox.box (hX.out.alloc _)).c3, (RBox.box (hY.out.alloc _)).c0, (RBox.box (hY.out.alloc _)).c1, (RBox.box (hY.out.alloc _)).c2, (RBox.box (hY.out.alloc _)).c3⟩
  clear hK K
  (try simp only [Act.put, List.setIfInBounds_toArray, List.set_cons_zero, List.set_cons_succ])
  refine wpAnyH_ready (fuel := 0) (rs := [7]) (by kernel_rfl) (by simp) ?_
  refine AllReadyH.cons (o := ?oi16) ?hi16 (fun K hK => ?st16) AllReadyH.nil
  case hi16 => rw [List.getElem?_toArray]; rfl
  obtain ⟨g0, g1, g2, g3⟩ := RBox.box hQ.out
  have fq := RBox.frozen hQ.out
  go_simp
  clear g0 g1 g2 g3 fq
  have tP := hid (hP.out.st4o (k := (w.heap.size + 1)) (by omega) (lo' : Nat) (hi' : Nat) (b' : Nat) (o' : Nat))
  have tQ := hid (hQ.out.st4 (x' := (lo' : Nat)) (y' := (hi' : Nat)) (z' := (b' : Nat)) (u' := (o' : Nat)))
  have tX := hid (hX.out.st4o (k := (w.heap.size + 1)) (by omega) (lo' : Nat) (hi' : Nat) (b' : Nat) (o' : Nat))
  have tY := hid (hY.out.st4o (k := (w.heap.size + 1)) (by omega) (lo' : Nat) (hi' : Nat) (b' : Nat) (o' : Nat))
  have tbel := hid (st4_below (w.heap.size + 1) (lo' : Nat) (hi' : Nat) (b' : Nat) (o' : Nat) hbel.out (by omega))
  clear hP hQ hX hY hbel
  have hP := tP
  have hQ := tQ
  have hX := tX
  have hY := tY
  have hbel := tbel
  clear tP tQ tX tY tbel
  unfold Go.Proofs.Ytnebjocnbfoafaa.st4 at hP hQ hX hY hbel
  generalize ((((w9.setCell ⟨(w.heap.size + 1), 0, none⟩ (.int .i64 (lo' : Nat))).setCell ⟨(w.heap.size + 1), 1, none⟩ (.int .i64 (hi' : Nat))).setCell ⟨(w.heap.size + 1), 2, none⟩ (.int .i64 (b' : Nat))).setCell ⟨(w.heap.size + 1), 3, none⟩ (.int .i64 (o' : Nat))) = w10 at *
  refine hK.out _ _ ?hS16 (fun hHeld => ?re16)
  case hS16 => first | exact ⟨(RBox.box hX.out).c0, (RBox.box hX.out).c1, (RBox.box hX.out).c2, (RBox.box hX.out).c3, (RBox.box hY.out).c0, (RBox.box hY.out).c1, (RBox.box hY.out).c2, (RBox.box hY.out).c3⟩ | exact ⟨(RBox.box (hX.out.alloc _)).c0, (RBox.box (hX.out.alloc _)).c1, (RBox.box (hX.out.alloc _)).c2, (RBox.box (hX.out.alloc _)).c3, (RBox.box (hY.out.alloc _)).c0, (RBox.box (hY.out.alloc _)).c1, (RBox.box (hY.out.alloc _)).c2, (RBox.box (hY.out.alloc _)).c3⟩
  clear hK K
  (try simp only [Act.put, List.setIfInBounds_toArray, List.set_cons_zero, List.set_cons_succ])
  refine wpAnyH_done (by kernel_rfl) ?_ _
  clear hHeld
  obtain ⟨p0, p1, p2, p3⟩ := RBox.box hP.out
  obtain ⟨r0, r1, r2, r3⟩ := RBox.box hQ.out
  go_wp2_with fail
  refine bodyPost_ret (v := .tuple #[.int .i64 op, rv lo hi b o, rv lo' hi' b' o']) (by simp [results, Try.results5, go_sem, p0, p1, p2, p3, r0, r1, r2, r3]) rfl ⟨op, lo, hi, b, o, lo', hi', b', o', rfl, hop, hok, ⟨hok'.lo, hok'.hi, hok'.b, hok'.o⟩, hbel.out⟩
end Go.Proofs.Ytnebjocnbfoafaa
