/- The law FnOfOne, drawn. -/
import Derived.Test.YtnebjocnbfoafaaOI
import Derived.Test.YtnebjocnbfoafaaOJ
namespace Go.Proofs.Ytnebjocnbfoafaa
open Go.RowKit
set_option linter.unusedVariables false
set_option linter.unusedSimpArgs false

theorem Below.to' {w w' w'' : World} (h : Below w.heap.size w w') (hb : Below w'.heap.size w' w'') : Below w.heap.size w w'' := h.trans (hb.mono h.size)
theorem l2Some_i (lo hi b o : Nat) (K : OkN lo hi b o) (v : Bool) (h : someN lo hi b o = v) : CR 26 #[rv lo hi b o] (.bool v) := fun w => by
  have := c_l2Some lo hi b o w K
  rw [h] at this
  exact this
theorem ok_cases (lo hi b o : Nat) (les : lo ≤ 4294967295 ∧ hi ≤ 4294967295 ∧ b ≤ 4294967295 ∧ o ≤ 4294967295) : okB lo hi b o = false ∨ OkN lo hi b o := by
  cases h : okB (lo : Int) hi b o
  · exact .inl rfl
  · obtain ⟨L, H, B, O, e1, e2, e3, e4, k⟩ := ok_nat h
    obtain rfl : lo = L := by omega
    obtain rfl : hi = H := by omega
    obtain rfl : b = B := by omega
    obtain rfl : o = O := by omega
    exact .inr k
/-- Whatever is drawn: one answer of both. -/
theorem of_cases (op : Nat) (hop : 1 ≤ op ∧ op ≤ 12) (lo hi b o lo' hi' b' o' : Nat) (A : OkN lo hi b o) (les : lo' ≤ 4294967295 ∧ hi' ≤ 4294967295 ∧ b' ≤ 4294967295 ∧ o' ≤ 4294967295) :
    (∃ x y z u m n, Res op lo hi b o lo' hi' b' o' x y z u ∧ op ≤ 11 ∧ OkN lo' hi' b' o' ∧ nextN lo b o = (m : Nat) ∧ OfN lo hi b o m ∧ nextN lo' b' o' = (n : Nat) ∧ OfN lo' hi' b' o' n) ∨
    (CR 6 #[.int .i64 op, rv lo hi b o, rv lo' hi' b' o'] (rv 1 0 0 0) ∧ CR 7 #[.int .i64 op, rv lo hi b o, rv lo' hi' b' o'] (rv 1 0 0 0)) := by
  by_cases h11 : op ≤ 11
  · have hin : inB (op : Int) 1 11 = true := by simp [inB]; omega
    obtain ⟨k, hk⟩ : ∃ k, Looks op k := by
      have hc : op = 1 ∨ op = 2 ∨ op = 3 ∨ op = 4 ∨ op = 5 ∨ op = 6 ∨ op = 7 ∨ op = 8 ∨ op = 9 ∨ op = 10 ∨ op = 11 := by omega
      rcases hc with rfl | rfl | rfl | rfl | rfl | rfl | rfl | rfl | rfl | rfl | rfl
      · exact ⟨_, looks1⟩
      · exact ⟨_, looks2⟩
      · exact ⟨_, looks3⟩
      · exact ⟨_, looks4⟩
      · exact ⟨_, looks5⟩
      · exact ⟨_, looks6⟩
      · exact ⟨_, looks7⟩
      · exact ⟨_, looks8⟩
      · exact ⟨_, looks9⟩
      · exact ⟨_, looks10⟩
      · exact ⟨_, looks11⟩
      
    cases hs : someN lo hi b o
    · refine .inr ⟨fun w => g_of_no2 op k _ _ _ _ _ _ _ _ w hk (by rw [someI_nat A]; exact hs), fun w => ?_⟩
      rcases ok_cases lo' hi' b' o' les with hb | B
      · exact sg_of_no3 op _ _ _ _ _ _ _ _ w hin (okB_of A) hb
      · exact sg_of_no4 op _ _ _ _ _ _ _ _ w hin (okB_of A) (okB_of B) (l2Some_i _ _ _ _ A _ hs)
    · have s1 : someI lo hi b o = true := by rw [someI_nat A]; exact hs
      rcases ok_cases lo' hi' b' o' les with hb | B
      · exact .inr ⟨fun w => g_of_no3 op k _ _ _ _ _ _ _ _ w hk s1 (someI_bad hb), fun w => sg_of_no3 op _ _ _ _ _ _ _ _ w hin (okB_of A) hb⟩
      · cases hs' : someN lo' hi' b' o'
        · exact .inr ⟨fun w => g_of_no3 op k _ _ _ _ _ _ _ _ w hk s1 (by rw [someI_nat B]; exact hs'), fun w => sg_of_no5 op _ _ _ _ _ _ _ _ w hin (okB_of A) (okB_of B) (l2Some_i _ _ _ _ A _ hs) (l2Some_i _ _ _ _ B _ hs')⟩
        · obtain ⟨m, hm, M⟩ := of_some A hs
          obtain ⟨n, hn, N⟩ := of_some B hs'
          obtain ⟨x, y, z, u, R⟩ := of_both op hop.1 h11 A B M N
          exact .inl ⟨x, y, z, u, m, n, R, h11, B, hm, M, hn, N⟩
  · have hout : inB (op : Int) 1 11 = false := by
      cases h : inB (op : Int) 1 11
      · rfl
      · simp [inB] at h; omega
    exact .inr ⟨fun w => g_of_no1 op _ _ _ _ _ _ _ _ w hout, fun w => sg_of_no1 op _ _ _ _ _ _ _ _ w hout⟩
theorem least_is {lo hi b o n : Nat} (A : OkN lo hi b o) (hn : nextN lo b o = (n : Nat)) (N : OfN lo hi b o n) : CR 12 #[rv lo hi b o] (.int .i64 n) := fun w => by
  have := c_RangeLeast lo hi b o w A
  rw [leastR, if_pos (some_of A N), hn] at this
  exact this
/-- Of two numbers that are known. -/
theorem of_ones (op m n : Nat) (h1 : 1 ≤ op) (h2 : op ≤ 11) (hm : m ≤ 4294967295) (hn : n ≤ 4294967295) : CR 6 #[.int .i64 op, rv m m m 0, rv n n n 0] (rv (doN op m n : Nat) (doN op m n : Nat) (doN op m n : Nat) 0) := by
  obtain ⟨k, hk, he⟩ : ∃ k, Looks op k ∧ Enters k := by
    have hc : op = 1 ∨ op = 2 ∨ op = 3 ∨ op = 4 ∨ op = 5 ∨ op = 6 ∨ op = 7 ∨ op = 8 ∨ op = 9 ∨ op = 10 ∨ op = 11 := by omega
    rcases hc with rfl | rfl | rfl | rfl | rfl | rfl | rfl | rfl | rfl | rfl | rfl
    · exact ⟨_, looks1, enters1⟩
    · exact ⟨_, looks2, enters2⟩
    · exact ⟨_, looks3, enters3⟩
    · exact ⟨_, looks4, enters4⟩
    · exact ⟨_, looks5, enters5⟩
    · exact ⟨_, looks6, enters6⟩
    · exact ⟨_, looks7, enters7⟩
    · exact ⟨_, looks8, enters8⟩
    · exact ⟨_, looks9, enters9⟩
    · exact ⟨_, looks10, enters10⟩
    · exact ⟨_, looks11, enters11⟩
    
  obtain ⟨A, M⟩ := one_has hm
  obtain ⟨B, N⟩ := one_has hn
  have MT := tidy_of A M
  have NT := tidy_of B N
  have a1 : tLo m m m = m := by have h1 := MT.lo; have h2 : m ≤ tLo m m m := Nat.le_max_left _ _; omega
  have a2 : tHi m m m 0 = m := by have h1 := MT.hi; have h2 : tHi m m m 0 ≤ m := Nat.min_le_left _ _; omega
  have b1 : tLo n n n = n := by have h1 := NT.lo; have h2 : n ≤ tLo n n n := Nat.le_max_left _ _; omega
  have b2 : tHi n n n 0 = n := by have h1 := NT.hi; have h2 : tHi n n n 0 ≤ n := Nat.min_le_left _ _; omega
  have TA : CR 22 #[rv m m m 0] (rv m m (tB m m m) (tO m m 0)) := fun w => by
    have := c_RangeTidy m m m 0 w A (some_of A M)
    rw [a1, a2] at this
    exact this
  have TB : CR 22 #[rv n n n 0] (rv n n (tB n n n) (tO n n 0)) := fun w => by
    have := c_RangeTidy n n n 0 w B (some_of B N)
    rw [b1, b2] at this
    exact this
  have s1 : someI m m m 0 = true := by have := someI_nat A; rw [some_of A M] at this; exact this
  have s2 : someI n n n 0 = true := by have := someI_nat B; rw [some_of B N] at this; exact this
  have ln := do_le op hm hn
  intro w
  exact g_of_k op k m m m 0 n n n 0 m m _ _ n n _ _ _ _ _ _ _ w he hk s1 s2 TA TB (by simp) (by simp) (do_impl op m n h1 h2 hm hn) (fun w => c_RangeOne _ w (by simp [inB]; omega))
theorem one_i (n : Nat) (h : n ≤ 4294967295) : CR 13 #[.int .i64 n] (rv n n n 0) := fun w => c_RangeOne n w (by simp [inB]; omega)
theorem okR_no : CR 8 #[rv 1 0 0 0] (.bool false) := fun w => c_RangeOk 1 0 0 0 w
theorem okR_yes {x y z u : Nat} (K : OkN x y z u) : CR 8 #[rv x y z u] (.bool true) := fun w => by
  have := c_RangeOk x y z u w
  rw [okB_of K] at this
  exact this

set_option maxRecDepth 100000 in
set_option maxHeartbeats 4000000 in
theorem law_fnOfOne (w : World) (a : Option Addr) (len cap : Nat) (hc : len ≤ cap) (hs : Src w a len) (hl : cap < 2 ^ 63) :
    Calls Try.prog 4 #[.slice a len cap] w fun e w' => e = .returned (.bool true) ∧ Below w.heap.size w w' := by
  have HS := hid hs
  clear hs
  go_enter Try.func4, Try.ntmps4
  go_wp2_with fail
  · go_ret
    exact ⟨rfl, Below.refl _ _⟩
  refine (drawRangeOf_s w a len cap hc HS.out hl).mono ?_
  rintro e w1 ⟨op, lo, hi, b, o, lo', hi', b', o', rfl, hop, hA, les, hb1⟩
  have bel1 := hid hb1
  clear hb1
  rcases of_cases op hop lo hi b o lo' hi' b' o' hA les with ⟨x, y, z, u, m, n, R, h11, hB, em, M, en, N⟩ | ⟨b1, b2⟩
  rotate_left
  · have B1 := hid b1
    have B2 := hid b2
    have B3 := hid okR_no
    clear b1 b2 hA les HS
    go_wp2_with fail
    have bX2 := hid ((RBox.new w1 (lo) (hi) (b) (o)).alloc (cellsR4 (lo') (hi') (b') (o')))
    have bY2 : Hid (RBox ((w1.alloc (cellsR4 (lo) (hi) (b) (o))).alloc (cellsR4 (lo') (hi') (b') (o'))) (w1.heap.size + 1) (lo') (hi') (b') (o')) := by
      have h0 := RBox.new (w1.alloc (cellsR4 (lo) (hi) (b) (o))) (lo') (hi') (b') (o')
      simp only [World.size_alloc] at h0
      exact h0
    have bel2 := hid (bel1.out.to (newB w1 (cellsR4 (lo) (hi) (b) (o)) (cellsR4 (lo') (hi') (b') (o'))))
    have leX := bel1.out.size
    clear bel1
    generalize (w1.alloc (cellsR4 (lo) (hi) (b) (o))).alloc (cellsR4 (lo') (hi') (b') (o')) = w2 at *
    generalize w1.heap.size = X at *
    refine (B1.out _).mono ?_
    rintro e w3 ⟨rfl, hb3⟩
    have bX3 := hid (bX2.out.below hb3)
    have bY3 := hid (bY2.out.below hb3)
    have bel3 := hid (bel2.out.to hb3)
    clear hb3 bX2 bY2 bel2
    go_wp2_with fail
    have bX4 := hid (bX3.out.alloc (cellsR4 (1) (0) (0) (0)))
    have neZX := RBox.lt bX3.out
    have bY4 := hid (bY3.out.alloc (cellsR4 (1) (0) (0) (0)))
    have neZY := RBox.lt bY3.out
    have bZ4 := hid (RBox.new w3 (1) (0) (0) (0))
    have bel4 := hid (bel3.out.alloc bel3.out.size (cellsR4 (1) (0) (0) (0)))
    have leZ := bel3.out.size
    clear bX3 bY3 bel3
    generalize w3.alloc (cellsR4 (1) (0) (0) (0)) = w4 at *
    generalize w3.heap.size = Z at *
    refine wp_region_held_drew (S := (fun w' => w'.cell? ⟨X, 0, none⟩ = some (.int .i64 (lo)) ∧ w'.cell? ⟨X, 1, none⟩ = some (.int .i64 (hi)) ∧ w'.cell? ⟨X, 2, none⟩ = some (.int .i64 (b)) ∧ w'.cell? ⟨X, 3, none⟩ = some (.int .i64 (o)) ∧ w'.cell? ⟨X + 1, 0, none⟩ = some (.int .i64 (lo')) ∧ w'.cell? ⟨X + 1, 1, none⟩ = some (.int .i64 (hi')) ∧ w'.cell? ⟨X + 1, 2, none⟩ = some (.int .i64 (b')) ∧ w'.cell? ⟨X + 1, 3, none⟩ = some (.int .i64 (o')) ∧ w'.cell? ⟨Z, 0, none⟩ = some (.int .i64 (1)) ∧ w'.cell? ⟨Z, 1, none⟩ = some (.int .i64 (0)) ∧ w'.cell? ⟨Z, 2, none⟩ = some (.int .i64 (0)) ∧ w'.cell? ⟨Z, 3, none⟩ = some (.int .i64 (0)))) (by kernel_rfl) (by exact ⟨(RBox.box bX4.out).c0, (RBox.box bX4.out).c1, (RBox.box bX4.out).c2, (RBox.box bX4.out).c3, (RBox.box bY4.out).c0, (RBox.box bY4.out).c1, (RBox.box bY4.out).c2, (RBox.box bY4.out).c3, (RBox.box bZ4.out).c0, (RBox.box bZ4.out).c1, (RBox.box bZ4.out).c2, (RBox.box bZ4.out).c3⟩) (fun hHeld => ?_)
    have hX := hid (RBox.drew bX4.out)
    have hY := hid (RBox.drew bY4.out)
    have hZ := hid (RBox.drew bZ4.out)
    have hbel := hid (Below.drew bel4.out)
    clear bX4 bY4 bZ4 bel4
    generalize w4.drew = W1 at *
    refine wpAnyH_take (i := 0) (oi := ?oi1) (v := ?v1) (fuel := 10) ?hi1 ?hs1 ?hf1 ?hr1 ?hq1 (Or.inl ⟨?hw1, ?hy1⟩) hHeld ?rest1
    case hi1 => rw [List.getElem?_toArray]; rfl
    case hq1 => exact fun _ _ _ h => h
    case hs1 | hf1 | hr1 => kernel_rfl
    case hw1 => rfl
    case hy1 => (intro w1 hSw; (try dsimp only at hSw); go_simp; try with_reducible rfl)
    (try simp only [Act.put, List.setIfInBounds_toArray, List.set_cons_zero, List.set_cons_succ])
    refine wpAnyH_take (i := 1) (oi := ?oi2) (v := ?v2) (fuel := 9) ?hi2 ?hs2 ?hf2 ?hr2 ?hq2 (Or.inl ⟨?hw2, ?hy2⟩) hHeld ?rest2
    case hi2 => rw [List.getElem?_toArray]; rfl
    case hq2 => exact fun _ _ _ h => h
    case hs2 | hf2 | hr2 => kernel_rfl
    case hw2 => rfl
    case hy2 => (intro w1 hSw; (try dsimp only at hSw); go_simp; try with_reducible rfl)
    (try simp only [Act.put, List.setIfInBounds_toArray, List.set_cons_zero, List.set_cons_succ])
    refine wpAnyH_take (i := 2) (oi := ?oi3) (v := ?v3) (fuel := 8) ?hi3 ?hs3 ?hf3 ?hr3 ?hq3 (Or.inl ⟨?hw3, ?hy3⟩) hHeld ?rest3
    case hi3 => rw [List.getElem?_toArray]; rfl
    case hq3 => exact fun _ _ _ h => h
    case hs3 | hf3 | hr3 => kernel_rfl
    case hw3 => rfl
    case hy3 => (intro w1 hSw; (try dsimp only at hSw); go_simp; try with_reducible rfl)
    (try simp only [Act.put, List.setIfInBounds_toArray, List.set_cons_zero, List.set_cons_succ])
    refine wpAnyH_take (i := 3) (oi := ?oi4) (v := ?v4) (fuel := 7) ?hi4 ?hs4 ?hf4 ?hr4 ?hq4 (Or.inl ⟨?hw4, ?hy4⟩) hHeld ?rest4
    case hi4 => rw [List.getElem?_toArray]; rfl
    case hq4 => exact fun _ _ _ h => h
    case hs4 | hf4 | hr4 => kernel_rfl
    case hw4 => rfl
    case hy4 => (intro w1 hSw; (try dsimp only at hSw); go_simp; try with_reducible rfl)
    (try simp only [Act.put, List.setIfInBounds_toArray, List.set_cons_zero, List.set_cons_succ])
    refine wpAnyH_ready (fuel := 6) (rs := [4]) (by kernel_rfl) (by simp) ?_
    refine AllReadyH.cons (o := ?oi5) ?hi5 (fun K hK => ?st5) AllReadyH.nil
    case hi5 => rw [List.getElem?_toArray]; rfl
    go_simp
    refine (B2.out _).mono ?_
    rintro ee wr4 ⟨rfl, hbn⟩
    replace hX := hid (hX.out.below hbn)
    replace hY := hid (hY.out.below hbn)
    replace hZ := hid (hZ.out.below hbn)
    replace hbel := hid (hbel.out.to hbn)
    clear hbn
    go_wp2_with fail
    refine hK.out _ _ ?hS5 (fun hHeld => ?re5)
    case hS5 => exact ⟨(RBox.box hX.out).c0, (RBox.box hX.out).c1, (RBox.box hX.out).c2, (RBox.box hX.out).c3, (RBox.box hY.out).c0, (RBox.box hY.out).c1, (RBox.box hY.out).c2, (RBox.box hY.out).c3, (RBox.box hZ.out).c0, (RBox.box hZ.out).c1, (RBox.box hZ.out).c2, (RBox.box hZ.out).c3⟩
    clear hK K
    (try simp only [Act.put, List.setIfInBounds_toArray, List.set_cons_zero, List.set_cons_succ])
    refine wpAnyH_take (i := 5) (oi := ?oi6) (v := ?v6) (fuel := 5) ?hi6 ?hs6 ?hf6 ?hr6 ?hq6 (Or.inl ⟨?hw6, ?hy6⟩) hHeld ?rest6
    case hi6 => rw [List.getElem?_toArray]; rfl
    case hq6 => exact fun _ _ _ h => h
    case hs6 | hf6 | hr6 => kernel_rfl
    case hw6 => rfl
    case hy6 => (intro w1 hSw; (try dsimp only at hSw); go_simp; try with_reducible rfl)
    (try simp only [Act.put, List.setIfInBounds_toArray, List.set_cons_zero, List.set_cons_succ])
    refine wpAnyH_take (i := 6) (oi := ?oi7) (v := ?v7) (fuel := 4) ?hi7 ?hs7 ?hf7 ?hr7 ?hq7 (Or.inl ⟨?hw7, ?hy7⟩) hHeld ?rest7
    case hi7 => rw [List.getElem?_toArray]; rfl
    case hq7 => exact fun _ _ _ h => h
    case hs7 | hf7 | hr7 => kernel_rfl
    case hw7 => rfl
    case hy7 => (intro w1 hSw; (try dsimp only at hSw); go_simp; try with_reducible rfl)
    (try simp only [Act.put, List.setIfInBounds_toArray, List.set_cons_zero, List.set_cons_succ])
    refine wpAnyH_take (i := 7) (oi := ?oi8) (v := ?v8) (fuel := 3) ?hi8 ?hs8 ?hf8 ?hr8 ?hq8 (Or.inl ⟨?hw8, ?hy8⟩) hHeld ?rest8
    case hi8 => rw [List.getElem?_toArray]; rfl
    case hq8 => exact fun _ _ _ h => h
    case hs8 | hf8 | hr8 => kernel_rfl
    case hw8 => rfl
    case hy8 => (intro w1 hSw; (try dsimp only at hSw); go_simp; try with_reducible rfl)
    (try simp only [Act.put, List.setIfInBounds_toArray, List.set_cons_zero, List.set_cons_succ])
    refine wpAnyH_ready (fuel := 2) (rs := [8]) (by kernel_rfl) (by simp) ?_
    refine AllReadyH.cons (o := ?oi9) ?hi9 (fun K hK => ?st9) AllReadyH.nil
    case hi9 => rw [List.getElem?_toArray]; rfl
    go_simp
    refine (B3.out _).mono ?_
    rintro ee wr8 ⟨rfl, hbn⟩
    replace hX := hid (hX.out.below hbn)
    replace hY := hid (hY.out.below hbn)
    replace hZ := hid (hZ.out.below hbn)
    replace hbel := hid (hbel.out.to hbn)
    clear hbn
    go_wp2_with fail
    refine hK.out _ _ ?hS9 (fun hHeld => ?re9)
    case hS9 => exact ⟨(RBox.box hX.out).c0, (RBox.box hX.out).c1, (RBox.box hX.out).c2, (RBox.box hX.out).c3, (RBox.box hY.out).c0, (RBox.box hY.out).c1, (RBox.box hY.out).c2, (RBox.box hY.out).c3, (RBox.box hZ.out).c0, (RBox.box hZ.out).c1, (RBox.box hZ.out).c2, (RBox.box hZ.out).c3⟩
    clear hK K
    (try simp only [Act.put, List.setIfInBounds_toArray, List.set_cons_zero, List.set_cons_succ])
    refine wpAnyH_take (i := 9) (oi := ?oi10) (v := ?v10) (fuel := 1) ?hi10 ?hs10 ?hf10 ?hr10 ?hq10 (Or.inl ⟨?hw10, ?hy10⟩) hHeld ?rest10
    case hi10 => rw [List.getElem?_toArray]; rfl
    case hq10 => exact fun _ _ _ h => h
    case hs10 | hf10 | hr10 => kernel_rfl
    case hw10 => rfl
    case hy10 => (intro w1 hSw; (try dsimp only at hSw); go_simp; try with_reducible rfl)
    (try simp only [Act.put, List.setIfInBounds_toArray, List.set_cons_zero, List.set_cons_succ])
    refine wpAnyH_take (i := 10) (oi := ?oi11) (v := ?v11) (fuel := 0) ?hi11 ?hs11 ?hf11 ?hr11 ?hq11 (Or.inl ⟨?hw11, ?hy11⟩) hHeld ?rest11
    case hi11 => rw [List.getElem?_toArray]; rfl
    case hq11 => exact fun _ _ _ h => h
    case hs11 | hf11 | hr11 => kernel_rfl
    case hw11 => rfl
    case hy11 => (intro w1 hSw; (try dsimp only at hSw); go_simp; try with_reducible rfl)
    (try simp only [Act.put, List.setIfInBounds_toArray, List.set_cons_zero, List.set_cons_succ])
    refine wpAnyH_done (by kernel_rfl) ?_ _
    clear hHeld
    generalize wr8 = w5 at *
    have bX5 := hX
    have bY5 := hY
    have bZ5 := hZ
    have bel5 := hbel
    clear hbel hX hY hZ
    go_wp2_with fail
    refine wp_region_held_drew (S := (fun w' => w'.cell? ⟨X, 0, none⟩ = some (.int .i64 (lo)) ∧ w'.cell? ⟨X, 1, none⟩ = some (.int .i64 (hi)) ∧ w'.cell? ⟨X, 2, none⟩ = some (.int .i64 (b)) ∧ w'.cell? ⟨X, 3, none⟩ = some (.int .i64 (o)) ∧ w'.cell? ⟨X + 1, 0, none⟩ = some (.int .i64 (lo')) ∧ w'.cell? ⟨X + 1, 1, none⟩ = some (.int .i64 (hi')) ∧ w'.cell? ⟨X + 1, 2, none⟩ = some (.int .i64 (b')) ∧ w'.cell? ⟨X + 1, 3, none⟩ = some (.int .i64 (o')) ∧ w'.cell? ⟨Z, 0, none⟩ = some (.int .i64 (1)) ∧ w'.cell? ⟨Z, 1, none⟩ = some (.int .i64 (0)) ∧ w'.cell? ⟨Z, 2, none⟩ = some (.int .i64 (0)) ∧ w'.cell? ⟨Z, 3, none⟩ = some (.int .i64 (0)))) (by kernel_rfl) (by exact ⟨(RBox.box bX5.out).c0, (RBox.box bX5.out).c1, (RBox.box bX5.out).c2, (RBox.box bX5.out).c3, (RBox.box bY5.out).c0, (RBox.box bY5.out).c1, (RBox.box bY5.out).c2, (RBox.box bY5.out).c3, (RBox.box bZ5.out).c0, (RBox.box bZ5.out).c1, (RBox.box bZ5.out).c2, (RBox.box bZ5.out).c3⟩) (fun hHeld => ?_)
    have hX := hid (RBox.drew bX5.out)
    have hY := hid (RBox.drew bY5.out)
    have hZ := hid (RBox.drew bZ5.out)
    have hbel := hid (Below.drew bel5.out)
    clear bX5 bY5 bZ5 bel5
    generalize w5.drew = W1 at *
    refine wpAnyH_take (i := 0) (oi := ?oi12) (v := ?v12) (fuel := 6) ?hi12 ?hs12 ?hf12 ?hr12 ?hq12 (Or.inl ⟨?hw12, ?hy12⟩) hHeld ?rest12
    case hi12 => rw [List.getElem?_toArray]; rfl
    case hq12 => exact fun _ _ _ h => h
    case hs12 | hf12 | hr12 => kernel_rfl
    case hw12 => rfl
    case hy12 => (intro w1 hSw; (try dsimp only at hSw); go_simp; try with_reducible rfl)
    (try simp only [Act.put, List.setIfInBounds_toArray, List.set_cons_zero, List.set_cons_succ])
    refine wpAnyH_take (i := 1) (oi := ?oi13) (v := ?v13) (fuel := 5) ?hi13 ?hs13 ?hf13 ?hr13 ?hq13 (Or.inl ⟨?hw13, ?hy13⟩) hHeld ?rest13
    case hi13 => rw [List.getElem?_toArray]; rfl
    case hq13 => exact fun _ _ _ h => h
    case hs13 | hf13 | hr13 => kernel_rfl
    case hw13 => rfl
    case hy13 => (intro w1 hSw; (try dsimp only at hSw); go_simp; try with_reducible rfl)
    (try simp only [Act.put, List.setIfInBounds_toArray, List.set_cons_zero, List.set_cons_succ])
    refine wpAnyH_take (i := 2) (oi := ?oi14) (v := ?v14) (fuel := 4) ?hi14 ?hs14 ?hf14 ?hr14 ?hq14 (Or.inl ⟨?hw14, ?hy14⟩) hHeld ?rest14
    case hi14 => rw [List.getElem?_toArray]; rfl
    case hq14 => exact fun _ _ _ h => h
    case hs14 | hf14 | hr14 => kernel_rfl
    case hw14 => rfl
    case hy14 => (intro w1 hSw; (try dsimp only at hSw); go_simp; try with_reducible rfl)
    (try simp only [Act.put, List.setIfInBounds_toArray, List.set_cons_zero, List.set_cons_succ])
    refine wpAnyH_take (i := 3) (oi := ?oi15) (v := ?v15) (fuel := 3) ?hi15 ?hs15 ?hf15 ?hr15 ?hq15 (Or.inl ⟨?hw15, ?hy15⟩) hHeld ?rest15
    case hi15 => rw [List.getElem?_toArray]; rfl
    case hq15 => exact fun _ _ _ h => h
    case hs15 | hf15 | hr15 => kernel_rfl
    case hw15 => rfl
    case hy15 => (intro w1 hSw; (try dsimp only at hSw); go_simp; try with_reducible rfl)
    (try simp only [Act.put, List.setIfInBounds_toArray, List.set_cons_zero, List.set_cons_succ])
    refine wpAnyH_ready (fuel := 2) (rs := [4]) (by kernel_rfl) (by simp) ?_
    refine AllReadyH.cons (o := ?oi16) ?hi16 (fun K hK => ?st16) AllReadyH.nil
    case hi16 => rw [List.getElem?_toArray]; rfl
    go_simp
    refine (B2.out _).mono ?_
    rintro ee wr4 ⟨rfl, hbn⟩
    replace hX := hid (hX.out.below hbn)
    replace hY := hid (hY.out.below hbn)
    replace hZ := hid (hZ.out.below hbn)
    replace hbel := hid (hbel.out.to hbn)
    clear hbn
    go_wp2_with fail
    refine hK.out _ _ ?hS16 (fun hHeld => ?re16)
    case hS16 => exact ⟨(RBox.box hX.out).c0, (RBox.box hX.out).c1, (RBox.box hX.out).c2, (RBox.box hX.out).c3, (RBox.box hY.out).c0, (RBox.box hY.out).c1, (RBox.box hY.out).c2, (RBox.box hY.out).c3, (RBox.box hZ.out).c0, (RBox.box hZ.out).c1, (RBox.box hZ.out).c2, (RBox.box hZ.out).c3⟩
    clear hK K
    (try simp only [Act.put, List.setIfInBounds_toArray, List.set_cons_zero, List.set_cons_succ])
    refine wpAnyH_take (i := 5) (oi := ?oi17) (v := ?v17) (fuel := 1) ?hi17 ?hs17 ?hf17 ?hr17 ?hq17 (Or.inl ⟨?hw17, ?hy17⟩) hHeld ?rest17
    case hi17 => rw [List.getElem?_toArray]; rfl
    case hq17 => exact fun _ _ _ h => h
    case hs17 | hf17 | hr17 => kernel_rfl
    case hw17 => rfl
    case hy17 => (intro w1 hSw; (try dsimp only at hSw); go_simp; try with_reducible rfl)
    (try simp only [Act.put, List.setIfInBounds_toArray, List.set_cons_zero, List.set_cons_succ])
    refine wpAnyH_take (i := 6) (oi := ?oi18) (v := ?v18) (fuel := 0) ?hi18 ?hs18 ?hf18 ?hr18 ?hq18 (Or.inl ⟨?hw18, ?hy18⟩) hHeld ?rest18
    case hi18 => rw [List.getElem?_toArray]; rfl
    case hq18 => exact fun _ _ _ h => h
    case hs18 | hf18 | hr18 => kernel_rfl
    case hw18 => rfl
    case hy18 => (intro w1 hSw; (try dsimp only at hSw); go_simp; try with_reducible rfl)
    (try simp only [Act.put, List.setIfInBounds_toArray, List.set_cons_zero, List.set_cons_succ])
    refine wpAnyH_done (by kernel_rfl) ?_ _
    clear hHeld
    generalize wr4 = w6 at *
    have bX6 := hX
    have bY6 := hY
    have bZ6 := hZ
    have bel6 := hbel
    clear hbel hX hY hZ
    go_wp2_with fail
    go_ret
    exact ⟨rfl, bel6.out⟩
  have A1 := hid R.im
  have A2 := hid R.sp
  have A3 := hid (okR_yes R.ok)
  have A4 := hid (least_is hA em M)
  have A5 := hid (least_is hB en N)
  have lm : m ≤ 4294967295 := Nat.le_trans M.hi hA.hi
  have ln : n ≤ 4294967295 := Nat.le_trans N.hi hB.hi
  have A6 := hid (one_i m lm)
  have A7 := hid (one_i n ln)
  have A8 := hid (of_ones op m n hop.1 h11 lm ln)
  have A9 := hid (do_impl op m n hop.1 h11 lm ln)
  have A10 := hid (one_i (doN op m n) (do_le op lm ln))
  generalize doN op m n = d at *
  clear R hA hB em en M N les HS hop h11 lm ln
  go_wp2_with fail
  have bX2 := hid ((RBox.new w1 (lo) (hi) (b) (o)).alloc (cellsR4 (lo') (hi') (b') (o')))
  have bY2 : Hid (RBox ((w1.alloc (cellsR4 (lo) (hi) (b) (o))).alloc (cellsR4 (lo') (hi') (b') (o'))) (w1.heap.size + 1) (lo') (hi') (b') (o')) := by
    have h0 := RBox.new (w1.alloc (cellsR4 (lo) (hi) (b) (o))) (lo') (hi') (b') (o')
    simp only [World.size_alloc] at h0
    exact h0
  have bel2 := hid (bel1.out.to (newB w1 (cellsR4 (lo) (hi) (b) (o)) (cellsR4 (lo') (hi') (b') (o'))))
  have leX := bel1.out.size
  clear bel1
  generalize (w1.alloc (cellsR4 (lo) (hi) (b) (o))).alloc (cellsR4 (lo') (hi') (b') (o')) = w2 at *
  generalize w1.heap.size = X at *
  refine (A1.out _).mono ?_
  rintro e w3 ⟨rfl, hb3⟩
  have bX3 := hid (bX2.out.below hb3)
  have bY3 := hid (bY2.out.below hb3)
  have bel3 := hid (bel2.out.to hb3)
  clear hb3 bX2 bY2 bel2
  go_wp2_with fail
  have bX4 := hid (bX3.out.alloc (cellsR4 (x) (y) (z) (u)))
  have neZX := RBox.lt bX3.out
  have bY4 := hid (bY3.out.alloc (cellsR4 (x) (y) (z) (u)))
  have neZY := RBox.lt bY3.out
  have bZ4 := hid (RBox.new w3 (x) (y) (z) (u))
  have bel4 := hid (bel3.out.alloc bel3.out.size (cellsR4 (x) (y) (z) (u)))
  have leZ := bel3.out.size
  clear bX3 bY3 bel3
  generalize w3.alloc (cellsR4 (x) (y) (z) (u)) = w4 at *
  generalize w3.heap.size = Z at *
  refine wp_region_held_drew (S := (fun w' => w'.cell? ⟨X, 0, none⟩ = some (.int .i64 (lo)) ∧ w'.cell? ⟨X, 1, none⟩ = some (.int .i64 (hi)) ∧ w'.cell? ⟨X, 2, none⟩ = some (.int .i64 (b)) ∧ w'.cell? ⟨X, 3, none⟩ = some (.int .i64 (o)) ∧ w'.cell? ⟨X + 1, 0, none⟩ = some (.int .i64 (lo')) ∧ w'.cell? ⟨X + 1, 1, none⟩ = some (.int .i64 (hi')) ∧ w'.cell? ⟨X + 1, 2, none⟩ = some (.int .i64 (b')) ∧ w'.cell? ⟨X + 1, 3, none⟩ = some (.int .i64 (o')) ∧ w'.cell? ⟨Z, 0, none⟩ = some (.int .i64 (x)) ∧ w'.cell? ⟨Z, 1, none⟩ = some (.int .i64 (y)) ∧ w'.cell? ⟨Z, 2, none⟩ = some (.int .i64 (z)) ∧ w'.cell? ⟨Z, 3, none⟩ = some (.int .i64 (u)))) (by kernel_rfl) (by exact ⟨(RBox.box bX4.out).c0, (RBox.box bX4.out).c1, (RBox.box bX4.out).c2, (RBox.box bX4.out).c3, (RBox.box bY4.out).c0, (RBox.box bY4.out).c1, (RBox.box bY4.out).c2, (RBox.box bY4.out).c3, (RBox.box bZ4.out).c0, (RBox.box bZ4.out).c1, (RBox.box bZ4.out).c2, (RBox.box bZ4.out).c3⟩) (fun hHeld => ?_)
  have hX := hid (RBox.drew bX4.out)
  have hY := hid (RBox.drew bY4.out)
  have hZ := hid (RBox.drew bZ4.out)
  have hbel := hid (Below.drew bel4.out)
  clear bX4 bY4 bZ4 bel4
  generalize w4.drew = W1 at *
  refine wpAnyH_take (i := 0) (oi := ?oi19) (v := ?v19) (fuel := 10) ?hi19 ?hs19 ?hf19 ?hr19 ?hq19 (Or.inl ⟨?hw19, ?hy19⟩) hHeld ?rest19
  case hi19 => rw [List.getElem?_toArray]; rfl
  case hq19 => exact fun _ _ _ h => h
  case hs19 | hf19 | hr19 => kernel_rfl
  case hw19 => rfl
  case hy19 => (intro w1 hSw; (try dsimp only at hSw); go_simp; try with_reducible rfl)
  (try simp only [Act.put, List.setIfInBounds_toArray, List.set_cons_zero, List.set_cons_succ])
  refine wpAnyH_take (i := 1) (oi := ?oi20) (v := ?v20) (fuel := 9) ?hi20 ?hs20 ?hf20 ?hr20 ?hq20 (Or.inl ⟨?hw20, ?hy20⟩) hHeld ?rest20
  case hi20 => rw [List.getElem?_toArray]; rfl
  case hq20 => exact fun _ _ _ h => h
  case hs20 | hf20 | hr20 => kernel_rfl
  case hw20 => rfl
  case hy20 => (intro w1 hSw; (try dsimp only at hSw); go_simp; try with_reducible rfl)
  (try simp only [Act.put, List.setIfInBounds_toArray, List.set_cons_zero, List.set_cons_succ])
  refine wpAnyH_take (i := 2) (oi := ?oi21) (v := ?v21) (fuel := 8) ?hi21 ?hs21 ?hf21 ?hr21 ?hq21 (Or.inl ⟨?hw21, ?hy21⟩) hHeld ?rest21
  case hi21 => rw [List.getElem?_toArray]; rfl
  case hq21 => exact fun _ _ _ h => h
  case hs21 | hf21 | hr21 => kernel_rfl
  case hw21 => rfl
  case hy21 => (intro w1 hSw; (try dsimp only at hSw); go_simp; try with_reducible rfl)
  (try simp only [Act.put, List.setIfInBounds_toArray, List.set_cons_zero, List.set_cons_succ])
  refine wpAnyH_take (i := 3) (oi := ?oi22) (v := ?v22) (fuel := 7) ?hi22 ?hs22 ?hf22 ?hr22 ?hq22 (Or.inl ⟨?hw22, ?hy22⟩) hHeld ?rest22
  case hi22 => rw [List.getElem?_toArray]; rfl
  case hq22 => exact fun _ _ _ h => h
  case hs22 | hf22 | hr22 => kernel_rfl
  case hw22 => rfl
  case hy22 => (intro w1 hSw; (try dsimp only at hSw); go_simp; try with_reducible rfl)
  (try simp only [Act.put, List.setIfInBounds_toArray, List.set_cons_zero, List.set_cons_succ])
  refine wpAnyH_ready (fuel := 6) (rs := [4]) (by kernel_rfl) (by simp) ?_
  refine AllReadyH.cons (o := ?oi23) ?hi23 (fun K hK => ?st23) AllReadyH.nil
  case hi23 => rw [List.getElem?_toArray]; rfl
  go_simp
  refine (A2.out _).mono ?_
  rintro ee wr4 ⟨rfl, hbn⟩
  replace hX := hid (hX.out.below hbn)
  replace hY := hid (hY.out.below hbn)
  replace hZ := hid (hZ.out.below hbn)
  replace hbel := hid (hbel.out.to hbn)
  clear hbn
  go_wp2_with fail
  refine hK.out _ _ ?hS23 (fun hHeld => ?re23)
  case hS23 => exact ⟨(RBox.box hX.out).c0, (RBox.box hX.out).c1, (RBox.box hX.out).c2, (RBox.box hX.out).c3, (RBox.box hY.out).c0, (RBox.box hY.out).c1, (RBox.box hY.out).c2, (RBox.box hY.out).c3, (RBox.box hZ.out).c0, (RBox.box hZ.out).c1, (RBox.box hZ.out).c2, (RBox.box hZ.out).c3⟩
  clear hK K
  (try simp only [Act.put, List.setIfInBounds_toArray, List.set_cons_zero, List.set_cons_succ])
  refine wpAnyH_take (i := 5) (oi := ?oi24) (v := ?v24) (fuel := 5) ?hi24 ?hs24 ?hf24 ?hr24 ?hq24 (Or.inl ⟨?hw24, ?hy24⟩) hHeld ?rest24
  case hi24 => rw [List.getElem?_toArray]; rfl
  case hq24 => exact fun _ _ _ h => h
  case hs24 | hf24 | hr24 => kernel_rfl
  case hw24 => rfl
  case hy24 => (intro w1 hSw; (try dsimp only at hSw); go_simp; try with_reducible rfl)
  (try simp only [Act.put, List.setIfInBounds_toArray, List.set_cons_zero, List.set_cons_succ])
  refine wpAnyH_take (i := 6) (oi := ?oi25) (v := ?v25) (fuel := 4) ?hi25 ?hs25 ?hf25 ?hr25 ?hq25 (Or.inl ⟨?hw25, ?hy25⟩) hHeld ?rest25
  case hi25 => rw [List.getElem?_toArray]; rfl
  case hq25 => exact fun _ _ _ h => h
  case hs25 | hf25 | hr25 => kernel_rfl
  case hw25 => rfl
  case hy25 => (intro w1 hSw; (try dsimp only at hSw); go_simp; try with_reducible rfl)
  (try simp only [Act.put, List.setIfInBounds_toArray, List.set_cons_zero, List.set_cons_succ])
  refine wpAnyH_take (i := 7) (oi := ?oi26) (v := ?v26) (fuel := 3) ?hi26 ?hs26 ?hf26 ?hr26 ?hq26 (Or.inl ⟨?hw26, ?hy26⟩) hHeld ?rest26
  case hi26 => rw [List.getElem?_toArray]; rfl
  case hq26 => exact fun _ _ _ h => h
  case hs26 | hf26 | hr26 => kernel_rfl
  case hw26 => rfl
  case hy26 => (intro w1 hSw; (try dsimp only at hSw); go_simp; try with_reducible rfl)
  (try simp only [Act.put, List.setIfInBounds_toArray, List.set_cons_zero, List.set_cons_succ])
  refine wpAnyH_ready (fuel := 2) (rs := [8]) (by kernel_rfl) (by simp) ?_
  refine AllReadyH.cons (o := ?oi27) ?hi27 (fun K hK => ?st27) AllReadyH.nil
  case hi27 => rw [List.getElem?_toArray]; rfl
  go_simp
  refine (A3.out _).mono ?_
  rintro ee wr8 ⟨rfl, hbn⟩
  replace hX := hid (hX.out.below hbn)
  replace hY := hid (hY.out.below hbn)
  replace hZ := hid (hZ.out.below hbn)
  replace hbel := hid (hbel.out.to hbn)
  clear hbn
  go_wp2_with fail
  refine hK.out _ _ ?hS27 (fun hHeld => ?re27)
  case hS27 => exact ⟨(RBox.box hX.out).c0, (RBox.box hX.out).c1, (RBox.box hX.out).c2, (RBox.box hX.out).c3, (RBox.box hY.out).c0, (RBox.box hY.out).c1, (RBox.box hY.out).c2, (RBox.box hY.out).c3, (RBox.box hZ.out).c0, (RBox.box hZ.out).c1, (RBox.box hZ.out).c2, (RBox.box hZ.out).c3⟩
  clear hK K
  (try simp only [Act.put, List.setIfInBounds_toArray, List.set_cons_zero, List.set_cons_succ])
  refine wpAnyH_take (i := 9) (oi := ?oi28) (v := ?v28) (fuel := 1) ?hi28 ?hs28 ?hf28 ?hr28 ?hq28 (Or.inl ⟨?hw28, ?hy28⟩) hHeld ?rest28
  case hi28 => rw [List.getElem?_toArray]; rfl
  case hq28 => exact fun _ _ _ h => h
  case hs28 | hf28 | hr28 => kernel_rfl
  case hw28 => rfl
  case hy28 => (intro w1 hSw; (try dsimp only at hSw); go_simp; try with_reducible rfl)
  (try simp only [Act.put, List.setIfInBounds_toArray, List.set_cons_zero, List.set_cons_succ])
  refine wpAnyH_take (i := 10) (oi := ?oi29) (v := ?v29) (fuel := 0) ?hi29 ?hs29 ?hf29 ?hr29 ?hq29 (Or.inl ⟨?hw29, ?hy29⟩) hHeld ?rest29
  case hi29 => rw [List.getElem?_toArray]; rfl
  case hq29 => exact fun _ _ _ h => h
  case hs29 | hf29 | hr29 => kernel_rfl
  case hw29 => rfl
  case hy29 => (intro w1 hSw; (try dsimp only at hSw); go_simp; try with_reducible rfl)
  (try simp only [Act.put, List.setIfInBounds_toArray, List.set_cons_zero, List.set_cons_succ])
  refine wpAnyH_done (by kernel_rfl) ?_ _
  clear hHeld
  generalize wr8 = w5 at *
  have bX5 := hX
  have bY5 := hY
  have bZ5 := hZ
  have bel5 := hbel
  clear hbel hX hY hZ
  obtain ⟨cX0, cX1, cX2, cX3⟩ := RBox.box bX5.out
  go_wp2_with fail
  refine (A4.out _).mono ?_
  rintro e w6 ⟨rfl, hb6⟩
  have bX6 := hid (bX5.out.below hb6)
  have bY6 := hid (bY5.out.below hb6)
  have bZ6 := hid (bZ5.out.below hb6)
  have bel6 := hid (bel5.out.to hb6)
  clear hb6 bX5 bY5 bZ5 bel5
  clear cX0 cX1 cX2 cX3
  obtain ⟨cY0, cY1, cY2, cY3⟩ := RBox.box bY6.out
  go_wp2_with fail
  refine (A5.out _).mono ?_
  rintro e w7 ⟨rfl, hb7⟩
  have bX7 := hid (bX6.out.below hb7)
  have bY7 := hid (bY6.out.below hb7)
  have bZ7 := hid (bZ6.out.below hb7)
  have bel7 := hid (bel6.out.to hb7)
  clear hb7 bX6 bY6 bZ6 bel6
  clear cY0 cY1 cY2 cY3
  go_wp2_with fail
  refine (A6.out _).mono ?_
  rintro e w8 ⟨rfl, hb8⟩
  have bX8 := hid (bX7.out.below hb8)
  have bY8 := hid (bY7.out.below hb8)
  have bZ8 := hid (bZ7.out.below hb8)
  have bel8 := hid (bel7.out.to hb8)
  clear hb8 bX7 bY7 bZ7 bel7
  go_wp2_with fail
  refine (A7.out _).mono ?_
  rintro e w9 ⟨rfl, hb9⟩
  have bX9 := hid (bX8.out.below hb9)
  have bY9 := hid (bY8.out.below hb9)
  have bZ9 := hid (bZ8.out.below hb9)
  have bel9 := hid (bel8.out.to hb9)
  clear hb9 bX8 bY8 bZ8 bel8
  go_wp2_with fail
  refine (A8.out _).mono ?_
  rintro e w10 ⟨rfl, hb10⟩
  have bX10 := hid (bX9.out.below hb10)
  have bY10 := hid (bY9.out.below hb10)
  have bZ10 := hid (bZ9.out.below hb10)
  have bel10 := hid (bel9.out.to hb10)
  clear hb10 bX9 bY9 bZ9 bel9
  go_wp2_with fail
  refine (A9.out _).mono ?_
  rintro e w11 ⟨rfl, hb11⟩
  have bX11 := hid (bX10.out.below hb11)
  have bY11 := hid (bY10.out.below hb11)
  have bZ11 := hid (bZ10.out.below hb11)
  have bel11 := hid (bel10.out.to hb11)
  clear hb11 bX10 bY10 bZ10 bel10
  go_wp2_with fail
  refine (A10.out _).mono ?_
  rintro e w12 ⟨rfl, hb12⟩
  have bX12 := hid (bX11.out.below hb12)
  have bY12 := hid (bY11.out.below hb12)
  have bZ12 := hid (bZ11.out.below hb12)
  have bel12 := hid (bel11.out.to hb12)
  clear hb12 bX11 bY11 bZ11 bel11
  go_wp2_with fail
  go_ret
  exact ⟨rfl, bel12.out⟩
end Go.Proofs.Ytnebjocnbfoafaa
