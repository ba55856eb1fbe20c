/- Contract: RangeTidy of the program. -/
import Derived.Test.YtcopcajleonndaaQRX
namespace Go.Proofs.Ytcopcajleonndaa
open Go.RowKit
set_option linter.unusedVariables false
set_option linter.unusedSimpArgs false

set_option maxRecDepth 100000 in
set_option maxHeartbeats 4000000 in
theorem c_RangeTidy (lo hi b o : Nat) (w : World) (h : OkN lo hi b o) (hs : someN lo hi b o = true) :
    Calls Try.prog 51 #[rv lo hi b o] w fun e w' => e = .returned (rv (tLo lo hi b) (tHi lo hi b o) (tB lo hi b) (tO lo hi o)) ∧ Below w.heap.size w w' := by
  obtain ⟨X, hX⟩ : ∃ X, lo ^^^ hi = X := ⟨_, rfl⟩
  have lX : X ≤ 4294967295 := by rw [← hX]; exact xor_le h.lo h.hi
  obtain ⟨L, hL⟩ : ∃ L, bitLen X = L := ⟨_, rfl⟩
  have lL : L ≤ 32 := by rw [← hL]; exact bitLen_le32 lX
  obtain ⟨P, hP⟩ : ∃ P, 2 ^ L = P := ⟨_, rfl⟩
  have hP0 : 0 < P := by rw [← hP]; exact Nat.two_pow_pos _
  have hPl : P ≤ 4294967296 := by rw [← hP]; exact Nat.pow_le_pow_right (n := 2) (j := 32) (by omega) (by omega)
  obtain ⟨M, hM⟩ : ∃ M, P - 1 = M := ⟨_, rfl⟩
  have hMm : maskOf X = M := by rw [maskOf, hL, hP, hM]
  have e1 := xor_i64 lo hi (by have := h.lo; omega) (by have := h.hi; omega)
  rw [hX] at e1
  have w1 : IntKind.u64.wrap (X : Int) = X := by rw [IntKind.wrap_u64]; omega
  have s1 := shl_one lL hP
  have d1 : (P : Int) - 1 = M := by omega
  have e2 := and_i64 o M (by have := h.o; omega) (by omega)
  have e3 := andNot_i64 lo M h.lo (by omega)
  have l3 : lo &&& notB M ≤ 4294967295 := and_le _ h.lo
  have e4 := or_i64 b (lo &&& notB M) (by have := h.b; omega) (by omega)
  have hB : b ||| (lo &&& notB M) = tB lo hi b := by rw [tB, hX, hMm]
  have hO : o &&& M = tO lo hi o := by rw [tO, hX, hMm]
  have hLo : tLo lo hi b = max lo (tB lo hi b) := rfl
  have hHi : tHi lo hi b o = min hi (tB lo hi b ||| tO lo hi o) := rfl
  have lB := tB_le (hi := hi) h.lo h.b
  have lO := tO_le (lo := lo) (hi := hi) h.o
  rw [hB] at e4
  rw [hO] at e2
  have Hlen : Hid (∀ w, Calls Try.prog 61 #[.int .u64 X] w fun e w' => e = .returned (.int .i64 L) ∧ w' = w) := by
    intro w; have := c_Len X w lX; rw [hL] at this; exact this
  have Hsome : Hid (∀ w, Calls Try.prog 53 #[rv lo hi b o] w fun e w' => e = .returned (.bool true) ∧ Below w.heap.size w w') := by
    intro w; have := c_RangeSome lo hi b o w h; rw [hs] at this; exact this
  have Hmay : Hid (∀ (x y : Int) w, Calls Try.prog 62 #[rv x y (tB lo hi b) (tO lo hi o)] w fun e w' => e = .returned (.int .i64 ((tB lo hi b ||| tO lo hi o : Nat) : Int)) ∧ Below w.heap.size w w') :=
    fun x y w => c_may x y _ _ w lB lO
  rw [hLo, hHi]
  clear hLo hHi hB hO hMm hM hP hL hX h hs
  generalize tB lo hi b = B1 at *
  generalize tO lo hi o = O1 at *
  generalize lo &&& notB M = B0 at *
  generalize B1 ||| O1 = U at *
  go_enter Try.func51, Try.ntmps51
  go_wp2_with fail
  refine (Hsome.out _).mono ?_
  rintro e w1 ⟨rfl, hb1⟩
  have r1 : RBox w1 w.heap.size lo hi b o := ((RBox.new w lo hi b o).alloc _).below hb1
  have q1 : RBox w1 (w.heap.size + 1) 0 0 0 0 := by
    have h0 := RBox.new (w.alloc (.cells #[.int .i64 lo, .int .i64 hi, .int .i64 b, .int .i64 o] 54)) 0 0 0 0
    simp only [World.size_alloc] at h0
    exact h0.below hb1
  have z1 : w.heap.size ≤ w1.heap.size := by have := hb1.size; simp at this; omega
  have bel1 : Below w.heap.size w w1 := (((Below.refl _ _).alloc (Nat.le_refl _) _).alloc (by simp) _).trans (hb1.mono (by simp; omega))
  have r3 : RBox (((w1.setCell ⟨w.heap.size, 3, none⟩ (.int .i64 O1)).setCell ⟨w.heap.size, 2, none⟩ (.int .i64 B1)).setCell ⟨w.heap.size, 0, none⟩ (.int .i64 (max (lo : Int) B1))) w.heap.size (max (lo : Int) B1) hi B1 O1 := ((r1.set3 _).set2 _).set0 _
  have q3 : RBox (((w1.setCell ⟨w.heap.size, 3, none⟩ (.int .i64 O1)).setCell ⟨w.heap.size, 2, none⟩ (.int .i64 B1)).setCell ⟨w.heap.size, 0, none⟩ (.int .i64 (max (lo : Int) B1))) (w.heap.size + 1) 0 0 0 0 := ((q1.other _ _ (by simp)).other _ _ (by simp)).other _ _ (by simp)
  have bel3 : Below w.heap.size w (((w1.setCell ⟨w.heap.size, 3, none⟩ (.int .i64 O1)).setCell ⟨w.heap.size, 2, none⟩ (.int .i64 B1)).setCell ⟨w.heap.size, 0, none⟩ (.int .i64 (max (lo : Int) B1))) := ((bel1.setCell (Nat.le_refl _) _).setCell (Nat.le_refl _) _).setCell (Nat.le_refl _) _
  have sz3 : w.heap.size ≤ (((w1.setCell ⟨w.heap.size, 3, none⟩ (.int .i64 O1)).setCell ⟨w.heap.size, 2, none⟩ (.int .i64 B1)).setCell ⟨w.heap.size, 0, none⟩ (.int .i64 (max (lo : Int) B1))).heap.size := bel3.size
  have hr := hid r3
  have hq := hid q3
  have hbel3 := hid bel3
  have hsz3 := hid sz3
  have fr1 := RBox.frozen r1
  obtain ⟨c0, c1, c2, c3⟩ := RBox.box r1
  clear r3 q3 bel3 sz3 hb1 r1 q1
  go_wp2_with fail
  refine (Hlen.out _).mono ?_
  rintro e w2 ⟨rfl, hw2⟩
  rw [hw2]; clear hw2 w2
  go_wp2_with fail
  generalize (((w1.setCell ⟨w.heap.size, 3, none⟩ (.int .i64 O1)).setCell ⟨w.heap.size, 2, none⟩ (.int .i64 B1)).setCell ⟨w.heap.size, 0, none⟩ (.int .i64 (max (lo : Int) B1))) = W3 at *
  clear c0 c1 c2 c3 fr1
  obtain ⟨d0, d1, d2, d3⟩ := RBox.box hr.out
  refine wp_region_held_drew (S := (fun _ => True)) (by kernel_rfl) (trivial) (fun hHeld => ?_)
  refine wpAnyH_take (i := 0) (oi := ?oi1) (v := ?v1) (fuel := 6) ?hi1 ?hs1 ?hf1 ?hr1 ?hq1 (Or.inl ⟨?hw1, ?hy1⟩) hHeld ?rest1
  case hi1 => rw [List.getElem?_toArray]; rfl
  case hq1 => exact fun _ _ _ h => h
  case hs1 => kernel_rfl
  case hf1 => kernel_rfl
  case hr1 => kernel_rfl
  case hw1 => rfl
  case hy1 => (intro w1 hSw; (try dsimp only at hSw); go_simp; try with_reducible rfl)
  (try simp only [Act.put, List.setIfInBounds_toArray, List.set_cons_zero, List.set_cons_succ])
  refine wpAnyH_ready (fuel := 5) (rs := [1, 2]) (by kernel_rfl) (by simp) ?_
  refine AllReadyH.cons (o := ?oi2) ?hi2 (fun K hK => ?st2) ?mo2
  case hi2 => rw [List.getElem?_toArray]; rfl
  case st2 =>
    go_simp
    refine hK.out _ _ ?hS2 (fun hHeld => ?re2)
    case hS2 => trivial
    clear hK K
    (try simp only [Act.put, List.setIfInBounds_toArray, List.set_cons_zero, List.set_cons_succ])
    refine wpAnyH_ready (fuel := 4) (rs := [2]) (by kernel_rfl) (by simp) ?_
    refine AllReadyH.cons (o := ?oi3) ?hi3 (fun K hK => ?st3) AllReadyH.nil
    case hi3 => rw [List.getElem?_toArray]; rfl
    go_simp
    refine hK.out _ _ ?hS3 (fun hHeld => ?re3)
    case hS3 => trivial
    clear hK K
    (try simp only [Act.put, List.setIfInBounds_toArray, List.set_cons_zero, List.set_cons_succ])
    refine wpAnyH_ready (fuel := 3) (rs := [3]) (by kernel_rfl) (by simp) ?_
    refine AllReadyH.cons (o := ?oi4) ?hi4 (fun K hK => ?st4) AllReadyH.nil
    case hi4 => rw [List.getElem?_toArray]; rfl
    go_simp
    refine (Hmay.out _ _ _).mono ?_
    rintro e w4 ⟨rfl, hb4⟩
    have hb4' : Below W3.heap.size W3 w4 := (Below.refl _ _).drew.trans hb4
    have rb4 := hid (RBox.below hr.out hb4')
    have rq4 := hid (RBox.below hq.out hb4')
    have bel4 := hid (hbel3.out.trans (hb4'.mono hsz3.out))
    clear d0 d1 d2 d3
    obtain ⟨d0, d1, d2, d3⟩ := RBox.box rb4.out
    have fr4 := RBox.frozen rb4.out
    have fq4 := RBox.frozen rq4.out
    go_wp2_with fail
    refine hK.out _ _ ?hS4 (fun hHeld => ?re4)
    case hS4 => trivial
    clear hK K
    (try simp only [Act.put, List.setIfInBounds_toArray, List.set_cons_zero, List.set_cons_succ])
    refine wpAnyH_ready (fuel := 2) (rs := [4]) (by kernel_rfl) (by simp) ?_
    refine AllReadyH.cons (o := ?oi5) ?hi5 (fun K hK => ?st5) AllReadyH.nil
    case hi5 => rw [List.getElem?_toArray]; rfl
    go_simp
    refine hK.out _ _ ?hS5 (fun hHeld => ?re5)
    case hS5 => trivial
    clear hK K
    (try simp only [Act.put, List.setIfInBounds_toArray, List.set_cons_zero, List.set_cons_succ])
    refine wpAnyH_ready (fuel := 1) (rs := [5]) (by kernel_rfl) (by simp) ?_
    refine AllReadyH.cons (o := ?oi6) ?hi6 (fun K hK => ?st6) AllReadyH.nil
    case hi6 => rw [List.getElem?_toArray]; rfl
    go_simp
    refine hK.out _ _ ?hS6 (fun hHeld => ?re6)
    case hS6 => trivial
    clear hK K
    (try simp only [Act.put, List.setIfInBounds_toArray, List.set_cons_zero, List.set_cons_succ])
    refine wpAnyH_ready (fuel := 0) (rs := [6]) (by kernel_rfl) (by simp) ?_
    refine AllReadyH.cons (o := ?oi7) ?hi7 (fun K hK => ?st7) AllReadyH.nil
    case hi7 => rw [List.getElem?_toArray]; rfl
    go_simp
    refine hK.out _ _ ?hS7 (fun hHeld => ?re7)
    case hS7 => trivial
    clear hK K
    (try simp only [Act.put, List.setIfInBounds_toArray, List.set_cons_zero, List.set_cons_succ])
    refine wpAnyH_done (by kernel_rfl) ?_ _
    clear hHeld
    have r5 := hid (rb4.out.set1 (min (hi : Int) U))
    have q5 := hid (rq4.out.other ⟨w.heap.size, 1, none⟩ (.int .i64 (min (hi : Int) U)) (show w.heap.size + 1 ≠ w.heap.size by omega))
    have bel5 := hid (bel4.out.setCell (p := ⟨w.heap.size, 1, none⟩) (Nat.le_refl _) (.int .i64 (min (hi : Int) U)))
    generalize w4.setCell ⟨w.heap.size, 1, none⟩ (.int .i64 (min (hi : Int) U)) = w5 at *
    clear d0 d1 d2 d3 fr4 fq4
    obtain ⟨d0, d1, d2, d3⟩ := RBox.box r5.out
    have fq5 := RBox.frozen q5.out
    obtain ⟨g0, g1, g2, g3⟩ := RBox.box q5.out
    have P5 := hid (RBox.box (q5.out.st4 (x' := max (lo : Int) B1) (y' := min (hi : Int) U) (z' := B1) (u' := O1)))
    have B5 := hid (st4_below (w.heap.size + 1) (max (lo : Int) B1) (min (hi : Int) U) B1 O1 bel5.out (by omega))
    go_wp2_with fail
    obtain ⟨p0, p1, p2, p3⟩ := P5.out
    unfold st4 at p0 p1 p2 p3
    refine bodyPost_ret (v := rv (max (lo : Int) B1) (min (hi : Int) U) B1 O1) (by simp [results, Try.results51, go_sem, p0, p1, p2, p3]) rfl ⟨?_, B5.out⟩
    simp
    omega
  refine AllReadyH.cons (o := ?oi8) ?hi8 (fun K hK => ?st8) ?mo8
  case hi8 => rw [List.getElem?_toArray]; rfl
  case st8 =>
    go_simp
    refine hK.out _ _ ?hS8 (fun hHeld => ?re8)
    case hS8 => trivial
    clear hK K
    (try simp only [Act.put, List.setIfInBounds_toArray, List.set_cons_zero, List.set_cons_succ])
    refine wpAnyH_ready (fuel := 4) (rs := [1, 3]) (by kernel_rfl) (by simp) ?_
    refine AllReadyH.cons (o := ?oi9) ?hi9 (fun K hK => ?st9) ?mo9
    case hi9 => rw [List.getElem?_toArray]; rfl
    case st9 =>
      go_simp
      refine hK.out _ _ ?hS9 (fun hHeld => ?re9)
      case hS9 => trivial
      clear hK K
      (try simp only [Act.put, List.setIfInBounds_toArray, List.set_cons_zero, List.set_cons_succ])
      refine wpAnyH_ready (fuel := 3) (rs := [3]) (by kernel_rfl) (by simp) ?_
      refine AllReadyH.cons (o := ?oi10) ?hi10 (fun K hK => ?st10) AllReadyH.nil
      case hi10 => rw [List.getElem?_toArray]; rfl
      go_simp
      refine (Hmay.out _ _ _).mono ?_
      rintro e w4 ⟨rfl, hb4⟩
      have hb4' : Below W3.heap.size W3 w4 := (Below.refl _ _).drew.trans hb4
      have rb4 := hid (RBox.below hr.out hb4')
      have rq4 := hid (RBox.below hq.out hb4')
      have bel4 := hid (hbel3.out.trans (hb4'.mono hsz3.out))
      clear d0 d1 d2 d3
      obtain ⟨d0, d1, d2, d3⟩ := RBox.box rb4.out
      have fr4 := RBox.frozen rb4.out
      have fq4 := RBox.frozen rq4.out
      go_wp2_with fail
      refine hK.out _ _ ?hS10 (fun hHeld => ?re10)
      case hS10 => trivial
      clear hK K
      (try simp only [Act.put, List.setIfInBounds_toArray, List.set_cons_zero, List.set_cons_succ])
      refine wpAnyH_ready (fuel := 2) (rs := [4]) (by kernel_rfl) (by simp) ?_
      refine AllReadyH.cons (o := ?oi11) ?hi11 (fun K hK => ?st11) AllReadyH.nil
      case hi11 => rw [List.getElem?_toArray]; rfl
      go_simp
      refine hK.out _ _ ?hS11 (fun hHeld => ?re11)
      case hS11 => trivial
      clear hK K
      (try simp only [Act.put, List.setIfInBounds_toArray, List.set_cons_zero, List.set_cons_succ])
      refine wpAnyH_ready (fuel := 1) (rs := [5]) (by kernel_rfl) (by simp) ?_
      refine AllReadyH.cons (o := ?oi12) ?hi12 (fun K hK => ?st12) AllReadyH.nil
      case hi12 => rw [List.getElem?_toArray]; rfl
      go_simp
      refine hK.out _ _ ?hS12 (fun hHeld => ?re12)
      case hS12 => trivial
      clear hK K
      (try simp only [Act.put, List.setIfInBounds_toArray, List.set_cons_zero, List.set_cons_succ])
      refine wpAnyH_ready (fuel := 0) (rs := [6]) (by kernel_rfl) (by simp) ?_
      refine AllReadyH.cons (o := ?oi13) ?hi13 (fun K hK => ?st13) AllReadyH.nil
      case hi13 => rw [List.getElem?_toArray]; rfl
      go_simp
      refine hK.out _ _ ?hS13 (fun hHeld => ?re13)
      case hS13 => trivial
      clear hK K
      (try simp only [Act.put, List.setIfInBounds_toArray, List.set_cons_zero, List.set_cons_succ])
      refine wpAnyH_done (by kernel_rfl) ?_ _
      clear hHeld
      have r5 := hid (rb4.out.set1 (min (hi : Int) U))
      have q5 := hid (rq4.out.other ⟨w.heap.size, 1, none⟩ (.int .i64 (min (hi : Int) U)) (show w.heap.size + 1 ≠ w.heap.size by omega))
      have bel5 := hid (bel4.out.setCell (p := ⟨w.heap.size, 1, none⟩) (Nat.le_refl _) (.int .i64 (min (hi : Int) U)))
      generalize w4.setCell ⟨w.heap.size, 1, none⟩ (.int .i64 (min (hi : Int) U)) = w5 at *
      clear d0 d1 d2 d3 fr4 fq4
      obtain ⟨d0, d1, d2, d3⟩ := RBox.box r5.out
      have fq5 := RBox.frozen q5.out
      obtain ⟨g0, g1, g2, g3⟩ := RBox.box q5.out
      have P5 := hid (RBox.box (q5.out.st4 (x' := max (lo : Int) B1) (y' := min (hi : Int) U) (z' := B1) (u' := O1)))
      have B5 := hid (st4_below (w.heap.size + 1) (max (lo : Int) B1) (min (hi : Int) U) B1 O1 bel5.out (by omega))
      go_wp2_with fail
      obtain ⟨p0, p1, p2, p3⟩ := P5.out
      unfold st4 at p0 p1 p2 p3
      refine bodyPost_ret (v := rv (max (lo : Int) B1) (min (hi : Int) U) B1 O1) (by simp [results, Try.results51, go_sem, p0, p1, p2, p3]) rfl ⟨?_, B5.out⟩
      simp
      omega
    refine AllReadyH.cons (o := ?oi14) ?hi14 (fun K hK => ?st14) ?mo14
    case hi14 => rw [List.getElem?_toArray]; rfl
    case st14 =>
      go_simp
      refine (Hmay.out _ _ _).mono ?_
      rintro e w4 ⟨rfl, hb4⟩
      have hb4' : Below W3.heap.size W3 w4 := (Below.refl _ _).drew.trans hb4
      have rb4 := hid (RBox.below hr.out hb4')
      have rq4 := hid (RBox.below hq.out hb4')
      have bel4 := hid (hbel3.out.trans (hb4'.mono hsz3.out))
      clear d0 d1 d2 d3
      obtain ⟨d0, d1, d2, d3⟩ := RBox.box rb4.out
      have fr4 := RBox.frozen rb4.out
      have fq4 := RBox.frozen rq4.out
      go_wp2_with fail
      refine hK.out _ _ ?hS14 (fun hHeld => ?re14)
      case hS14 => trivial
      clear hK K
      (try simp only [Act.put, List.setIfInBounds_toArray, List.set_cons_zero, List.set_cons_succ])
      refine wpAnyH_ready (fuel := 3) (rs := [1]) (by kernel_rfl) (by simp) ?_
      refine AllReadyH.cons (o := ?oi15) ?hi15 (fun K hK => ?st15) AllReadyH.nil
      case hi15 => rw [List.getElem?_toArray]; rfl
      go_simp
      refine hK.out _ _ ?hS15 (fun hHeld => ?re15)
      case hS15 => trivial
      clear hK K
      (try simp only [Act.put, List.setIfInBounds_toArray, List.set_cons_zero, List.set_cons_succ])
      refine wpAnyH_ready (fuel := 2) (rs := [4]) (by kernel_rfl) (by simp) ?_
      refine AllReadyH.cons (o := ?oi16) ?hi16 (fun K hK => ?st16) AllReadyH.nil
      case hi16 => rw [List.getElem?_toArray]; rfl
      go_simp
      refine hK.out _ _ ?hS16 (fun hHeld => ?re16)
      case hS16 => trivial
      clear hK K
      (try simp only [Act.put, List.setIfInBounds_toArray, List.set_cons_zero, List.set_cons_succ])
      refine wpAnyH_ready (fuel := 1) (rs := [5]) (by kernel_rfl) (by simp) ?_
      refine AllReadyH.cons (o := ?oi17) ?hi17 (fun K hK => ?st17) AllReadyH.nil
      case hi17 => rw [List.getElem?_toArray]; rfl
      go_simp
      refine hK.out _ _ ?hS17 (fun hHeld => ?re17)
      case hS17 => trivial
      clear hK K
      (try simp only [Act.put, List.setIfInBounds_toArray, List.set_cons_zero, List.set_cons_succ])
      refine wpAnyH_ready (fuel := 0) (rs := [6]) (by kernel_rfl) (by simp) ?_
      refine AllReadyH.cons (o := ?oi18) ?hi18 (fun K hK => ?st18) AllReadyH.nil
      case hi18 => rw [List.getElem?_toArray]; rfl
      go_simp
      refine hK.out _ _ ?hS18 (fun hHeld => ?re18)
      case hS18 => trivial
      clear hK K
      (try simp only [Act.put, List.setIfInBounds_toArray, List.set_cons_zero, List.set_cons_succ])
      refine wpAnyH_done (by kernel_rfl) ?_ _
      clear hHeld
      have r5 := hid (rb4.out.set1 (min (hi : Int) U))
      have q5 := hid (rq4.out.other ⟨w.heap.size, 1, none⟩ (.int .i64 (min (hi : Int) U)) (show w.heap.size + 1 ≠ w.heap.size by omega))
      have bel5 := hid (bel4.out.setCell (p := ⟨w.heap.size, 1, none⟩) (Nat.le_refl _) (.int .i64 (min (hi : Int) U)))
      generalize w4.setCell ⟨w.heap.size, 1, none⟩ (.int .i64 (min (hi : Int) U)) = w5 at *
      clear d0 d1 d2 d3 fr4 fq4
      obtain ⟨d0, d1, d2, d3⟩ := RBox.box r5.out
      have fq5 := RBox.frozen q5.out
      obtain ⟨g0, g1, g2, g3⟩ := RBox.box q5.out
      have P5 := hid (RBox.box (q5.out.st4 (x' := max (lo : Int) B1) (y' := min (hi : Int) U) (z' := B1) (u' := O1)))
      have B5 := hid (st4_below (w.heap.size + 1) (max (lo : Int) B1) (min (hi : Int) U) B1 O1 bel5.out (by omega))
      go_wp2_with fail
      obtain ⟨p0, p1, p2, p3⟩ := P5.out
      unfold st4 at p0 p1 p2 p3
      refine bodyPost_ret (v := rv (max (lo : Int) B1) (min (hi : Int) U) B1 O1) (by simp [results, Try.results51, go_sem, p0, p1, p2, p3]) rfl ⟨?_, B5.out⟩
      simp
      omega
    exact AllReadyH.nil
  exact AllReadyH.nil
end Go.Proofs.Ytcopcajleonndaa
