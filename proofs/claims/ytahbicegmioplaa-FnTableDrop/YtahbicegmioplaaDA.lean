/- The draw of whatever table. -/
import Derived.Test.YtahbicegmioplaaDT
namespace Go.Proofs.Ytahbicegmioplaa
open Go.RowKit
set_option linter.unusedVariables false
set_option linter.unusedSimpArgs false

set_option maxRecDepth 100000 in
set_option maxHeartbeats 4000000 in
theorem anyTable_k {w0 w : World} {B : Nat} {a : Option Addr} {len cap p : Nat} (h : RS w0 w B a len cap p) (hp : p ≤ 700000) :
    Calls Try.prog 46 #[.pointer (some ⟨B, 0, none⟩)] w fun e w' => ∃ (k s r : Int) (ks : List Int) (vs : List ByteArray) (a1 b1 : Option Addr) (c1 d1 q : Nat), e = .returned (.agg #[.int .i64 k, .int .i64 s, .int .i64 r, .slice a1 ks.length c1, .slice b1 vs.length d1]) ∧ RW w' ks vs a1 b1 c1 d1 ∧ ks.length ≤ 21 ∧ vs.length ≤ 21 ∧ q ≤ p + 50 ∧ K3 w0 w w' B a len cap q := by
  obtain ⟨i0, hi, hz0, hz1, hz2⟩ := info_parts info3
  obtain ⟨j0, hj, hy0, hy1, hy2⟩ := info_parts info9
  have H := hid h
  have lB := h.lt
  clear h
  go_enter Try.func46, Try.ntmps46
  go_wp2_with fail
  have HQ : Hid (Box5 (w.alloc (.cells #[.int .i64 0, .int .i64 0, .int .i64 0, .slice none 0 0, .slice none 0 0] 28)) w.heap.size 0 0 0 (.slice none 0 0) (.slice none 0 0)) := World.alloc_heap_new w _
  have HD := hid ((K3.start H.out).alloc (.cells #[.int .i64 0, .int .i64 0, .int .i64 0, .slice none 0 0, .slice none 0 0] 28))
  clear H
  generalize w.alloc (.cells #[.int .i64 0, .int .i64 0, .int .i64 0, .slice none 0 0, .slice none 0 0] 28) = w1 at *
  refine (table_k HD.out.rs (by omega)).mono ?_
  rintro e w2 ⟨k, s, r, ks, vs, a1, b1, c1, d1, q, rfl, hr, ba0, bb0, hs, hk, hv, hq, k2⟩
  have ba := hid (ba0.mono HD.out.kp.1)
  have bb := hid (bb0.mono HD.out.kp.1)
  replace HQ := hid (HQ.out.k3 (by omega) k2)
  replace HD := hid (HD.out.draw k2)
  have HR := hid hr
  clear k2 hr ba0 bb0
  go_wp2_with fail
  have HM := hid (TB.new HR.out k s r)
  have lQ0 := HQ.out.lt
  replace HQ := hid (HQ.out.alloc (.cells #[.int .i64 k, .int .i64 s, .int .i64 r, .slice a1 ks.length c1, .slice b1 vs.length d1] 28))
  replace HD := hid (HD.out.alloc (.cells #[.int .i64 k, .int .i64 s, .int .i64 r, .slice a1 ks.length c1, .slice b1 vs.length d1] 28))
  clear HR
  generalize w2.alloc (.cells #[.int .i64 k, .int .i64 s, .int .i64 r, .slice a1 ks.length c1, .slice b1 vs.length d1] 28) = w3 at *
  generalize w2.heap.size = M at *
  refine (pick_k HD.out.rs (by omega) 12 (by omega) (by omega)).mono ?_
  rintro e w4 ⟨m, rfl, hm, k4⟩
  replace HM := hid (HM.out.kept (by omega) HD.out.rs k4)
  replace HQ := hid (HQ.out.k3 (by omega) k4)
  replace HD := hid (HD.out.draw k4)
  clear k4
  have hx0 : (0 : Int) ≤ (m : Int) := by omega
  generalize (m : Int) = x at *
  have hxc : x = 0 ∨ x = 1 ∨ x = 2 ∨ x = 3 ∨ 4 ≤ x := by omega
  rcases hxc with rfl | rfl | rfl | rfl | h4
  · skip
    go_wp2_with fail
    refine (one_k HD.out.rs (by omega) [0, 3] 3 (by decide) (by decide)).mono ?_
    rintro e w5 ⟨v, hv5, rfl, k5⟩
    replace HM := hid (HM.out.kept (by omega) HD.out.rs k5)
    replace HQ := hid (HQ.out.k3 (by omega) k5)
    replace HD := hid (HD.out.draw k5)
    clear k5 hv5
    have hq5 := hid (Box5.kept HQ.out (grownBy_setCell5 w5 M 0 (.int .i64 v)) (by simp; omega))
    have hr5 : Hid (RW (w5.setCell ⟨M, 0, none⟩ (.int .i64 v)) ks vs a1 b1 c1 d1) := ⟨HM.out.rw.1.kept (grownBy_setCell5 w5 M 0 (.int .i64 v)) (.inr (Box5.not_row HM.out.box (by decide) HM.out.rw.1).symm), HM.out.rw.2.kept (grownBy_setCell5 w5 M 0 (.int .i64 v)) (.inr (Box5.not_row HM.out.box (by decide) HM.out.rw.2).symm)⟩
    have hk5 := hid (HD.out.set ⟨M, 0, none⟩ (.int .i64 v) (by show w.heap.size ≤ M; omega))
    have R5 := hid (RW.st5 hq5.out hr5.out (k' := v) (s' := s) (r' := r) (v' := .slice a1 ks.length c1) (u' := .slice b1 vs.length d1))
    have K5 := hid ((hk5.out).st5 w.heap.size v s r (.slice a1 ks.length c1) (.slice b1 vs.length d1) (Nat.le_refl _))
    have P5 := hid (Box5.cells (Box5.st5 hq5.out (k' := v) (s' := s) (r' := r) (v' := .slice a1 ks.length c1) (u' := .slice b1 vs.length d1)))
    obtain ⟨x0, x1, x2, x3, x4⟩ := Box5.cells HM.out.box
    obtain ⟨y0, y1, y2, y3, y4⟩ := Box5.cells HQ.out
    have fM := Box5.frozen HM.out.box
    have fQ := Box5.frozen HQ.out
    have lM := Box5.lt HM.out.box
    have lQ := Box5.lt HQ.out
    go_wp2_with fail
    obtain ⟨p0, p1, p2, p3, p4⟩ := P5.out
    unfold st5 at p0 p1 p2 p3 p4
    refine bodyPost_ret (v := .agg #[.int .i64 v, .int .i64 s, .int .i64 r, .slice a1 ks.length c1, .slice b1 vs.length d1]) (by simp [results, Try.results46, go_sem, p0, p1, p2, p3, p4]) rfl ?_
    exact ⟨v, s, r, ks, vs, a1, b1, c1, d1, _, rfl, R5.out, by omega, by omega, by omega, K5.out⟩
  · skip
    go_wp2_with fail
    refine (one_k HD.out.rs (by omega) [0, 3, 9] 3 (by decide) (by decide)).mono ?_
    rintro e w5 ⟨v, hv5, rfl, k5⟩
    replace HM := hid (HM.out.kept (by omega) HD.out.rs k5)
    replace HQ := hid (HQ.out.k3 (by omega) k5)
    replace HD := hid (HD.out.draw k5)
    clear k5 hv5
    have hq5 := hid (Box5.kept HQ.out (grownBy_setCell5 w5 M 1 (.int .i64 v)) (by simp; omega))
    have hr5 : Hid (RW (w5.setCell ⟨M, 1, none⟩ (.int .i64 v)) ks vs a1 b1 c1 d1) := ⟨HM.out.rw.1.kept (grownBy_setCell5 w5 M 1 (.int .i64 v)) (.inr (Box5.not_row HM.out.box (by decide) HM.out.rw.1).symm), HM.out.rw.2.kept (grownBy_setCell5 w5 M 1 (.int .i64 v)) (.inr (Box5.not_row HM.out.box (by decide) HM.out.rw.2).symm)⟩
    have hk5 := hid (HD.out.set ⟨M, 1, none⟩ (.int .i64 v) (by show w.heap.size ≤ M; omega))
    have R5 := hid (RW.st5 hq5.out hr5.out (k' := k) (s' := v) (r' := r) (v' := .slice a1 ks.length c1) (u' := .slice b1 vs.length d1))
    have K5 := hid ((hk5.out).st5 w.heap.size k v r (.slice a1 ks.length c1) (.slice b1 vs.length d1) (Nat.le_refl _))
    have P5 := hid (Box5.cells (Box5.st5 hq5.out (k' := k) (s' := v) (r' := r) (v' := .slice a1 ks.length c1) (u' := .slice b1 vs.length d1)))
    obtain ⟨x0, x1, x2, x3, x4⟩ := Box5.cells HM.out.box
    obtain ⟨y0, y1, y2, y3, y4⟩ := Box5.cells HQ.out
    have fM := Box5.frozen HM.out.box
    have fQ := Box5.frozen HQ.out
    have lM := Box5.lt HM.out.box
    have lQ := Box5.lt HQ.out
    go_wp2_with fail
    obtain ⟨p0, p1, p2, p3, p4⟩ := P5.out
    unfold st5 at p0 p1 p2 p3 p4
    refine bodyPost_ret (v := .agg #[.int .i64 k, .int .i64 v, .int .i64 r, .slice a1 ks.length c1, .slice b1 vs.length d1]) (by simp [results, Try.results46, go_sem, p0, p1, p2, p3, p4]) rfl ?_
    exact ⟨k, v, r, ks, vs, a1, b1, c1, d1, _, rfl, R5.out, by omega, by omega, by omega, K5.out⟩
  · skip
    have HI := hid (row_base HM.out.rw.1 ba.out)
    have HS := hid (row_base HM.out.rw.2 bb.out)
    have lw : w.heap.size ≤ w4.heap.size := HD.out.kp.1
    obtain ⟨x0, x1, x2, x3, x4⟩ := Box5.cells HM.out.box
    have lM := Box5.lt HM.out.box
    go_wp2_with (first | (at_builtin; go_must (refine wpList_append_own _ rfl _ _ 25 rfl w.heap.size 3 i0 (.int .i64 0) 1 8 Try.underlying25 hi hz0 hz1 hz2 rfl (by decide) _ _ _ rfl (World.ownsRow.alloc HI.out _) ⟨w4.heap.size, 0, none⟩ 1 1 [.int .i64 5] rfl (by simp) (one_newE _ _ _ _ rfl) ?c2 ?c3 ?c4 ?c5 ?_)))
    case c2 => simp [Value.oneCell']
    case c3 => unfold maxLen; omega
    case c4 => omega
    case c5 => simp; omega
    clear x0 x1 x2 x3 x4 lM
    intro v' w5 hown hgrow _
    obtain ⟨ks2, hks2⟩ : ∃ l, l = ks ++ [(5 : Int)] := ⟨_, rfl⟩
    have HKL : Hid (ks2.length = ks.length + 1) := by show ks2.length = _; rw [hks2]; simp
    have hown' : w5.ownsRow w.heap.size 3 1 v' ks2.length (ks2.map (.int .i64)) := by rw [hks2]; simpa using hown
    obtain ⟨mB, mB2, rI, rS, _, bl⟩ := Box5.app3 HM.out.box HI.out HS.out (by omega) (by omega) hown' hgrow
    have qB := Box5.kept (Box5.kept HQ.out (World.grownBy_alloc _ _ none) (by simp)) hgrow (Box5.not_row HQ.out (by decide) HI.out)
    have qB2 := Box5.kept qB (grownBy_setCell5 w5 M 3 v') (by simp; omega)
    have kD := HD.out.belowN bl
    obtain ⟨a2, cap2, rfl⟩ := own_slice hown'
    have rw2 := hid (show RW _ ks2 vs a2 b1 cap2 d1 from ⟨own_mono rI (Nat.zero_le _), own_mono rS (Nat.zero_le _)⟩)
    have HmB := hid mB
    have HqB := hid qB
    have HqB2 := hid qB2
    have HkD := hid kD
    clear mB mB2 rI rS bl qB qB2 kD hown hown' hgrow hks2
    have R5 := hid (RW.st5 HqB2.out rw2.out (k' := k) (s' := s) (r' := r) (v' := .slice a2 ks2.length cap2) (u' := .slice b1 vs.length d1))
    have K5 := hid ((HkD.out).st5 w.heap.size k s r (.slice a2 ks2.length cap2) (.slice b1 vs.length d1) (Nat.le_refl _))
    have P5 := hid (Box5.cells (Box5.st5 HqB2.out (k' := k) (s' := s) (r' := r) (v' := .slice a2 ks2.length cap2) (u' := .slice b1 vs.length d1)))
    obtain ⟨x0, x1, x2, x3, x4⟩ := Box5.cells HmB.out
    obtain ⟨y0, y1, y2, y3, y4⟩ := Box5.cells HqB.out
    have fM := Box5.frozen HmB.out
    have fQ := Box5.frozen HqB.out
    have lM := Box5.lt HmB.out
    have lQ := Box5.lt HqB.out
    go_wp2_with fail
    obtain ⟨p0, p1, p2, p3, p4⟩ := P5.out
    unfold st5 at p0 p1 p2 p3 p4
    refine bodyPost_ret (v := .agg #[.int .i64 k, .int .i64 s, .int .i64 r, .slice a2 ks2.length cap2, .slice b1 vs.length d1]) (by simp [results, Try.results46, go_sem, p0, p1, p2, p3, p4]) rfl ?_
    exact ⟨k, s, r, ks2, vs, a2, b1, cap2, d1, _, rfl, R5.out, by have := HKL.out; omega, by omega, by omega, K5.out⟩
  · skip
    have HI := hid (row_base HM.out.rw.1 ba.out)
    have HS := hid (row_base HM.out.rw.2 bb.out)
    have lw : w.heap.size ≤ w4.heap.size := HD.out.kp.1
    obtain ⟨x0, x1, x2, x3, x4⟩ := Box5.cells HM.out.box
    have lM := Box5.lt HM.out.box
    go_wp2_with (first | (at_builtin; go_must (refine wpList_append_own _ rfl _ _ 25 rfl w.heap.size 3 i0 (.int .i64 0) 1 8 Try.underlying25 hi hz0 hz1 hz2 rfl (by decide) _ _ _ rfl (World.ownsRow.alloc HI.out _) ⟨w4.heap.size, 0, none⟩ 1 1 [.int .i64 0] rfl (by simp) (one_newE _ _ _ _ rfl) ?c2 ?c3 ?c4 ?c5 ?_)))
    case c2 => simp [Value.oneCell']
    case c3 => unfold maxLen; omega
    case c4 => omega
    case c5 => simp; omega
    clear x0 x1 x2 x3 x4 lM
    intro v' w5 hown hgrow _
    obtain ⟨ks2, hks2⟩ : ∃ l, l = ks ++ [(0 : Int)] := ⟨_, rfl⟩
    have HKL : Hid (ks2.length = ks.length + 1) := by show ks2.length = _; rw [hks2]; simp
    have hown' : w5.ownsRow w.heap.size 3 1 v' ks2.length (ks2.map (.int .i64)) := by rw [hks2]; simpa using hown
    obtain ⟨mB, mB2, rI, rS, _, bl⟩ := Box5.app3 HM.out.box HI.out HS.out (by omega) (by omega) hown' hgrow
    have qB := Box5.kept (Box5.kept HQ.out (World.grownBy_alloc _ _ none) (by simp)) hgrow (Box5.not_row HQ.out (by decide) HI.out)
    have qB2 := Box5.kept qB (grownBy_setCell5 w5 M 3 v') (by simp; omega)
    have kD := HD.out.belowN bl
    obtain ⟨a2, cap2, rfl⟩ := own_slice hown'
    have HmB := hid mB
    have HqB := hid qB
    have hqX := hid qB2
    have hdX := hid kD
    have hmX := hid mB2
    have hiX := hid rI
    have hsX := hid rS
    clear mB mB2 rI rS bl qB qB2 kD hown hown' hgrow hks2
    obtain ⟨x0, x1, x2, x3, x4⟩ := Box5.cells HmB.out
    have fM := Box5.frozen HmB.out
    have lM := Box5.lt HmB.out
    go_wp2_with fail
    clear x0 x1 x2 x3 x4 fM lM HmB HqB HI HS
    generalize w5.setCell ⟨M, 3, none⟩ (.slice a2 ks2.length cap2) = w6 at *
    refine wp_region_held_drew (S := (fun _ => True)) (by kernel_rfl) (trivial) (fun hHeld => ?_)
    replace hmX := hid (hmX.out.bel (Below.refl _ _).drew)
    replace hqX := hid (hqX.out.bel (Below.refl _ _).drew)
    replace hiX := hid (own_below hiX.out (Below.refl _ _).drew)
    replace hsX := hid (own_below hsX.out (Below.refl _ _).drew)
    replace hdX := hid hdX.out.drew
    generalize w6.drew = W6 at *
    refine wpAnyH_take (i := 0) (oi := ?oi1) (v := ?v1) (fuel := 8) ?hi1 ?hs1 ?hf1 ?hr1 ?hq1 (Or.inl ⟨?hw1, ?hy1⟩) hHeld ?rest1
    case hi1 => rw [List.getElem?_toArray]; rfl
    case hq1 => exact fun _ _ _ h => h
    case hs1 | hf1 | hr1 => kernel_rfl
    case hw1 => rfl
    case hy1 => (intro w1 hSw; (try dsimp only at hSw); go_simp; try with_reducible rfl)
    (try simp only [Act.put, List.setIfInBounds_toArray, List.set_cons_zero, List.set_cons_succ])
    refine wpAnyH_take (i := 2) (oi := ?oi2) (v := ?v2) (fuel := 7) ?hi2 ?hs2 ?hf2 ?hr2 ?hq2 (Or.inl ⟨?hw2, ?hy2⟩) hHeld ?rest2
    case hi2 => rw [List.getElem?_toArray]; rfl
    case hq2 => exact fun _ _ _ h => h
    case hs2 | hf2 | hr2 => kernel_rfl
    case hw2 => rfl
    case hy2 => (intro w1 hSw; (try dsimp only at hSw); go_simp; try with_reducible rfl)
    (try simp only [Act.put, List.setIfInBounds_toArray, List.set_cons_zero, List.set_cons_succ])
    refine wpAnyH_ready (fuel := 6) (rs := [1, 3]) (by kernel_rfl) (by simp) ?_
    refine AllReadyH.cons (o := ?oi3) ?hi3 (fun K hK => ?st3) ?mo3
    case hi3 => rw [List.getElem?_toArray]; rfl
    case st3 =>
      obtain ⟨x0, x1, x2, x3, x4⟩ := Box5.cells hmX.out
      have lM := Box5.lt hmX.out
      go_simp
      clear x0 x1 x2 x3 x4 lM
      refine hK.out _ _ ?hS3 (fun hHeld => ?re3)
      case hS3 => trivial
      clear hK K
      (try simp only [Act.put, List.setIfInBounds_toArray, List.set_cons_zero, List.set_cons_succ])
      refine wpAnyH_ready (fuel := 5) (rs := [3]) (by kernel_rfl) (by simp) ?_
      refine AllReadyH.cons (o := ?oi4) ?hi4 (fun K hK => ?st4) AllReadyH.nil
      case hi4 => rw [List.getElem?_toArray]; rfl
      obtain ⟨x0, x1, x2, x3, x4⟩ := Box5.cells hmX.out
      have lM := Box5.lt hmX.out
      go_simp
      clear x0 x1 x2 x3 x4 lM
      refine hK.out _ _ ?hS4 (fun hHeld => ?re4)
      case hS4 => trivial
      clear hK K
      (try simp only [Act.put, List.setIfInBounds_toArray, List.set_cons_zero, List.set_cons_succ])
      refine wpAnyH_ready (fuel := 4) (rs := [4]) (by kernel_rfl) (by simp) ?_
      refine AllReadyH.cons (o := ?oi5) ?hi5 (fun K hK => ?st5) AllReadyH.nil
      case hi5 => rw [List.getElem?_toArray]; rfl
      go_simp
      refine (f52 s _ hs).mono ?_
      rintro ee wr4 ⟨rfl, b4⟩
      replace hmX := hid (hmX.out.bel b4)
      replace hqX := hid (hqX.out.bel b4)
      replace hiX := hid (own_below hiX.out b4)
      replace hsX := hid (own_below hsX.out b4)
      replace hdX := hid (hdX.out.below b4)
      clear b4
      go_wp2_with fail
      refine hK.out _ _ ?hS5 (fun hHeld => ?re5)
      case hS5 => trivial
      clear hK K
      (try simp only [Act.put, List.setIfInBounds_toArray, List.set_cons_zero, List.set_cons_succ])
      refine wpAnyH_ready (fuel := 3) (rs := [5]) (by kernel_rfl) (by simp) ?_
      refine AllReadyH.cons (o := ?oi6) ?hi6 (fun K hK => ?st6) AllReadyH.nil
      case hi6 => rw [List.getElem?_toArray]; rfl
      go_simp
      refine hK.out _ _ ?hS6 (fun hHeld => ?re6)
      case hS6 => trivial
      clear hK K
      (try simp only [Act.put, List.setIfInBounds_toArray, List.set_cons_zero, List.set_cons_succ])
      refine wpAnyH_ready (fuel := 2) (rs := [6]) (by kernel_rfl) (by simp) ?_
      refine AllReadyH.cons (o := ?oi7) ?hi7 (fun K hK => ?st7) AllReadyH.nil
      case hi7 => rw [List.getElem?_toArray]; rfl
      have lw4 : w.heap.size ≤ wr4.heap.size := hdX.out.kp.1
      rw [if_pos (by first | rfl | kernel_rfl)]
      refine wp_append_own _ _ _ 26 rfl w.heap.size 9 j0 (.string ⟨#[]⟩) 1 16 Try.underlying26 hj hy0 hy1 hy2 rfl (by decide) _ _ _ rfl (World.ownsRow.alloc hsX.out (.cells #[.string (zerosB s)] 9)) ⟨wr4.heap.size, 0, none⟩ 1 1 [.string (zerosB s)] rfl rfl (one_newE _ _ _ _ rfl) (by simp [Value.oneCell']) (by unfold maxLen; omega) (by omega) (by simp; omega) ?_
      intro v7 w7 hown7 hgrow7 _
      obtain ⟨vs2, hvs2⟩ : ∃ l, l = vs ++ [zerosB s] := ⟨_, rfl⟩
      have HVL : Hid (vs2.length = vs.length + 1) := by show vs2.length = _; rw [hvs2]; simp
      have hown7' : w7.ownsRow w.heap.size 9 1 v7 vs2.length (vs2.map .string) := by rw [hvs2]; simpa using hown7
      obtain ⟨mB, mB2, rS, rI, _, bl⟩ := Box5.app4 hmX.out hsX.out hiX.out (by omega) (by omega) hown7' hgrow7
      have qB := Box5.kept (Box5.kept hqX.out (World.grownBy_alloc _ _ none) (by simp)) hgrow7 (Box5.not_row hqX.out (by decide) hsX.out)
      have qB2 := Box5.kept qB (grownBy_setCell5 w7 M 4 v7) (by simp; omega)
      have kD := hdX.out.belowN bl
      obtain ⟨b2, cap3, rfl⟩ := own_slice hown7'
      have rw2 := hid (show RW _ ks2 vs2 a2 b2 cap2 cap3 from ⟨own_mono rI (Nat.zero_le _), own_mono rS (Nat.zero_le _)⟩)
      have HmB := hid mB
      have HqB := hid qB
      have HqB2 := hid qB2
      have HkD := hid kD
      clear mB mB2 rI rS bl qB qB2 kD hown7 hown7' hgrow7 hvs2 lw4
      refine hK.out _ _ ?hS7 (fun hHeld => ?re7)
      case hS7 => trivial
      clear hK K
      (try simp only [Act.put, List.setIfInBounds_toArray, List.set_cons_zero, List.set_cons_succ])
      refine wpAnyH_take (i := 7) (oi := ?oi8) (v := ?v8) (fuel := 1) ?hi8 ?hs8 ?hf8 ?hr8 ?hq8 (Or.inl ⟨?hw8, ?hy8⟩) hHeld ?rest8
      case hi8 => rw [List.getElem?_toArray]; rfl
      case hq8 => exact fun _ _ _ h => h
      case hs8 | hf8 | hr8 => kernel_rfl
      case hw8 => rfl
      case hy8 => (intro w1 hSw; (try dsimp only at hSw); go_simp; try with_reducible rfl)
      (try simp only [Act.put, List.setIfInBounds_toArray, List.set_cons_zero, List.set_cons_succ])
      refine wpAnyH_ready (fuel := 0) (rs := [8]) (by kernel_rfl) (by simp) ?_
      refine AllReadyH.cons (o := ?oi9) ?hi9 (fun K hK => ?st9) AllReadyH.nil
      case hi9 => rw [List.getElem?_toArray]; rfl
      obtain ⟨x0, x1, x2, x3, x4⟩ := Box5.cells HmB.out
      have fM := Box5.frozen HmB.out
      have lM := Box5.lt HmB.out
      go_simp
      clear x0 x1 x2 x3 x4 fM lM
      refine hK.out _ _ ?hS9 (fun hHeld => ?re9)
      case hS9 => trivial
      clear hK K
      (try simp only [Act.put, List.setIfInBounds_toArray, List.set_cons_zero, List.set_cons_succ])
      refine wpAnyH_done (by kernel_rfl) ?_ _
      clear hHeld
      have R5 := hid (RW.st5 HqB2.out rw2.out (k' := k) (s' := s) (r' := r) (v' := .slice a2 ks2.length cap2) (u' := .slice b2 vs2.length cap3))
      have K5 := hid ((HkD.out).st5 w.heap.size k s r (.slice a2 ks2.length cap2) (.slice b2 vs2.length cap3) (Nat.le_refl _))
      have P5 := hid (Box5.cells (Box5.st5 HqB2.out (k' := k) (s' := s) (r' := r) (v' := .slice a2 ks2.length cap2) (u' := .slice b2 vs2.length cap3)))
      obtain ⟨x0, x1, x2, x3, x4⟩ := Box5.cells HmB.out
      obtain ⟨y0, y1, y2, y3, y4⟩ := Box5.cells HqB.out
      have fM := Box5.frozen HmB.out
      have fQ := Box5.frozen HqB.out
      have lM := Box5.lt HmB.out
      have lQ := Box5.lt HqB.out
      go_wp2_with fail
      obtain ⟨p0, p1, p2, p3, p4⟩ := P5.out
      unfold st5 at p0 p1 p2 p3 p4
      refine bodyPost_ret (v := .agg #[.int .i64 k, .int .i64 s, .int .i64 r, .slice a2 ks2.length cap2, .slice b2 vs2.length cap3]) (by simp [results, Try.results46, go_sem, p0, p1, p2, p3, p4]) rfl ?_
      exact ⟨k, s, r, ks2, vs2, a2, b2, cap2, cap3, _, rfl, R5.out, by have := HKL.out; omega, by have := HVL.out; omega, by omega, K5.out⟩
    refine AllReadyH.cons (o := ?oi10) ?hi10 (fun K hK => ?st10) ?mo10
    case hi10 => rw [List.getElem?_toArray]; rfl
    case st10 =>
      obtain ⟨x0, x1, x2, x3, x4⟩ := Box5.cells hmX.out
      have lM := Box5.lt hmX.out
      go_simp
      clear x0 x1 x2 x3 x4 lM
      refine hK.out _ _ ?hS10 (fun hHeld => ?re10)
      case hS10 => trivial
      clear hK K
      (try simp only [Act.put, List.setIfInBounds_toArray, List.set_cons_zero, List.set_cons_succ])
      refine wpAnyH_ready (fuel := 5) (rs := [1, 4]) (by kernel_rfl) (by simp) ?_
      refine AllReadyH.cons (o := ?oi11) ?hi11 (fun K hK => ?st11) ?mo11
      case hi11 => rw [List.getElem?_toArray]; rfl
      case st11 =>
        obtain ⟨x0, x1, x2, x3, x4⟩ := Box5.cells hmX.out
        have lM := Box5.lt hmX.out
        go_simp
        clear x0 x1 x2 x3 x4 lM
        refine hK.out _ _ ?hS11 (fun hHeld => ?re11)
        case hS11 => trivial
        clear hK K
        (try simp only [Act.put, List.setIfInBounds_toArray, List.set_cons_zero, List.set_cons_succ])
        refine wpAnyH_ready (fuel := 4) (rs := [4]) (by kernel_rfl) (by simp) ?_
        refine AllReadyH.cons (o := ?oi12) ?hi12 (fun K hK => ?st12) AllReadyH.nil
        case hi12 => rw [List.getElem?_toArray]; rfl
        go_simp
        refine (f52 s _ hs).mono ?_
        rintro ee wr4 ⟨rfl, b4⟩
        replace hmX := hid (hmX.out.bel b4)
        replace hqX := hid (hqX.out.bel b4)
        replace hiX := hid (own_below hiX.out b4)
        replace hsX := hid (own_below hsX.out b4)
        replace hdX := hid (hdX.out.below b4)
        clear b4
        go_wp2_with fail
        refine hK.out _ _ ?hS12 (fun hHeld => ?re12)
        case hS12 => trivial
        clear hK K
        (try simp only [Act.put, List.setIfInBounds_toArray, List.set_cons_zero, List.set_cons_succ])
        refine wpAnyH_ready (fuel := 3) (rs := [5]) (by kernel_rfl) (by simp) ?_
        refine AllReadyH.cons (o := ?oi13) ?hi13 (fun K hK => ?st13) AllReadyH.nil
        case hi13 => rw [List.getElem?_toArray]; rfl
        go_simp
        refine hK.out _ _ ?hS13 (fun hHeld => ?re13)
        case hS13 => trivial
        clear hK K
        (try simp only [Act.put, List.setIfInBounds_toArray, List.set_cons_zero, List.set_cons_succ])
        refine wpAnyH_ready (fuel := 2) (rs := [6]) (by kernel_rfl) (by simp) ?_
        refine AllReadyH.cons (o := ?oi14) ?hi14 (fun K hK => ?st14) AllReadyH.nil
        case hi14 => rw [List.getElem?_toArray]; rfl
        have lw4 : w.heap.size ≤ wr4.heap.size := hdX.out.kp.1
        rw [if_pos (by first | rfl | kernel_rfl)]
        refine wp_append_own _ _ _ 26 rfl w.heap.size 9 j0 (.string ⟨#[]⟩) 1 16 Try.underlying26 hj hy0 hy1 hy2 rfl (by decide) _ _ _ rfl (World.ownsRow.alloc hsX.out (.cells #[.string (zerosB s)] 9)) ⟨wr4.heap.size, 0, none⟩ 1 1 [.string (zerosB s)] rfl rfl (one_newE _ _ _ _ rfl) (by simp [Value.oneCell']) (by unfold maxLen; omega) (by omega) (by simp; omega) ?_
        intro v7 w7 hown7 hgrow7 _
        obtain ⟨vs2, hvs2⟩ : ∃ l, l = vs ++ [zerosB s] := ⟨_, rfl⟩
        have HVL : Hid (vs2.length = vs.length + 1) := by show vs2.length = _; rw [hvs2]; simp
        have hown7' : w7.ownsRow w.heap.size 9 1 v7 vs2.length (vs2.map .string) := by rw [hvs2]; simpa using hown7
        obtain ⟨mB, mB2, rS, rI, _, bl⟩ := Box5.app4 hmX.out hsX.out hiX.out (by omega) (by omega) hown7' hgrow7
        have qB := Box5.kept (Box5.kept hqX.out (World.grownBy_alloc _ _ none) (by simp)) hgrow7 (Box5.not_row hqX.out (by decide) hsX.out)
        have qB2 := Box5.kept qB (grownBy_setCell5 w7 M 4 v7) (by simp; omega)
        have kD := hdX.out.belowN bl
        obtain ⟨b2, cap3, rfl⟩ := own_slice hown7'
        have rw2 := hid (show RW _ ks2 vs2 a2 b2 cap2 cap3 from ⟨own_mono rI (Nat.zero_le _), own_mono rS (Nat.zero_le _)⟩)
        have HmB := hid mB
        have HqB := hid qB
        have HqB2 := hid qB2
        have HkD := hid kD
        clear mB mB2 rI rS bl qB qB2 kD hown7 hown7' hgrow7 hvs2 lw4
        refine hK.out _ _ ?hS14 (fun hHeld => ?re14)
        case hS14 => trivial
        clear hK K
        (try simp only [Act.put, List.setIfInBounds_toArray, List.set_cons_zero, List.set_cons_succ])
        refine wpAnyH_take (i := 7) (oi := ?oi15) (v := ?v15) (fuel := 1) ?hi15 ?hs15 ?hf15 ?hr15 ?hq15 (Or.inl ⟨?hw15, ?hy15⟩) hHeld ?rest15
        case hi15 => rw [List.getElem?_toArray]; rfl
        case hq15 => exact fun _ _ _ h => h
        case hs15 | hf15 | hr15 => kernel_rfl
        case hw15 => rfl
        case hy15 => (intro w1 hSw; (try dsimp only at hSw); go_simp; try with_reducible rfl)
        (try simp only [Act.put, List.setIfInBounds_toArray, List.set_cons_zero, List.set_cons_succ])
        refine wpAnyH_ready (fuel := 0) (rs := [8]) (by kernel_rfl) (by simp) ?_
        refine AllReadyH.cons (o := ?oi16) ?hi16 (fun K hK => ?st16) AllReadyH.nil
        case hi16 => rw [List.getElem?_toArray]; rfl
        obtain ⟨x0, x1, x2, x3, x4⟩ := Box5.cells HmB.out
        have fM := Box5.frozen HmB.out
        have lM := Box5.lt HmB.out
        go_simp
        clear x0 x1 x2 x3 x4 fM lM
        refine hK.out _ _ ?hS16 (fun hHeld => ?re16)
        case hS16 => trivial
        clear hK K
        (try simp only [Act.put, List.setIfInBounds_toArray, List.set_cons_zero, List.set_cons_succ])
        refine wpAnyH_done (by kernel_rfl) ?_ _
        clear hHeld
        have R5 := hid (RW.st5 HqB2.out rw2.out (k' := k) (s' := s) (r' := r) (v' := .slice a2 ks2.length cap2) (u' := .slice b2 vs2.length cap3))
        have K5 := hid ((HkD.out).st5 w.heap.size k s r (.slice a2 ks2.length cap2) (.slice b2 vs2.length cap3) (Nat.le_refl _))
        have P5 := hid (Box5.cells (Box5.st5 HqB2.out (k' := k) (s' := s) (r' := r) (v' := .slice a2 ks2.length cap2) (u' := .slice b2 vs2.length cap3)))
        obtain ⟨x0, x1, x2, x3, x4⟩ := Box5.cells HmB.out
        obtain ⟨y0, y1, y2, y3, y4⟩ := Box5.cells HqB.out
        have fM := Box5.frozen HmB.out
        have fQ := Box5.frozen HqB.out
        have lM := Box5.lt HmB.out
        have lQ := Box5.lt HqB.out
        go_wp2_with fail
        obtain ⟨p0, p1, p2, p3, p4⟩ := P5.out
        unfold st5 at p0 p1 p2 p3 p4
        refine bodyPost_ret (v := .agg #[.int .i64 k, .int .i64 s, .int .i64 r, .slice a2 ks2.length cap2, .slice b2 vs2.length cap3]) (by simp [results, Try.results46, go_sem, p0, p1, p2, p3, p4]) rfl ?_
        exact ⟨k, s, r, ks2, vs2, a2, b2, cap2, cap3, _, rfl, R5.out, by have := HKL.out; omega, by have := HVL.out; omega, by omega, K5.out⟩
      refine AllReadyH.cons (o := ?oi17) ?hi17 (fun K hK => ?st17) ?mo17
      case hi17 => rw [List.getElem?_toArray]; rfl
      case st17 =>
        go_simp
        refine (f52 s _ hs).mono ?_
        rintro ee wr4 ⟨rfl, b4⟩
        replace hmX := hid (hmX.out.bel b4)
        replace hqX := hid (hqX.out.bel b4)
        replace hiX := hid (own_below hiX.out b4)
        replace hsX := hid (own_below hsX.out b4)
        replace hdX := hid (hdX.out.below b4)
        clear b4
        go_wp2_with fail
        refine hK.out _ _ ?hS17 (fun hHeld => ?re17)
        case hS17 => trivial
        clear hK K
        (try simp only [Act.put, List.setIfInBounds_toArray, List.set_cons_zero, List.set_cons_succ])
        refine wpAnyH_ready (fuel := 4) (rs := [1, 5]) (by kernel_rfl) (by simp) ?_
        refine AllReadyH.cons (o := ?oi18) ?hi18 (fun K hK => ?st18) ?mo18
        case hi18 => rw [List.getElem?_toArray]; rfl
        case st18 =>
          obtain ⟨x0, x1, x2, x3, x4⟩ := Box5.cells hmX.out
          have lM := Box5.lt hmX.out
          go_simp
          clear x0 x1 x2 x3 x4 lM
          refine hK.out _ _ ?hS18 (fun hHeld => ?re18)
          case hS18 => trivial
          clear hK K
          (try simp only [Act.put, List.setIfInBounds_toArray, List.set_cons_zero, List.set_cons_succ])
          refine wpAnyH_ready (fuel := 3) (rs := [5]) (by kernel_rfl) (by simp) ?_
          refine AllReadyH.cons (o := ?oi19) ?hi19 (fun K hK => ?st19) AllReadyH.nil
          case hi19 => rw [List.getElem?_toArray]; rfl
          go_simp
          refine hK.out _ _ ?hS19 (fun hHeld => ?re19)
          case hS19 => trivial
          clear hK K
          (try simp only [Act.put, List.setIfInBounds_toArray, List.set_cons_zero, List.set_cons_succ])
          refine wpAnyH_ready (fuel := 2) (rs := [6]) (by kernel_rfl) (by simp) ?_
          refine AllReadyH.cons (o := ?oi20) ?hi20 (fun K hK => ?st20) AllReadyH.nil
          case hi20 => rw [List.getElem?_toArray]; rfl
          have lw4 : w.heap.size ≤ wr4.heap.size := hdX.out.kp.1
          rw [if_pos (by first | rfl | kernel_rfl)]
          refine wp_append_own _ _ _ 26 rfl w.heap.size 9 j0 (.string ⟨#[]⟩) 1 16 Try.underlying26 hj hy0 hy1 hy2 rfl (by decide) _ _ _ rfl (World.ownsRow.alloc hsX.out (.cells #[.string (zerosB s)] 9)) ⟨wr4.heap.size, 0, none⟩ 1 1 [.string (zerosB s)] rfl rfl (one_newE _ _ _ _ rfl) (by simp [Value.oneCell']) (by unfold maxLen; omega) (by omega) (by simp; omega) ?_
          intro v7 w7 hown7 hgrow7 _
          obtain ⟨vs2, hvs2⟩ : ∃ l, l = vs ++ [zerosB s] := ⟨_, rfl⟩
          have HVL : Hid (vs2.length = vs.length + 1) := by show vs2.length = _; rw [hvs2]; simp
          have hown7' : w7.ownsRow w.heap.size 9 1 v7 vs2.length (vs2.map .string) := by rw [hvs2]; simpa using hown7
          obtain ⟨mB, mB2, rS, rI, _, bl⟩ := Box5.app4 hmX.out hsX.out hiX.out (by omega) (by omega) hown7' hgrow7
          have qB := Box5.kept (Box5.kept hqX.out (World.grownBy_alloc _ _ none) (by simp)) hgrow7 (Box5.not_row hqX.out (by decide) hsX.out)
          have qB2 := Box5.kept qB (grownBy_setCell5 w7 M 4 v7) (by simp; omega)
          have kD := hdX.out.belowN bl
          obtain ⟨b2, cap3, rfl⟩ := own_slice hown7'
          have rw2 := hid (show RW _ ks2 vs2 a2 b2 cap2 cap3 from ⟨own_mono rI (Nat.zero_le _), own_mono rS (Nat.zero_le _)⟩)
          have HmB := hid mB
          have HqB := hid qB
          have HqB2 := hid qB2
          have HkD := hid kD
          clear mB mB2 rI rS bl qB qB2 kD hown7 hown7' hgrow7 hvs2 lw4
          refine hK.out _ _ ?hS20 (fun hHeld => ?re20)
          case hS20 => trivial
          clear hK K
          (try simp only [Act.put, List.setIfInBounds_toArray, List.set_cons_zero, List.set_cons_succ])
          refine wpAnyH_take (i := 7) (oi := ?oi21) (v := ?v21) (fuel := 1) ?hi21 ?hs21 ?hf21 ?hr21 ?hq21 (Or.inl ⟨?hw21, ?hy21⟩) hHeld ?rest21
          case hi21 => rw [List.getElem?_toArray]; rfl
          case hq21 => exact fun _ _ _ h => h
          case hs21 | hf21 | hr21 => kernel_rfl
          case hw21 => rfl
          case hy21 => (intro w1 hSw; (try dsimp only at hSw); go_simp; try with_reducible rfl)
          (try simp only [Act.put, List.setIfInBounds_toArray, List.set_cons_zero, List.set_cons_succ])
          refine wpAnyH_ready (fuel := 0) (rs := [8]) (by kernel_rfl) (by simp) ?_
          refine AllReadyH.cons (o := ?oi22) ?hi22 (fun K hK => ?st22) AllReadyH.nil
          case hi22 => rw [List.getElem?_toArray]; rfl
          obtain ⟨x0, x1, x2, x3, x4⟩ := Box5.cells HmB.out
          have fM := Box5.frozen HmB.out
          have lM := Box5.lt HmB.out
          go_simp
          clear x0 x1 x2 x3 x4 fM lM
          refine hK.out _ _ ?hS22 (fun hHeld => ?re22)
          case hS22 => trivial
          clear hK K
          (try simp only [Act.put, List.setIfInBounds_toArray, List.set_cons_zero, List.set_cons_succ])
          refine wpAnyH_done (by kernel_rfl) ?_ _
          clear hHeld
          have R5 := hid (RW.st5 HqB2.out rw2.out (k' := k) (s' := s) (r' := r) (v' := .slice a2 ks2.length cap2) (u' := .slice b2 vs2.length cap3))
          have K5 := hid ((HkD.out).st5 w.heap.size k s r (.slice a2 ks2.length cap2) (.slice b2 vs2.length cap3) (Nat.le_refl _))
          have P5 := hid (Box5.cells (Box5.st5 HqB2.out (k' := k) (s' := s) (r' := r) (v' := .slice a2 ks2.length cap2) (u' := .slice b2 vs2.length cap3)))
          obtain ⟨x0, x1, x2, x3, x4⟩ := Box5.cells HmB.out
          obtain ⟨y0, y1, y2, y3, y4⟩ := Box5.cells HqB.out
          have fM := Box5.frozen HmB.out
          have fQ := Box5.frozen HqB.out
          have lM := Box5.lt HmB.out
          have lQ := Box5.lt HqB.out
          go_wp2_with fail
          obtain ⟨p0, p1, p2, p3, p4⟩ := P5.out
          unfold st5 at p0 p1 p2 p3 p4
          refine bodyPost_ret (v := .agg #[.int .i64 k, .int .i64 s, .int .i64 r, .slice a2 ks2.length cap2, .slice b2 vs2.length cap3]) (by simp [results, Try.results46, go_sem, p0, p1, p2, p3, p4]) rfl ?_
          exact ⟨k, s, r, ks2, vs2, a2, b2, cap2, cap3, _, rfl, R5.out, by have := HKL.out; omega, by have := HVL.out; omega, by omega, K5.out⟩
        refine AllReadyH.cons (o := ?oi23) ?hi23 (fun K hK => ?st23) ?mo23
        case hi23 => rw [List.getElem?_toArray]; rfl
        case st23 =>
          go_simp
          refine hK.out _ _ ?hS23 (fun hHeld => ?re23)
          case hS23 => trivial
          clear hK K
          (try simp only [Act.put, List.setIfInBounds_toArray, List.set_cons_zero, List.set_cons_succ])
          refine wpAnyH_ready (fuel := 3) (rs := [1]) (by kernel_rfl) (by simp) ?_
          refine AllReadyH.cons (o := ?oi24) ?hi24 (fun K hK => ?st24) AllReadyH.nil
          case hi24 => rw [List.getElem?_toArray]; rfl
          obtain ⟨x0, x1, x2, x3, x4⟩ := Box5.cells hmX.out
          have lM := Box5.lt hmX.out
          go_simp
          clear x0 x1 x2 x3 x4 lM
          refine hK.out _ _ ?hS24 (fun hHeld => ?re24)
          case hS24 => trivial
          clear hK K
          (try simp only [Act.put, List.setIfInBounds_toArray, List.set_cons_zero, List.set_cons_succ])
          refine wpAnyH_ready (fuel := 2) (rs := [6]) (by kernel_rfl) (by simp) ?_
          refine AllReadyH.cons (o := ?oi25) ?hi25 (fun K hK => ?st25) AllReadyH.nil
          case hi25 => rw [List.getElem?_toArray]; rfl
          have lw4 : w.heap.size ≤ wr4.heap.size := hdX.out.kp.1
          rw [if_pos (by first | rfl | kernel_rfl)]
          refine wp_append_own _ _ _ 26 rfl w.heap.size 9 j0 (.string ⟨#[]⟩) 1 16 Try.underlying26 hj hy0 hy1 hy2 rfl (by decide) _ _ _ rfl (World.ownsRow.alloc hsX.out (.cells #[.string (zerosB s)] 9)) ⟨wr4.heap.size, 0, none⟩ 1 1 [.string (zerosB s)] rfl rfl (one_newE _ _ _ _ rfl) (by simp [Value.oneCell']) (by unfold maxLen; omega) (by omega) (by simp; omega) ?_
          intro v7 w7 hown7 hgrow7 _
          obtain ⟨vs2, hvs2⟩ : ∃ l, l = vs ++ [zerosB s] := ⟨_, rfl⟩
          have HVL : Hid (vs2.length = vs.length + 1) := by show vs2.length = _; rw [hvs2]; simp
          have hown7' : w7.ownsRow w.heap.size 9 1 v7 vs2.length (vs2.map .string) := by rw [hvs2]; simpa using hown7
          obtain ⟨mB, mB2, rS, rI, _, bl⟩ := Box5.app4 hmX.out hsX.out hiX.out (by omega) (by omega) hown7' hgrow7
          have qB := Box5.kept (Box5.kept hqX.out (World.grownBy_alloc _ _ none) (by simp)) hgrow7 (Box5.not_row hqX.out (by decide) hsX.out)
          have qB2 := Box5.kept qB (grownBy_setCell5 w7 M 4 v7) (by simp; omega)
          have kD := hdX.out.belowN bl
          obtain ⟨b2, cap3, rfl⟩ := own_slice hown7'
          have rw2 := hid (show RW _ ks2 vs2 a2 b2 cap2 cap3 from ⟨own_mono rI (Nat.zero_le _), own_mono rS (Nat.zero_le _)⟩)
          have HmB := hid mB
          have HqB := hid qB
          have HqB2 := hid qB2
          have HkD := hid kD
          clear mB mB2 rI rS bl qB qB2 kD hown7 hown7' hgrow7 hvs2 lw4
          refine hK.out _ _ ?hS25 (fun hHeld => ?re25)
          case hS25 => trivial
          clear hK K
          (try simp only [Act.put, List.setIfInBounds_toArray, List.set_cons_zero, List.set_cons_succ])
          refine wpAnyH_take (i := 7) (oi := ?oi26) (v := ?v26) (fuel := 1) ?hi26 ?hs26 ?hf26 ?hr26 ?hq26 (Or.inl ⟨?hw26, ?hy26⟩) hHeld ?rest26
          case hi26 => rw [List.getElem?_toArray]; rfl
          case hq26 => exact fun _ _ _ h => h
          case hs26 | hf26 | hr26 => kernel_rfl
          case hw26 => rfl
          case hy26 => (intro w1 hSw; (try dsimp only at hSw); go_simp; try with_reducible rfl)
          (try simp only [Act.put, List.setIfInBounds_toArray, List.set_cons_zero, List.set_cons_succ])
          refine wpAnyH_ready (fuel := 0) (rs := [8]) (by kernel_rfl) (by simp) ?_
          refine AllReadyH.cons (o := ?oi27) ?hi27 (fun K hK => ?st27) AllReadyH.nil
          case hi27 => rw [List.getElem?_toArray]; rfl
          obtain ⟨x0, x1, x2, x3, x4⟩ := Box5.cells HmB.out
          have fM := Box5.frozen HmB.out
          have lM := Box5.lt HmB.out
          go_simp
          clear x0 x1 x2 x3 x4 fM lM
          refine hK.out _ _ ?hS27 (fun hHeld => ?re27)
          case hS27 => trivial
          clear hK K
          (try simp only [Act.put, List.setIfInBounds_toArray, List.set_cons_zero, List.set_cons_succ])
          refine wpAnyH_done (by kernel_rfl) ?_ _
          clear hHeld
          have R5 := hid (RW.st5 HqB2.out rw2.out (k' := k) (s' := s) (r' := r) (v' := .slice a2 ks2.length cap2) (u' := .slice b2 vs2.length cap3))
          have K5 := hid ((HkD.out).st5 w.heap.size k s r (.slice a2 ks2.length cap2) (.slice b2 vs2.length cap3) (Nat.le_refl _))
          have P5 := hid (Box5.cells (Box5.st5 HqB2.out (k' := k) (s' := s) (r' := r) (v' := .slice a2 ks2.length cap2) (u' := .slice b2 vs2.length cap3)))
          obtain ⟨x0, x1, x2, x3, x4⟩ := Box5.cells HmB.out
          obtain ⟨y0, y1, y2, y3, y4⟩ := Box5.cells HqB.out
          have fM := Box5.frozen HmB.out
          have fQ := Box5.frozen HqB.out
          have lM := Box5.lt HmB.out
          have lQ := Box5.lt HqB.out
          go_wp2_with fail
          obtain ⟨p0, p1, p2, p3, p4⟩ := P5.out
          unfold st5 at p0 p1 p2 p3 p4
          refine bodyPost_ret (v := .agg #[.int .i64 k, .int .i64 s, .int .i64 r, .slice a2 ks2.length cap2, .slice b2 vs2.length cap3]) (by simp [results, Try.results46, go_sem, p0, p1, p2, p3, p4]) rfl ?_
          exact ⟨k, s, r, ks2, vs2, a2, b2, cap2, cap3, _, rfl, R5.out, by have := HKL.out; omega, by have := HVL.out; omega, by omega, K5.out⟩
        exact AllReadyH.nil
      exact AllReadyH.nil
    exact AllReadyH.nil
  · skip
    have e0 : (x == 0) = false := by simp; omega
    have e1 : (x == 1) = false := by simp; omega
    have e2 : (x == 2) = false := by simp; omega
    have e3 : (x == 3) = false := by simp; omega
    have R5 := hid (RW.st5 HQ.out HM.out.rw (k' := k) (s' := s) (r' := r) (v' := .slice a1 ks.length c1) (u' := .slice b1 vs.length d1))
    have K5 := hid ((HD.out).st5 w.heap.size k s r (.slice a1 ks.length c1) (.slice b1 vs.length d1) (Nat.le_refl _))
    have P5 := hid (Box5.cells (Box5.st5 HQ.out (k' := k) (s' := s) (r' := r) (v' := .slice a1 ks.length c1) (u' := .slice b1 vs.length d1)))
    obtain ⟨x0, x1, x2, x3, x4⟩ := Box5.cells HM.out.box
    obtain ⟨y0, y1, y2, y3, y4⟩ := Box5.cells HQ.out
    have fM := Box5.frozen HM.out.box
    have fQ := Box5.frozen HQ.out
    have lM := Box5.lt HM.out.box
    have lQ := Box5.lt HQ.out
    go_wp2_with fail
    obtain ⟨p0, p1, p2, p3, p4⟩ := P5.out
    unfold st5 at p0 p1 p2 p3 p4
    refine bodyPost_ret (v := .agg #[.int .i64 k, .int .i64 s, .int .i64 r, .slice a1 ks.length c1, .slice b1 vs.length d1]) (by simp [results, Try.results46, go_sem, p0, p1, p2, p3, p4]) rfl ?_
    exact ⟨k, s, r, ks, vs, a1, b1, c1, d1, _, rfl, R5.out, by omega, by omega, by omega, K5.out⟩
end Go.Proofs.Ytahbicegmioplaa
