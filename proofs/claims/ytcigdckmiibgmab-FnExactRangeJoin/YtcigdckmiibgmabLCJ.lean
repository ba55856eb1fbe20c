/- The walk of the law of RangeJoin. -/
import Derived.Test.YtcigdckmiibgmabLC
namespace Go.Proofs.Ytcigdckmiibgmab
open Go.RowKit
set_option linter.unusedVariables false
set_option linter.unusedSimpArgs false

set_option maxRecDepth 100000 in
set_option maxHeartbeats 4000000 in
theorem law_join (a b c d e f g h x y z u : Int) (w : World)
    (hs : Hid (∀ w, Calls Try.prog 17 #[rv a b c d, rv e f g h] w fun ee w' => ee = .returned (rv x y z u) ∧ Below w.heap.size w w'))
    (hp : Hid (∀ w, Calls Try.prog 18 #[rv a b c d, rv e f g h] w fun ee w' => ee = .returned (rv x y z u) ∧ Below w.heap.size w w')) :
    Calls Try.prog 6 #[rv a b c d, rv e f g h] w fun ee w' => ee = .returned (.bool true) ∧ Below w.heap.size w w' := by
  have tw := hid (Two.new w a b c d e f g h 23)
  go_enter Try.func6, Try.ntmps6
  go_wp2_with fail
  generalize (w.alloc (.cells #[.int .i64 a, .int .i64 b, .int .i64 c, .int .i64 d] 23)).alloc (.cells #[.int .i64 e, .int .i64 f, .int .i64 g, .int .i64 h] 23) = W0 at *
  go_cut [5] (fun s wr => ∃ k, s = .pointer (some ⟨k, 0, none⟩) ∧ RBox wr k x y z u ∧ w.heap.size + 1 < k ∧ Two w a b c d e f g h wr)
  case first =>
    refine wp_region_held_drew (S := (fun w' => w'.cell? ⟨w.heap.size, 0, none⟩ = some (.int .i64 a) ∧ w'.cell? ⟨w.heap.size, 1, none⟩ = some (.int .i64 b) ∧ w'.cell? ⟨w.heap.size, 2, none⟩ = some (.int .i64 c) ∧ w'.cell? ⟨w.heap.size, 3, none⟩ = some (.int .i64 d) ∧ w'.cell? ⟨w.heap.size + 1, 0, none⟩ = some (.int .i64 e) ∧ w'.cell? ⟨w.heap.size + 1, 1, none⟩ = some (.int .i64 f) ∧ w'.cell? ⟨w.heap.size + 1, 2, none⟩ = some (.int .i64 g) ∧ w'.cell? ⟨w.heap.size + 1, 3, none⟩ = some (.int .i64 h))) (by kernel_rfl) (by exact ⟨tw.out.A.c0, tw.out.A.c1, tw.out.A.c2, tw.out.A.c3, tw.out.B.c0, tw.out.B.c1, tw.out.B.c2, tw.out.B.c3⟩) (fun hHeld => ?_)
    replace tw := hid tw.out.drew
    generalize W0.drew = W1 at *
    refine wpAnyH_take (i := 0) (oi := ?oi1) (v := ?v1) (fuel := 6) ?hi1 ?hs1 ?hf1 ?hr1 ?hq1 (Or.inl ⟨?hw1, ?hy1⟩) hHeld ?rest1
    case hi1 => rw [List.getElem?_toArray]; rfl
    case hq1 => exact fun _ _ _ h => h
    case hs1 => kernel_rfl
    case hf1 => kernel_rfl
    case hr1 => kernel_rfl
    case hw1 => rfl
    case hy1 => (intro w1 hSw; (try dsimp only at hSw); go_simp; try with_reducible rfl)
    (try simp only [Act.put, List.setIfInBounds_toArray, List.set_cons_zero, List.set_cons_succ])
    refine wpAnyH_take (i := 2) (oi := ?oi2) (v := ?v2) (fuel := 5) ?hi2 ?hs2 ?hf2 ?hr2 ?hq2 (Or.inl ⟨?hw2, ?hy2⟩) hHeld ?rest2
    case hi2 => rw [List.getElem?_toArray]; rfl
    case hq2 => exact fun _ _ _ h => h
    case hs2 => kernel_rfl
    case hf2 => kernel_rfl
    case hr2 => kernel_rfl
    case hw2 => rfl
    case hy2 => (intro w1 hSw; (try dsimp only at hSw); go_simp; try with_reducible rfl)
    (try simp only [Act.put, List.setIfInBounds_toArray, List.set_cons_zero, List.set_cons_succ])
    refine wpAnyH_ready (fuel := 4) (rs := [1, 5]) (by kernel_rfl) (by simp) ?_
    refine AllReadyH.cons (o := ?oi3) ?hi3 (fun K hK => ?st3) ?mo3
    case hi3 => rw [List.getElem?_toArray]; rfl
    case st3 =>
      go_simp
      refine (c_toRange _ _ _ _ _).mono ?_
      rintro ee wc1 ⟨rfl, hbn⟩
      replace tw := hid (tw.out.below hbn)
      clear hbn
      go_wp2_with fail
      refine hK.out _ _ ?hS3 (fun hHeld => ?re3)
      case hS3 => exact ⟨tw.out.A.c0, tw.out.A.c1, tw.out.A.c2, tw.out.A.c3, tw.out.B.c0, tw.out.B.c1, tw.out.B.c2, tw.out.B.c3⟩
      clear hK K
      (try simp only [Act.put, List.setIfInBounds_toArray, List.set_cons_zero, List.set_cons_succ])
      refine wpAnyH_ready (fuel := 3) (rs := [3, 5]) (by kernel_rfl) (by simp) ?_
      refine AllReadyH.cons (o := ?oi4) ?hi4 (fun K hK => ?st4) ?mo4
      case hi4 => rw [List.getElem?_toArray]; rfl
      case st4 =>
        go_simp
        refine (c_toRange _ _ _ _ _).mono ?_
        rintro ee wc3 ⟨rfl, hbn⟩
        replace tw := hid (tw.out.below hbn)
        clear hbn
        go_wp2_with fail
        refine hK.out _ _ ?hS4 (fun hHeld => ?re4)
        case hS4 => exact ⟨tw.out.A.c0, tw.out.A.c1, tw.out.A.c2, tw.out.A.c3, tw.out.B.c0, tw.out.B.c1, tw.out.B.c2, tw.out.B.c3⟩
        clear hK K
        (try simp only [Act.put, List.setIfInBounds_toArray, List.set_cons_zero, List.set_cons_succ])
        refine wpAnyH_ready (fuel := 2) (rs := [4, 5]) (by kernel_rfl) (by simp) ?_
        refine AllReadyH.cons (o := ?oi5) ?hi5 (fun K hK => ?st5) ?mo5
        case hi5 => rw [List.getElem?_toArray]; rfl
        case st5 =>
          go_simp
          refine (hs.out _).mono ?_
          rintro ee wc4 ⟨rfl, hbn⟩
          replace tw := hid (tw.out.below hbn)
          clear hbn
          go_wp2_with fail
          refine hK.out _ _ ?hS5 (fun hHeld => ?re5)
          case hS5 => exact ⟨tw.out.A.c0, tw.out.A.c1, tw.out.A.c2, tw.out.A.c3, tw.out.B.c0, tw.out.B.c1, tw.out.B.c2, tw.out.B.c3⟩
          clear hK K
          (try simp only [Act.put, List.setIfInBounds_toArray, List.set_cons_zero, List.set_cons_succ])
          refine wpAnyH_ready (fuel := 1) (rs := [5]) (by kernel_rfl) (by simp) ?_
          refine AllReadyH.cons (o := ?oi6) ?hi6 (fun K hK => ?st6) AllReadyH.nil
          case hi6 => rw [List.getElem?_toArray]; rfl
          go_simp
          have kG := hid tw.out.l
          have hG := hid (RBox.new wc4 0 0 0 0)
          replace tw := hid (tw.out.alloc (cellsR4 0 0 0 0))
          generalize wc4.alloc (cellsR4 0 0 0 0) = wg5 at *
          refine hK.out _ _ ?hS6 (fun hHeld => ?re6)
          case hS6 => exact ⟨tw.out.A.c0, tw.out.A.c1, tw.out.A.c2, tw.out.A.c3, tw.out.B.c0, tw.out.B.c1, tw.out.B.c2, tw.out.B.c3⟩
          clear hK K
          (try simp only [Act.put, List.setIfInBounds_toArray, List.set_cons_zero, List.set_cons_succ])
          refine wpAnyH_ready (fuel := 0) (rs := [6]) (by kernel_rfl) (by simp) ?_
          refine AllReadyH.cons (o := ?oi7) ?hi7 (fun K hK => ?st7) AllReadyH.nil
          case hi7 => rw [List.getElem?_toArray]; rfl
          obtain ⟨g0, g1, g2, g3⟩ := RBox.box hG.out
          have fq := RBox.frozen hG.out
          go_simp
          clear g0 g1 g2 g3 fq
          replace hG := hid (hG.out.st4 (x' := x) (y' := y) (z' := z) (u' := u))
          replace tw := hid (tw.out.st4 kG.out x y z u)
          unfold Go.Proofs.Ytcigdckmiibgmab.st4 at hG tw
          generalize ((((wg5.setCell ⟨wc4.heap.size, 0, none⟩ (.int .i64 x)).setCell ⟨wc4.heap.size, 1, none⟩ (.int .i64 y)).setCell ⟨wc4.heap.size, 2, none⟩ (.int .i64 z)).setCell ⟨wc4.heap.size, 3, none⟩ (.int .i64 u)) = ws6 at *
          refine hK.out _ _ ?hS7 (fun hHeld => ?re7)
          case hS7 => exact ⟨tw.out.A.c0, tw.out.A.c1, tw.out.A.c2, tw.out.A.c3, tw.out.B.c0, tw.out.B.c1, tw.out.B.c2, tw.out.B.c3⟩
          clear hK K
          (try simp only [Act.put, List.setIfInBounds_toArray, List.set_cons_zero, List.set_cons_succ])
          refine wpAnyH_done (by kernel_rfl) ?_ _
          clear hHeld
          go_wp2_with fail
          go_meet
          case rel => exact ⟨_, rfl, hG.out, kG.out, tw.out⟩
        refine AllReadyH.cons (o := ?oi8) ?hi8 (fun K hK => ?st8) ?mo8
        case hi8 => rw [List.getElem?_toArray]; rfl
        case st8 =>
          go_simp
          have kG := hid tw.out.l
          have hG := hid (RBox.new wc3 0 0 0 0)
          replace tw := hid (tw.out.alloc (cellsR4 0 0 0 0))
          generalize wc3.alloc (cellsR4 0 0 0 0) = wg5 at *
          refine hK.out _ _ ?hS8 (fun hHeld => ?re8)
          case hS8 => exact ⟨tw.out.A.c0, tw.out.A.c1, tw.out.A.c2, tw.out.A.c3, tw.out.B.c0, tw.out.B.c1, tw.out.B.c2, tw.out.B.c3⟩
          clear hK K
          (try simp only [Act.put, List.setIfInBounds_toArray, List.set_cons_zero, List.set_cons_succ])
          refine wpAnyH_ready (fuel := 1) (rs := [4]) (by kernel_rfl) (by simp) ?_
          refine AllReadyH.cons (o := ?oi9) ?hi9 (fun K hK => ?st9) AllReadyH.nil
          case hi9 => rw [List.getElem?_toArray]; rfl
          go_simp
          refine (hs.out _).mono ?_
          rintro ee wc4 ⟨rfl, hbn⟩
          replace tw := hid (tw.out.below hbn)
          replace hG := hid (hG.out.below hbn)
          clear hbn
          go_wp2_with fail
          refine hK.out _ _ ?hS9 (fun hHeld => ?re9)
          case hS9 => exact ⟨tw.out.A.c0, tw.out.A.c1, tw.out.A.c2, tw.out.A.c3, tw.out.B.c0, tw.out.B.c1, tw.out.B.c2, tw.out.B.c3⟩
          clear hK K
          (try simp only [Act.put, List.setIfInBounds_toArray, List.set_cons_zero, List.set_cons_succ])
          refine wpAnyH_ready (fuel := 0) (rs := [6]) (by kernel_rfl) (by simp) ?_
          refine AllReadyH.cons (o := ?oi10) ?hi10 (fun K hK => ?st10) AllReadyH.nil
          case hi10 => rw [List.getElem?_toArray]; rfl
          obtain ⟨g0, g1, g2, g3⟩ := RBox.box hG.out
          have fq := RBox.frozen hG.out
          go_simp
          clear g0 g1 g2 g3 fq
          replace hG := hid (hG.out.st4 (x' := x) (y' := y) (z' := z) (u' := u))
          replace tw := hid (tw.out.st4 kG.out x y z u)
          unfold Go.Proofs.Ytcigdckmiibgmab.st4 at hG tw
          generalize ((((wc4.setCell ⟨wc3.heap.size, 0, none⟩ (.int .i64 x)).setCell ⟨wc3.heap.size, 1, none⟩ (.int .i64 y)).setCell ⟨wc3.heap.size, 2, none⟩ (.int .i64 z)).setCell ⟨wc3.heap.size, 3, none⟩ (.int .i64 u)) = ws6 at *
          refine hK.out _ _ ?hS10 (fun hHeld => ?re10)
          case hS10 => exact ⟨tw.out.A.c0, tw.out.A.c1, tw.out.A.c2, tw.out.A.c3, tw.out.B.c0, tw.out.B.c1, tw.out.B.c2, tw.out.B.c3⟩
          clear hK K
          (try simp only [Act.put, List.setIfInBounds_toArray, List.set_cons_zero, List.set_cons_succ])
          refine wpAnyH_done (by kernel_rfl) ?_ _
          clear hHeld
          go_wp2_with fail
          go_meet
          case rel => exact ⟨_, rfl, hG.out, kG.out, tw.out⟩
        exact AllReadyH.nil
      refine AllReadyH.cons (o := ?oi11) ?hi11 (fun K hK => ?st11) ?mo11
      case hi11 => rw [List.getElem?_toArray]; rfl
      case st11 =>
        go_simp
        have kG := hid tw.out.l
        have hG := hid (RBox.new wc1 0 0 0 0)
        replace tw := hid (tw.out.alloc (cellsR4 0 0 0 0))
        generalize wc1.alloc (cellsR4 0 0 0 0) = wg5 at *
        refine hK.out _ _ ?hS11 (fun hHeld => ?re11)
        case hS11 => exact ⟨tw.out.A.c0, tw.out.A.c1, tw.out.A.c2, tw.out.A.c3, tw.out.B.c0, tw.out.B.c1, tw.out.B.c2, tw.out.B.c3⟩
        clear hK K
        (try simp only [Act.put, List.setIfInBounds_toArray, List.set_cons_zero, List.set_cons_succ])
        refine wpAnyH_ready (fuel := 2) (rs := [3]) (by kernel_rfl) (by simp) ?_
        refine AllReadyH.cons (o := ?oi12) ?hi12 (fun K hK => ?st12) AllReadyH.nil
        case hi12 => rw [List.getElem?_toArray]; rfl
        go_simp
        refine (c_toRange _ _ _ _ _).mono ?_
        rintro ee wc3 ⟨rfl, hbn⟩
        replace tw := hid (tw.out.below hbn)
        replace hG := hid (hG.out.below hbn)
        clear hbn
        go_wp2_with fail
        refine hK.out _ _ ?hS12 (fun hHeld => ?re12)
        case hS12 => exact ⟨tw.out.A.c0, tw.out.A.c1, tw.out.A.c2, tw.out.A.c3, tw.out.B.c0, tw.out.B.c1, tw.out.B.c2, tw.out.B.c3⟩
        clear hK K
        (try simp only [Act.put, List.setIfInBounds_toArray, List.set_cons_zero, List.set_cons_succ])
        refine wpAnyH_ready (fuel := 1) (rs := [4]) (by kernel_rfl) (by simp) ?_
        refine AllReadyH.cons (o := ?oi13) ?hi13 (fun K hK => ?st13) AllReadyH.nil
        case hi13 => rw [List.getElem?_toArray]; rfl
        go_simp
        refine (hs.out _).mono ?_
        rintro ee wc4 ⟨rfl, hbn⟩
        replace tw := hid (tw.out.below hbn)
        replace hG := hid (hG.out.below hbn)
        clear hbn
        go_wp2_with fail
        refine hK.out _ _ ?hS13 (fun hHeld => ?re13)
        case hS13 => exact ⟨tw.out.A.c0, tw.out.A.c1, tw.out.A.c2, tw.out.A.c3, tw.out.B.c0, tw.out.B.c1, tw.out.B.c2, tw.out.B.c3⟩
        clear hK K
        (try simp only [Act.put, List.setIfInBounds_toArray, List.set_cons_zero, List.set_cons_succ])
        refine wpAnyH_ready (fuel := 0) (rs := [6]) (by kernel_rfl) (by simp) ?_
        refine AllReadyH.cons (o := ?oi14) ?hi14 (fun K hK => ?st14) AllReadyH.nil
        case hi14 => rw [List.getElem?_toArray]; rfl
        obtain ⟨g0, g1, g2, g3⟩ := RBox.box hG.out
        have fq := RBox.frozen hG.out
        go_simp
        clear g0 g1 g2 g3 fq
        replace hG := hid (hG.out.st4 (x' := x) (y' := y) (z' := z) (u' := u))
        replace tw := hid (tw.out.st4 kG.out x y z u)
        unfold Go.Proofs.Ytcigdckmiibgmab.st4 at hG tw
        generalize ((((wc4.setCell ⟨wc1.heap.size, 0, none⟩ (.int .i64 x)).setCell ⟨wc1.heap.size, 1, none⟩ (.int .i64 y)).setCell ⟨wc1.heap.size, 2, none⟩ (.int .i64 z)).setCell ⟨wc1.heap.size, 3, none⟩ (.int .i64 u)) = ws6 at *
        refine hK.out _ _ ?hS14 (fun hHeld => ?re14)
        case hS14 => exact ⟨tw.out.A.c0, tw.out.A.c1, tw.out.A.c2, tw.out.A.c3, tw.out.B.c0, tw.out.B.c1, tw.out.B.c2, tw.out.B.c3⟩
        clear hK K
        (try simp only [Act.put, List.setIfInBounds_toArray, List.set_cons_zero, List.set_cons_succ])
        refine wpAnyH_done (by kernel_rfl) ?_ _
        clear hHeld
        go_wp2_with fail
        go_meet
        case rel => exact ⟨_, rfl, hG.out, kG.out, tw.out⟩
      exact AllReadyH.nil
    refine AllReadyH.cons (o := ?oi15) ?hi15 (fun K hK => ?st15) ?mo15
    case hi15 => rw [List.getElem?_toArray]; rfl
    case st15 =>
      go_simp
      have kG := hid tw.out.l
      have hG := hid (RBox.new W1 0 0 0 0)
      replace tw := hid (tw.out.alloc (cellsR4 0 0 0 0))
      generalize W1.alloc (cellsR4 0 0 0 0) = wg5 at *
      refine hK.out _ _ ?hS15 (fun hHeld => ?re15)
      case hS15 => exact ⟨tw.out.A.c0, tw.out.A.c1, tw.out.A.c2, tw.out.A.c3, tw.out.B.c0, tw.out.B.c1, tw.out.B.c2, tw.out.B.c3⟩
      clear hK K
      (try simp only [Act.put, List.setIfInBounds_toArray, List.set_cons_zero, List.set_cons_succ])
      refine wpAnyH_ready (fuel := 3) (rs := [1]) (by kernel_rfl) (by simp) ?_
      refine AllReadyH.cons (o := ?oi16) ?hi16 (fun K hK => ?st16) AllReadyH.nil
      case hi16 => rw [List.getElem?_toArray]; rfl
      go_simp
      refine (c_toRange _ _ _ _ _).mono ?_
      rintro ee wc1 ⟨rfl, hbn⟩
      replace tw := hid (tw.out.below hbn)
      replace hG := hid (hG.out.below hbn)
      clear hbn
      go_wp2_with fail
      refine hK.out _ _ ?hS16 (fun hHeld => ?re16)
      case hS16 => exact ⟨tw.out.A.c0, tw.out.A.c1, tw.out.A.c2, tw.out.A.c3, tw.out.B.c0, tw.out.B.c1, tw.out.B.c2, tw.out.B.c3⟩
      clear hK K
      (try simp only [Act.put, List.setIfInBounds_toArray, List.set_cons_zero, List.set_cons_succ])
      refine wpAnyH_ready (fuel := 2) (rs := [3]) (by kernel_rfl) (by simp) ?_
      refine AllReadyH.cons (o := ?oi17) ?hi17 (fun K hK => ?st17) AllReadyH.nil
      case hi17 => rw [List.getElem?_toArray]; rfl
      go_simp
      refine (c_toRange _ _ _ _ _).mono ?_
      rintro ee wc3 ⟨rfl, hbn⟩
      replace tw := hid (tw.out.below hbn)
      replace hG := hid (hG.out.below hbn)
      clear hbn
      go_wp2_with fail
      refine hK.out _ _ ?hS17 (fun hHeld => ?re17)
      case hS17 => exact ⟨tw.out.A.c0, tw.out.A.c1, tw.out.A.c2, tw.out.A.c3, tw.out.B.c0, tw.out.B.c1, tw.out.B.c2, tw.out.B.c3⟩
      clear hK K
      (try simp only [Act.put, List.setIfInBounds_toArray, List.set_cons_zero, List.set_cons_succ])
      refine wpAnyH_ready (fuel := 1) (rs := [4]) (by kernel_rfl) (by simp) ?_
      refine AllReadyH.cons (o := ?oi18) ?hi18 (fun K hK => ?st18) AllReadyH.nil
      case hi18 => rw [List.getElem?_toArray]; rfl
      go_simp
      refine (hs.out _).mono ?_
      rintro ee wc4 ⟨rfl, hbn⟩
      replace tw := hid (tw.out.below hbn)
      replace hG := hid (hG.out.below hbn)
      clear hbn
      go_wp2_with fail
      refine hK.out _ _ ?hS18 (fun hHeld => ?re18)
      case hS18 => exact ⟨tw.out.A.c0, tw.out.A.c1, tw.out.A.c2, tw.out.A.c3, tw.out.B.c0, tw.out.B.c1, tw.out.B.c2, tw.out.B.c3⟩
      clear hK K
      (try simp only [Act.put, List.setIfInBounds_toArray, List.set_cons_zero, List.set_cons_succ])
      refine wpAnyH_ready (fuel := 0) (rs := [6]) (by kernel_rfl) (by simp) ?_
      refine AllReadyH.cons (o := ?oi19) ?hi19 (fun K hK => ?st19) AllReadyH.nil
      case hi19 => rw [List.getElem?_toArray]; rfl
      obtain ⟨g0, g1, g2, g3⟩ := RBox.box hG.out
      have fq := RBox.frozen hG.out
      go_simp
      clear g0 g1 g2 g3 fq
      replace hG := hid (hG.out.st4 (x' := x) (y' := y) (z' := z) (u' := u))
      replace tw := hid (tw.out.st4 kG.out x y z u)
      unfold Go.Proofs.Ytcigdckmiibgmab.st4 at hG tw
      generalize ((((wc4.setCell ⟨W1.heap.size, 0, none⟩ (.int .i64 x)).setCell ⟨W1.heap.size, 1, none⟩ (.int .i64 y)).setCell ⟨W1.heap.size, 2, none⟩ (.int .i64 z)).setCell ⟨W1.heap.size, 3, none⟩ (.int .i64 u)) = ws6 at *
      refine hK.out _ _ ?hS19 (fun hHeld => ?re19)
      case hS19 => exact ⟨tw.out.A.c0, tw.out.A.c1, tw.out.A.c2, tw.out.A.c3, tw.out.B.c0, tw.out.B.c1, tw.out.B.c2, tw.out.B.c3⟩
      clear hK K
      (try simp only [Act.put, List.setIfInBounds_toArray, List.set_cons_zero, List.set_cons_succ])
      refine wpAnyH_done (by kernel_rfl) ?_ _
      clear hHeld
      go_wp2_with fail
      go_meet
      case rel => exact ⟨_, rfl, hG.out, kG.out, tw.out⟩
    exact AllReadyH.nil
  case rest =>
    obtain ⟨kH, rfl, hG0, hkH, tw1⟩ := hcut
    clear tw
    have tw := hid tw1
    have hH := hid hG0
    clear hG0 tw1
    go_wp2_with fail
    refine wp_region_held_drew (S := (fun w' => w'.cell? ⟨w.heap.size, 0, none⟩ = some (.int .i64 a) ∧ w'.cell? ⟨w.heap.size, 1, none⟩ = some (.int .i64 b) ∧ w'.cell? ⟨w.heap.size, 2, none⟩ = some (.int .i64 c) ∧ w'.cell? ⟨w.heap.size, 3, none⟩ = some (.int .i64 d) ∧ w'.cell? ⟨w.heap.size + 1, 0, none⟩ = some (.int .i64 e) ∧ w'.cell? ⟨w.heap.size + 1, 1, none⟩ = some (.int .i64 f) ∧ w'.cell? ⟨w.heap.size + 1, 2, none⟩ = some (.int .i64 g) ∧ w'.cell? ⟨w.heap.size + 1, 3, none⟩ = some (.int .i64 h))) (by kernel_rfl) (by exact ⟨tw.out.A.c0, tw.out.A.c1, tw.out.A.c2, tw.out.A.c3, tw.out.B.c0, tw.out.B.c1, tw.out.B.c2, tw.out.B.c3⟩) (fun hHeld => ?_)
    replace tw := hid tw.out.drew
    replace hH := hid hH.out.drew
    generalize wc.drew = W1 at *
    refine wpAnyH_take (i := 0) (oi := ?oi20) (v := ?v20) (fuel := 6) ?hi20 ?hs20 ?hf20 ?hr20 ?hq20 (Or.inl ⟨?hw20, ?hy20⟩) hHeld ?rest20
    case hi20 => rw [List.getElem?_toArray]; rfl
    case hq20 => exact fun _ _ _ h => h
    case hs20 => kernel_rfl
    case hf20 => kernel_rfl
    case hr20 => kernel_rfl
    case hw20 => rfl
    case hy20 => (intro w1 hSw; (try dsimp only at hSw); go_simp; try with_reducible rfl)
    (try simp only [Act.put, List.setIfInBounds_toArray, List.set_cons_zero, List.set_cons_succ])
    refine wpAnyH_take (i := 2) (oi := ?oi21) (v := ?v21) (fuel := 5) ?hi21 ?hs21 ?hf21 ?hr21 ?hq21 (Or.inl ⟨?hw21, ?hy21⟩) hHeld ?rest21
    case hi21 => rw [List.getElem?_toArray]; rfl
    case hq21 => exact fun _ _ _ h => h
    case hs21 => kernel_rfl
    case hf21 => kernel_rfl
    case hr21 => kernel_rfl
    case hw21 => rfl
    case hy21 => (intro w1 hSw; (try dsimp only at hSw); go_simp; try with_reducible rfl)
    (try simp only [Act.put, List.setIfInBounds_toArray, List.set_cons_zero, List.set_cons_succ])
    refine wpAnyH_ready (fuel := 4) (rs := [1, 5]) (by kernel_rfl) (by simp) ?_
    refine AllReadyH.cons (o := ?oi22) ?hi22 (fun K hK => ?st22) ?mo22
    case hi22 => rw [List.getElem?_toArray]; rfl
    case st22 =>
      go_simp
      refine (c_toRange _ _ _ _ _).mono ?_
      rintro ee wc1 ⟨rfl, hbn⟩
      replace tw := hid (tw.out.below hbn)
      replace hH := hid (hH.out.below hbn)
      clear hbn
      go_wp2_with fail
      refine hK.out _ _ ?hS22 (fun hHeld => ?re22)
      case hS22 => exact ⟨tw.out.A.c0, tw.out.A.c1, tw.out.A.c2, tw.out.A.c3, tw.out.B.c0, tw.out.B.c1, tw.out.B.c2, tw.out.B.c3⟩
      clear hK K
      (try simp only [Act.put, List.setIfInBounds_toArray, List.set_cons_zero, List.set_cons_succ])
      refine wpAnyH_ready (fuel := 3) (rs := [3, 5]) (by kernel_rfl) (by simp) ?_
      refine AllReadyH.cons (o := ?oi23) ?hi23 (fun K hK => ?st23) ?mo23
      case hi23 => rw [List.getElem?_toArray]; rfl
      case st23 =>
        go_simp
        refine (c_toRange _ _ _ _ _).mono ?_
        rintro ee wc3 ⟨rfl, hbn⟩
        replace tw := hid (tw.out.below hbn)
        replace hH := hid (hH.out.below hbn)
        clear hbn
        go_wp2_with fail
        refine hK.out _ _ ?hS23 (fun hHeld => ?re23)
        case hS23 => exact ⟨tw.out.A.c0, tw.out.A.c1, tw.out.A.c2, tw.out.A.c3, tw.out.B.c0, tw.out.B.c1, tw.out.B.c2, tw.out.B.c3⟩
        clear hK K
        (try simp only [Act.put, List.setIfInBounds_toArray, List.set_cons_zero, List.set_cons_succ])
        refine wpAnyH_ready (fuel := 2) (rs := [4, 5]) (by kernel_rfl) (by simp) ?_
        refine AllReadyH.cons (o := ?oi24) ?hi24 (fun K hK => ?st24) ?mo24
        case hi24 => rw [List.getElem?_toArray]; rfl
        case st24 =>
          go_simp
          refine (hp.out _).mono ?_
          rintro ee wc4 ⟨rfl, hbn⟩
          replace tw := hid (tw.out.below hbn)
          replace hH := hid (hH.out.below hbn)
          clear hbn
          go_wp2_with fail
          refine hK.out _ _ ?hS24 (fun hHeld => ?re24)
          case hS24 => exact ⟨tw.out.A.c0, tw.out.A.c1, tw.out.A.c2, tw.out.A.c3, tw.out.B.c0, tw.out.B.c1, tw.out.B.c2, tw.out.B.c3⟩
          clear hK K
          (try simp only [Act.put, List.setIfInBounds_toArray, List.set_cons_zero, List.set_cons_succ])
          refine wpAnyH_ready (fuel := 1) (rs := [5]) (by kernel_rfl) (by simp) ?_
          refine AllReadyH.cons (o := ?oi25) ?hi25 (fun K hK => ?st25) AllReadyH.nil
          case hi25 => rw [List.getElem?_toArray]; rfl
          go_simp
          have kG := hid tw.out.l
          have nHG := hid hH.out.lt
          replace hH := hid (hH.out.alloc (cellsR4 0 0 0 0))
          have hG := hid (RBox.new wc4 0 0 0 0)
          replace tw := hid (tw.out.alloc (cellsR4 0 0 0 0))
          generalize wc4.alloc (cellsR4 0 0 0 0) = wg5 at *
          refine hK.out _ _ ?hS25 (fun hHeld => ?re25)
          case hS25 => exact ⟨tw.out.A.c0, tw.out.A.c1, tw.out.A.c2, tw.out.A.c3, tw.out.B.c0, tw.out.B.c1, tw.out.B.c2, tw.out.B.c3⟩
          clear hK K
          (try simp only [Act.put, List.setIfInBounds_toArray, List.set_cons_zero, List.set_cons_succ])
          refine wpAnyH_ready (fuel := 0) (rs := [6]) (by kernel_rfl) (by simp) ?_
          refine AllReadyH.cons (o := ?oi26) ?hi26 (fun K hK => ?st26) AllReadyH.nil
          case hi26 => rw [List.getElem?_toArray]; rfl
          obtain ⟨g0, g1, g2, g3⟩ := RBox.box hG.out
          have fq := RBox.frozen hG.out
          go_simp
          clear g0 g1 g2 g3 fq
          replace hH := hid (hH.out.st4o (k := wc4.heap.size) (by have := nHG.out; omega) x y z u)
          replace hG := hid (hG.out.st4 (x' := x) (y' := y) (z' := z) (u' := u))
          replace tw := hid (tw.out.st4 kG.out x y z u)
          unfold Go.Proofs.Ytcigdckmiibgmab.st4 at hG tw hH
          generalize ((((wg5.setCell ⟨wc4.heap.size, 0, none⟩ (.int .i64 x)).setCell ⟨wc4.heap.size, 1, none⟩ (.int .i64 y)).setCell ⟨wc4.heap.size, 2, none⟩ (.int .i64 z)).setCell ⟨wc4.heap.size, 3, none⟩ (.int .i64 u)) = ws6 at *
          refine hK.out _ _ ?hS26 (fun hHeld => ?re26)
          case hS26 => exact ⟨tw.out.A.c0, tw.out.A.c1, tw.out.A.c2, tw.out.A.c3, tw.out.B.c0, tw.out.B.c1, tw.out.B.c2, tw.out.B.c3⟩
          clear hK K
          (try simp only [Act.put, List.setIfInBounds_toArray, List.set_cons_zero, List.set_cons_succ])
          refine wpAnyH_done (by kernel_rfl) ?_ _
          clear hHeld
          obtain ⟨g0, g1, g2, g3⟩ := RBox.box hG.out
          obtain ⟨j0, j1, j2, j3⟩ := RBox.box hH.out
          go_wp2_with fail
          refine (c_eqRange x y z u _).mono ?_
          rintro ee we ⟨rfl, hbe⟩
          have bele := hid (tw.out.bel.trans (hbe.mono tw.out.bel.size))
          clear g0 g1 g2 g3 j0 j1 j2 j3 hbe
          go_wp2_with fail
          go_ret
          exact ⟨rfl, bele.out⟩
        refine AllReadyH.cons (o := ?oi27) ?hi27 (fun K hK => ?st27) ?mo27
        case hi27 => rw [List.getElem?_toArray]; rfl
        case st27 =>
          go_simp
          have kG := hid tw.out.l
          have nHG := hid hH.out.lt
          replace hH := hid (hH.out.alloc (cellsR4 0 0 0 0))
          have hG := hid (RBox.new wc3 0 0 0 0)
          replace tw := hid (tw.out.alloc (cellsR4 0 0 0 0))
          generalize wc3.alloc (cellsR4 0 0 0 0) = wg5 at *
          refine hK.out _ _ ?hS27 (fun hHeld => ?re27)
          case hS27 => exact ⟨tw.out.A.c0, tw.out.A.c1, tw.out.A.c2, tw.out.A.c3, tw.out.B.c0, tw.out.B.c1, tw.out.B.c2, tw.out.B.c3⟩
          clear hK K
          (try simp only [Act.put, List.setIfInBounds_toArray, List.set_cons_zero, List.set_cons_succ])
          refine wpAnyH_ready (fuel := 1) (rs := [4]) (by kernel_rfl) (by simp) ?_
          refine AllReadyH.cons (o := ?oi28) ?hi28 (fun K hK => ?st28) AllReadyH.nil
          case hi28 => rw [List.getElem?_toArray]; rfl
          go_simp
          refine (hp.out _).mono ?_
          rintro ee wc4 ⟨rfl, hbn⟩
          replace tw := hid (tw.out.below hbn)
          replace hH := hid (hH.out.below hbn)
          replace hG := hid (hG.out.below hbn)
          clear hbn
          go_wp2_with fail
          refine hK.out _ _ ?hS28 (fun hHeld => ?re28)
          case hS28 => exact ⟨tw.out.A.c0, tw.out.A.c1, tw.out.A.c2, tw.out.A.c3, tw.out.B.c0, tw.out.B.c1, tw.out.B.c2, tw.out.B.c3⟩
          clear hK K
          (try simp only [Act.put, List.setIfInBounds_toArray, List.set_cons_zero, List.set_cons_succ])
          refine wpAnyH_ready (fuel := 0) (rs := [6]) (by kernel_rfl) (by simp) ?_
          refine AllReadyH.cons (o := ?oi29) ?hi29 (fun K hK => ?st29) AllReadyH.nil
          case hi29 => rw [List.getElem?_toArray]; rfl
          obtain ⟨g0, g1, g2, g3⟩ := RBox.box hG.out
          have fq := RBox.frozen hG.out
          go_simp
          clear g0 g1 g2 g3 fq
          replace hH := hid (hH.out.st4o (k := wc3.heap.size) (by have := nHG.out; omega) x y z u)
          replace hG := hid (hG.out.st4 (x' := x) (y' := y) (z' := z) (u' := u))
          replace tw := hid (tw.out.st4 kG.out x y z u)
          unfold Go.Proofs.Ytcigdckmiibgmab.st4 at hG tw hH
          generalize ((((wc4.setCell ⟨wc3.heap.size, 0, none⟩ (.int .i64 x)).setCell ⟨wc3.heap.size, 1, none⟩ (.int .i64 y)).setCell ⟨wc3.heap.size, 2, none⟩ (.int .i64 z)).setCell ⟨wc3.heap.size, 3, none⟩ (.int .i64 u)) = ws6 at *
          refine hK.out _ _ ?hS29 (fun hHeld => ?re29)
          case hS29 => exact ⟨tw.out.A.c0, tw.out.A.c1, tw.out.A.c2, tw.out.A.c3, tw.out.B.c0, tw.out.B.c1, tw.out.B.c2, tw.out.B.c3⟩
          clear hK K
          (try simp only [Act.put, List.setIfInBounds_toArray, List.set_cons_zero, List.set_cons_succ])
          refine wpAnyH_done (by kernel_rfl) ?_ _
          clear hHeld
          obtain ⟨g0, g1, g2, g3⟩ := RBox.box hG.out
          obtain ⟨j0, j1, j2, j3⟩ := RBox.box hH.out
          go_wp2_with fail
          refine (c_eqRange x y z u _).mono ?_
          rintro ee we ⟨rfl, hbe⟩
          have bele := hid (tw.out.bel.trans (hbe.mono tw.out.bel.size))
          clear g0 g1 g2 g3 j0 j1 j2 j3 hbe
          go_wp2_with fail
          go_ret
          exact ⟨rfl, bele.out⟩
        exact AllReadyH.nil
      refine AllReadyH.cons (o := ?oi30) ?hi30 (fun K hK => ?st30) ?mo30
      case hi30 => rw [List.getElem?_toArray]; rfl
      case st30 =>
        go_simp
        have kG := hid tw.out.l
        have nHG := hid hH.out.lt
        replace hH := hid (hH.out.alloc (cellsR4 0 0 0 0))
        have hG := hid (RBox.new wc1 0 0 0 0)
        replace tw := hid (tw.out.alloc (cellsR4 0 0 0 0))
        generalize wc1.alloc (cellsR4 0 0 0 0) = wg5 at *
        refine hK.out _ _ ?hS30 (fun hHeld => ?re30)
        case hS30 => exact ⟨tw.out.A.c0, tw.out.A.c1, tw.out.A.c2, tw.out.A.c3, tw.out.B.c0, tw.out.B.c1, tw.out.B.c2, tw.out.B.c3⟩
        clear hK K
        (try simp only [Act.put, List.setIfInBounds_toArray, List.set_cons_zero, List.set_cons_succ])
        refine wpAnyH_ready (fuel := 2) (rs := [3]) (by kernel_rfl) (by simp) ?_
        refine AllReadyH.cons (o := ?oi31) ?hi31 (fun K hK => ?st31) AllReadyH.nil
        case hi31 => rw [List.getElem?_toArray]; rfl
        go_simp
        refine (c_toRange _ _ _ _ _).mono ?_
        rintro ee wc3 ⟨rfl, hbn⟩
        replace tw := hid (tw.out.below hbn)
        replace hH := hid (hH.out.below hbn)
        replace hG := hid (hG.out.below hbn)
        clear hbn
        go_wp2_with fail
        refine hK.out _ _ ?hS31 (fun hHeld => ?re31)
        case hS31 => exact ⟨tw.out.A.c0, tw.out.A.c1, tw.out.A.c2, tw.out.A.c3, tw.out.B.c0, tw.out.B.c1, tw.out.B.c2, tw.out.B.c3⟩
        clear hK K
        (try simp only [Act.put, List.setIfInBounds_toArray, List.set_cons_zero, List.set_cons_succ])
        refine wpAnyH_ready (fuel := 1) (rs := [4]) (by kernel_rfl) (by simp) ?_
        refine AllReadyH.cons (o := ?oi32) ?hi32 (fun K hK => ?st32) AllReadyH.nil
        case hi32 => rw [List.getElem?_toArray]; rfl
        go_simp
        refine (hp.out _).mono ?_
        rintro ee wc4 ⟨rfl, hbn⟩
        replace tw := hid (tw.out.below hbn)
        replace hH := hid (hH.out.below hbn)
        replace hG := hid (hG.out.below hbn)
        clear hbn
        go_wp2_with fail
        refine hK.out _ _ ?hS32 (fun hHeld => ?re32)
        case hS32 => exact ⟨tw.out.A.c0, tw.out.A.c1, tw.out.A.c2, tw.out.A.c3, tw.out.B.c0, tw.out.B.c1, tw.out.B.c2, tw.out.B.c3⟩
        clear hK K
        (try simp only [Act.put, List.setIfInBounds_toArray, List.set_cons_zero, List.set_cons_succ])
        refine wpAnyH_ready (fuel := 0) (rs := [6]) (by kernel_rfl) (by simp) ?_
        refine AllReadyH.cons (o := ?oi33) ?hi33 (fun K hK => ?st33) AllReadyH.nil
        case hi33 => rw [List.getElem?_toArray]; rfl
        obtain ⟨g0, g1, g2, g3⟩ := RBox.box hG.out
        have fq := RBox.frozen hG.out
        go_simp
        clear g0 g1 g2 g3 fq
        replace hH := hid (hH.out.st4o (k := wc1.heap.size) (by have := nHG.out; omega) x y z u)
        replace hG := hid (hG.out.st4 (x' := x) (y' := y) (z' := z) (u' := u))
        replace tw := hid (tw.out.st4 kG.out x y z u)
        unfold Go.Proofs.Ytcigdckmiibgmab.st4 at hG tw hH
        generalize ((((wc4.setCell ⟨wc1.heap.size, 0, none⟩ (.int .i64 x)).setCell ⟨wc1.heap.size, 1, none⟩ (.int .i64 y)).setCell ⟨wc1.heap.size, 2, none⟩ (.int .i64 z)).setCell ⟨wc1.heap.size, 3, none⟩ (.int .i64 u)) = ws6 at *
        refine hK.out _ _ ?hS33 (fun hHeld => ?re33)
        case hS33 => exact ⟨tw.out.A.c0, tw.out.A.c1, tw.out.A.c2, tw.out.A.c3, tw.out.B.c0, tw.out.B.c1, tw.out.B.c2, tw.out.B.c3⟩
        clear hK K
        (try simp only [Act.put, List.setIfInBounds_toArray, List.set_cons_zero, List.set_cons_succ])
        refine wpAnyH_done (by kernel_rfl) ?_ _
        clear hHeld
        obtain ⟨g0, g1, g2, g3⟩ := RBox.box hG.out
        obtain ⟨j0, j1, j2, j3⟩ := RBox.box hH.out
        go_wp2_with fail
        refine (c_eqRange x y z u _).mono ?_
        rintro ee we ⟨rfl, hbe⟩
        have bele := hid (tw.out.bel.trans (hbe.mono tw.out.bel.size))
        clear g0 g1 g2 g3 j0 j1 j2 j3 hbe
        go_wp2_with fail
        go_ret
        exact ⟨rfl, bele.out⟩
      exact AllReadyH.nil
    refine AllReadyH.cons (o := ?oi34) ?hi34 (fun K hK => ?st34) ?mo34
    case hi34 => rw [List.getElem?_toArray]; rfl
    case st34 =>
      go_simp
      have kG := hid tw.out.l
      have nHG := hid hH.out.lt
      replace hH := hid (hH.out.alloc (cellsR4 0 0 0 0))
      have hG := hid (RBox.new W1 0 0 0 0)
      replace tw := hid (tw.out.alloc (cellsR4 0 0 0 0))
      generalize W1.alloc (cellsR4 0 0 0 0) = wg5 at *
      refine hK.out _ _ ?hS34 (fun hHeld => ?re34)
      case hS34 => exact ⟨tw.out.A.c0, tw.out.A.c1, tw.out.A.c2, tw.out.A.c3, tw.out.B.c0, tw.out.B.c1, tw.out.B.c2, tw.out.B.c3⟩
      clear hK K
      (try simp only [Act.put, List.setIfInBounds_toArray, List.set_cons_zero, List.set_cons_succ])
      refine wpAnyH_ready (fuel := 3) (rs := [1]) (by kernel_rfl) (by simp) ?_
      refine AllReadyH.cons (o := ?oi35) ?hi35 (fun K hK => ?st35) AllReadyH.nil
      case hi35 => rw [List.getElem?_toArray]; rfl
      go_simp
      refine (c_toRange _ _ _ _ _).mono ?_
      rintro ee wc1 ⟨rfl, hbn⟩
      replace tw := hid (tw.out.below hbn)
      replace hH := hid (hH.out.below hbn)
      replace hG := hid (hG.out.below hbn)
      clear hbn
      go_wp2_with fail
      refine hK.out _ _ ?hS35 (fun hHeld => ?re35)
      case hS35 => exact ⟨tw.out.A.c0, tw.out.A.c1, tw.out.A.c2, tw.out.A.c3, tw.out.B.c0, tw.out.B.c1, tw.out.B.c2, tw.out.B.c3⟩
      clear hK K
      (try simp only [Act.put, List.setIfInBounds_toArray, List.set_cons_zero, List.set_cons_succ])
      refine wpAnyH_ready (fuel := 2) (rs := [3]) (by kernel_rfl) (by simp) ?_
      refine AllReadyH.cons (o := ?oi36) ?hi36 (fun K hK => ?st36) AllReadyH.nil
      case hi36 => rw [List.getElem?_toArray]; rfl
      go_simp
      refine (c_toRange _ _ _ _ _).mono ?_
      rintro ee wc3 ⟨rfl, hbn⟩
      replace tw := hid (tw.out.below hbn)
      replace hH := hid (hH.out.below hbn)
      replace hG := hid (hG.out.below hbn)
      clear hbn
      go_wp2_with fail
      refine hK.out _ _ ?hS36 (fun hHeld => ?re36)
      case hS36 => exact ⟨tw.out.A.c0, tw.out.A.c1, tw.out.A.c2, tw.out.A.c3, tw.out.B.c0, tw.out.B.c1, tw.out.B.c2, tw.out.B.c3⟩
      clear hK K
      (try simp only [Act.put, List.setIfInBounds_toArray, List.set_cons_zero, List.set_cons_succ])
      refine wpAnyH_ready (fuel := 1) (rs := [4]) (by kernel_rfl) (by simp) ?_
      refine AllReadyH.cons (o := ?oi37) ?hi37 (fun K hK => ?st37) AllReadyH.nil
      case hi37 => rw [List.getElem?_toArray]; rfl
      go_simp
      refine (hp.out _).mono ?_
      rintro ee wc4 ⟨rfl, hbn⟩
      replace tw := hid (tw.out.below hbn)
      replace hH := hid (hH.out.below hbn)
      replace hG := hid (hG.out.below hbn)
      clear hbn
      go_wp2_with fail
      refine hK.out _ _ ?hS37 (fun hHeld => ?re37)
      case hS37 => exact ⟨tw.out.A.c0, tw.out.A.c1, tw.out.A.c2, tw.out.A.c3, tw.out.B.c0, tw.out.B.c1, tw.out.B.c2, tw.out.B.c3⟩
      clear hK K
      (try simp only [Act.put, List.setIfInBounds_toArray, List.set_cons_zero, List.set_cons_succ])
      refine wpAnyH_ready (fuel := 0) (rs := [6]) (by kernel_rfl) (by simp) ?_
      refine AllReadyH.cons (o := ?oi38) ?hi38 (fun K hK => ?st38) AllReadyH.nil
      case hi38 => rw [List.getElem?_toArray]; rfl
      obtain ⟨g0, g1, g2, g3⟩ := RBox.box hG.out
      have fq := RBox.frozen hG.out
      go_simp
      clear g0 g1 g2 g3 fq
      replace hH := hid (hH.out.st4o (k := W1.heap.size) (by have := nHG.out; omega) x y z u)
      replace hG := hid (hG.out.st4 (x' := x) (y' := y) (z' := z) (u' := u))
      replace tw := hid (tw.out.st4 kG.out x y z u)
      unfold Go.Proofs.Ytcigdckmiibgmab.st4 at hG tw hH
      generalize ((((wc4.setCell ⟨W1.heap.size, 0, none⟩ (.int .i64 x)).setCell ⟨W1.heap.size, 1, none⟩ (.int .i64 y)).setCell ⟨W1.heap.size, 2, none⟩ (.int .i64 z)).setCell ⟨W1.heap.size, 3, none⟩ (.int .i64 u)) = ws6 at *
      refine hK.out _ _ ?hS38 (fun hHeld => ?re38)
      case hS38 => exact ⟨tw.out.A.c0, tw.out.A.c1, tw.out.A.c2, tw.out.A.c3, tw.out.B.c0, tw.out.B.c1, tw.out.B.c2, tw.out.B.c3⟩
      clear hK K
      (try simp only [Act.put, List.setIfInBounds_toArray, List.set_cons_zero, List.set_cons_succ])
      refine wpAnyH_done (by kernel_rfl) ?_ _
      clear hHeld
      obtain ⟨g0, g1, g2, g3⟩ := RBox.box hG.out
      obtain ⟨j0, j1, j2, j3⟩ := RBox.box hH.out
      go_wp2_with fail
      refine (c_eqRange x y z u _).mono ?_
      rintro ee we ⟨rfl, hbe⟩
      have bele := hid (tw.out.bel.trans (hbe.mono tw.out.bel.size))
      clear g0 g1 g2 g3 j0 j1 j2 j3 hbe
      go_wp2_with fail
      go_ret
      exact ⟨rfl, bele.out⟩
    exact AllReadyH.nil

end Go.Proofs.Ytcigdckmiibgmab
