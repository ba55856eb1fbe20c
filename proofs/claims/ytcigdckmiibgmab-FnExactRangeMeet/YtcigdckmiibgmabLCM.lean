/- The walk of the law of RangeMeet. -/
import Derived.Test.YtcigdckmiibgmabLC
namespace Go.Proofs.Ytcigdckmiibgmab
open Go.RowKit
set_option linter.unusedVariables false
set_option linter.unusedSimpArgs false

set_option maxRecDepth 100000 in
set_option maxHeartbeats 4000000 in
theorem law_meet (a b c d e f g h x y z u : Int) (q : Bool) (w : World)
    (hs : Hid (∀ w, Calls Try.prog 14 #[rv a b c d, rv e f g h] w fun ee w' => ee = .returned (.tuple #[rv x y z u, .bool q]) ∧ Below w.heap.size w w'))
    (hp : Hid (∀ w, Calls Try.prog 15 #[rv a b c d, rv e f g h] w fun ee w' => ee = .returned (.tuple #[rv x y z u, .bool q]) ∧ Below w.heap.size w w')) :
    Calls Try.prog 5 #[rv a b c d, rv e f g h] w fun ee w' => ee = .returned (.bool true) ∧ Below w.heap.size w w' := by
  have tw := hid (Two.new w a b c d e f g h 23)
  go_enter Try.func5, Try.ntmps5
  go_wp2_with fail
  generalize (w.alloc (.cells #[.int .i64 a, .int .i64 b, .int .i64 c, .int .i64 d] 23)).alloc (.cells #[.int .i64 e, .int .i64 f, .int .i64 g, .int .i64 h] 23) = W0 at *
  go_cut [5, 6] (fun s s2 wr => ∃ k, s = .pointer (some ⟨k, 0, none⟩) ∧ s2 = .bool q ∧ RBox wr k x y z u ∧ w.heap.size + 1 < k ∧ Two w a b c d e f g h wr)
  case first =>
    refine wp_region_held_drew (S := (fun w' => w'.cell? ⟨w.heap.size, 0, none⟩ = some (.int .i64 a) ∧ w'.cell? ⟨w.heap.size, 1, none⟩ = some (.int .i64 b) ∧ w'.cell? ⟨w.heap.size, 2, none⟩ = some (.int .i64 c) ∧ w'.cell? ⟨w.heap.size, 3, none⟩ = some (.int .i64 d) ∧ w'.cell? ⟨w.heap.size + 1, 0, none⟩ = some (.int .i64 e) ∧ w'.cell? ⟨w.heap.size + 1, 1, none⟩ = some (.int .i64 f) ∧ w'.cell? ⟨w.heap.size + 1, 2, none⟩ = some (.int .i64 g) ∧ w'.cell? ⟨w.heap.size + 1, 3, none⟩ = some (.int .i64 h))) (by kernel_rfl) (by exact ⟨tw.out.A.c0, tw.out.A.c1, tw.out.A.c2, tw.out.A.c3, tw.out.B.c0, tw.out.B.c1, tw.out.B.c2, tw.out.B.c3⟩) (fun hHeld => ?_)
    replace tw := hid tw.out.drew
    generalize W0.drew = W1 at *
    refine wpAnyH_take (i := 0) (oi := ?oi51) (v := ?v51) (fuel := 10) ?hi51 ?hs51 ?hf51 ?hr51 ?hq51 (Or.inl ⟨?hw51, ?hy51⟩) hHeld ?rest51
    case hi51 => rw [List.getElem?_toArray]; rfl
    case hq51 => exact fun _ _ _ h => h
    case hs51 => kernel_rfl
    case hf51 => kernel_rfl
    case hr51 => kernel_rfl
    case hw51 => rfl
    case hy51 => (intro w1 hSw; (try dsimp only at hSw); go_simp; try with_reducible rfl)
    (try simp only [Act.put, List.setIfInBounds_toArray, List.set_cons_zero, List.set_cons_succ])
    refine wpAnyH_take (i := 2) (oi := ?oi52) (v := ?v52) (fuel := 9) ?hi52 ?hs52 ?hf52 ?hr52 ?hq52 (Or.inl ⟨?hw52, ?hy52⟩) hHeld ?rest52
    case hi52 => rw [List.getElem?_toArray]; rfl
    case hq52 => exact fun _ _ _ h => h
    case hs52 => kernel_rfl
    case hf52 => kernel_rfl
    case hr52 => kernel_rfl
    case hw52 => rfl
    case hy52 => (intro w1 hSw; (try dsimp only at hSw); go_simp; try with_reducible rfl)
    (try simp only [Act.put, List.setIfInBounds_toArray, List.set_cons_zero, List.set_cons_succ])
    refine wpAnyH_ready (fuel := 8) (rs := [1, 8]) (by kernel_rfl) (by simp) ?_
    refine AllReadyH.cons (o := ?oi53) ?hi53 (fun K hK => ?st53) ?mo53
    case hi53 => rw [List.getElem?_toArray]; rfl
    case st53 =>
      go_simp
      refine (c_toRange _ _ _ _ _).mono ?_
      rintro ee wc1 ⟨rfl, hbn⟩
      replace tw := hid (tw.out.below hbn)
      clear hbn
      go_wp2_with fail
      refine hK.out _ _ ?hS53 (fun hHeld => ?re53)
      case hS53 => exact ⟨tw.out.A.c0, tw.out.A.c1, tw.out.A.c2, tw.out.A.c3, tw.out.B.c0, tw.out.B.c1, tw.out.B.c2, tw.out.B.c3⟩
      clear hK K
      (try simp only [Act.put, List.setIfInBounds_toArray, List.set_cons_zero, List.set_cons_succ])
      refine wpAnyH_ready (fuel := 7) (rs := [3, 8]) (by kernel_rfl) (by simp) ?_
      refine AllReadyH.cons (o := ?oi54) ?hi54 (fun K hK => ?st54) ?mo54
      case hi54 => rw [List.getElem?_toArray]; rfl
      case st54 =>
        go_simp
        refine (c_toRange _ _ _ _ _).mono ?_
        rintro ee wc3 ⟨rfl, hbn⟩
        replace tw := hid (tw.out.below hbn)
        clear hbn
        go_wp2_with fail
        refine hK.out _ _ ?hS54 (fun hHeld => ?re54)
        case hS54 => exact ⟨tw.out.A.c0, tw.out.A.c1, tw.out.A.c2, tw.out.A.c3, tw.out.B.c0, tw.out.B.c1, tw.out.B.c2, tw.out.B.c3⟩
        clear hK K
        (try simp only [Act.put, List.setIfInBounds_toArray, List.set_cons_zero, List.set_cons_succ])
        refine wpAnyH_ready (fuel := 6) (rs := [4, 8]) (by kernel_rfl) (by simp) ?_
        refine AllReadyH.cons (o := ?oi55) ?hi55 (fun K hK => ?st55) ?mo55
        case hi55 => rw [List.getElem?_toArray]; rfl
        case st55 =>
          go_simp
          refine (hs.out _).mono ?_
          rintro ee wc4 ⟨rfl, hbn⟩
          replace tw := hid (tw.out.below hbn)
          clear hbn
          go_wp2_with fail
          refine hK.out _ _ ?hS55 (fun hHeld => ?re55)
          case hS55 => exact ⟨tw.out.A.c0, tw.out.A.c1, tw.out.A.c2, tw.out.A.c3, tw.out.B.c0, tw.out.B.c1, tw.out.B.c2, tw.out.B.c3⟩
          clear hK K
          (try simp only [Act.put, List.setIfInBounds_toArray, List.set_cons_zero, List.set_cons_succ])
          refine wpAnyH_take (i := 5) (oi := ?oi56) (v := ?v56) (fuel := 5) ?hi56 ?hs56 ?hf56 ?hr56 ?hq56 (Or.inl ⟨?hw56, ?hy56⟩) hHeld ?rest56
          case hi56 => rw [List.getElem?_toArray]; rfl
          case hq56 => exact fun _ _ _ h => h
          case hs56 => kernel_rfl
          case hf56 => kernel_rfl
          case hr56 => kernel_rfl
          case hw56 => rfl
          case hy56 => (intro w1 hSw; (try dsimp only at hSw); go_simp; try with_reducible rfl)
          (try simp only [Act.put, List.setIfInBounds_toArray, List.set_cons_zero, List.set_cons_succ])
          refine wpAnyH_take (i := 6) (oi := ?oi57) (v := ?v57) (fuel := 4) ?hi57 ?hs57 ?hf57 ?hr57 ?hq57 (Or.inl ⟨?hw57, ?hy57⟩) hHeld ?rest57
          case hi57 => rw [List.getElem?_toArray]; rfl
          case hq57 => exact fun _ _ _ h => h
          case hs57 => kernel_rfl
          case hf57 => kernel_rfl
          case hr57 => kernel_rfl
          case hw57 => rfl
          case hy57 => (intro w1 hSw; (try dsimp only at hSw); go_simp; try with_reducible rfl)
          (try simp only [Act.put, List.setIfInBounds_toArray, List.set_cons_zero, List.set_cons_succ])
          refine wpAnyH_take (i := 7) (oi := ?oi58) (v := ?v58) (fuel := 3) ?hi58 ?hs58 ?hf58 ?hr58 ?hq58 (Or.inl ⟨?hw58, ?hy58⟩) hHeld ?rest58
          case hi58 => rw [List.getElem?_toArray]; rfl
          case hq58 => exact fun _ _ _ h => h
          case hs58 => kernel_rfl
          case hf58 => kernel_rfl
          case hr58 => kernel_rfl
          case hw58 => rfl
          case hy58 => (intro w1 hSw; (try dsimp only at hSw); go_simp; try with_reducible rfl)
          (try simp only [Act.put, List.setIfInBounds_toArray, List.set_cons_zero, List.set_cons_succ])
          refine wpAnyH_ready (fuel := 2) (rs := [8]) (by kernel_rfl) (by simp) ?_
          refine AllReadyH.cons (o := ?oi59) ?hi59 (fun K hK => ?st59) AllReadyH.nil
          case hi59 => rw [List.getElem?_toArray]; rfl
          go_simp
          have kG := hid tw.out.l
          have hG := hid (RBox.new wc4 0 0 0 0)
          replace tw := hid (tw.out.alloc (cellsR4 0 0 0 0))
          generalize wc4.alloc (cellsR4 0 0 0 0) = wg8 at *
          refine hK.out _ _ ?hS59 (fun hHeld => ?re59)
          case hS59 => exact ⟨tw.out.A.c0, tw.out.A.c1, tw.out.A.c2, tw.out.A.c3, tw.out.B.c0, tw.out.B.c1, tw.out.B.c2, tw.out.B.c3⟩
          clear hK K
          (try simp only [Act.put, List.setIfInBounds_toArray, List.set_cons_zero, List.set_cons_succ])
          refine wpAnyH_ready (fuel := 1) (rs := [9]) (by kernel_rfl) (by simp) ?_
          refine AllReadyH.cons (o := ?oi60) ?hi60 (fun K hK => ?st60) AllReadyH.nil
          case hi60 => rw [List.getElem?_toArray]; rfl
          obtain ⟨g0, g1, g2, g3⟩ := RBox.box hG.out
          have fq := RBox.frozen hG.out
          go_simp
          clear g0 g1 g2 g3 fq
          replace hG := hid (hG.out.st4 (x' := x) (y' := y) (z' := z) (u' := u))
          replace tw := hid (tw.out.st4 kG.out x y z u)
          unfold Go.Proofs.Ytcigdckmiibgmab.st4 at hG tw
          generalize ((((wg8.setCell ⟨wc4.heap.size, 0, none⟩ (.int .i64 x)).setCell ⟨wc4.heap.size, 1, none⟩ (.int .i64 y)).setCell ⟨wc4.heap.size, 2, none⟩ (.int .i64 z)).setCell ⟨wc4.heap.size, 3, none⟩ (.int .i64 u)) = ws9 at *
          refine hK.out _ _ ?hS60 (fun hHeld => ?re60)
          case hS60 => exact ⟨tw.out.A.c0, tw.out.A.c1, tw.out.A.c2, tw.out.A.c3, tw.out.B.c0, tw.out.B.c1, tw.out.B.c2, tw.out.B.c3⟩
          clear hK K
          (try simp only [Act.put, List.setIfInBounds_toArray, List.set_cons_zero, List.set_cons_succ])
          refine wpAnyH_take (i := 10) (oi := ?oi61) (v := ?v61) (fuel := 0) ?hi61 ?hs61 ?hf61 ?hr61 ?hq61 (Or.inl ⟨?hw61, ?hy61⟩) hHeld ?rest61
          case hi61 => rw [List.getElem?_toArray]; rfl
          case hq61 => exact fun _ _ _ h => h
          case hs61 => kernel_rfl
          case hf61 => kernel_rfl
          case hr61 => kernel_rfl
          case hw61 => rfl
          case hy61 => (intro w1 hSw; (try dsimp only at hSw); go_simp; try with_reducible rfl)
          (try simp only [Act.put, List.setIfInBounds_toArray, List.set_cons_zero, List.set_cons_succ])
          refine wpAnyH_done (by kernel_rfl) ?_ _
          clear hHeld
          go_wp2_with fail
          go_meet
          case rel => exact ⟨_, rfl, rfl, hG.out, kG.out, tw.out⟩
        refine AllReadyH.cons (o := ?oi62) ?hi62 (fun K hK => ?st62) ?mo62
        case hi62 => rw [List.getElem?_toArray]; rfl
        case st62 =>
          go_simp
          have kG := hid tw.out.l
          have hG := hid (RBox.new wc3 0 0 0 0)
          replace tw := hid (tw.out.alloc (cellsR4 0 0 0 0))
          generalize wc3.alloc (cellsR4 0 0 0 0) = wg8 at *
          refine hK.out _ _ ?hS62 (fun hHeld => ?re62)
          case hS62 => exact ⟨tw.out.A.c0, tw.out.A.c1, tw.out.A.c2, tw.out.A.c3, tw.out.B.c0, tw.out.B.c1, tw.out.B.c2, tw.out.B.c3⟩
          clear hK K
          (try simp only [Act.put, List.setIfInBounds_toArray, List.set_cons_zero, List.set_cons_succ])
          refine wpAnyH_ready (fuel := 5) (rs := [4]) (by kernel_rfl) (by simp) ?_
          refine AllReadyH.cons (o := ?oi63) ?hi63 (fun K hK => ?st63) AllReadyH.nil
          case hi63 => rw [List.getElem?_toArray]; rfl
          go_simp
          refine (hs.out _).mono ?_
          rintro ee wc4 ⟨rfl, hbn⟩
          replace tw := hid (tw.out.below hbn)
          replace hG := hid (hG.out.below hbn)
          clear hbn
          go_wp2_with fail
          refine hK.out _ _ ?hS63 (fun hHeld => ?re63)
          case hS63 => exact ⟨tw.out.A.c0, tw.out.A.c1, tw.out.A.c2, tw.out.A.c3, tw.out.B.c0, tw.out.B.c1, tw.out.B.c2, tw.out.B.c3⟩
          clear hK K
          (try simp only [Act.put, List.setIfInBounds_toArray, List.set_cons_zero, List.set_cons_succ])
          refine wpAnyH_take (i := 5) (oi := ?oi64) (v := ?v64) (fuel := 4) ?hi64 ?hs64 ?hf64 ?hr64 ?hq64 (Or.inl ⟨?hw64, ?hy64⟩) hHeld ?rest64
          case hi64 => rw [List.getElem?_toArray]; rfl
          case hq64 => exact fun _ _ _ h => h
          case hs64 => kernel_rfl
          case hf64 => kernel_rfl
          case hr64 => kernel_rfl
          case hw64 => rfl
          case hy64 => (intro w1 hSw; (try dsimp only at hSw); go_simp; try with_reducible rfl)
          (try simp only [Act.put, List.setIfInBounds_toArray, List.set_cons_zero, List.set_cons_succ])
          refine wpAnyH_take (i := 6) (oi := ?oi65) (v := ?v65) (fuel := 3) ?hi65 ?hs65 ?hf65 ?hr65 ?hq65 (Or.inl ⟨?hw65, ?hy65⟩) hHeld ?rest65
          case hi65 => rw [List.getElem?_toArray]; rfl
          case hq65 => exact fun _ _ _ h => h
          case hs65 => kernel_rfl
          case hf65 => kernel_rfl
          case hr65 => kernel_rfl
          case hw65 => rfl
          case hy65 => (intro w1 hSw; (try dsimp only at hSw); go_simp; try with_reducible rfl)
          (try simp only [Act.put, List.setIfInBounds_toArray, List.set_cons_zero, List.set_cons_succ])
          refine wpAnyH_take (i := 7) (oi := ?oi66) (v := ?v66) (fuel := 2) ?hi66 ?hs66 ?hf66 ?hr66 ?hq66 (Or.inl ⟨?hw66, ?hy66⟩) hHeld ?rest66
          case hi66 => rw [List.getElem?_toArray]; rfl
          case hq66 => exact fun _ _ _ h => h
          case hs66 => kernel_rfl
          case hf66 => kernel_rfl
          case hr66 => kernel_rfl
          case hw66 => rfl
          case hy66 => (intro w1 hSw; (try dsimp only at hSw); go_simp; try with_reducible rfl)
          (try simp only [Act.put, List.setIfInBounds_toArray, List.set_cons_zero, List.set_cons_succ])
          refine wpAnyH_ready (fuel := 1) (rs := [9]) (by kernel_rfl) (by simp) ?_
          refine AllReadyH.cons (o := ?oi67) ?hi67 (fun K hK => ?st67) AllReadyH.nil
          case hi67 => rw [List.getElem?_toArray]; rfl
          obtain ⟨g0, g1, g2, g3⟩ := RBox.box hG.out
          have fq := RBox.frozen hG.out
          go_simp
          clear g0 g1 g2 g3 fq
          replace hG := hid (hG.out.st4 (x' := x) (y' := y) (z' := z) (u' := u))
          replace tw := hid (tw.out.st4 kG.out x y z u)
          unfold Go.Proofs.Ytcigdckmiibgmab.st4 at hG tw
          generalize ((((wc4.setCell ⟨wc3.heap.size, 0, none⟩ (.int .i64 x)).setCell ⟨wc3.heap.size, 1, none⟩ (.int .i64 y)).setCell ⟨wc3.heap.size, 2, none⟩ (.int .i64 z)).setCell ⟨wc3.heap.size, 3, none⟩ (.int .i64 u)) = ws9 at *
          refine hK.out _ _ ?hS67 (fun hHeld => ?re67)
          case hS67 => exact ⟨tw.out.A.c0, tw.out.A.c1, tw.out.A.c2, tw.out.A.c3, tw.out.B.c0, tw.out.B.c1, tw.out.B.c2, tw.out.B.c3⟩
          clear hK K
          (try simp only [Act.put, List.setIfInBounds_toArray, List.set_cons_zero, List.set_cons_succ])
          refine wpAnyH_take (i := 10) (oi := ?oi68) (v := ?v68) (fuel := 0) ?hi68 ?hs68 ?hf68 ?hr68 ?hq68 (Or.inl ⟨?hw68, ?hy68⟩) hHeld ?rest68
          case hi68 => rw [List.getElem?_toArray]; rfl
          case hq68 => exact fun _ _ _ h => h
          case hs68 => kernel_rfl
          case hf68 => kernel_rfl
          case hr68 => kernel_rfl
          case hw68 => rfl
          case hy68 => (intro w1 hSw; (try dsimp only at hSw); go_simp; try with_reducible rfl)
          (try simp only [Act.put, List.setIfInBounds_toArray, List.set_cons_zero, List.set_cons_succ])
          refine wpAnyH_done (by kernel_rfl) ?_ _
          clear hHeld
          go_wp2_with fail
          go_meet
          case rel => exact ⟨_, rfl, rfl, hG.out, kG.out, tw.out⟩
        exact AllReadyH.nil
      refine AllReadyH.cons (o := ?oi69) ?hi69 (fun K hK => ?st69) ?mo69
      case hi69 => rw [List.getElem?_toArray]; rfl
      case st69 =>
        go_simp
        have kG := hid tw.out.l
        have hG := hid (RBox.new wc1 0 0 0 0)
        replace tw := hid (tw.out.alloc (cellsR4 0 0 0 0))
        generalize wc1.alloc (cellsR4 0 0 0 0) = wg8 at *
        refine hK.out _ _ ?hS69 (fun hHeld => ?re69)
        case hS69 => exact ⟨tw.out.A.c0, tw.out.A.c1, tw.out.A.c2, tw.out.A.c3, tw.out.B.c0, tw.out.B.c1, tw.out.B.c2, tw.out.B.c3⟩
        clear hK K
        (try simp only [Act.put, List.setIfInBounds_toArray, List.set_cons_zero, List.set_cons_succ])
        refine wpAnyH_ready (fuel := 6) (rs := [3]) (by kernel_rfl) (by simp) ?_
        refine AllReadyH.cons (o := ?oi70) ?hi70 (fun K hK => ?st70) AllReadyH.nil
        case hi70 => rw [List.getElem?_toArray]; rfl
        go_simp
        refine (c_toRange _ _ _ _ _).mono ?_
        rintro ee wc3 ⟨rfl, hbn⟩
        replace tw := hid (tw.out.below hbn)
        replace hG := hid (hG.out.below hbn)
        clear hbn
        go_wp2_with fail
        refine hK.out _ _ ?hS70 (fun hHeld => ?re70)
        case hS70 => exact ⟨tw.out.A.c0, tw.out.A.c1, tw.out.A.c2, tw.out.A.c3, tw.out.B.c0, tw.out.B.c1, tw.out.B.c2, tw.out.B.c3⟩
        clear hK K
        (try simp only [Act.put, List.setIfInBounds_toArray, List.set_cons_zero, List.set_cons_succ])
        refine wpAnyH_ready (fuel := 5) (rs := [4]) (by kernel_rfl) (by simp) ?_
        refine AllReadyH.cons (o := ?oi71) ?hi71 (fun K hK => ?st71) AllReadyH.nil
        case hi71 => rw [List.getElem?_toArray]; rfl
        go_simp
        refine (hs.out _).mono ?_
        rintro ee wc4 ⟨rfl, hbn⟩
        replace tw := hid (tw.out.below hbn)
        replace hG := hid (hG.out.below hbn)
        clear hbn
        go_wp2_with fail
        refine hK.out _ _ ?hS71 (fun hHeld => ?re71)
        case hS71 => exact ⟨tw.out.A.c0, tw.out.A.c1, tw.out.A.c2, tw.out.A.c3, tw.out.B.c0, tw.out.B.c1, tw.out.B.c2, tw.out.B.c3⟩
        clear hK K
        (try simp only [Act.put, List.setIfInBounds_toArray, List.set_cons_zero, List.set_cons_succ])
        refine wpAnyH_take (i := 5) (oi := ?oi72) (v := ?v72) (fuel := 4) ?hi72 ?hs72 ?hf72 ?hr72 ?hq72 (Or.inl ⟨?hw72, ?hy72⟩) hHeld ?rest72
        case hi72 => rw [List.getElem?_toArray]; rfl
        case hq72 => exact fun _ _ _ h => h
        case hs72 => kernel_rfl
        case hf72 => kernel_rfl
        case hr72 => kernel_rfl
        case hw72 => rfl
        case hy72 => (intro w1 hSw; (try dsimp only at hSw); go_simp; try with_reducible rfl)
        (try simp only [Act.put, List.setIfInBounds_toArray, List.set_cons_zero, List.set_cons_succ])
        refine wpAnyH_take (i := 6) (oi := ?oi73) (v := ?v73) (fuel := 3) ?hi73 ?hs73 ?hf73 ?hr73 ?hq73 (Or.inl ⟨?hw73, ?hy73⟩) hHeld ?rest73
        case hi73 => rw [List.getElem?_toArray]; rfl
        case hq73 => exact fun _ _ _ h => h
        case hs73 => kernel_rfl
        case hf73 => kernel_rfl
        case hr73 => kernel_rfl
        case hw73 => rfl
        case hy73 => (intro w1 hSw; (try dsimp only at hSw); go_simp; try with_reducible rfl)
        (try simp only [Act.put, List.setIfInBounds_toArray, List.set_cons_zero, List.set_cons_succ])
        refine wpAnyH_take (i := 7) (oi := ?oi74) (v := ?v74) (fuel := 2) ?hi74 ?hs74 ?hf74 ?hr74 ?hq74 (Or.inl ⟨?hw74, ?hy74⟩) hHeld ?rest74
        case hi74 => rw [List.getElem?_toArray]; rfl
        case hq74 => exact fun _ _ _ h => h
        case hs74 => kernel_rfl
        case hf74 => kernel_rfl
        case hr74 => kernel_rfl
        case hw74 => rfl
        case hy74 => (intro w1 hSw; (try dsimp only at hSw); go_simp; try with_reducible rfl)
        (try simp only [Act.put, List.setIfInBounds_toArray, List.set_cons_zero, List.set_cons_succ])
        refine wpAnyH_ready (fuel := 1) (rs := [9]) (by kernel_rfl) (by simp) ?_
        refine AllReadyH.cons (o := ?oi75) ?hi75 (fun K hK => ?st75) AllReadyH.nil
        case hi75 => rw [List.getElem?_toArray]; rfl
        obtain ⟨g0, g1, g2, g3⟩ := RBox.box hG.out
        have fq := RBox.frozen hG.out
        go_simp
        clear g0 g1 g2 g3 fq
        replace hG := hid (hG.out.st4 (x' := x) (y' := y) (z' := z) (u' := u))
        replace tw := hid (tw.out.st4 kG.out x y z u)
        unfold Go.Proofs.Ytcigdckmiibgmab.st4 at hG tw
        generalize ((((wc4.setCell ⟨wc1.heap.size, 0, none⟩ (.int .i64 x)).setCell ⟨wc1.heap.size, 1, none⟩ (.int .i64 y)).setCell ⟨wc1.heap.size, 2, none⟩ (.int .i64 z)).setCell ⟨wc1.heap.size, 3, none⟩ (.int .i64 u)) = ws9 at *
        refine hK.out _ _ ?hS75 (fun hHeld => ?re75)
        case hS75 => exact ⟨tw.out.A.c0, tw.out.A.c1, tw.out.A.c2, tw.out.A.c3, tw.out.B.c0, tw.out.B.c1, tw.out.B.c2, tw.out.B.c3⟩
        clear hK K
        (try simp only [Act.put, List.setIfInBounds_toArray, List.set_cons_zero, List.set_cons_succ])
        refine wpAnyH_take (i := 10) (oi := ?oi76) (v := ?v76) (fuel := 0) ?hi76 ?hs76 ?hf76 ?hr76 ?hq76 (Or.inl ⟨?hw76, ?hy76⟩) hHeld ?rest76
        case hi76 => rw [List.getElem?_toArray]; rfl
        case hq76 => exact fun _ _ _ h => h
        case hs76 => kernel_rfl
        case hf76 => kernel_rfl
        case hr76 => kernel_rfl
        case hw76 => rfl
        case hy76 => (intro w1 hSw; (try dsimp only at hSw); go_simp; try with_reducible rfl)
        (try simp only [Act.put, List.setIfInBounds_toArray, List.set_cons_zero, List.set_cons_succ])
        refine wpAnyH_done (by kernel_rfl) ?_ _
        clear hHeld
        go_wp2_with fail
        go_meet
        case rel => exact ⟨_, rfl, rfl, hG.out, kG.out, tw.out⟩
      exact AllReadyH.nil
    refine AllReadyH.cons (o := ?oi77) ?hi77 (fun K hK => ?st77) ?mo77
    case hi77 => rw [List.getElem?_toArray]; rfl
    case st77 =>
      go_simp
      have kG := hid tw.out.l
      have hG := hid (RBox.new W1 0 0 0 0)
      replace tw := hid (tw.out.alloc (cellsR4 0 0 0 0))
      generalize W1.alloc (cellsR4 0 0 0 0) = wg8 at *
      refine hK.out _ _ ?hS77 (fun hHeld => ?re77)
      case hS77 => exact ⟨tw.out.A.c0, tw.out.A.c1, tw.out.A.c2, tw.out.A.c3, tw.out.B.c0, tw.out.B.c1, tw.out.B.c2, tw.out.B.c3⟩
      clear hK K
      (try simp only [Act.put, List.setIfInBounds_toArray, List.set_cons_zero, List.set_cons_succ])
      refine wpAnyH_ready (fuel := 7) (rs := [1]) (by kernel_rfl) (by simp) ?_
      refine AllReadyH.cons (o := ?oi78) ?hi78 (fun K hK => ?st78) AllReadyH.nil
      case hi78 => rw [List.getElem?_toArray]; rfl
      go_simp
      refine (c_toRange _ _ _ _ _).mono ?_
      rintro ee wc1 ⟨rfl, hbn⟩
      replace tw := hid (tw.out.below hbn)
      replace hG := hid (hG.out.below hbn)
      clear hbn
      go_wp2_with fail
      refine hK.out _ _ ?hS78 (fun hHeld => ?re78)
      case hS78 => exact ⟨tw.out.A.c0, tw.out.A.c1, tw.out.A.c2, tw.out.A.c3, tw.out.B.c0, tw.out.B.c1, tw.out.B.c2, tw.out.B.c3⟩
      clear hK K
      (try simp only [Act.put, List.setIfInBounds_toArray, List.set_cons_zero, List.set_cons_succ])
      refine wpAnyH_ready (fuel := 6) (rs := [3]) (by kernel_rfl) (by simp) ?_
      refine AllReadyH.cons (o := ?oi79) ?hi79 (fun K hK => ?st79) AllReadyH.nil
      case hi79 => rw [List.getElem?_toArray]; rfl
      go_simp
      refine (c_toRange _ _ _ _ _).mono ?_
      rintro ee wc3 ⟨rfl, hbn⟩
      replace tw := hid (tw.out.below hbn)
      replace hG := hid (hG.out.below hbn)
      clear hbn
      go_wp2_with fail
      refine hK.out _ _ ?hS79 (fun hHeld => ?re79)
      case hS79 => exact ⟨tw.out.A.c0, tw.out.A.c1, tw.out.A.c2, tw.out.A.c3, tw.out.B.c0, tw.out.B.c1, tw.out.B.c2, tw.out.B.c3⟩
      clear hK K
      (try simp only [Act.put, List.setIfInBounds_toArray, List.set_cons_zero, List.set_cons_succ])
      refine wpAnyH_ready (fuel := 5) (rs := [4]) (by kernel_rfl) (by simp) ?_
      refine AllReadyH.cons (o := ?oi80) ?hi80 (fun K hK => ?st80) AllReadyH.nil
      case hi80 => rw [List.getElem?_toArray]; rfl
      go_simp
      refine (hs.out _).mono ?_
      rintro ee wc4 ⟨rfl, hbn⟩
      replace tw := hid (tw.out.below hbn)
      replace hG := hid (hG.out.below hbn)
      clear hbn
      go_wp2_with fail
      refine hK.out _ _ ?hS80 (fun hHeld => ?re80)
      case hS80 => exact ⟨tw.out.A.c0, tw.out.A.c1, tw.out.A.c2, tw.out.A.c3, tw.out.B.c0, tw.out.B.c1, tw.out.B.c2, tw.out.B.c3⟩
      clear hK K
      (try simp only [Act.put, List.setIfInBounds_toArray, List.set_cons_zero, List.set_cons_succ])
      refine wpAnyH_take (i := 5) (oi := ?oi81) (v := ?v81) (fuel := 4) ?hi81 ?hs81 ?hf81 ?hr81 ?hq81 (Or.inl ⟨?hw81, ?hy81⟩) hHeld ?rest81
      case hi81 => rw [List.getElem?_toArray]; rfl
      case hq81 => exact fun _ _ _ h => h
      case hs81 => kernel_rfl
      case hf81 => kernel_rfl
      case hr81 => kernel_rfl
      case hw81 => rfl
      case hy81 => (intro w1 hSw; (try dsimp only at hSw); go_simp; try with_reducible rfl)
      (try simp only [Act.put, List.setIfInBounds_toArray, List.set_cons_zero, List.set_cons_succ])
      refine wpAnyH_take (i := 6) (oi := ?oi82) (v := ?v82) (fuel := 3) ?hi82 ?hs82 ?hf82 ?hr82 ?hq82 (Or.inl ⟨?hw82, ?hy82⟩) hHeld ?rest82
      case hi82 => rw [List.getElem?_toArray]; rfl
      case hq82 => exact fun _ _ _ h => h
      case hs82 => kernel_rfl
      case hf82 => kernel_rfl
      case hr82 => kernel_rfl
      case hw82 => rfl
      case hy82 => (intro w1 hSw; (try dsimp only at hSw); go_simp; try with_reducible rfl)
      (try simp only [Act.put, List.setIfInBounds_toArray, List.set_cons_zero, List.set_cons_succ])
      refine wpAnyH_take (i := 7) (oi := ?oi83) (v := ?v83) (fuel := 2) ?hi83 ?hs83 ?hf83 ?hr83 ?hq83 (Or.inl ⟨?hw83, ?hy83⟩) hHeld ?rest83
      case hi83 => rw [List.getElem?_toArray]; rfl
      case hq83 => exact fun _ _ _ h => h
      case hs83 => kernel_rfl
      case hf83 => kernel_rfl
      case hr83 => kernel_rfl
      case hw83 => rfl
      case hy83 => (intro w1 hSw; (try dsimp only at hSw); go_simp; try with_reducible rfl)
      (try simp only [Act.put, List.setIfInBounds_toArray, List.set_cons_zero, List.set_cons_succ])
      refine wpAnyH_ready (fuel := 1) (rs := [9]) (by kernel_rfl) (by simp) ?_
      refine AllReadyH.cons (o := ?oi84) ?hi84 (fun K hK => ?st84) AllReadyH.nil
      case hi84 => rw [List.getElem?_toArray]; rfl
      obtain ⟨g0, g1, g2, g3⟩ := RBox.box hG.out
      have fq := RBox.frozen hG.out
      go_simp
      clear g0 g1 g2 g3 fq
      replace hG := hid (hG.out.st4 (x' := x) (y' := y) (z' := z) (u' := u))
      replace tw := hid (tw.out.st4 kG.out x y z u)
      unfold Go.Proofs.Ytcigdckmiibgmab.st4 at hG tw
      generalize ((((wc4.setCell ⟨W1.heap.size, 0, none⟩ (.int .i64 x)).setCell ⟨W1.heap.size, 1, none⟩ (.int .i64 y)).setCell ⟨W1.heap.size, 2, none⟩ (.int .i64 z)).setCell ⟨W1.heap.size, 3, none⟩ (.int .i64 u)) = ws9 at *
      refine hK.out _ _ ?hS84 (fun hHeld => ?re84)
      case hS84 => exact ⟨tw.out.A.c0, tw.out.A.c1, tw.out.A.c2, tw.out.A.c3, tw.out.B.c0, tw.out.B.c1, tw.out.B.c2, tw.out.B.c3⟩
      clear hK K
      (try simp only [Act.put, List.setIfInBounds_toArray, List.set_cons_zero, List.set_cons_succ])
      refine wpAnyH_take (i := 10) (oi := ?oi85) (v := ?v85) (fuel := 0) ?hi85 ?hs85 ?hf85 ?hr85 ?hq85 (Or.inl ⟨?hw85, ?hy85⟩) hHeld ?rest85
      case hi85 => rw [List.getElem?_toArray]; rfl
      case hq85 => exact fun _ _ _ h => h
      case hs85 => kernel_rfl
      case hf85 => kernel_rfl
      case hr85 => kernel_rfl
      case hw85 => rfl
      case hy85 => (intro w1 hSw; (try dsimp only at hSw); go_simp; try with_reducible rfl)
      (try simp only [Act.put, List.setIfInBounds_toArray, List.set_cons_zero, List.set_cons_succ])
      refine wpAnyH_done (by kernel_rfl) ?_ _
      clear hHeld
      go_wp2_with fail
      go_meet
      case rel => exact ⟨_, rfl, rfl, hG.out, kG.out, tw.out⟩
    exact AllReadyH.nil
  case rest =>
    obtain ⟨kH, rfl, rfl, hG0, hkH, tw1⟩ := hcut
    clear tw
    have tw := hid tw1
    have hH := hid hG0
    clear hG0 tw1
    go_wp2_with fail
    refine wp_region_held_drew (S := (fun w' => w'.cell? ⟨w.heap.size, 0, none⟩ = some (.int .i64 a) ∧ w'.cell? ⟨w.heap.size, 1, none⟩ = some (.int .i64 b) ∧ w'.cell? ⟨w.heap.size, 2, none⟩ = some (.int .i64 c) ∧ w'.cell? ⟨w.heap.size, 3, none⟩ = some (.int .i64 d) ∧ w'.cell? ⟨w.heap.size + 1, 0, none⟩ = some (.int .i64 e) ∧ w'.cell? ⟨w.heap.size + 1, 1, none⟩ = some (.int .i64 f) ∧ w'.cell? ⟨w.heap.size + 1, 2, none⟩ = some (.int .i64 g) ∧ w'.cell? ⟨w.heap.size + 1, 3, none⟩ = some (.int .i64 h))) (by kernel_rfl) (by exact ⟨tw.out.A.c0, tw.out.A.c1, tw.out.A.c2, tw.out.A.c3, tw.out.B.c0, tw.out.B.c1, tw.out.B.c2, tw.out.B.c3⟩) (fun hHeld => ?_)
    replace tw := hid tw.out.drew
    replace hH := hid hH.out.drew
    generalize wc.drew = W1 at *
    refine wpAnyH_take (i := 0) (oi := ?oi86) (v := ?v86) (fuel := 10) ?hi86 ?hs86 ?hf86 ?hr86 ?hq86 (Or.inl ⟨?hw86, ?hy86⟩) hHeld ?rest86
    case hi86 => rw [List.getElem?_toArray]; rfl
    case hq86 => exact fun _ _ _ h => h
    case hs86 => kernel_rfl
    case hf86 => kernel_rfl
    case hr86 => kernel_rfl
    case hw86 => rfl
    case hy86 => (intro w1 hSw; (try dsimp only at hSw); go_simp; try with_reducible rfl)
    (try simp only [Act.put, List.setIfInBounds_toArray, List.set_cons_zero, List.set_cons_succ])
    refine wpAnyH_take (i := 2) (oi := ?oi87) (v := ?v87) (fuel := 9) ?hi87 ?hs87 ?hf87 ?hr87 ?hq87 (Or.inl ⟨?hw87, ?hy87⟩) hHeld ?rest87
    case hi87 => rw [List.getElem?_toArray]; rfl
    case hq87 => exact fun _ _ _ h => h
    case hs87 => kernel_rfl
    case hf87 => kernel_rfl
    case hr87 => kernel_rfl
    case hw87 => rfl
    case hy87 => (intro w1 hSw; (try dsimp only at hSw); go_simp; try with_reducible rfl)
    (try simp only [Act.put, List.setIfInBounds_toArray, List.set_cons_zero, List.set_cons_succ])
    refine wpAnyH_ready (fuel := 8) (rs := [1, 8]) (by kernel_rfl) (by simp) ?_
    refine AllReadyH.cons (o := ?oi88) ?hi88 (fun K hK => ?st88) ?mo88
    case hi88 => rw [List.getElem?_toArray]; rfl
    case st88 =>
      go_simp
      refine (c_toRange _ _ _ _ _).mono ?_
      rintro ee wc1 ⟨rfl, hbn⟩
      replace tw := hid (tw.out.below hbn)
      replace hH := hid (hH.out.below hbn)
      clear hbn
      go_wp2_with fail
      refine hK.out _ _ ?hS88 (fun hHeld => ?re88)
      case hS88 => exact ⟨tw.out.A.c0, tw.out.A.c1, tw.out.A.c2, tw.out.A.c3, tw.out.B.c0, tw.out.B.c1, tw.out.B.c2, tw.out.B.c3⟩
      clear hK K
      (try simp only [Act.put, List.setIfInBounds_toArray, List.set_cons_zero, List.set_cons_succ])
      refine wpAnyH_ready (fuel := 7) (rs := [3, 8]) (by kernel_rfl) (by simp) ?_
      refine AllReadyH.cons (o := ?oi89) ?hi89 (fun K hK => ?st89) ?mo89
      case hi89 => rw [List.getElem?_toArray]; rfl
      case st89 =>
        go_simp
        refine (c_toRange _ _ _ _ _).mono ?_
        rintro ee wc3 ⟨rfl, hbn⟩
        replace tw := hid (tw.out.below hbn)
        replace hH := hid (hH.out.below hbn)
        clear hbn
        go_wp2_with fail
        refine hK.out _ _ ?hS89 (fun hHeld => ?re89)
        case hS89 => exact ⟨tw.out.A.c0, tw.out.A.c1, tw.out.A.c2, tw.out.A.c3, tw.out.B.c0, tw.out.B.c1, tw.out.B.c2, tw.out.B.c3⟩
        clear hK K
        (try simp only [Act.put, List.setIfInBounds_toArray, List.set_cons_zero, List.set_cons_succ])
        refine wpAnyH_ready (fuel := 6) (rs := [4, 8]) (by kernel_rfl) (by simp) ?_
        refine AllReadyH.cons (o := ?oi90) ?hi90 (fun K hK => ?st90) ?mo90
        case hi90 => rw [List.getElem?_toArray]; rfl
        case st90 =>
          go_simp
          refine (hp.out _).mono ?_
          rintro ee wc4 ⟨rfl, hbn⟩
          replace tw := hid (tw.out.below hbn)
          replace hH := hid (hH.out.below hbn)
          clear hbn
          go_wp2_with fail
          refine hK.out _ _ ?hS90 (fun hHeld => ?re90)
          case hS90 => exact ⟨tw.out.A.c0, tw.out.A.c1, tw.out.A.c2, tw.out.A.c3, tw.out.B.c0, tw.out.B.c1, tw.out.B.c2, tw.out.B.c3⟩
          clear hK K
          (try simp only [Act.put, List.setIfInBounds_toArray, List.set_cons_zero, List.set_cons_succ])
          refine wpAnyH_take (i := 5) (oi := ?oi91) (v := ?v91) (fuel := 5) ?hi91 ?hs91 ?hf91 ?hr91 ?hq91 (Or.inl ⟨?hw91, ?hy91⟩) hHeld ?rest91
          case hi91 => rw [List.getElem?_toArray]; rfl
          case hq91 => exact fun _ _ _ h => h
          case hs91 => kernel_rfl
          case hf91 => kernel_rfl
          case hr91 => kernel_rfl
          case hw91 => rfl
          case hy91 => (intro w1 hSw; (try dsimp only at hSw); go_simp; try with_reducible rfl)
          (try simp only [Act.put, List.setIfInBounds_toArray, List.set_cons_zero, List.set_cons_succ])
          refine wpAnyH_take (i := 6) (oi := ?oi92) (v := ?v92) (fuel := 4) ?hi92 ?hs92 ?hf92 ?hr92 ?hq92 (Or.inl ⟨?hw92, ?hy92⟩) hHeld ?rest92
          case hi92 => rw [List.getElem?_toArray]; rfl
          case hq92 => exact fun _ _ _ h => h
          case hs92 => kernel_rfl
          case hf92 => kernel_rfl
          case hr92 => kernel_rfl
          case hw92 => rfl
          case hy92 => (intro w1 hSw; (try dsimp only at hSw); go_simp; try with_reducible rfl)
          (try simp only [Act.put, List.setIfInBounds_toArray, List.set_cons_zero, List.set_cons_succ])
          refine wpAnyH_take (i := 7) (oi := ?oi93) (v := ?v93) (fuel := 3) ?hi93 ?hs93 ?hf93 ?hr93 ?hq93 (Or.inl ⟨?hw93, ?hy93⟩) hHeld ?rest93
          case hi93 => rw [List.getElem?_toArray]; rfl
          case hq93 => exact fun _ _ _ h => h
          case hs93 => kernel_rfl
          case hf93 => kernel_rfl
          case hr93 => kernel_rfl
          case hw93 => rfl
          case hy93 => (intro w1 hSw; (try dsimp only at hSw); go_simp; try with_reducible rfl)
          (try simp only [Act.put, List.setIfInBounds_toArray, List.set_cons_zero, List.set_cons_succ])
          refine wpAnyH_ready (fuel := 2) (rs := [8]) (by kernel_rfl) (by simp) ?_
          refine AllReadyH.cons (o := ?oi94) ?hi94 (fun K hK => ?st94) AllReadyH.nil
          case hi94 => rw [List.getElem?_toArray]; rfl
          go_simp
          have kG := hid tw.out.l
          have nHG := hid hH.out.lt
          replace hH := hid (hH.out.alloc (cellsR4 0 0 0 0))
          have hG := hid (RBox.new wc4 0 0 0 0)
          replace tw := hid (tw.out.alloc (cellsR4 0 0 0 0))
          generalize wc4.alloc (cellsR4 0 0 0 0) = wg8 at *
          refine hK.out _ _ ?hS94 (fun hHeld => ?re94)
          case hS94 => exact ⟨tw.out.A.c0, tw.out.A.c1, tw.out.A.c2, tw.out.A.c3, tw.out.B.c0, tw.out.B.c1, tw.out.B.c2, tw.out.B.c3⟩
          clear hK K
          (try simp only [Act.put, List.setIfInBounds_toArray, List.set_cons_zero, List.set_cons_succ])
          refine wpAnyH_ready (fuel := 1) (rs := [9]) (by kernel_rfl) (by simp) ?_
          refine AllReadyH.cons (o := ?oi95) ?hi95 (fun K hK => ?st95) AllReadyH.nil
          case hi95 => rw [List.getElem?_toArray]; rfl
          obtain ⟨g0, g1, g2, g3⟩ := RBox.box hG.out
          have fq := RBox.frozen hG.out
          go_simp
          clear g0 g1 g2 g3 fq
          replace hH := hid (hH.out.st4o (k := wc4.heap.size) (by have := nHG.out; omega) x y z u)
          replace hG := hid (hG.out.st4 (x' := x) (y' := y) (z' := z) (u' := u))
          replace tw := hid (tw.out.st4 kG.out x y z u)
          unfold Go.Proofs.Ytcigdckmiibgmab.st4 at hG tw hH
          generalize ((((wg8.setCell ⟨wc4.heap.size, 0, none⟩ (.int .i64 x)).setCell ⟨wc4.heap.size, 1, none⟩ (.int .i64 y)).setCell ⟨wc4.heap.size, 2, none⟩ (.int .i64 z)).setCell ⟨wc4.heap.size, 3, none⟩ (.int .i64 u)) = ws9 at *
          refine hK.out _ _ ?hS95 (fun hHeld => ?re95)
          case hS95 => exact ⟨tw.out.A.c0, tw.out.A.c1, tw.out.A.c2, tw.out.A.c3, tw.out.B.c0, tw.out.B.c1, tw.out.B.c2, tw.out.B.c3⟩
          clear hK K
          (try simp only [Act.put, List.setIfInBounds_toArray, List.set_cons_zero, List.set_cons_succ])
          refine wpAnyH_take (i := 10) (oi := ?oi96) (v := ?v96) (fuel := 0) ?hi96 ?hs96 ?hf96 ?hr96 ?hq96 (Or.inl ⟨?hw96, ?hy96⟩) hHeld ?rest96
          case hi96 => rw [List.getElem?_toArray]; rfl
          case hq96 => exact fun _ _ _ h => h
          case hs96 => kernel_rfl
          case hf96 => kernel_rfl
          case hr96 => kernel_rfl
          case hw96 => rfl
          case hy96 => (intro w1 hSw; (try dsimp only at hSw); go_simp; try with_reducible rfl)
          (try simp only [Act.put, List.setIfInBounds_toArray, List.set_cons_zero, List.set_cons_succ])
          refine wpAnyH_done (by kernel_rfl) ?_ _
          clear hHeld
          obtain ⟨g0, g1, g2, g3⟩ := RBox.box hG.out
          obtain ⟨j0, j1, j2, j3⟩ := RBox.box hH.out
          go_wp2_with fail
          refine (c_eqRange x y z u _).mono ?_
          rintro ee we ⟨rfl, hbe⟩
          have bele := hid (tw.out.bel.trans (hbe.mono tw.out.bel.size))
          clear g0 g1 g2 g3 j0 j1 j2 j3 hbe
          go_wp2_with fail
          go_ret
          exact ⟨rfl, bele.out⟩
        refine AllReadyH.cons (o := ?oi97) ?hi97 (fun K hK => ?st97) ?mo97
        case hi97 => rw [List.getElem?_toArray]; rfl
        case st97 =>
          go_simp
          have kG := hid tw.out.l
          have nHG := hid hH.out.lt
          replace hH := hid (hH.out.alloc (cellsR4 0 0 0 0))
          have hG := hid (RBox.new wc3 0 0 0 0)
          replace tw := hid (tw.out.alloc (cellsR4 0 0 0 0))
          generalize wc3.alloc (cellsR4 0 0 0 0) = wg8 at *
          refine hK.out _ _ ?hS97 (fun hHeld => ?re97)
          case hS97 => exact ⟨tw.out.A.c0, tw.out.A.c1, tw.out.A.c2, tw.out.A.c3, tw.out.B.c0, tw.out.B.c1, tw.out.B.c2, tw.out.B.c3⟩
          clear hK K
          (try simp only [Act.put, List.setIfInBounds_toArray, List.set_cons_zero, List.set_cons_succ])
          refine wpAnyH_ready (fuel := 5) (rs := [4]) (by kernel_rfl) (by simp) ?_
          refine AllReadyH.cons (o := ?oi98) ?hi98 (fun K hK => ?st98) AllReadyH.nil
          case hi98 => rw [List.getElem?_toArray]; rfl
          go_simp
          refine (hp.out _).mono ?_
          rintro ee wc4 ⟨rfl, hbn⟩
          replace tw := hid (tw.out.below hbn)
          replace hH := hid (hH.out.below hbn)
          replace hG := hid (hG.out.below hbn)
          clear hbn
          go_wp2_with fail
          refine hK.out _ _ ?hS98 (fun hHeld => ?re98)
          case hS98 => exact ⟨tw.out.A.c0, tw.out.A.c1, tw.out.A.c2, tw.out.A.c3, tw.out.B.c0, tw.out.B.c1, tw.out.B.c2, tw.out.B.c3⟩
          clear hK K
          (try simp only [Act.put, List.setIfInBounds_toArray, List.set_cons_zero, List.set_cons_succ])
          refine wpAnyH_take (i := 5) (oi := ?oi99) (v := ?v99) (fuel := 4) ?hi99 ?hs99 ?hf99 ?hr99 ?hq99 (Or.inl ⟨?hw99, ?hy99⟩) hHeld ?rest99
          case hi99 => rw [List.getElem?_toArray]; rfl
          case hq99 => exact fun _ _ _ h => h
          case hs99 => kernel_rfl
          case hf99 => kernel_rfl
          case hr99 => kernel_rfl
          case hw99 => rfl
          case hy99 => (intro w1 hSw; (try dsimp only at hSw); go_simp; try with_reducible rfl)
          (try simp only [Act.put, List.setIfInBounds_toArray, List.set_cons_zero, List.set_cons_succ])
          refine wpAnyH_take (i := 6) (oi := ?oi100) (v := ?v100) (fuel := 3) ?hi100 ?hs100 ?hf100 ?hr100 ?hq100 (Or.inl ⟨?hw100, ?hy100⟩) hHeld ?rest100
          case hi100 => rw [List.getElem?_toArray]; rfl
          case hq100 => exact fun _ _ _ h => h
          case hs100 => kernel_rfl
          case hf100 => kernel_rfl
          case hr100 => kernel_rfl
          case hw100 => rfl
          case hy100 => (intro w1 hSw; (try dsimp only at hSw); go_simp; try with_reducible rfl)
          (try simp only [Act.put, List.setIfInBounds_toArray, List.set_cons_zero, List.set_cons_succ])
          refine wpAnyH_take (i := 7) (oi := ?oi101) (v := ?v101) (fuel := 2) ?hi101 ?hs101 ?hf101 ?hr101 ?hq101 (Or.inl ⟨?hw101, ?hy101⟩) hHeld ?rest101
          case hi101 => rw [List.getElem?_toArray]; rfl
          case hq101 => exact fun _ _ _ h => h
          case hs101 => kernel_rfl
          case hf101 => kernel_rfl
          case hr101 => kernel_rfl
          case hw101 => rfl
          case hy101 => (intro w1 hSw; (try dsimp only at hSw); go_simp; try with_reducible rfl)
          (try simp only [Act.put, List.setIfInBounds_toArray, List.set_cons_zero, List.set_cons_succ])
          refine wpAnyH_ready (fuel := 1) (rs := [9]) (by kernel_rfl) (by simp) ?_
          refine AllReadyH.cons (o := ?oi102) ?hi102 (fun K hK => ?st102) AllReadyH.nil
          case hi102 => rw [List.getElem?_toArray]; rfl
          obtain ⟨g0, g1, g2, g3⟩ := RBox.box hG.out
          have fq := RBox.frozen hG.out
          go_simp
          clear g0 g1 g2 g3 fq
          replace hH := hid (hH.out.st4o (k := wc3.heap.size) (by have := nHG.out; omega) x y z u)
          replace hG := hid (hG.out.st4 (x' := x) (y' := y) (z' := z) (u' := u))
          replace tw := hid (tw.out.st4 kG.out x y z u)
          unfold Go.Proofs.Ytcigdckmiibgmab.st4 at hG tw hH
          generalize ((((wc4.setCell ⟨wc3.heap.size, 0, none⟩ (.int .i64 x)).setCell ⟨wc3.heap.size, 1, none⟩ (.int .i64 y)).setCell ⟨wc3.heap.size, 2, none⟩ (.int .i64 z)).setCell ⟨wc3.heap.size, 3, none⟩ (.int .i64 u)) = ws9 at *
          refine hK.out _ _ ?hS102 (fun hHeld => ?re102)
          case hS102 => exact ⟨tw.out.A.c0, tw.out.A.c1, tw.out.A.c2, tw.out.A.c3, tw.out.B.c0, tw.out.B.c1, tw.out.B.c2, tw.out.B.c3⟩
          clear hK K
          (try simp only [Act.put, List.setIfInBounds_toArray, List.set_cons_zero, List.set_cons_succ])
          refine wpAnyH_take (i := 10) (oi := ?oi103) (v := ?v103) (fuel := 0) ?hi103 ?hs103 ?hf103 ?hr103 ?hq103 (Or.inl ⟨?hw103, ?hy103⟩) hHeld ?rest103
          case hi103 => rw [List.getElem?_toArray]; rfl
          case hq103 => exact fun _ _ _ h => h
          case hs103 => kernel_rfl
          case hf103 => kernel_rfl
          case hr103 => kernel_rfl
          case hw103 => rfl
          case hy103 => (intro w1 hSw; (try dsimp only at hSw); go_simp; try with_reducible rfl)
          (try simp only [Act.put, List.setIfInBounds_toArray, List.set_cons_zero, List.set_cons_succ])
          refine wpAnyH_done (by kernel_rfl) ?_ _
          clear hHeld
          obtain ⟨g0, g1, g2, g3⟩ := RBox.box hG.out
          obtain ⟨j0, j1, j2, j3⟩ := RBox.box hH.out
          go_wp2_with fail
          refine (c_eqRange x y z u _).mono ?_
          rintro ee we ⟨rfl, hbe⟩
          have bele := hid (tw.out.bel.trans (hbe.mono tw.out.bel.size))
          clear g0 g1 g2 g3 j0 j1 j2 j3 hbe
          go_wp2_with fail
          go_ret
          exact ⟨rfl, bele.out⟩
        exact AllReadyH.nil
      refine AllReadyH.cons (o := ?oi104) ?hi104 (fun K hK => ?st104) ?mo104
      case hi104 => rw [List.getElem?_toArray]; rfl
      case st104 =>
        go_simp
        have kG := hid tw.out.l
        have nHG := hid hH.out.lt
        replace hH := hid (hH.out.alloc (cellsR4 0 0 0 0))
        have hG := hid (RBox.new wc1 0 0 0 0)
        replace tw := hid (tw.out.alloc (cellsR4 0 0 0 0))
        generalize wc1.alloc (cellsR4 0 0 0 0) = wg8 at *
        refine hK.out _ _ ?hS104 (fun hHeld => ?re104)
        case hS104 => exact ⟨tw.out.A.c0, tw.out.A.c1, tw.out.A.c2, tw.out.A.c3, tw.out.B.c0, tw.out.B.c1, tw.out.B.c2, tw.out.B.c3⟩
        clear hK K
        (try simp only [Act.put, List.setIfInBounds_toArray, List.set_cons_zero, List.set_cons_succ])
        refine wpAnyH_ready (fuel := 6) (rs := [3]) (by kernel_rfl) (by simp) ?_
        refine AllReadyH.cons (o := ?oi105) ?hi105 (fun K hK => ?st105) AllReadyH.nil
        case hi105 => rw [List.getElem?_toArray]; rfl
        go_simp
        refine (c_toRange _ _ _ _ _).mono ?_
        rintro ee wc3 ⟨rfl, hbn⟩
        replace tw := hid (tw.out.below hbn)
        replace hH := hid (hH.out.below hbn)
        replace hG := hid (hG.out.below hbn)
        clear hbn
        go_wp2_with fail
        refine hK.out _ _ ?hS105 (fun hHeld => ?re105)
        case hS105 => exact ⟨tw.out.A.c0, tw.out.A.c1, tw.out.A.c2, tw.out.A.c3, tw.out.B.c0, tw.out.B.c1, tw.out.B.c2, tw.out.B.c3⟩
        clear hK K
        (try simp only [Act.put, List.setIfInBounds_toArray, List.set_cons_zero, List.set_cons_succ])
        refine wpAnyH_ready (fuel := 5) (rs := [4]) (by kernel_rfl) (by simp) ?_
        refine AllReadyH.cons (o := ?oi106) ?hi106 (fun K hK => ?st106) AllReadyH.nil
        case hi106 => rw [List.getElem?_toArray]; rfl
        go_simp
        refine (hp.out _).mono ?_
        rintro ee wc4 ⟨rfl, hbn⟩
        replace tw := hid (tw.out.below hbn)
        replace hH := hid (hH.out.below hbn)
        replace hG := hid (hG.out.below hbn)
        clear hbn
        go_wp2_with fail
        refine hK.out _ _ ?hS106 (fun hHeld => ?re106)
        case hS106 => exact ⟨tw.out.A.c0, tw.out.A.c1, tw.out.A.c2, tw.out.A.c3, tw.out.B.c0, tw.out.B.c1, tw.out.B.c2, tw.out.B.c3⟩
        clear hK K
        (try simp only [Act.put, List.setIfInBounds_toArray, List.set_cons_zero, List.set_cons_succ])
        refine wpAnyH_take (i := 5) (oi := ?oi107) (v := ?v107) (fuel := 4) ?hi107 ?hs107 ?hf107 ?hr107 ?hq107 (Or.inl ⟨?hw107, ?hy107⟩) hHeld ?rest107
        case hi107 => rw [List.getElem?_toArray]; rfl
        case hq107 => exact fun _ _ _ h => h
        case hs107 => kernel_rfl
        case hf107 => kernel_rfl
        case hr107 => kernel_rfl
        case hw107 => rfl
        case hy107 => (intro w1 hSw; (try dsimp only at hSw); go_simp; try with_reducible rfl)
        (try simp only [Act.put, List.setIfInBounds_toArray, List.set_cons_zero, List.set_cons_succ])
        refine wpAnyH_take (i := 6) (oi := ?oi108) (v := ?v108) (fuel := 3) ?hi108 ?hs108 ?hf108 ?hr108 ?hq108 (Or.inl ⟨?hw108, ?hy108⟩) hHeld ?rest108
        case hi108 => rw [List.getElem?_toArray]; rfl
        case hq108 => exact fun _ _ _ h => h
        case hs108 => kernel_rfl
        case hf108 => kernel_rfl
        case hr108 => kernel_rfl
        case hw108 => rfl
        case hy108 => (intro w1 hSw; (try dsimp only at hSw); go_simp; try with_reducible rfl)
        (try simp only [Act.put, List.setIfInBounds_toArray, List.set_cons_zero, List.set_cons_succ])
        refine wpAnyH_take (i := 7) (oi := ?oi109) (v := ?v109) (fuel := 2) ?hi109 ?hs109 ?hf109 ?hr109 ?hq109 (Or.inl ⟨?hw109, ?hy109⟩) hHeld ?rest109
        case hi109 => rw [List.getElem?_toArray]; rfl
        case hq109 => exact fun _ _ _ h => h
        case hs109 => kernel_rfl
        case hf109 => kernel_rfl
        case hr109 => kernel_rfl
        case hw109 => rfl
        case hy109 => (intro w1 hSw; (try dsimp only at hSw); go_simp; try with_reducible rfl)
        (try simp only [Act.put, List.setIfInBounds_toArray, List.set_cons_zero, List.set_cons_succ])
        refine wpAnyH_ready (fuel := 1) (rs := [9]) (by kernel_rfl) (by simp) ?_
        refine AllReadyH.cons (o := ?oi110) ?hi110 (fun K hK => ?st110) AllReadyH.nil
        case hi110 => rw [List.getElem?_toArray]; rfl
        obtain ⟨g0, g1, g2, g3⟩ := RBox.box hG.out
        have fq := RBox.frozen hG.out
        go_simp
        clear g0 g1 g2 g3 fq
        replace hH := hid (hH.out.st4o (k := wc1.heap.size) (by have := nHG.out; omega) x y z u)
        replace hG := hid (hG.out.st4 (x' := x) (y' := y) (z' := z) (u' := u))
        replace tw := hid (tw.out.st4 kG.out x y z u)
        unfold Go.Proofs.Ytcigdckmiibgmab.st4 at hG tw hH
        generalize ((((wc4.setCell ⟨wc1.heap.size, 0, none⟩ (.int .i64 x)).setCell ⟨wc1.heap.size, 1, none⟩ (.int .i64 y)).setCell ⟨wc1.heap.size, 2, none⟩ (.int .i64 z)).setCell ⟨wc1.heap.size, 3, none⟩ (.int .i64 u)) = ws9 at *
        refine hK.out _ _ ?hS110 (fun hHeld => ?re110)
        case hS110 => exact ⟨tw.out.A.c0, tw.out.A.c1, tw.out.A.c2, tw.out.A.c3, tw.out.B.c0, tw.out.B.c1, tw.out.B.c2, tw.out.B.c3⟩
        clear hK K
        (try simp only [Act.put, List.setIfInBounds_toArray, List.set_cons_zero, List.set_cons_succ])
        refine wpAnyH_take (i := 10) (oi := ?oi111) (v := ?v111) (fuel := 0) ?hi111 ?hs111 ?hf111 ?hr111 ?hq111 (Or.inl ⟨?hw111, ?hy111⟩) hHeld ?rest111
        case hi111 => rw [List.getElem?_toArray]; rfl
        case hq111 => exact fun _ _ _ h => h
        case hs111 => kernel_rfl
        case hf111 => kernel_rfl
        case hr111 => kernel_rfl
        case hw111 => rfl
        case hy111 => (intro w1 hSw; (try dsimp only at hSw); go_simp; try with_reducible rfl)
        (try simp only [Act.put, List.setIfInBounds_toArray, List.set_cons_zero, List.set_cons_succ])
        refine wpAnyH_done (by kernel_rfl) ?_ _
        clear hHeld
        obtain ⟨g0, g1, g2, g3⟩ := RBox.box hG.out
        obtain ⟨j0, j1, j2, j3⟩ := RBox.box hH.out
        go_wp2_with fail
        refine (c_eqRange x y z u _).mono ?_
        rintro ee we ⟨rfl, hbe⟩
        have bele := hid (tw.out.bel.trans (hbe.mono tw.out.bel.size))
        clear g0 g1 g2 g3 j0 j1 j2 j3 hbe
        go_wp2_with fail
        go_ret
        exact ⟨rfl, bele.out⟩
      exact AllReadyH.nil
    refine AllReadyH.cons (o := ?oi112) ?hi112 (fun K hK => ?st112) ?mo112
    case hi112 => rw [List.getElem?_toArray]; rfl
    case st112 =>
      go_simp
      have kG := hid tw.out.l
      have nHG := hid hH.out.lt
      replace hH := hid (hH.out.alloc (cellsR4 0 0 0 0))
      have hG := hid (RBox.new W1 0 0 0 0)
      replace tw := hid (tw.out.alloc (cellsR4 0 0 0 0))
      generalize W1.alloc (cellsR4 0 0 0 0) = wg8 at *
      refine hK.out _ _ ?hS112 (fun hHeld => ?re112)
      case hS112 => exact ⟨tw.out.A.c0, tw.out.A.c1, tw.out.A.c2, tw.out.A.c3, tw.out.B.c0, tw.out.B.c1, tw.out.B.c2, tw.out.B.c3⟩
      clear hK K
      (try simp only [Act.put, List.setIfInBounds_toArray, List.set_cons_zero, List.set_cons_succ])
      refine wpAnyH_ready (fuel := 7) (rs := [1]) (by kernel_rfl) (by simp) ?_
      refine AllReadyH.cons (o := ?oi113) ?hi113 (fun K hK => ?st113) AllReadyH.nil
      case hi113 => rw [List.getElem?_toArray]; rfl
      go_simp
      refine (c_toRange _ _ _ _ _).mono ?_
      rintro ee wc1 ⟨rfl, hbn⟩
      replace tw := hid (tw.out.below hbn)
      replace hH := hid (hH.out.below hbn)
      replace hG := hid (hG.out.below hbn)
      clear hbn
      go_wp2_with fail
      refine hK.out _ _ ?hS113 (fun hHeld => ?re113)
      case hS113 => exact ⟨tw.out.A.c0, tw.out.A.c1, tw.out.A.c2, tw.out.A.c3, tw.out.B.c0, tw.out.B.c1, tw.out.B.c2, tw.out.B.c3⟩
      clear hK K
      (try simp only [Act.put, List.setIfInBounds_toArray, List.set_cons_zero, List.set_cons_succ])
      refine wpAnyH_ready (fuel := 6) (rs := [3]) (by kernel_rfl) (by simp) ?_
      refine AllReadyH.cons (o := ?oi114) ?hi114 (fun K hK => ?st114) AllReadyH.nil
      case hi114 => rw [List.getElem?_toArray]; rfl
      go_simp
      refine (c_toRange _ _ _ _ _).mono ?_
      rintro ee wc3 ⟨rfl, hbn⟩
      replace tw := hid (tw.out.below hbn)
      replace hH := hid (hH.out.below hbn)
      replace hG := hid (hG.out.below hbn)
      clear hbn
      go_wp2_with fail
      refine hK.out _ _ ?hS114 (fun hHeld => ?re114)
      case hS114 => exact ⟨tw.out.A.c0, tw.out.A.c1, tw.out.A.c2, tw.out.A.c3, tw.out.B.c0, tw.out.B.c1, tw.out.B.c2, tw.out.B.c3⟩
      clear hK K
      (try simp only [Act.put, List.setIfInBounds_toArray, List.set_cons_zero, List.set_cons_succ])
      refine wpAnyH_ready (fuel := 5) (rs := [4]) (by kernel_rfl) (by simp) ?_
      refine AllReadyH.cons (o := ?oi115) ?hi115 (fun K hK => ?st115) AllReadyH.nil
      case hi115 => rw [List.getElem?_toArray]; rfl
      go_simp
      refine (hp.out _).mono ?_
      rintro ee wc4 ⟨rfl, hbn⟩
      replace tw := hid (tw.out.below hbn)
      replace hH := hid (hH.out.below hbn)
      replace hG := hid (hG.out.below hbn)
      clear hbn
      go_wp2_with fail
      refine hK.out _ _ ?hS115 (fun hHeld => ?re115)
      case hS115 => exact ⟨tw.out.A.c0, tw.out.A.c1, tw.out.A.c2, tw.out.A.c3, tw.out.B.c0, tw.out.B.c1, tw.out.B.c2, tw.out.B.c3⟩
      clear hK K
      (try simp only [Act.put, List.setIfInBounds_toArray, List.set_cons_zero, List.set_cons_succ])
      refine wpAnyH_take (i := 5) (oi := ?oi116) (v := ?v116) (fuel := 4) ?hi116 ?hs116 ?hf116 ?hr116 ?hq116 (Or.inl ⟨?hw116, ?hy116⟩) hHeld ?rest116
      case hi116 => rw [List.getElem?_toArray]; rfl
      case hq116 => exact fun _ _ _ h => h
      case hs116 => kernel_rfl
      case hf116 => kernel_rfl
      case hr116 => kernel_rfl
      case hw116 => rfl
      case hy116 => (intro w1 hSw; (try dsimp only at hSw); go_simp; try with_reducible rfl)
      (try simp only [Act.put, List.setIfInBounds_toArray, List.set_cons_zero, List.set_cons_succ])
      refine wpAnyH_take (i := 6) (oi := ?oi117) (v := ?v117) (fuel := 3) ?hi117 ?hs117 ?hf117 ?hr117 ?hq117 (Or.inl ⟨?hw117, ?hy117⟩) hHeld ?rest117
      case hi117 => rw [List.getElem?_toArray]; rfl
      case hq117 => exact fun _ _ _ h => h
      case hs117 => kernel_rfl
      case hf117 => kernel_rfl
      case hr117 => kernel_rfl
      case hw117 => rfl
      case hy117 => (intro w1 hSw; (try dsimp only at hSw); go_simp; try with_reducible rfl)
      (try simp only [Act.put, List.setIfInBounds_toArray, List.set_cons_zero, List.set_cons_succ])
      refine wpAnyH_take (i := 7) (oi := ?oi118) (v := ?v118) (fuel := 2) ?hi118 ?hs118 ?hf118 ?hr118 ?hq118 (Or.inl ⟨?hw118, ?hy118⟩) hHeld ?rest118
      case hi118 => rw [List.getElem?_toArray]; rfl
      case hq118 => exact fun _ _ _ h => h
      case hs118 => kernel_rfl
      case hf118 => kernel_rfl
      case hr118 => kernel_rfl
      case hw118 => rfl
      case hy118 => (intro w1 hSw; (try dsimp only at hSw); go_simp; try with_reducible rfl)
      (try simp only [Act.put, List.setIfInBounds_toArray, List.set_cons_zero, List.set_cons_succ])
      refine wpAnyH_ready (fuel := 1) (rs := [9]) (by kernel_rfl) (by simp) ?_
      refine AllReadyH.cons (o := ?oi119) ?hi119 (fun K hK => ?st119) AllReadyH.nil
      case hi119 => rw [List.getElem?_toArray]; rfl
      obtain ⟨g0, g1, g2, g3⟩ := RBox.box hG.out
      have fq := RBox.frozen hG.out
      go_simp
      clear g0 g1 g2 g3 fq
      replace hH := hid (hH.out.st4o (k := W1.heap.size) (by have := nHG.out; omega) x y z u)
      replace hG := hid (hG.out.st4 (x' := x) (y' := y) (z' := z) (u' := u))
      replace tw := hid (tw.out.st4 kG.out x y z u)
      unfold Go.Proofs.Ytcigdckmiibgmab.st4 at hG tw hH
      generalize ((((wc4.setCell ⟨W1.heap.size, 0, none⟩ (.int .i64 x)).setCell ⟨W1.heap.size, 1, none⟩ (.int .i64 y)).setCell ⟨W1.heap.size, 2, none⟩ (.int .i64 z)).setCell ⟨W1.heap.size, 3, none⟩ (.int .i64 u)) = ws9 at *
      refine hK.out _ _ ?hS119 (fun hHeld => ?re119)
      case hS119 => exact ⟨tw.out.A.c0, tw.out.A.c1, tw.out.A.c2, tw.out.A.c3, tw.out.B.c0, tw.out.B.c1, tw.out.B.c2, tw.out.B.c3⟩
      clear hK K
      (try simp only [Act.put, List.setIfInBounds_toArray, List.set_cons_zero, List.set_cons_succ])
      refine wpAnyH_take (i := 10) (oi := ?oi120) (v := ?v120) (fuel := 0) ?hi120 ?hs120 ?hf120 ?hr120 ?hq120 (Or.inl ⟨?hw120, ?hy120⟩) hHeld ?rest120
      case hi120 => rw [List.getElem?_toArray]; rfl
      case hq120 => exact fun _ _ _ h => h
      case hs120 => kernel_rfl
      case hf120 => kernel_rfl
      case hr120 => kernel_rfl
      case hw120 => rfl
      case hy120 => (intro w1 hSw; (try dsimp only at hSw); go_simp; try with_reducible rfl)
      (try simp only [Act.put, List.setIfInBounds_toArray, List.set_cons_zero, List.set_cons_succ])
      refine wpAnyH_done (by kernel_rfl) ?_ _
      clear hHeld
      obtain ⟨g0, g1, g2, g3⟩ := RBox.box hG.out
      obtain ⟨j0, j1, j2, j3⟩ := RBox.box hH.out
      go_wp2_with fail
      refine (c_eqRange x y z u _).mono ?_
      rintro ee we ⟨rfl, hbe⟩
      have bele := hid (tw.out.bel.trans (hbe.mono tw.out.bel.size))
      clear g0 g1 g2 g3 j0 j1 j2 j3 hbe
      go_wp2_with fail
      go_ret
      exact ⟨rfl, bele.out⟩
    exact AllReadyH.nil

end Go.Proofs.Ytcigdckmiibgmab
