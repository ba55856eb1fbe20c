/- The walk of the law of RangeBranch. -/
import Derived.Test.YtcigdckmiibgmabLC
namespace Go.Proofs.Ytcigdckmiibgmab
open Go.RowKit List
set_option linter.unusedVariables false
set_option linter.unusedSimpArgs false

theorem Two.S {w wr : World} {a b c d e f g h : Int} (t : Two w a b c d e f g h wr) : wr.cell? ⟨w.heap.size, 0, none⟩ = some (.int .i64 a) ∧ wr.cell? ⟨w.heap.size, 1, none⟩ = some (.int .i64 b) ∧ wr.cell? ⟨w.heap.size, 2, none⟩ = some (.int .i64 c) ∧ wr.cell? ⟨w.heap.size, 3, none⟩ = some (.int .i64 d) ∧ wr.cell? ⟨w.heap.size + 1, 0, none⟩ = some (.int .i64 e) ∧ wr.cell? ⟨w.heap.size + 1, 1, none⟩ = some (.int .i64 f) ∧ wr.cell? ⟨w.heap.size + 1, 2, none⟩ = some (.int .i64 g) ∧ wr.cell? ⟨w.heap.size + 1, 3, none⟩ = some (.int .i64 h) :=
 ⟨t.A.c0, t.A.c1, t.A.c2, t.A.c3, t.B.c0, t.B.c1, t.B.c2, t.B.c3⟩

set_option maxRecDepth 100000 in
set_option maxHeartbeats 8000000 in
theorem law_branch (op a b c d e f g h x y z u x' y' z' u' : Int) (hl q : Bool) (w : World)
  (hs : Hid (∀ w, Calls Try.prog 21 #[.int .i64 op, rv a b c d, rv e f g h, .bool hl] w fun ee w' => ee = .returned (.tuple #[rv x y z u, rv x' y' z' u', .bool q]) ∧ Below w.heap.size w w'))
  (hp : Hid (∀ w, Calls Try.prog 22 #[.int .i64 op, rv a b c d, rv e f g h, .bool hl] w fun ee w' => ee = .returned (.tuple #[rv x y z u, rv x' y' z' u', .bool q]) ∧ Below w.heap.size w w')) :
  Calls Try.prog 8 #[.int .i64 op, rv a b c d, rv e f g h, .bool hl] w fun ee w' => ee = .returned (.bool true) ∧ Below w.heap.size w w' := by
 have tw := hid (Two.new w a b c d e f g h 23)
 go_enter Try.func8, Try.ntmps8
 go_wp2_with fail
 generalize (w.alloc (.cells #[.int .i64 a, .int .i64 b, .int .i64 c, .int .i64 d] 23)).alloc (.cells #[.int .i64 e, .int .i64 f, .int .i64 g, .int .i64 h] 23) = W0 at *
 go_cut [9, 10, 11] (fun s s2 s3 wr => ∃ k k', s = .pointer (some ⟨k, 0, none⟩) ∧ s2 = .pointer (some ⟨k', 0, none⟩) ∧ s3 = .bool q ∧ RBox wr k x y z u ∧ RBox wr k' x' y' z' u' ∧ Two w a b c d e f g h wr)
 case first =>
  refine wp_region_held_drew (S := (fun w' => w'.cell? ⟨w.heap.size, 0, none⟩ = some (.int .i64 a) ∧ w'.cell? ⟨w.heap.size, 1, none⟩ = some (.int .i64 b) ∧ w'.cell? ⟨w.heap.size, 2, none⟩ = some (.int .i64 c) ∧ w'.cell? ⟨w.heap.size, 3, none⟩ = some (.int .i64 d) ∧ w'.cell? ⟨w.heap.size + 1, 0, none⟩ = some (.int .i64 e) ∧ w'.cell? ⟨w.heap.size + 1, 1, none⟩ = some (.int .i64 f) ∧ w'.cell? ⟨w.heap.size + 1, 2, none⟩ = some (.int .i64 g) ∧ w'.cell? ⟨w.heap.size + 1, 3, none⟩ = some (.int .i64 h))) (by kernel_rfl) (by exact tw.out.S) (fun hHeld => ?_)
  replace tw := hid tw.out.drew
  generalize W0.drew = W1 at *
  refine wpAnyH_take (i := 0) (oi := ?oi121) (v := ?v121) (fuel := 15) ?hi121 ?hs121 ?hf121 ?hr121 ?hq121 (Or.inl ⟨?hw121, ?hy121⟩) hHeld ?rest121
  case hi121 => rw [List.getElem?_toArray]; rfl
  case hq121 => exact fun _ _ _ h => h
  case hs121 | hf121 | hr121 => kernel_rfl
  case hw121 => rfl
  case hy121 => (intro w1 hSw; (try dsimp only at hSw); go_simp; try with_reducible rfl)
  try simp only [Act.put, setIfInBounds_toArray, set_cons_zero, set_cons_succ]
  refine wpAnyH_take (i := 1) (oi := ?oi122) (v := ?v122) (fuel := 14) ?hi122 ?hs122 ?hf122 ?hr122 ?hq122 (Or.inl ⟨?hw122, ?hy122⟩) hHeld ?rest122
  case hi122 => rw [List.getElem?_toArray]; rfl
  case hq122 => exact fun _ _ _ h => h
  case hs122 | hf122 | hr122 => kernel_rfl
  case hw122 => rfl
  case hy122 => (intro w1 hSw; (try dsimp only at hSw); go_simp; try with_reducible rfl)
  try simp only [Act.put, setIfInBounds_toArray, set_cons_zero, set_cons_succ]
  refine wpAnyH_take (i := 3) (oi := ?oi123) (v := ?v123) (fuel := 13) ?hi123 ?hs123 ?hf123 ?hr123 ?hq123 (Or.inl ⟨?hw123, ?hy123⟩) hHeld ?rest123
  case hi123 => rw [List.getElem?_toArray]; rfl
  case hq123 => exact fun _ _ _ h => h
  case hs123 | hf123 | hr123 => kernel_rfl
  case hw123 => rfl
  case hy123 => (intro w1 hSw; (try dsimp only at hSw); go_simp; try with_reducible rfl)
  try simp only [Act.put, setIfInBounds_toArray, set_cons_zero, set_cons_succ]
  refine wpAnyH_take (i := 5) (oi := ?oi124) (v := ?v124) (fuel := 12) ?hi124 ?hs124 ?hf124 ?hr124 ?hq124 (Or.inl ⟨?hw124, ?hy124⟩) hHeld ?rest124
  case hi124 => rw [List.getElem?_toArray]; rfl
  case hq124 => exact fun _ _ _ h => h
  case hs124 | hf124 | hr124 => kernel_rfl
  case hw124 => rfl
  case hy124 => (intro w1 hSw; (try dsimp only at hSw); go_simp; try with_reducible rfl)
  try simp only [Act.put, setIfInBounds_toArray, set_cons_zero, set_cons_succ]
  refine wpAnyH_ready (fuel := 11) (rs := [2, 11, 12]) (by kernel_rfl) (by simp) ?_
  refine AllReadyH.cons (o := ?oi125) ?hi125 (fun K hK => ?st125) ?mo125
  case hi125 => rw [List.getElem?_toArray]; rfl
  case st125 =>
   go_simp
   refine (c_toRange _ _ _ _ _).mono ?_
   rintro ee wc2 ⟨rfl, hbn⟩
   replace tw := hid (tw.out.below hbn)
   clear hbn
   go_wp2_with fail
   refine hK.out _ _ ?hS125 (fun hHeld => ?re125)
   case hS125 => exact tw.out.S
   clear hK K
   try simp only [Act.put, setIfInBounds_toArray, set_cons_zero, set_cons_succ]
   refine wpAnyH_ready (fuel := 10) (rs := [4, 11, 12]) (by kernel_rfl) (by simp) ?_
   refine AllReadyH.cons (o := ?oi126) ?hi126 (fun K hK => ?st126) ?mo126
   case hi126 => rw [List.getElem?_toArray]; rfl
   case st126 =>
    go_simp
    refine (c_toRange _ _ _ _ _).mono ?_
    rintro ee wc4 ⟨rfl, hbn⟩
    replace tw := hid (tw.out.below hbn)
    clear hbn
    go_wp2_with fail
    refine hK.out _ _ ?hS126 (fun hHeld => ?re126)
    case hS126 => exact tw.out.S
    clear hK K
    try simp only [Act.put, setIfInBounds_toArray, set_cons_zero, set_cons_succ]
    refine wpAnyH_ready (fuel := 9) (rs := [6, 11, 12]) (by kernel_rfl) (by simp) ?_
    refine AllReadyH.cons (o := ?oi127) ?hi127 (fun K hK => ?st127) ?mo127
    case hi127 => rw [List.getElem?_toArray]; rfl
    case st127 =>
     go_simp
     refine (hs.out _).mono ?_
     rintro ee wc6 ⟨rfl, hbn⟩
     replace tw := hid (tw.out.below hbn)
     clear hbn
     go_wp2_with fail
     refine hK.out _ _ ?hS127 (fun hHeld => ?re127)
     case hS127 => exact tw.out.S
     clear hK K
     try simp only [Act.put, setIfInBounds_toArray, set_cons_zero, set_cons_succ]
     refine wpAnyH_take (i := 7) (oi := ?oi128) (v := ?v128) (fuel := 8) ?hi128 ?hs128 ?hf128 ?hr128 ?hq128 (Or.inl ⟨?hw128, ?hy128⟩) hHeld ?rest128
     case hi128 => rw [List.getElem?_toArray]; rfl
     case hq128 => exact fun _ _ _ h => h
     case hs128 | hf128 | hr128 => kernel_rfl
     case hw128 => rfl
     case hy128 => (intro w1 hSw; (try dsimp only at hSw); go_simp; try with_reducible rfl)
     try simp only [Act.put, setIfInBounds_toArray, set_cons_zero, set_cons_succ]
     refine wpAnyH_take (i := 8) (oi := ?oi129) (v := ?v129) (fuel := 7) ?hi129 ?hs129 ?hf129 ?hr129 ?hq129 (Or.inl ⟨?hw129, ?hy129⟩) hHeld ?rest129
     case hi129 => rw [List.getElem?_toArray]; rfl
     case hq129 => exact fun _ _ _ h => h
     case hs129 | hf129 | hr129 => kernel_rfl
     case hw129 => rfl
     case hy129 => (intro w1 hSw; (try dsimp only at hSw); go_simp; try with_reducible rfl)
     try simp only [Act.put, setIfInBounds_toArray, set_cons_zero, set_cons_succ]
     refine wpAnyH_take (i := 9) (oi := ?oi130) (v := ?v130) (fuel := 6) ?hi130 ?hs130 ?hf130 ?hr130 ?hq130 (Or.inl ⟨?hw130, ?hy130⟩) hHeld ?rest130
     case hi130 => rw [List.getElem?_toArray]; rfl
     case hq130 => exact fun _ _ _ h => h
     case hs130 | hf130 | hr130 => kernel_rfl
     case hw130 => rfl
     case hy130 => (intro w1 hSw; (try dsimp only at hSw); go_simp; try with_reducible rfl)
     try simp only [Act.put, setIfInBounds_toArray, set_cons_zero, set_cons_succ]
     refine wpAnyH_take (i := 10) (oi := ?oi131) (v := ?v131) (fuel := 5) ?hi131 ?hs131 ?hf131 ?hr131 ?hq131 (Or.inl ⟨?hw131, ?hy131⟩) hHeld ?rest131
     case hi131 => rw [List.getElem?_toArray]; rfl
     case hq131 => exact fun _ _ _ h => h
     case hs131 | hf131 | hr131 => kernel_rfl
     case hw131 => rfl
     case hy131 => (intro w1 hSw; (try dsimp only at hSw); go_simp; try with_reducible rfl)
     try simp only [Act.put, setIfInBounds_toArray, set_cons_zero, set_cons_succ]
     refine wpAnyH_ready (fuel := 4) (rs := [11, 12]) (by kernel_rfl) (by simp) ?_
     refine AllReadyH.cons (o := ?oi132) ?hi132 (fun K hK => ?st132) ?mo132
     case hi132 => rw [List.getElem?_toArray]; rfl
     case st132 =>
      go_simp
      have kG := hid tw.out.l
      have hG := hid (RBox.new wc6 0 0 0 0)
      replace tw := hid (tw.out.alloc (cellsR4 0 0 0 0))
      generalize wc6.alloc (cellsR4 0 0 0 0) = wg11 at *
      refine hK.out _ _ ?hS132 (fun hHeld => ?re132)
      case hS132 => exact tw.out.S
      clear hK K
      try simp only [Act.put, setIfInBounds_toArray, set_cons_zero, set_cons_succ]
      refine wpAnyH_ready (fuel := 3) (rs := [12]) (by kernel_rfl) (by simp) ?_
      refine AllReadyH.cons (o := ?oi133) ?hi133 (fun K hK => ?st133) AllReadyH.nil
      case hi133 => rw [List.getElem?_toArray]; rfl
      go_simp
      have kH := hid tw.out.l
      have nGH := hid hG.out.lt
      replace hG := hid (hG.out.alloc (cellsR4 0 0 0 0))
      have hH := hid (RBox.new wg11 0 0 0 0)
      replace tw := hid (tw.out.alloc (cellsR4 0 0 0 0))
      generalize wg11.alloc (cellsR4 0 0 0 0) = wg12 at *
      refine hK.out _ _ ?hS133 (fun hHeld => ?re133)
      case hS133 => exact tw.out.S
      clear hK K
      try simp only [Act.put, setIfInBounds_toArray, set_cons_zero, set_cons_succ]
      refine wpAnyH_ready (fuel := 2) (rs := [13]) (by kernel_rfl) (by simp) ?_
      refine AllReadyH.cons (o := ?oi134) ?hi134 (fun K hK => ?st134) AllReadyH.nil
      case hi134 => rw [List.getElem?_toArray]; rfl
      obtain ⟨g0, g1, g2, g3⟩ := RBox.box hG.out
      have fq := RBox.frozen hG.out
      go_simp
      clear g0 g1 g2 g3 fq
      replace hH := hid (hH.out.st4o (k := wc6.heap.size) (by have := nGH.out; omega) x y z u)
      replace hG := hid (hG.out.st4 (x' := x) (y' := y) (z' := z) (u' := u))
      replace tw := hid (tw.out.st4 kG.out x y z u)
      unfold st4 at hG tw hH
      generalize ((((wg12.setCell ⟨wc6.heap.size, 0, none⟩ (.int .i64 x)).setCell ⟨wc6.heap.size, 1, none⟩ (.int .i64 y)).setCell ⟨wc6.heap.size, 2, none⟩ (.int .i64 z)).setCell ⟨wc6.heap.size, 3, none⟩ (.int .i64 u)) = ws13 at *
      refine hK.out _ _ ?hS134 (fun hHeld => ?re134)
      case hS134 => exact tw.out.S
      clear hK K
      try simp only [Act.put, setIfInBounds_toArray, set_cons_zero, set_cons_succ]
      refine wpAnyH_ready (fuel := 1) (rs := [14]) (by kernel_rfl) (by simp) ?_
      refine AllReadyH.cons (o := ?oi135) ?hi135 (fun K hK => ?st135) AllReadyH.nil
      case hi135 => rw [List.getElem?_toArray]; rfl
      obtain ⟨g0, g1, g2, g3⟩ := RBox.box hH.out
      have fq := RBox.frozen hH.out
      go_simp
      clear g0 g1 g2 g3 fq
      replace hG := hid (hG.out.st4o (k := wg11.heap.size) (by have := nGH.out; omega) x' y' z' u')
      replace hH := hid (hH.out.st4 (x' := x') (y' := y') (z' := z') (u' := u'))
      replace tw := hid (tw.out.st4 kH.out x' y' z' u')
      unfold st4 at hH tw hG
      generalize ((((ws13.setCell ⟨wg11.heap.size, 0, none⟩ (.int .i64 x')).setCell ⟨wg11.heap.size, 1, none⟩ (.int .i64 y')).setCell ⟨wg11.heap.size, 2, none⟩ (.int .i64 z')).setCell ⟨wg11.heap.size, 3, none⟩ (.int .i64 u')) = ws14 at *
      refine hK.out _ _ ?hS135 (fun hHeld => ?re135)
      case hS135 => exact tw.out.S
      clear hK K
      try simp only [Act.put, setIfInBounds_toArray, set_cons_zero, set_cons_succ]
      refine wpAnyH_take (i := 15) (oi := ?oi136) (v := ?v136) (fuel := 0) ?hi136 ?hs136 ?hf136 ?hr136 ?hq136 (Or.inl ⟨?hw136, ?hy136⟩) hHeld ?rest136
      case hi136 => rw [List.getElem?_toArray]; rfl
      case hq136 => exact fun _ _ _ h => h
      case hs136 | hf136 | hr136 => kernel_rfl
      case hw136 => rfl
      case hy136 => (intro w1 hSw; (try dsimp only at hSw); go_simp; try with_reducible rfl)
      try simp only [Act.put, setIfInBounds_toArray, set_cons_zero, set_cons_succ]
      refine wpAnyH_done (by kernel_rfl) ?_ _
      clear hHeld
      go_wp2_with fail
      go_meet
      case rel => exact ⟨_, _, rfl, rfl, rfl, hG.out, hH.out, tw.out⟩
     refine AllReadyH.cons (o := ?oi137) ?hi137 (fun K hK => ?st137) ?mo137
     case hi137 => rw [List.getElem?_toArray]; rfl
     case st137 =>
      go_simp
      have kH := hid tw.out.l
      have hH := hid (RBox.new wc6 0 0 0 0)
      replace tw := hid (tw.out.alloc (cellsR4 0 0 0 0))
      generalize wc6.alloc (cellsR4 0 0 0 0) = wg12 at *
      refine hK.out _ _ ?hS137 (fun hHeld => ?re137)
      case hS137 => exact tw.out.S
      clear hK K
      try simp only [Act.put, setIfInBounds_toArray, set_cons_zero, set_cons_succ]
      refine wpAnyH_ready (fuel := 3) (rs := [11]) (by kernel_rfl) (by simp) ?_
      refine AllReadyH.cons (o := ?oi138) ?hi138 (fun K hK => ?st138) AllReadyH.nil
      case hi138 => rw [List.getElem?_toArray]; rfl
      go_simp
      have kG := hid tw.out.l
      have nHG := hid hH.out.lt
      replace hH := hid (hH.out.alloc (cellsR4 0 0 0 0))
      have hG := hid (RBox.new wg12 0 0 0 0)
      replace tw := hid (tw.out.alloc (cellsR4 0 0 0 0))
      generalize wg12.alloc (cellsR4 0 0 0 0) = wg11 at *
      refine hK.out _ _ ?hS138 (fun hHeld => ?re138)
      case hS138 => exact tw.out.S
      clear hK K
      try simp only [Act.put, setIfInBounds_toArray, set_cons_zero, set_cons_succ]
      refine wpAnyH_ready (fuel := 2) (rs := [13]) (by kernel_rfl) (by simp) ?_
      refine AllReadyH.cons (o := ?oi139) ?hi139 (fun K hK => ?st139) AllReadyH.nil
      case hi139 => rw [List.getElem?_toArray]; rfl
      obtain ⟨g0, g1, g2, g3⟩ := RBox.box hG.out
      have fq := RBox.frozen hG.out
      go_simp
      clear g0 g1 g2 g3 fq
      replace hH := hid (hH.out.st4o (k := wg12.heap.size) (by have := nHG.out; omega) x y z u)
      replace hG := hid (hG.out.st4 (x' := x) (y' := y) (z' := z) (u' := u))
      replace tw := hid (tw.out.st4 kG.out x y z u)
      unfold st4 at hG tw hH
      generalize ((((wg11.setCell ⟨wg12.heap.size, 0, none⟩ (.int .i64 x)).setCell ⟨wg12.heap.size, 1, none⟩ (.int .i64 y)).setCell ⟨wg12.heap.size, 2, none⟩ (.int .i64 z)).setCell ⟨wg12.heap.size, 3, none⟩ (.int .i64 u)) = ws13 at *
      refine hK.out _ _ ?hS139 (fun hHeld => ?re139)
      case hS139 => exact tw.out.S
      clear hK K
      try simp only [Act.put, setIfInBounds_toArray, set_cons_zero, set_cons_succ]
      refine wpAnyH_ready (fuel := 1) (rs := [14]) (by kernel_rfl) (by simp) ?_
      refine AllReadyH.cons (o := ?oi140) ?hi140 (fun K hK => ?st140) AllReadyH.nil
      case hi140 => rw [List.getElem?_toArray]; rfl
      obtain ⟨g0, g1, g2, g3⟩ := RBox.box hH.out
      have fq := RBox.frozen hH.out
      go_simp
      clear g0 g1 g2 g3 fq
      replace hG := hid (hG.out.st4o (k := wc6.heap.size) (by have := nHG.out; omega) x' y' z' u')
      replace hH := hid (hH.out.st4 (x' := x') (y' := y') (z' := z') (u' := u'))
      replace tw := hid (tw.out.st4 kH.out x' y' z' u')
      unfold st4 at hH tw hG
      generalize ((((ws13.setCell ⟨wc6.heap.size, 0, none⟩ (.int .i64 x')).setCell ⟨wc6.heap.size, 1, none⟩ (.int .i64 y')).setCell ⟨wc6.heap.size, 2, none⟩ (.int .i64 z')).setCell ⟨wc6.heap.size, 3, none⟩ (.int .i64 u')) = ws14 at *
      refine hK.out _ _ ?hS140 (fun hHeld => ?re140)
      case hS140 => exact tw.out.S
      clear hK K
      try simp only [Act.put, setIfInBounds_toArray, set_cons_zero, set_cons_succ]
      refine wpAnyH_take (i := 15) (oi := ?oi141) (v := ?v141) (fuel := 0) ?hi141 ?hs141 ?hf141 ?hr141 ?hq141 (Or.inl ⟨?hw141, ?hy141⟩) hHeld ?rest141
      case hi141 => rw [List.getElem?_toArray]; rfl
      case hq141 => exact fun _ _ _ h => h
      case hs141 | hf141 | hr141 => kernel_rfl
      case hw141 => rfl
      case hy141 => (intro w1 hSw; (try dsimp only at hSw); go_simp; try with_reducible rfl)
      try simp only [Act.put, setIfInBounds_toArray, set_cons_zero, set_cons_succ]
      refine wpAnyH_done (by kernel_rfl) ?_ _
      clear hHeld
      go_wp2_with fail
      go_meet
      case rel => exact ⟨_, _, rfl, rfl, rfl, hG.out, hH.out, tw.out⟩
     exact AllReadyH.nil
    refine AllReadyH.cons (o := ?oi142) ?hi142 (fun K hK => ?st142) ?mo142
    case hi142 => rw [List.getElem?_toArray]; rfl
    case st142 =>
     go_simp
     have kG := hid tw.out.l
     have hG := hid (RBox.new wc4 0 0 0 0)
     replace tw := hid (tw.out.alloc (cellsR4 0 0 0 0))
     generalize wc4.alloc (cellsR4 0 0 0 0) = wg11 at *
     refine hK.out _ _ ?hS142 (fun hHeld => ?re142)
     case hS142 => exact tw.out.S
     clear hK K
     try simp only [Act.put, setIfInBounds_toArray, set_cons_zero, set_cons_succ]
     refine wpAnyH_ready (fuel := 8) (rs := [6, 12]) (by kernel_rfl) (by simp) ?_
     refine AllReadyH.cons (o := ?oi143) ?hi143 (fun K hK => ?st143) ?mo143
     case hi143 => rw [List.getElem?_toArray]; rfl
     case st143 =>
      go_simp
      refine (hs.out _).mono ?_
      rintro ee wc6 ⟨rfl, hbn⟩
      replace tw := hid (tw.out.below hbn)
      replace hG := hid (hG.out.below hbn)
      clear hbn
      go_wp2_with fail
      refine hK.out _ _ ?hS143 (fun hHeld => ?re143)
      case hS143 => exact tw.out.S
      clear hK K
      try simp only [Act.put, setIfInBounds_toArray, set_cons_zero, set_cons_succ]
      refine wpAnyH_take (i := 7) (oi := ?oi144) (v := ?v144) (fuel := 7) ?hi144 ?hs144 ?hf144 ?hr144 ?hq144 (Or.inl ⟨?hw144, ?hy144⟩) hHeld ?rest144
      case hi144 => rw [List.getElem?_toArray]; rfl
      case hq144 => exact fun _ _ _ h => h
      case hs144 | hf144 | hr144 => kernel_rfl
      case hw144 => rfl
      case hy144 => (intro w1 hSw; (try dsimp only at hSw); go_simp; try with_reducible rfl)
      try simp only [Act.put, setIfInBounds_toArray, set_cons_zero, set_cons_succ]
      refine wpAnyH_take (i := 8) (oi := ?oi145) (v := ?v145) (fuel := 6) ?hi145 ?hs145 ?hf145 ?hr145 ?hq145 (Or.inl ⟨?hw145, ?hy145⟩) hHeld ?rest145
      case hi145 => rw [List.getElem?_toArray]; rfl
      case hq145 => exact fun _ _ _ h => h
      case hs145 | hf145 | hr145 => kernel_rfl
      case hw145 => rfl
      case hy145 => (intro w1 hSw; (try dsimp only at hSw); go_simp; try with_reducible rfl)
      try simp only [Act.put, setIfInBounds_toArray, set_cons_zero, set_cons_succ]
      refine wpAnyH_take (i := 9) (oi := ?oi146) (v := ?v146) (fuel := 5) ?hi146 ?hs146 ?hf146 ?hr146 ?hq146 (Or.inl ⟨?hw146, ?hy146⟩) hHeld ?rest146
      case hi146 => rw [List.getElem?_toArray]; rfl
      case hq146 => exact fun _ _ _ h => h
      case hs146 | hf146 | hr146 => kernel_rfl
      case hw146 => rfl
      case hy146 => (intro w1 hSw; (try dsimp only at hSw); go_simp; try with_reducible rfl)
      try simp only [Act.put, setIfInBounds_toArray, set_cons_zero, set_cons_succ]
      refine wpAnyH_take (i := 10) (oi := ?oi147) (v := ?v147) (fuel := 4) ?hi147 ?hs147 ?hf147 ?hr147 ?hq147 (Or.inl ⟨?hw147, ?hy147⟩) hHeld ?rest147
      case hi147 => rw [List.getElem?_toArray]; rfl
      case hq147 => exact fun _ _ _ h => h
      case hs147 | hf147 | hr147 => kernel_rfl
      case hw147 => rfl
      case hy147 => (intro w1 hSw; (try dsimp only at hSw); go_simp; try with_reducible rfl)
      try simp only [Act.put, setIfInBounds_toArray, set_cons_zero, set_cons_succ]
      refine wpAnyH_ready (fuel := 3) (rs := [12]) (by kernel_rfl) (by simp) ?_
      refine AllReadyH.cons (o := ?oi148) ?hi148 (fun K hK => ?st148) AllReadyH.nil
      case hi148 => rw [List.getElem?_toArray]; rfl
      go_simp
      have kH := hid tw.out.l
      have nGH := hid hG.out.lt
      replace hG := hid (hG.out.alloc (cellsR4 0 0 0 0))
      have hH := hid (RBox.new wc6 0 0 0 0)
      replace tw := hid (tw.out.alloc (cellsR4 0 0 0 0))
      generalize wc6.alloc (cellsR4 0 0 0 0) = wg12 at *
      refine hK.out _ _ ?hS148 (fun hHeld => ?re148)
      case hS148 => exact tw.out.S
      clear hK K
      try simp only [Act.put, setIfInBounds_toArray, set_cons_zero, set_cons_succ]
      refine wpAnyH_ready (fuel := 2) (rs := [13]) (by kernel_rfl) (by simp) ?_
      refine AllReadyH.cons (o := ?oi149) ?hi149 (fun K hK => ?st149) AllReadyH.nil
      case hi149 => rw [List.getElem?_toArray]; rfl
      obtain ⟨g0, g1, g2, g3⟩ := RBox.box hG.out
      have fq := RBox.frozen hG.out
      go_simp
      clear g0 g1 g2 g3 fq
      replace hH := hid (hH.out.st4o (k := wc4.heap.size) (by have := nGH.out; omega) x y z u)
      replace hG := hid (hG.out.st4 (x' := x) (y' := y) (z' := z) (u' := u))
      replace tw := hid (tw.out.st4 kG.out x y z u)
      unfold st4 at hG tw hH
      generalize ((((wg12.setCell ⟨wc4.heap.size, 0, none⟩ (.int .i64 x)).setCell ⟨wc4.heap.size, 1, none⟩ (.int .i64 y)).setCell ⟨wc4.heap.size, 2, none⟩ (.int .i64 z)).setCell ⟨wc4.heap.size, 3, none⟩ (.int .i64 u)) = ws13 at *
      refine hK.out _ _ ?hS149 (fun hHeld => ?re149)
      case hS149 => exact tw.out.S
      clear hK K
      try simp only [Act.put, setIfInBounds_toArray, set_cons_zero, set_cons_succ]
      refine wpAnyH_ready (fuel := 1) (rs := [14]) (by kernel_rfl) (by simp) ?_
      refine AllReadyH.cons (o := ?oi150) ?hi150 (fun K hK => ?st150) AllReadyH.nil
      case hi150 => rw [List.getElem?_toArray]; rfl
      obtain ⟨g0, g1, g2, g3⟩ := RBox.box hH.out
      have fq := RBox.frozen hH.out
      go_simp
      clear g0 g1 g2 g3 fq
      replace hG := hid (hG.out.st4o (k := wc6.heap.size) (by have := nGH.out; omega) x' y' z' u')
      replace hH := hid (hH.out.st4 (x' := x') (y' := y') (z' := z') (u' := u'))
      replace tw := hid (tw.out.st4 kH.out x' y' z' u')
      unfold st4 at hH tw hG
      generalize ((((ws13.setCell ⟨wc6.heap.size, 0, none⟩ (.int .i64 x')).setCell ⟨wc6.heap.size, 1, none⟩ (.int .i64 y')).setCell ⟨wc6.heap.size, 2, none⟩ (.int .i64 z')).setCell ⟨wc6.heap.size, 3, none⟩ (.int .i64 u')) = ws14 at *
      refine hK.out _ _ ?hS150 (fun hHeld => ?re150)
      case hS150 => exact tw.out.S
      clear hK K
      try simp only [Act.put, setIfInBounds_toArray, set_cons_zero, set_cons_succ]
      refine wpAnyH_take (i := 15) (oi := ?oi151) (v := ?v151) (fuel := 0) ?hi151 ?hs151 ?hf151 ?hr151 ?hq151 (Or.inl ⟨?hw151, ?hy151⟩) hHeld ?rest151
      case hi151 => rw [List.getElem?_toArray]; rfl
      case hq151 => exact fun _ _ _ h => h
      case hs151 | hf151 | hr151 => kernel_rfl
      case hw151 => rfl
      case hy151 => (intro w1 hSw; (try dsimp only at hSw); go_simp; try with_reducible rfl)
      try simp only [Act.put, setIfInBounds_toArray, set_cons_zero, set_cons_succ]
      refine wpAnyH_done (by kernel_rfl) ?_ _
      clear hHeld
      go_wp2_with fail
      go_meet
      case rel => exact ⟨_, _, rfl, rfl, rfl, hG.out, hH.out, tw.out⟩
     refine AllReadyH.cons (o := ?oi152) ?hi152 (fun K hK => ?st152) ?mo152
     case hi152 => rw [List.getElem?_toArray]; rfl
     case st152 =>
      go_simp
      have kH := hid tw.out.l
      have nGH := hid hG.out.lt
      replace hG := hid (hG.out.alloc (cellsR4 0 0 0 0))
      have hH := hid (RBox.new wg11 0 0 0 0)
      replace tw := hid (tw.out.alloc (cellsR4 0 0 0 0))
      generalize wg11.alloc (cellsR4 0 0 0 0) = wg12 at *
      refine hK.out _ _ ?hS152 (fun hHeld => ?re152)
      case hS152 => exact tw.out.S
      clear hK K
      try simp only [Act.put, setIfInBounds_toArray, set_cons_zero, set_cons_succ]
      refine wpAnyH_ready (fuel := 7) (rs := [6]) (by kernel_rfl) (by simp) ?_
      refine AllReadyH.cons (o := ?oi153) ?hi153 (fun K hK => ?st153) AllReadyH.nil
      case hi153 => rw [List.getElem?_toArray]; rfl
      go_simp
      refine (hs.out _).mono ?_
      rintro ee wc6 ⟨rfl, hbn⟩
      replace tw := hid (tw.out.below hbn)
      replace hG := hid (hG.out.below hbn)
      replace hH := hid (hH.out.below hbn)
      clear hbn
      go_wp2_with fail
      refine hK.out _ _ ?hS153 (fun hHeld => ?re153)
      case hS153 => exact tw.out.S
      clear hK K
      try simp only [Act.put, setIfInBounds_toArray, set_cons_zero, set_cons_succ]
      refine wpAnyH_take (i := 7) (oi := ?oi154) (v := ?v154) (fuel := 6) ?hi154 ?hs154 ?hf154 ?hr154 ?hq154 (Or.inl ⟨?hw154, ?hy154⟩) hHeld ?rest154
      case hi154 => rw [List.getElem?_toArray]; rfl
      case hq154 => exact fun _ _ _ h => h
      case hs154 | hf154 | hr154 => kernel_rfl
      case hw154 => rfl
      case hy154 => (intro w1 hSw; (try dsimp only at hSw); go_simp; try with_reducible rfl)
      try simp only [Act.put, setIfInBounds_toArray, set_cons_zero, set_cons_succ]
      refine wpAnyH_take (i := 8) (oi := ?oi155) (v := ?v155) (fuel := 5) ?hi155 ?hs155 ?hf155 ?hr155 ?hq155 (Or.inl ⟨?hw155, ?hy155⟩) hHeld ?rest155
      case hi155 => rw [List.getElem?_toArray]; rfl
      case hq155 => exact fun _ _ _ h => h
      case hs155 | hf155 | hr155 => kernel_rfl
      case hw155 => rfl
      case hy155 => (intro w1 hSw; (try dsimp only at hSw); go_simp; try with_reducible rfl)
      try simp only [Act.put, setIfInBounds_toArray, set_cons_zero, set_cons_succ]
      refine wpAnyH_take (i := 9) (oi := ?oi156) (v := ?v156) (fuel := 4) ?hi156 ?hs156 ?hf156 ?hr156 ?hq156 (Or.inl ⟨?hw156, ?hy156⟩) hHeld ?rest156
      case hi156 => rw [List.getElem?_toArray]; rfl
      case hq156 => exact fun _ _ _ h => h
      case hs156 | hf156 | hr156 => kernel_rfl
      case hw156 => rfl
      case hy156 => (intro w1 hSw; (try dsimp only at hSw); go_simp; try with_reducible rfl)
      try simp only [Act.put, setIfInBounds_toArray, set_cons_zero, set_cons_succ]
      refine wpAnyH_take (i := 10) (oi := ?oi157) (v := ?v157) (fuel := 3) ?hi157 ?hs157 ?hf157 ?hr157 ?hq157 (Or.inl ⟨?hw157, ?hy157⟩) hHeld ?rest157
      case hi157 => rw [List.getElem?_toArray]; rfl
      case hq157 => exact fun _ _ _ h => h
      case hs157 | hf157 | hr157 => kernel_rfl
      case hw157 => rfl
      case hy157 => (intro w1 hSw; (try dsimp only at hSw); go_simp; try with_reducible rfl)
      try simp only [Act.put, setIfInBounds_toArray, set_cons_zero, set_cons_succ]
      refine wpAnyH_ready (fuel := 2) (rs := [13]) (by kernel_rfl) (by simp) ?_
      refine AllReadyH.cons (o := ?oi158) ?hi158 (fun K hK => ?st158) AllReadyH.nil
      case hi158 => rw [List.getElem?_toArray]; rfl
      obtain ⟨g0, g1, g2, g3⟩ := RBox.box hG.out
      have fq := RBox.frozen hG.out
      go_simp
      clear g0 g1 g2 g3 fq
      replace hH := hid (hH.out.st4o (k := wc4.heap.size) (by have := nGH.out; omega) x y z u)
      replace hG := hid (hG.out.st4 (x' := x) (y' := y) (z' := z) (u' := u))
      replace tw := hid (tw.out.st4 kG.out x y z u)
      unfold st4 at hG tw hH
      generalize ((((wc6.setCell ⟨wc4.heap.size, 0, none⟩ (.int .i64 x)).setCell ⟨wc4.heap.size, 1, none⟩ (.int .i64 y)).setCell ⟨wc4.heap.size, 2, none⟩ (.int .i64 z)).setCell ⟨wc4.heap.size, 3, none⟩ (.int .i64 u)) = ws13 at *
      refine hK.out _ _ ?hS158 (fun hHeld => ?re158)
      case hS158 => exact tw.out.S
      clear hK K
      try simp only [Act.put, setIfInBounds_toArray, set_cons_zero, set_cons_succ]
      refine wpAnyH_ready (fuel := 1) (rs := [14]) (by kernel_rfl) (by simp) ?_
      refine AllReadyH.cons (o := ?oi159) ?hi159 (fun K hK => ?st159) AllReadyH.nil
      case hi159 => rw [List.getElem?_toArray]; rfl
      obtain ⟨g0, g1, g2, g3⟩ := RBox.box hH.out
      have fq := RBox.frozen hH.out
      go_simp
      clear g0 g1 g2 g3 fq
      replace hG := hid (hG.out.st4o (k := wg11.heap.size) (by have := nGH.out; omega) x' y' z' u')
      replace hH := hid (hH.out.st4 (x' := x') (y' := y') (z' := z') (u' := u'))
      replace tw := hid (tw.out.st4 kH.out x' y' z' u')
      unfold st4 at hH tw hG
      generalize ((((ws13.setCell ⟨wg11.heap.size, 0, none⟩ (.int .i64 x')).setCell ⟨wg11.heap.size, 1, none⟩ (.int .i64 y')).setCell ⟨wg11.heap.size, 2, none⟩ (.int .i64 z')).setCell ⟨wg11.heap.size, 3, none⟩ (.int .i64 u')) = ws14 at *
      refine hK.out _ _ ?hS159 (fun hHeld => ?re159)
      case hS159 => exact tw.out.S
      clear hK K
      try simp only [Act.put, setIfInBounds_toArray, set_cons_zero, set_cons_succ]
      refine wpAnyH_take (i := 15) (oi := ?oi160) (v := ?v160) (fuel := 0) ?hi160 ?hs160 ?hf160 ?hr160 ?hq160 (Or.inl ⟨?hw160, ?hy160⟩) hHeld ?rest160
      case hi160 => rw [List.getElem?_toArray]; rfl
      case hq160 => exact fun _ _ _ h => h
      case hs160 | hf160 | hr160 => kernel_rfl
      case hw160 => rfl
      case hy160 => (intro w1 hSw; (try dsimp only at hSw); go_simp; try with_reducible rfl)
      try simp only [Act.put, setIfInBounds_toArray, set_cons_zero, set_cons_succ]
      refine wpAnyH_done (by kernel_rfl) ?_ _
      clear hHeld
      go_wp2_with fail
      go_meet
      case rel => exact ⟨_, _, rfl, rfl, rfl, hG.out, hH.out, tw.out⟩
     exact AllReadyH.nil
    refine AllReadyH.cons (o := ?oi161) ?hi161 (fun K hK => ?st161) ?mo161
    case hi161 => rw [List.getElem?_toArray]; rfl
    case st161 =>
     go_simp
     have kH := hid tw.out.l
     have hH := hid (RBox.new wc4 0 0 0 0)
     replace tw := hid (tw.out.alloc (cellsR4 0 0 0 0))
     generalize wc4.alloc (cellsR4 0 0 0 0) = wg12 at *
     refine hK.out _ _ ?hS161 (fun hHeld => ?re161)
     case hS161 => exact tw.out.S
     clear hK K
     try simp only [Act.put, setIfInBounds_toArray, set_cons_zero, set_cons_succ]
     refine wpAnyH_ready (fuel := 8) (rs := [6, 11]) (by kernel_rfl) (by simp) ?_
     refine AllReadyH.cons (o := ?oi162) ?hi162 (fun K hK => ?st162) ?mo162
     case hi162 => rw [List.getElem?_toArray]; rfl
     case st162 =>
      go_simp
      refine (hs.out _).mono ?_
      rintro ee wc6 ⟨rfl, hbn⟩
      replace tw := hid (tw.out.below hbn)
      replace hH := hid (hH.out.below hbn)
      clear hbn
      go_wp2_with fail
      refine hK.out _ _ ?hS162 (fun hHeld => ?re162)
      case hS162 => exact tw.out.S
      clear hK K
      try simp only [Act.put, setIfInBounds_toArray, set_cons_zero, set_cons_succ]
      refine wpAnyH_take (i := 7) (oi := ?oi163) (v := ?v163) (fuel := 7) ?hi163 ?hs163 ?hf163 ?hr163 ?hq163 (Or.inl ⟨?hw163, ?hy163⟩) hHeld ?rest163
      case hi163 => rw [List.getElem?_toArray]; rfl
      case hq163 => exact fun _ _ _ h => h
      case hs163 | hf163 | hr163 => kernel_rfl
      case hw163 => rfl
      case hy163 => (intro w1 hSw; (try dsimp only at hSw); go_simp; try with_reducible rfl)
      try simp only [Act.put, setIfInBounds_toArray, set_cons_zero, set_cons_succ]
      refine wpAnyH_take (i := 8) (oi := ?oi164) (v := ?v164) (fuel := 6) ?hi164 ?hs164 ?hf164 ?hr164 ?hq164 (Or.inl ⟨?hw164, ?hy164⟩) hHeld ?rest164
      case hi164 => rw [List.getElem?_toArray]; rfl
      case hq164 => exact fun _ _ _ h => h
      case hs164 | hf164 | hr164 => kernel_rfl
      case hw164 => rfl
      case hy164 => (intro w1 hSw; (try dsimp only at hSw); go_simp; try with_reducible rfl)
      try simp only [Act.put, setIfInBounds_toArray, set_cons_zero, set_cons_succ]
      refine wpAnyH_take (i := 9) (oi := ?oi165) (v := ?v165) (fuel := 5) ?hi165 ?hs165 ?hf165 ?hr165 ?hq165 (Or.inl ⟨?hw165, ?hy165⟩) hHeld ?rest165
      case hi165 => rw [List.getElem?_toArray]; rfl
      case hq165 => exact fun _ _ _ h => h
      case hs165 | hf165 | hr165 => kernel_rfl
      case hw165 => rfl
      case hy165 => (intro w1 hSw; (try dsimp only at hSw); go_simp; try with_reducible rfl)
      try simp only [Act.put, setIfInBounds_toArray, set_cons_zero, set_cons_succ]
      refine wpAnyH_take (i := 10) (oi := ?oi166) (v := ?v166) (fuel := 4) ?hi166 ?hs166 ?hf166 ?hr166 ?hq166 (Or.inl ⟨?hw166, ?hy166⟩) hHeld ?rest166
      case hi166 => rw [List.getElem?_toArray]; rfl
      case hq166 => exact fun _ _ _ h => h
      case hs166 | hf166 | hr166 => kernel_rfl
      case hw166 => rfl
      case hy166 => (intro w1 hSw; (try dsimp only at hSw); go_simp; try with_reducible rfl)
      try simp only [Act.put, setIfInBounds_toArray, set_cons_zero, set_cons_succ]
      refine wpAnyH_ready (fuel := 3) (rs := [11]) (by kernel_rfl) (by simp) ?_
      refine AllReadyH.cons (o := ?oi167) ?hi167 (fun K hK => ?st167) AllReadyH.nil
      case hi167 => rw [List.getElem?_toArray]; rfl
      go_simp
      have kG := hid tw.out.l
      have nHG := hid hH.out.lt
      replace hH := hid (hH.out.alloc (cellsR4 0 0 0 0))
      have hG := hid (RBox.new wc6 0 0 0 0)
      replace tw := hid (tw.out.alloc (cellsR4 0 0 0 0))
      generalize wc6.alloc (cellsR4 0 0 0 0) = wg11 at *
      refine hK.out _ _ ?hS167 (fun hHeld => ?re167)
      case hS167 => exact tw.out.S
      clear hK K
      try simp only [Act.put, setIfInBounds_toArray, set_cons_zero, set_cons_succ]
      refine wpAnyH_ready (fuel := 2) (rs := [13]) (by kernel_rfl) (by simp) ?_
      refine AllReadyH.cons (o := ?oi168) ?hi168 (fun K hK => ?st168) AllReadyH.nil
      case hi168 => rw [List.getElem?_toArray]; rfl
      obtain ⟨g0, g1, g2, g3⟩ := RBox.box hG.out
      have fq := RBox.frozen hG.out
      go_simp
      clear g0 g1 g2 g3 fq
      replace hH := hid (hH.out.st4o (k := wc6.heap.size) (by have := nHG.out; omega) x y z u)
      replace hG := hid (hG.out.st4 (x' := x) (y' := y) (z' := z) (u' := u))
      replace tw := hid (tw.out.st4 kG.out x y z u)
      unfold st4 at hG tw hH
      generalize ((((wg11.setCell ⟨wc6.heap.size, 0, none⟩ (.int .i64 x)).setCell ⟨wc6.heap.size, 1, none⟩ (.int .i64 y)).setCell ⟨wc6.heap.size, 2, none⟩ (.int .i64 z)).setCell ⟨wc6.heap.size, 3, none⟩ (.int .i64 u)) = ws13 at *
      refine hK.out _ _ ?hS168 (fun hHeld => ?re168)
      case hS168 => exact tw.out.S
      clear hK K
      try simp only [Act.put, setIfInBounds_toArray, set_cons_zero, set_cons_succ]
      refine wpAnyH_ready (fuel := 1) (rs := [14]) (by kernel_rfl) (by simp) ?_
      refine AllReadyH.cons (o := ?oi169) ?hi169 (fun K hK => ?st169) AllReadyH.nil
      case hi169 => rw [List.getElem?_toArray]; rfl
      obtain ⟨g0, g1, g2, g3⟩ := RBox.box hH.out
      have fq := RBox.frozen hH.out
      go_simp
      clear g0 g1 g2 g3 fq
      replace hG := hid (hG.out.st4o (k := wc4.heap.size) (by have := nHG.out; omega) x' y' z' u')
      replace hH := hid (hH.out.st4 (x' := x') (y' := y') (z' := z') (u' := u'))
      replace tw := hid (tw.out.st4 kH.out x' y' z' u')
      unfold st4 at hH tw hG
      generalize ((((ws13.setCell ⟨wc4.heap.size, 0, none⟩ (.int .i64 x')).setCell ⟨wc4.heap.size, 1, none⟩ (.int .i64 y')).setCell ⟨wc4.heap.size, 2, none⟩ (.int .i64 z')).setCell ⟨wc4.heap.size, 3, none⟩ (.int .i64 u')) = ws14 at *
      refine hK.out _ _ ?hS169 (fun hHeld => ?re169)
      case hS169 => exact tw.out.S
      clear hK K
      try simp only [Act.put, setIfInBounds_toArray, set_cons_zero, set_cons_succ]
      refine wpAnyH_take (i := 15) (oi := ?oi170) (v := ?v170) (fuel := 0) ?hi170 ?hs170 ?hf170 ?hr170 ?hq170 (Or.inl ⟨?hw170, ?hy170⟩) hHeld ?rest170
      case hi170 => rw [List.getElem?_toArray]; rfl
      case hq170 => exact fun _ _ _ h => h
      case hs170 | hf170 | hr170 => kernel_rfl
      case hw170 => rfl
      case hy170 => (intro w1 hSw; (try dsimp only at hSw); go_simp; try with_reducible rfl)
      try simp only [Act.put, setIfInBounds_toArray, set_cons_zero, set_cons_succ]
      refine wpAnyH_done (by kernel_rfl) ?_ _
      clear hHeld
      go_wp2_with fail
      go_meet
      case rel => exact ⟨_, _, rfl, rfl, rfl, hG.out, hH.out, tw.out⟩
     refine AllReadyH.cons (o := ?oi171) ?hi171 (fun K hK => ?st171) ?mo171
     case hi171 => rw [List.getElem?_toArray]; rfl
     case st171 =>
      go_simp
      have kG := hid tw.out.l
      have nHG := hid hH.out.lt
      replace hH := hid (hH.out.alloc (cellsR4 0 0 0 0))
      have hG := hid (RBox.new wg12 0 0 0 0)
      replace tw := hid (tw.out.alloc (cellsR4 0 0 0 0))
      generalize wg12.alloc (cellsR4 0 0 0 0) = wg11 at *
      refine hK.out _ _ ?hS171 (fun hHeld => ?re171)
      case hS171 => exact tw.out.S
      clear hK K
      try simp only [Act.put, setIfInBounds_toArray, set_cons_zero, set_cons_succ]
      refine wpAnyH_ready (fuel := 7) (rs := [6]) (by kernel_rfl) (by simp) ?_
      refine AllReadyH.cons (o := ?oi172) ?hi172 (fun K hK => ?st172) AllReadyH.nil
      case hi172 => rw [List.getElem?_toArray]; rfl
      go_simp
      refine (hs.out _).mono ?_
      rintro ee wc6 ⟨rfl, hbn⟩
      replace tw := hid (tw.out.below hbn)
      replace hH := hid (hH.out.below hbn)
      replace hG := hid (hG.out.below hbn)
      clear hbn
      go_wp2_with fail
      refine hK.out _ _ ?hS172 (fun hHeld => ?re172)
      case hS172 => exact tw.out.S
      clear hK K
      try simp only [Act.put, setIfInBounds_toArray, set_cons_zero, set_cons_succ]
      refine wpAnyH_take (i := 7) (oi := ?oi173) (v := ?v173) (fuel := 6) ?hi173 ?hs173 ?hf173 ?hr173 ?hq173 (Or.inl ⟨?hw173, ?hy173⟩) hHeld ?rest173
      case hi173 => rw [List.getElem?_toArray]; rfl
      case hq173 => exact fun _ _ _ h => h
      case hs173 | hf173 | hr173 => kernel_rfl
      case hw173 => rfl
      case hy173 => (intro w1 hSw; (try dsimp only at hSw); go_simp; try with_reducible rfl)
      try simp only [Act.put, setIfInBounds_toArray, set_cons_zero, set_cons_succ]
      refine wpAnyH_take (i := 8) (oi := ?oi174) (v := ?v174) (fuel := 5) ?hi174 ?hs174 ?hf174 ?hr174 ?hq174 (Or.inl ⟨?hw174, ?hy174⟩) hHeld ?rest174
      case hi174 => rw [List.getElem?_toArray]; rfl
      case hq174 => exact fun _ _ _ h => h
      case hs174 | hf174 | hr174 => kernel_rfl
      case hw174 => rfl
      case hy174 => (intro w1 hSw; (try dsimp only at hSw); go_simp; try with_reducible rfl)
      try simp only [Act.put, setIfInBounds_toArray, set_cons_zero, set_cons_succ]
      refine wpAnyH_take (i := 9) (oi := ?oi175) (v := ?v175) (fuel := 4) ?hi175 ?hs175 ?hf175 ?hr175 ?hq175 (Or.inl ⟨?hw175, ?hy175⟩) hHeld ?rest175
      case hi175 => rw [List.getElem?_toArray]; rfl
      case hq175 => exact fun _ _ _ h => h
      case hs175 | hf175 | hr175 => kernel_rfl
      case hw175 => rfl
      case hy175 => (intro w1 hSw; (try dsimp only at hSw); go_simp; try with_reducible rfl)
      try simp only [Act.put, setIfInBounds_toArray, set_cons_zero, set_cons_succ]
      refine wpAnyH_take (i := 10) (oi := ?oi176) (v := ?v176) (fuel := 3) ?hi176 ?hs176 ?hf176 ?hr176 ?hq176 (Or.inl ⟨?hw176, ?hy176⟩) hHeld ?rest176
      case hi176 => rw [List.getElem?_toArray]; rfl
      case hq176 => exact fun _ _ _ h => h
      case hs176 | hf176 | hr176 => kernel_rfl
      case hw176 => rfl
      case hy176 => (intro w1 hSw; (try dsimp only at hSw); go_simp; try with_reducible rfl)
      try simp only [Act.put, setIfInBounds_toArray, set_cons_zero, set_cons_succ]
      refine wpAnyH_ready (fuel := 2) (rs := [13]) (by kernel_rfl) (by simp) ?_
      refine AllReadyH.cons (o := ?oi177) ?hi177 (fun K hK => ?st177) AllReadyH.nil
      case hi177 => rw [List.getElem?_toArray]; rfl
      obtain ⟨g0, g1, g2, g3⟩ := RBox.box hG.out
      have fq := RBox.frozen hG.out
      go_simp
      clear g0 g1 g2 g3 fq
      replace hH := hid (hH.out.st4o (k := wg12.heap.size) (by have := nHG.out; omega) x y z u)
      replace hG := hid (hG.out.st4 (x' := x) (y' := y) (z' := z) (u' := u))
      replace tw := hid (tw.out.st4 kG.out x y z u)
      unfold st4 at hG tw hH
      generalize ((((wc6.setCell ⟨wg12.heap.size, 0, none⟩ (.int .i64 x)).setCell ⟨wg12.heap.size, 1, none⟩ (.int .i64 y)).setCell ⟨wg12.heap.size, 2, none⟩ (.int .i64 z)).setCell ⟨wg12.heap.size, 3, none⟩ (.int .i64 u)) = ws13 at *
      refine hK.out _ _ ?hS177 (fun hHeld => ?re177)
      case hS177 => exact tw.out.S
      clear hK K
      try simp only [Act.put, setIfInBounds_toArray, set_cons_zero, set_cons_succ]
      refine wpAnyH_ready (fuel := 1) (rs := [14]) (by kernel_rfl) (by simp) ?_
      refine AllReadyH.cons (o := ?oi178) ?hi178 (fun K hK => ?st178) AllReadyH.nil
      case hi178 => rw [List.getElem?_toArray]; rfl
      obtain ⟨g0, g1, g2, g3⟩ := RBox.box hH.out
      have fq := RBox.frozen hH.out
      go_simp
      clear g0 g1 g2 g3 fq
      replace hG := hid (hG.out.st4o (k := wc4.heap.size) (by have := nHG.out; omega) x' y' z' u')
      replace hH := hid (hH.out.st4 (x' := x') (y' := y') (z' := z') (u' := u'))
      replace tw := hid (tw.out.st4 kH.out x' y' z' u')
      unfold st4 at hH tw hG
      generalize ((((ws13.setCell ⟨wc4.heap.size, 0, none⟩ (.int .i64 x')).setCell ⟨wc4.heap.size, 1, none⟩ (.int .i64 y')).setCell ⟨wc4.heap.size, 2, none⟩ (.int .i64 z')).setCell ⟨wc4.heap.size, 3, none⟩ (.int .i64 u')) = ws14 at *
      refine hK.out _ _ ?hS178 (fun hHeld => ?re178)
      case hS178 => exact tw.out.S
      clear hK K
      try simp only [Act.put, setIfInBounds_toArray, set_cons_zero, set_cons_succ]
      refine wpAnyH_take (i := 15) (oi := ?oi179) (v := ?v179) (fuel := 0) ?hi179 ?hs179 ?hf179 ?hr179 ?hq179 (Or.inl ⟨?hw179, ?hy179⟩) hHeld ?rest179
      case hi179 => rw [List.getElem?_toArray]; rfl
      case hq179 => exact fun _ _ _ h => h
      case hs179 | hf179 | hr179 => kernel_rfl
      case hw179 => rfl
      case hy179 => (intro w1 hSw; (try dsimp only at hSw); go_simp; try with_reducible rfl)
      try simp only [Act.put, setIfInBounds_toArray, set_cons_zero, set_cons_succ]
      refine wpAnyH_done (by kernel_rfl) ?_ _
      clear hHeld
      go_wp2_with fail
      go_meet
      case rel => exact ⟨_, _, rfl, rfl, rfl, hG.out, hH.out, tw.out⟩
     exact AllReadyH.nil
    exact AllReadyH.nil
   refine AllReadyH.cons (o := ?oi180) ?hi180 (fun K hK => ?st180) ?mo180
   case hi180 => rw [List.getElem?_toArray]; rfl
   case st180 =>
    go_simp
    have kG := hid tw.out.l
    have hG := hid (RBox.new wc2 0 0 0 0)
    replace tw := hid (tw.out.alloc (cellsR4 0 0 0 0))
    generalize wc2.alloc (cellsR4 0 0 0 0) = wg11 at *
    refine hK.out _ _ ?hS180 (fun hHeld => ?re180)
    case hS180 => exact tw.out.S
    clear hK K
    try simp only [Act.put, setIfInBounds_toArray, set_cons_zero, set_cons_succ]
    refine wpAnyH_ready (fuel := 9) (rs := [4, 12]) (by kernel_rfl) (by simp) ?_
    refine AllReadyH.cons (o := ?oi181) ?hi181 (fun K hK => ?st181) ?mo181
    case hi181 => rw [List.getElem?_toArray]; rfl
    case st181 =>
     go_simp
     refine (c_toRange _ _ _ _ _).mono ?_
     rintro ee wc4 ⟨rfl, hbn⟩
     replace tw := hid (tw.out.below hbn)
     replace hG := hid (hG.out.below hbn)
     clear hbn
     go_wp2_with fail
     refine hK.out _ _ ?hS181 (fun hHeld => ?re181)
     case hS181 => exact tw.out.S
     clear hK K
     try simp only [Act.put, setIfInBounds_toArray, set_cons_zero, set_cons_succ]
     refine wpAnyH_ready (fuel := 8) (rs := [6, 12]) (by kernel_rfl) (by simp) ?_
     refine AllReadyH.cons (o := ?oi182) ?hi182 (fun K hK => ?st182) ?mo182
     case hi182 => rw [List.getElem?_toArray]; rfl
     case st182 =>
      go_simp
      refine (hs.out _).mono ?_
      rintro ee wc6 ⟨rfl, hbn⟩
      replace tw := hid (tw.out.below hbn)
      replace hG := hid (hG.out.below hbn)
      clear hbn
      go_wp2_with fail
      refine hK.out _ _ ?hS182 (fun hHeld => ?re182)
      case hS182 => exact tw.out.S
      clear hK K
      try simp only [Act.put, setIfInBounds_toArray, set_cons_zero, set_cons_succ]
      refine wpAnyH_take (i := 7) (oi := ?oi183) (v := ?v183) (fuel := 7) ?hi183 ?hs183 ?hf183 ?hr183 ?hq183 (Or.inl ⟨?hw183, ?hy183⟩) hHeld ?rest183
      case hi183 => rw [List.getElem?_toArray]; rfl
      case hq183 => exact fun _ _ _ h => h
      case hs183 | hf183 | hr183 => kernel_rfl
      case hw183 => rfl
      case hy183 => (intro w1 hSw; (try dsimp only at hSw); go_simp; try with_reducible rfl)
      try simp only [Act.put, setIfInBounds_toArray, set_cons_zero, set_cons_succ]
      refine wpAnyH_take (i := 8) (oi := ?oi184) (v := ?v184) (fuel := 6) ?hi184 ?hs184 ?hf184 ?hr184 ?hq184 (Or.inl ⟨?hw184, ?hy184⟩) hHeld ?rest184
      case hi184 => rw [List.getElem?_toArray]; rfl
      case hq184 => exact fun _ _ _ h => h
      case hs184 | hf184 | hr184 => kernel_rfl
      case hw184 => rfl
      case hy184 => (intro w1 hSw; (try dsimp only at hSw); go_simp; try with_reducible rfl)
      try simp only [Act.put, setIfInBounds_toArray, set_cons_zero, set_cons_succ]
      refine wpAnyH_take (i := 9) (oi := ?oi185) (v := ?v185) (fuel := 5) ?hi185 ?hs185 ?hf185 ?hr185 ?hq185 (Or.inl ⟨?hw185, ?hy185⟩) hHeld ?rest185
      case hi185 => rw [List.getElem?_toArray]; rfl
      case hq185 => exact fun _ _ _ h => h
      case hs185 | hf185 | hr185 => kernel_rfl
      case hw185 => rfl
      case hy185 => (intro w1 hSw; (try dsimp only at hSw); go_simp; try with_reducible rfl)
      try simp only [Act.put, setIfInBounds_toArray, set_cons_zero, set_cons_succ]
      refine wpAnyH_take (i := 10) (oi := ?oi186) (v := ?v186) (fuel := 4) ?hi186 ?hs186 ?hf186 ?hr186 ?hq186 (Or.inl ⟨?hw186, ?hy186⟩) hHeld ?rest186
      case hi186 => rw [List.getElem?_toArray]; rfl
      case hq186 => exact fun _ _ _ h => h
      case hs186 | hf186 | hr186 => kernel_rfl
      case hw186 => rfl
      case hy186 => (intro w1 hSw; (try dsimp only at hSw); go_simp; try with_reducible rfl)
      try simp only [Act.put, setIfInBounds_toArray, set_cons_zero, set_cons_succ]
      refine wpAnyH_ready (fuel := 3) (rs := [12]) (by kernel_rfl) (by simp) ?_
      refine AllReadyH.cons (o := ?oi187) ?hi187 (fun K hK => ?st187) AllReadyH.nil
      case hi187 => rw [List.getElem?_toArray]; rfl
      go_simp
      have kH := hid tw.out.l
      have nGH := hid hG.out.lt
      replace hG := hid (hG.out.alloc (cellsR4 0 0 0 0))
      have hH := hid (RBox.new wc6 0 0 0 0)
      replace tw := hid (tw.out.alloc (cellsR4 0 0 0 0))
      generalize wc6.alloc (cellsR4 0 0 0 0) = wg12 at *
      refine hK.out _ _ ?hS187 (fun hHeld => ?re187)
      case hS187 => exact tw.out.S
      clear hK K
      try simp only [Act.put, setIfInBounds_toArray, set_cons_zero, set_cons_succ]
      refine wpAnyH_ready (fuel := 2) (rs := [13]) (by kernel_rfl) (by simp) ?_
      refine AllReadyH.cons (o := ?oi188) ?hi188 (fun K hK => ?st188) AllReadyH.nil
      case hi188 => rw [List.getElem?_toArray]; rfl
      obtain ⟨g0, g1, g2, g3⟩ := RBox.box hG.out
      have fq := RBox.frozen hG.out
      go_simp
      clear g0 g1 g2 g3 fq
      replace hH := hid (hH.out.st4o (k := wc2.heap.size) (by have := nGH.out; omega) x y z u)
      replace hG := hid (hG.out.st4 (x' := x) (y' := y) (z' := z) (u' := u))
      replace tw := hid (tw.out.st4 kG.out x y z u)
      unfold st4 at hG tw hH
      generalize ((((wg12.setCell ⟨wc2.heap.size, 0, none⟩ (.int .i64 x)).setCell ⟨wc2.heap.size, 1, none⟩ (.int .i64 y)).setCell ⟨wc2.heap.size, 2, none⟩ (.int .i64 z)).setCell ⟨wc2.heap.size, 3, none⟩ (.int .i64 u)) = ws13 at *
      refine hK.out _ _ ?hS188 (fun hHeld => ?re188)
      case hS188 => exact tw.out.S
      clear hK K
      try simp only [Act.put, setIfInBounds_toArray, set_cons_zero, set_cons_succ]
      refine wpAnyH_ready (fuel := 1) (rs := [14]) (by kernel_rfl) (by simp) ?_
      refine AllReadyH.cons (o := ?oi189) ?hi189 (fun K hK => ?st189) AllReadyH.nil
      case hi189 => rw [List.getElem?_toArray]; rfl
      obtain ⟨g0, g1, g2, g3⟩ := RBox.box hH.out
      have fq := RBox.frozen hH.out
      go_simp
      clear g0 g1 g2 g3 fq
      replace hG := hid (hG.out.st4o (k := wc6.heap.size) (by have := nGH.out; omega) x' y' z' u')
      replace hH := hid (hH.out.st4 (x' := x') (y' := y') (z' := z') (u' := u'))
      replace tw := hid (tw.out.st4 kH.out x' y' z' u')
      unfold st4 at hH tw hG
      generalize ((((ws13.setCell ⟨wc6.heap.size, 0, none⟩ (.int .i64 x')).setCell ⟨wc6.heap.size, 1, none⟩ (.int .i64 y')).setCell ⟨wc6.heap.size, 2, none⟩ (.int .i64 z')).setCell ⟨wc6.heap.size, 3, none⟩ (.int .i64 u')) = ws14 at *
      refine hK.out _ _ ?hS189 (fun hHeld => ?re189)
      case hS189 => exact tw.out.S
      clear hK K
      try simp only [Act.put, setIfInBounds_toArray, set_cons_zero, set_cons_succ]
      refine wpAnyH_take (i := 15) (oi := ?oi190) (v := ?v190) (fuel := 0) ?hi190 ?hs190 ?hf190 ?hr190 ?hq190 (Or.inl ⟨?hw190, ?hy190⟩) hHeld ?rest190
      case hi190 => rw [List.getElem?_toArray]; rfl
      case hq190 => exact fun _ _ _ h => h
      case hs190 | hf190 | hr190 => kernel_rfl
      case hw190 => rfl
      case hy190 => (intro w1 hSw; (try dsimp only at hSw); go_simp; try with_reducible rfl)
      try simp only [Act.put, setIfInBounds_toArray, set_cons_zero, set_cons_succ]
      refine wpAnyH_done (by kernel_rfl) ?_ _
      clear hHeld
      go_wp2_with fail
      go_meet
      case rel => exact ⟨_, _, rfl, rfl, rfl, hG.out, hH.out, tw.out⟩
     refine AllReadyH.cons (o := ?oi191) ?hi191 (fun K hK => ?st191) ?mo191
     case hi191 => rw [List.getElem?_toArray]; rfl
     case st191 =>
      go_simp
      have kH := hid tw.out.l
      have nGH := hid hG.out.lt
      replace hG := hid (hG.out.alloc (cellsR4 0 0 0 0))
      have hH := hid (RBox.new wc4 0 0 0 0)
      replace tw := hid (tw.out.alloc (cellsR4 0 0 0 0))
      generalize wc4.alloc (cellsR4 0 0 0 0) = wg12 at *
      refine hK.out _ _ ?hS191 (fun hHeld => ?re191)
      case hS191 => exact tw.out.S
      clear hK K
      try simp only [Act.put, setIfInBounds_toArray, set_cons_zero, set_cons_succ]
      refine wpAnyH_ready (fuel := 7) (rs := [6]) (by kernel_rfl) (by simp) ?_
      refine AllReadyH.cons (o := ?oi192) ?hi192 (fun K hK => ?st192) AllReadyH.nil
      case hi192 => rw [List.getElem?_toArray]; rfl
      go_simp
      refine (hs.out _).mono ?_
      rintro ee wc6 ⟨rfl, hbn⟩
      replace tw := hid (tw.out.below hbn)
      replace hG := hid (hG.out.below hbn)
      replace hH := hid (hH.out.below hbn)
      clear hbn
      go_wp2_with fail
      refine hK.out _ _ ?hS192 (fun hHeld => ?re192)
      case hS192 => exact tw.out.S
      clear hK K
      try simp only [Act.put, setIfInBounds_toArray, set_cons_zero, set_cons_succ]
      refine wpAnyH_take (i := 7) (oi := ?oi193) (v := ?v193) (fuel := 6) ?hi193 ?hs193 ?hf193 ?hr193 ?hq193 (Or.inl ⟨?hw193, ?hy193⟩) hHeld ?rest193
      case hi193 => rw [List.getElem?_toArray]; rfl
      case hq193 => exact fun _ _ _ h => h
      case hs193 | hf193 | hr193 => kernel_rfl
      case hw193 => rfl
      case hy193 => (intro w1 hSw; (try dsimp only at hSw); go_simp; try with_reducible rfl)
      try simp only [Act.put, setIfInBounds_toArray, set_cons_zero, set_cons_succ]
      refine wpAnyH_take (i := 8) (oi := ?oi194) (v := ?v194) (fuel := 5) ?hi194 ?hs194 ?hf194 ?hr194 ?hq194 (Or.inl ⟨?hw194, ?hy194⟩) hHeld ?rest194
      case hi194 => rw [List.getElem?_toArray]; rfl
      case hq194 => exact fun _ _ _ h => h
      case hs194 | hf194 | hr194 => kernel_rfl
      case hw194 => rfl
      case hy194 => (intro w1 hSw; (try dsimp only at hSw); go_simp; try with_reducible rfl)
      try simp only [Act.put, setIfInBounds_toArray, set_cons_zero, set_cons_succ]
      refine wpAnyH_take (i := 9) (oi := ?oi195) (v := ?v195) (fuel := 4) ?hi195 ?hs195 ?hf195 ?hr195 ?hq195 (Or.inl ⟨?hw195, ?hy195⟩) hHeld ?rest195
      case hi195 => rw [List.getElem?_toArray]; rfl
      case hq195 => exact fun _ _ _ h => h
      case hs195 | hf195 | hr195 => kernel_rfl
      case hw195 => rfl
      case hy195 => (intro w1 hSw; (try dsimp only at hSw); go_simp; try with_reducible rfl)
      try simp only [Act.put, setIfInBounds_toArray, set_cons_zero, set_cons_succ]
      refine wpAnyH_take (i := 10) (oi := ?oi196) (v := ?v196) (fuel := 3) ?hi196 ?hs196 ?hf196 ?hr196 ?hq196 (Or.inl ⟨?hw196, ?hy196⟩) hHeld ?rest196
      case hi196 => rw [List.getElem?_toArray]; rfl
      case hq196 => exact fun _ _ _ h => h
      case hs196 | hf196 | hr196 => kernel_rfl
      case hw196 => rfl
      case hy196 => (intro w1 hSw; (try dsimp only at hSw); go_simp; try with_reducible rfl)
      try simp only [Act.put, setIfInBounds_toArray, set_cons_zero, set_cons_succ]
      refine wpAnyH_ready (fuel := 2) (rs := [13]) (by kernel_rfl) (by simp) ?_
      refine AllReadyH.cons (o := ?oi197) ?hi197 (fun K hK => ?st197) AllReadyH.nil
      case hi197 => rw [List.getElem?_toArray]; rfl
      obtain ⟨g0, g1, g2, g3⟩ := RBox.box hG.out
      have fq := RBox.frozen hG.out
      go_simp
      clear g0 g1 g2 g3 fq
      replace hH := hid (hH.out.st4o (k := wc2.heap.size) (by have := nGH.out; omega) x y z u)
      replace hG := hid (hG.out.st4 (x' := x) (y' := y) (z' := z) (u' := u))
      replace tw := hid (tw.out.st4 kG.out x y z u)
      unfold st4 at hG tw hH
      generalize ((((wc6.setCell ⟨wc2.heap.size, 0, none⟩ (.int .i64 x)).setCell ⟨wc2.heap.size, 1, none⟩ (.int .i64 y)).setCell ⟨wc2.heap.size, 2, none⟩ (.int .i64 z)).setCell ⟨wc2.heap.size, 3, none⟩ (.int .i64 u)) = ws13 at *
      refine hK.out _ _ ?hS197 (fun hHeld => ?re197)
      case hS197 => exact tw.out.S
      clear hK K
      try simp only [Act.put, setIfInBounds_toArray, set_cons_zero, set_cons_succ]
      refine wpAnyH_ready (fuel := 1) (rs := [14]) (by kernel_rfl) (by simp) ?_
      refine AllReadyH.cons (o := ?oi198) ?hi198 (fun K hK => ?st198) AllReadyH.nil
      case hi198 => rw [List.getElem?_toArray]; rfl
      obtain ⟨g0, g1, g2, g3⟩ := RBox.box hH.out
      have fq := RBox.frozen hH.out
      go_simp
      clear g0 g1 g2 g3 fq
      replace hG := hid (hG.out.st4o (k := wc4.heap.size) (by have := nGH.out; omega) x' y' z' u')
      replace hH := hid (hH.out.st4 (x' := x') (y' := y') (z' := z') (u' := u'))
      replace tw := hid (tw.out.st4 kH.out x' y' z' u')
      unfold st4 at hH tw hG
      generalize ((((ws13.setCell ⟨wc4.heap.size, 0, none⟩ (.int .i64 x')).setCell ⟨wc4.heap.size, 1, none⟩ (.int .i64 y')).setCell ⟨wc4.heap.size, 2, none⟩ (.int .i64 z')).setCell ⟨wc4.heap.size, 3, none⟩ (.int .i64 u')) = ws14 at *
      refine hK.out _ _ ?hS198 (fun hHeld => ?re198)
      case hS198 => exact tw.out.S
      clear hK K
      try simp only [Act.put, setIfInBounds_toArray, set_cons_zero, set_cons_succ]
      refine wpAnyH_take (i := 15) (oi := ?oi199) (v := ?v199) (fuel := 0) ?hi199 ?hs199 ?hf199 ?hr199 ?hq199 (Or.inl ⟨?hw199, ?hy199⟩) hHeld ?rest199
      case hi199 => rw [List.getElem?_toArray]; rfl
      case hq199 => exact fun _ _ _ h => h
      case hs199 | hf199 | hr199 => kernel_rfl
      case hw199 => rfl
      case hy199 => (intro w1 hSw; (try dsimp only at hSw); go_simp; try with_reducible rfl)
      try simp only [Act.put, setIfInBounds_toArray, set_cons_zero, set_cons_succ]
      refine wpAnyH_done (by kernel_rfl) ?_ _
      clear hHeld
      go_wp2_with fail
      go_meet
      case rel => exact ⟨_, _, rfl, rfl, rfl, hG.out, hH.out, tw.out⟩
     exact AllReadyH.nil
    refine AllReadyH.cons (o := ?oi200) ?hi200 (fun K hK => ?st200) ?mo200
    case hi200 => rw [List.getElem?_toArray]; rfl
    case st200 =>
     go_simp
     have kH := hid tw.out.l
     have nGH := hid hG.out.lt
     replace hG := hid (hG.out.alloc (cellsR4 0 0 0 0))
     have hH := hid (RBox.new wg11 0 0 0 0)
     replace tw := hid (tw.out.alloc (cellsR4 0 0 0 0))
     generalize wg11.alloc (cellsR4 0 0 0 0) = wg12 at *
     refine hK.out _ _ ?hS200 (fun hHeld => ?re200)
     case hS200 => exact tw.out.S
     clear hK K
     try simp only [Act.put, setIfInBounds_toArray, set_cons_zero, set_cons_succ]
     refine wpAnyH_ready (fuel := 8) (rs := [4]) (by kernel_rfl) (by simp) ?_
     refine AllReadyH.cons (o := ?oi201) ?hi201 (fun K hK => ?st201) AllReadyH.nil
     case hi201 => rw [List.getElem?_toArray]; rfl
     go_simp
     refine (c_toRange _ _ _ _ _).mono ?_
     rintro ee wc4 ⟨rfl, hbn⟩
     replace tw := hid (tw.out.below hbn)
     replace hG := hid (hG.out.below hbn)
     replace hH := hid (hH.out.below hbn)
     clear hbn
     go_wp2_with fail
     refine hK.out _ _ ?hS201 (fun hHeld => ?re201)
     case hS201 => exact tw.out.S
     clear hK K
     try simp only [Act.put, setIfInBounds_toArray, set_cons_zero, set_cons_succ]
     refine wpAnyH_ready (fuel := 7) (rs := [6]) (by kernel_rfl) (by simp) ?_
     refine AllReadyH.cons (o := ?oi202) ?hi202 (fun K hK => ?st202) AllReadyH.nil
     case hi202 => rw [List.getElem?_toArray]; rfl
     go_simp
     refine (hs.out _).mono ?_
     rintro ee wc6 ⟨rfl, hbn⟩
     replace tw := hid (tw.out.below hbn)
     replace hG := hid (hG.out.below hbn)
     replace hH := hid (hH.out.below hbn)
     clear hbn
     go_wp2_with fail
     refine hK.out _ _ ?hS202 (fun hHeld => ?re202)
     case hS202 => exact tw.out.S
     clear hK K
     try simp only [Act.put, setIfInBounds_toArray, set_cons_zero, set_cons_succ]
     refine wpAnyH_take (i := 7) (oi := ?oi203) (v := ?v203) (fuel := 6) ?hi203 ?hs203 ?hf203 ?hr203 ?hq203 (Or.inl ⟨?hw203, ?hy203⟩) hHeld ?rest203
     case hi203 => rw [List.getElem?_toArray]; rfl
     case hq203 => exact fun _ _ _ h => h
     case hs203 | hf203 | hr203 => kernel_rfl
     case hw203 => rfl
     case hy203 => (intro w1 hSw; (try dsimp only at hSw); go_simp; try with_reducible rfl)
     try simp only [Act.put, setIfInBounds_toArray, set_cons_zero, set_cons_succ]
     refine wpAnyH_take (i := 8) (oi := ?oi204) (v := ?v204) (fuel := 5) ?hi204 ?hs204 ?hf204 ?hr204 ?hq204 (Or.inl ⟨?hw204, ?hy204⟩) hHeld ?rest204
     case hi204 => rw [List.getElem?_toArray]; rfl
     case hq204 => exact fun _ _ _ h => h
     case hs204 | hf204 | hr204 => kernel_rfl
     case hw204 => rfl
     case hy204 => (intro w1 hSw; (try dsimp only at hSw); go_simp; try with_reducible rfl)
     try simp only [Act.put, setIfInBounds_toArray, set_cons_zero, set_cons_succ]
     refine wpAnyH_take (i := 9) (oi := ?oi205) (v := ?v205) (fuel := 4) ?hi205 ?hs205 ?hf205 ?hr205 ?hq205 (Or.inl ⟨?hw205, ?hy205⟩) hHeld ?rest205
     case hi205 => rw [List.getElem?_toArray]; rfl
     case hq205 => exact fun _ _ _ h => h
     case hs205 | hf205 | hr205 => kernel_rfl
     case hw205 => rfl
     case hy205 => (intro w1 hSw; (try dsimp only at hSw); go_simp; try with_reducible rfl)
     try simp only [Act.put, setIfInBounds_toArray, set_cons_zero, set_cons_succ]
     refine wpAnyH_take (i := 10) (oi := ?oi206) (v := ?v206) (fuel := 3) ?hi206 ?hs206 ?hf206 ?hr206 ?hq206 (Or.inl ⟨?hw206, ?hy206⟩) hHeld ?rest206
     case hi206 => rw [List.getElem?_toArray]; rfl
     case hq206 => exact fun _ _ _ h => h
     case hs206 | hf206 | hr206 => kernel_rfl
     case hw206 => rfl
     case hy206 => (intro w1 hSw; (try dsimp only at hSw); go_simp; try with_reducible rfl)
     try simp only [Act.put, setIfInBounds_toArray, set_cons_zero, set_cons_succ]
     refine wpAnyH_ready (fuel := 2) (rs := [13]) (by kernel_rfl) (by simp) ?_
     refine AllReadyH.cons (o := ?oi207) ?hi207 (fun K hK => ?st207) AllReadyH.nil
     case hi207 => rw [List.getElem?_toArray]; rfl
     obtain ⟨g0, g1, g2, g3⟩ := RBox.box hG.out
     have fq := RBox.frozen hG.out
     go_simp
     clear g0 g1 g2 g3 fq
     replace hH := hid (hH.out.st4o (k := wc2.heap.size) (by have := nGH.out; omega) x y z u)
     replace hG := hid (hG.out.st4 (x' := x) (y' := y) (z' := z) (u' := u))
     replace tw := hid (tw.out.st4 kG.out x y z u)
     unfold st4 at hG tw hH
     generalize ((((wc6.setCell ⟨wc2.heap.size, 0, none⟩ (.int .i64 x)).setCell ⟨wc2.heap.size, 1, none⟩ (.int .i64 y)).setCell ⟨wc2.heap.size, 2, none⟩ (.int .i64 z)).setCell ⟨wc2.heap.size, 3, none⟩ (.int .i64 u)) = ws13 at *
     refine hK.out _ _ ?hS207 (fun hHeld => ?re207)
     case hS207 => exact tw.out.S
     clear hK K
     try simp only [Act.put, setIfInBounds_toArray, set_cons_zero, set_cons_succ]
     refine wpAnyH_ready (fuel := 1) (rs := [14]) (by kernel_rfl) (by simp) ?_
     refine AllReadyH.cons (o := ?oi208) ?hi208 (fun K hK => ?st208) AllReadyH.nil
     case hi208 => rw [List.getElem?_toArray]; rfl
     obtain ⟨g0, g1, g2, g3⟩ := RBox.box hH.out
     have fq := RBox.frozen hH.out
     go_simp
     clear g0 g1 g2 g3 fq
     replace hG := hid (hG.out.st4o (k := wg11.heap.size) (by have := nGH.out; omega) x' y' z' u')
     replace hH := hid (hH.out.st4 (x' := x') (y' := y') (z' := z') (u' := u'))
     replace tw := hid (tw.out.st4 kH.out x' y' z' u')
     unfold st4 at hH tw hG
     generalize ((((ws13.setCell ⟨wg11.heap.size, 0, none⟩ (.int .i64 x')).setCell ⟨wg11.heap.size, 1, none⟩ (.int .i64 y')).setCell ⟨wg11.heap.size, 2, none⟩ (.int .i64 z')).setCell ⟨wg11.heap.size, 3, none⟩ (.int .i64 u')) = ws14 at *
     refine hK.out _ _ ?hS208 (fun hHeld => ?re208)
     case hS208 => exact tw.out.S
     clear hK K
     try simp only [Act.put, setIfInBounds_toArray, set_cons_zero, set_cons_succ]
     refine wpAnyH_take (i := 15) (oi := ?oi209) (v := ?v209) (fuel := 0) ?hi209 ?hs209 ?hf209 ?hr209 ?hq209 (Or.inl ⟨?hw209, ?hy209⟩) hHeld ?rest209
     case hi209 => rw [List.getElem?_toArray]; rfl
     case hq209 => exact fun _ _ _ h => h
     case hs209 | hf209 | hr209 => kernel_rfl
     case hw209 => rfl
     case hy209 => (intro w1 hSw; (try dsimp only at hSw); go_simp; try with_reducible rfl)
     try simp only [Act.put, setIfInBounds_toArray, set_cons_zero, set_cons_succ]
     refine wpAnyH_done (by kernel_rfl) ?_ _
     clear hHeld
     go_wp2_with fail
     go_meet
     case rel => exact ⟨_, _, rfl, rfl, rfl, hG.out, hH.out, tw.out⟩
    exact AllReadyH.nil
   refine AllReadyH.cons (o := ?oi210) ?hi210 (fun K hK => ?st210) ?mo210
   case hi210 => rw [List.getElem?_toArray]; rfl
   case st210 =>
    go_simp
    have kH := hid tw.out.l
    have hH := hid (RBox.new wc2 0 0 0 0)
    replace tw := hid (tw.out.alloc (cellsR4 0 0 0 0))
    generalize wc2.alloc (cellsR4 0 0 0 0) = wg12 at *
    refine hK.out _ _ ?hS210 (fun hHeld => ?re210)
    case hS210 => exact tw.out.S
    clear hK K
    try simp only [Act.put, setIfInBounds_toArray, set_cons_zero, set_cons_succ]
    refine wpAnyH_ready (fuel := 9) (rs := [4, 11]) (by kernel_rfl) (by simp) ?_
    refine AllReadyH.cons (o := ?oi211) ?hi211 (fun K hK => ?st211) ?mo211
    case hi211 => rw [List.getElem?_toArray]; rfl
    case st211 =>
     go_simp
     refine (c_toRange _ _ _ _ _).mono ?_
     rintro ee wc4 ⟨rfl, hbn⟩
     replace tw := hid (tw.out.below hbn)
     replace hH := hid (hH.out.below hbn)
     clear hbn
     go_wp2_with fail
     refine hK.out _ _ ?hS211 (fun hHeld => ?re211)
     case hS211 => exact tw.out.S
     clear hK K
     try simp only [Act.put, setIfInBounds_toArray, set_cons_zero, set_cons_succ]
     refine wpAnyH_ready (fuel := 8) (rs := [6, 11]) (by kernel_rfl) (by simp) ?_
     refine AllReadyH.cons (o := ?oi212) ?hi212 (fun K hK => ?st212) ?mo212
     case hi212 => rw [List.getElem?_toArray]; rfl
     case st212 =>
      go_simp
      refine (hs.out _).mono ?_
      rintro ee wc6 ⟨rfl, hbn⟩
      replace tw := hid (tw.out.below hbn)
      replace hH := hid (hH.out.below hbn)
      clear hbn
      go_wp2_with fail
      refine hK.out _ _ ?hS212 (fun hHeld => ?re212)
      case hS212 => exact tw.out.S
      clear hK K
      try simp only [Act.put, setIfInBounds_toArray, set_cons_zero, set_cons_succ]
      refine wpAnyH_take (i := 7) (oi := ?oi213) (v := ?v213) (fuel := 7) ?hi213 ?hs213 ?hf213 ?hr213 ?hq213 (Or.inl ⟨?hw213, ?hy213⟩) hHeld ?rest213
      case hi213 => rw [List.getElem?_toArray]; rfl
      case hq213 => exact fun _ _ _ h => h
      case hs213 | hf213 | hr213 => kernel_rfl
      case hw213 => rfl
      case hy213 => (intro w1 hSw; (try dsimp only at hSw); go_simp; try with_reducible rfl)
      try simp only [Act.put, setIfInBounds_toArray, set_cons_zero, set_cons_succ]
      refine wpAnyH_take (i := 8) (oi := ?oi214) (v := ?v214) (fuel := 6) ?hi214 ?hs214 ?hf214 ?hr214 ?hq214 (Or.inl ⟨?hw214, ?hy214⟩) hHeld ?rest214
      case hi214 => rw [List.getElem?_toArray]; rfl
      case hq214 => exact fun _ _ _ h => h
      case hs214 | hf214 | hr214 => kernel_rfl
      case hw214 => rfl
      case hy214 => (intro w1 hSw; (try dsimp only at hSw); go_simp; try with_reducible rfl)
      try simp only [Act.put, setIfInBounds_toArray, set_cons_zero, set_cons_succ]
      refine wpAnyH_take (i := 9) (oi := ?oi215) (v := ?v215) (fuel := 5) ?hi215 ?hs215 ?hf215 ?hr215 ?hq215 (Or.inl ⟨?hw215, ?hy215⟩) hHeld ?rest215
      case hi215 => rw [List.getElem?_toArray]; rfl
      case hq215 => exact fun _ _ _ h => h
      case hs215 | hf215 | hr215 => kernel_rfl
      case hw215 => rfl
      case hy215 => (intro w1 hSw; (try dsimp only at hSw); go_simp; try with_reducible rfl)
      try simp only [Act.put, setIfInBounds_toArray, set_cons_zero, set_cons_succ]
      refine wpAnyH_take (i := 10) (oi := ?oi216) (v := ?v216) (fuel := 4) ?hi216 ?hs216 ?hf216 ?hr216 ?hq216 (Or.inl ⟨?hw216, ?hy216⟩) hHeld ?rest216
      case hi216 => rw [List.getElem?_toArray]; rfl
      case hq216 => exact fun _ _ _ h => h
      case hs216 | hf216 | hr216 => kernel_rfl
      case hw216 => rfl
      case hy216 => (intro w1 hSw; (try dsimp only at hSw); go_simp; try with_reducible rfl)
      try simp only [Act.put, setIfInBounds_toArray, set_cons_zero, set_cons_succ]
      refine wpAnyH_ready (fuel := 3) (rs := [11]) (by kernel_rfl) (by simp) ?_
      refine AllReadyH.cons (o := ?oi217) ?hi217 (fun K hK => ?st217) AllReadyH.nil
      case hi217 => rw [List.getElem?_toArray]; rfl
      go_simp
      have kG := hid tw.out.l
      have nHG := hid hH.out.lt
      replace hH := hid (hH.out.alloc (cellsR4 0 0 0 0))
      have hG := hid (RBox.new wc6 0 0 0 0)
      replace tw := hid (tw.out.alloc (cellsR4 0 0 0 0))
      generalize wc6.alloc (cellsR4 0 0 0 0) = wg11 at *
      refine hK.out _ _ ?hS217 (fun hHeld => ?re217)
      case hS217 => exact tw.out.S
      clear hK K
      try simp only [Act.put, setIfInBounds_toArray, set_cons_zero, set_cons_succ]
      refine wpAnyH_ready (fuel := 2) (rs := [13]) (by kernel_rfl) (by simp) ?_
      refine AllReadyH.cons (o := ?oi218) ?hi218 (fun K hK => ?st218) AllReadyH.nil
      case hi218 => rw [List.getElem?_toArray]; rfl
      obtain ⟨g0, g1, g2, g3⟩ := RBox.box hG.out
      have fq := RBox.frozen hG.out
      go_simp
      clear g0 g1 g2 g3 fq
      replace hH := hid (hH.out.st4o (k := wc6.heap.size) (by have := nHG.out; omega) x y z u)
      replace hG := hid (hG.out.st4 (x' := x) (y' := y) (z' := z) (u' := u))
      replace tw := hid (tw.out.st4 kG.out x y z u)
      unfold st4 at hG tw hH
      generalize ((((wg11.setCell ⟨wc6.heap.size, 0, none⟩ (.int .i64 x)).setCell ⟨wc6.heap.size, 1, none⟩ (.int .i64 y)).setCell ⟨wc6.heap.size, 2, none⟩ (.int .i64 z)).setCell ⟨wc6.heap.size, 3, none⟩ (.int .i64 u)) = ws13 at *
      refine hK.out _ _ ?hS218 (fun hHeld => ?re218)
      case hS218 => exact tw.out.S
      clear hK K
      try simp only [Act.put, setIfInBounds_toArray, set_cons_zero, set_cons_succ]
      refine wpAnyH_ready (fuel := 1) (rs := [14]) (by kernel_rfl) (by simp) ?_
      refine AllReadyH.cons (o := ?oi219) ?hi219 (fun K hK => ?st219) AllReadyH.nil
      case hi219 => rw [List.getElem?_toArray]; rfl
      obtain ⟨g0, g1, g2, g3⟩ := RBox.box hH.out
      have fq := RBox.frozen hH.out
      go_simp
      clear g0 g1 g2 g3 fq
      replace hG := hid (hG.out.st4o (k := wc2.heap.size) (by have := nHG.out; omega) x' y' z' u')
      replace hH := hid (hH.out.st4 (x' := x') (y' := y') (z' := z') (u' := u'))
      replace tw := hid (tw.out.st4 kH.out x' y' z' u')
      unfold st4 at hH tw hG
      generalize ((((ws13.setCell ⟨wc2.heap.size, 0, none⟩ (.int .i64 x')).setCell ⟨wc2.heap.size, 1, none⟩ (.int .i64 y')).setCell ⟨wc2.heap.size, 2, none⟩ (.int .i64 z')).setCell ⟨wc2.heap.size, 3, none⟩ (.int .i64 u')) = ws14 at *
      refine hK.out _ _ ?hS219 (fun hHeld => ?re219)
      case hS219 => exact tw.out.S
      clear hK K
      try simp only [Act.put, setIfInBounds_toArray, set_cons_zero, set_cons_succ]
      refine wpAnyH_take (i := 15) (oi := ?oi220) (v := ?v220) (fuel := 0) ?hi220 ?hs220 ?hf220 ?hr220 ?hq220 (Or.inl ⟨?hw220, ?hy220⟩) hHeld ?rest220
      case hi220 => rw [List.getElem?_toArray]; rfl
      case hq220 => exact fun _ _ _ h => h
      case hs220 | hf220 | hr220 => kernel_rfl
      case hw220 => rfl
      case hy220 => (intro w1 hSw; (try dsimp only at hSw); go_simp; try with_reducible rfl)
      try simp only [Act.put, setIfInBounds_toArray, set_cons_zero, set_cons_succ]
      refine wpAnyH_done (by kernel_rfl) ?_ _
      clear hHeld
      go_wp2_with fail
      go_meet
      case rel => exact ⟨_, _, rfl, rfl, rfl, hG.out, hH.out, tw.out⟩
     refine AllReadyH.cons (o := ?oi221) ?hi221 (fun K hK => ?st221) ?mo221
     case hi221 => rw [List.getElem?_toArray]; rfl
     case st221 =>
      go_simp
      have kG := hid tw.out.l
      have nHG := hid hH.out.lt
      replace hH := hid (hH.out.alloc (cellsR4 0 0 0 0))
      have hG := hid (RBox.new wc4 0 0 0 0)
      replace tw := hid (tw.out.alloc (cellsR4 0 0 0 0))
      generalize wc4.alloc (cellsR4 0 0 0 0) = wg11 at *
      refine hK.out _ _ ?hS221 (fun hHeld => ?re221)
      case hS221 => exact tw.out.S
      clear hK K
      try simp only [Act.put, setIfInBounds_toArray, set_cons_zero, set_cons_succ]
      refine wpAnyH_ready (fuel := 7) (rs := [6]) (by kernel_rfl) (by simp) ?_
      refine AllReadyH.cons (o := ?oi222) ?hi222 (fun K hK => ?st222) AllReadyH.nil
      case hi222 => rw [List.getElem?_toArray]; rfl
      go_simp
      refine (hs.out _).mono ?_
      rintro ee wc6 ⟨rfl, hbn⟩
      replace tw := hid (tw.out.below hbn)
      replace hH := hid (hH.out.below hbn)
      replace hG := hid (hG.out.below hbn)
      clear hbn
      go_wp2_with fail
      refine hK.out _ _ ?hS222 (fun hHeld => ?re222)
      case hS222 => exact tw.out.S
      clear hK K
      try simp only [Act.put, setIfInBounds_toArray, set_cons_zero, set_cons_succ]
      refine wpAnyH_take (i := 7) (oi := ?oi223) (v := ?v223) (fuel := 6) ?hi223 ?hs223 ?hf223 ?hr223 ?hq223 (Or.inl ⟨?hw223, ?hy223⟩) hHeld ?rest223
      case hi223 => rw [List.getElem?_toArray]; rfl
      case hq223 => exact fun _ _ _ h => h
      case hs223 | hf223 | hr223 => kernel_rfl
      case hw223 => rfl
      case hy223 => (intro w1 hSw; (try dsimp only at hSw); go_simp; try with_reducible rfl)
      try simp only [Act.put, setIfInBounds_toArray, set_cons_zero, set_cons_succ]
      refine wpAnyH_take (i := 8) (oi := ?oi224) (v := ?v224) (fuel := 5) ?hi224 ?hs224 ?hf224 ?hr224 ?hq224 (Or.inl ⟨?hw224, ?hy224⟩) hHeld ?rest224
      case hi224 => rw [List.getElem?_toArray]; rfl
      case hq224 => exact fun _ _ _ h => h
      case hs224 | hf224 | hr224 => kernel_rfl
      case hw224 => rfl
      case hy224 => (intro w1 hSw; (try dsimp only at hSw); go_simp; try with_reducible rfl)
      try simp only [Act.put, setIfInBounds_toArray, set_cons_zero, set_cons_succ]
      refine wpAnyH_take (i := 9) (oi := ?oi225) (v := ?v225) (fuel := 4) ?hi225 ?hs225 ?hf225 ?hr225 ?hq225 (Or.inl ⟨?hw225, ?hy225⟩) hHeld ?rest225
      case hi225 => rw [List.getElem?_toArray]; rfl
      case hq225 => exact fun _ _ _ h => h
      case hs225 | hf225 | hr225 => kernel_rfl
      case hw225 => rfl
      case hy225 => (intro w1 hSw; (try dsimp only at hSw); go_simp; try with_reducible rfl)
      try simp only [Act.put, setIfInBounds_toArray, set_cons_zero, set_cons_succ]
      refine wpAnyH_take (i := 10) (oi := ?oi226) (v := ?v226) (fuel := 3) ?hi226 ?hs226 ?hf226 ?hr226 ?hq226 (Or.inl ⟨?hw226, ?hy226⟩) hHeld ?rest226
      case hi226 => rw [List.getElem?_toArray]; rfl
      case hq226 => exact fun _ _ _ h => h
      case hs226 | hf226 | hr226 => kernel_rfl
      case hw226 => rfl
      case hy226 => (intro w1 hSw; (try dsimp only at hSw); go_simp; try with_reducible rfl)
      try simp only [Act.put, setIfInBounds_toArray, set_cons_zero, set_cons_succ]
      refine wpAnyH_ready (fuel := 2) (rs := [13]) (by kernel_rfl) (by simp) ?_
      refine AllReadyH.cons (o := ?oi227) ?hi227 (fun K hK => ?st227) AllReadyH.nil
      case hi227 => rw [List.getElem?_toArray]; rfl
      obtain ⟨g0, g1, g2, g3⟩ := RBox.box hG.out
      have fq := RBox.frozen hG.out
      go_simp
      clear g0 g1 g2 g3 fq
      replace hH := hid (hH.out.st4o (k := wc4.heap.size) (by have := nHG.out; omega) x y z u)
      replace hG := hid (hG.out.st4 (x' := x) (y' := y) (z' := z) (u' := u))
      replace tw := hid (tw.out.st4 kG.out x y z u)
      unfold st4 at hG tw hH
      generalize ((((wc6.setCell ⟨wc4.heap.size, 0, none⟩ (.int .i64 x)).setCell ⟨wc4.heap.size, 1, none⟩ (.int .i64 y)).setCell ⟨wc4.heap.size, 2, none⟩ (.int .i64 z)).setCell ⟨wc4.heap.size, 3, none⟩ (.int .i64 u)) = ws13 at *
      refine hK.out _ _ ?hS227 (fun hHeld => ?re227)
      case hS227 => exact tw.out.S
      clear hK K
      try simp only [Act.put, setIfInBounds_toArray, set_cons_zero, set_cons_succ]
      refine wpAnyH_ready (fuel := 1) (rs := [14]) (by kernel_rfl) (by simp) ?_
      refine AllReadyH.cons (o := ?oi228) ?hi228 (fun K hK => ?st228) AllReadyH.nil
      case hi228 => rw [List.getElem?_toArray]; rfl
      obtain ⟨g0, g1, g2, g3⟩ := RBox.box hH.out
      have fq := RBox.frozen hH.out
      go_simp
      clear g0 g1 g2 g3 fq
      replace hG := hid (hG.out.st4o (k := wc2.heap.size) (by have := nHG.out; omega) x' y' z' u')
      replace hH := hid (hH.out.st4 (x' := x') (y' := y') (z' := z') (u' := u'))
      replace tw := hid (tw.out.st4 kH.out x' y' z' u')
      unfold st4 at hH tw hG
      generalize ((((ws13.setCell ⟨wc2.heap.size, 0, none⟩ (.int .i64 x')).setCell ⟨wc2.heap.size, 1, none⟩ (.int .i64 y')).setCell ⟨wc2.heap.size, 2, none⟩ (.int .i64 z')).setCell ⟨wc2.heap.size, 3, none⟩ (.int .i64 u')) = ws14 at *
      refine hK.out _ _ ?hS228 (fun hHeld => ?re228)
      case hS228 => exact tw.out.S
      clear hK K
      try simp only [Act.put, setIfInBounds_toArray, set_cons_zero, set_cons_succ]
      refine wpAnyH_take (i := 15) (oi := ?oi229) (v := ?v229) (fuel := 0) ?hi229 ?hs229 ?hf229 ?hr229 ?hq229 (Or.inl ⟨?hw229, ?hy229⟩) hHeld ?rest229
      case hi229 => rw [List.getElem?_toArray]; rfl
      case hq229 => exact fun _ _ _ h => h
      case hs229 | hf229 | hr229 => kernel_rfl
      case hw229 => rfl
      case hy229 => (intro w1 hSw; (try dsimp only at hSw); go_simp; try with_reducible rfl)
      try simp only [Act.put, setIfInBounds_toArray, set_cons_zero, set_cons_succ]
      refine wpAnyH_done (by kernel_rfl) ?_ _
      clear hHeld
      go_wp2_with fail
      go_meet
      case rel => exact ⟨_, _, rfl, rfl, rfl, hG.out, hH.out, tw.out⟩
     exact AllReadyH.nil
    refine AllReadyH.cons (o := ?oi230) ?hi230 (fun K hK => ?st230) ?mo230
    case hi230 => rw [List.getElem?_toArray]; rfl
    case st230 =>
     go_simp
     have kG := hid tw.out.l
     have nHG := hid hH.out.lt
     replace hH := hid (hH.out.alloc (cellsR4 0 0 0 0))
     have hG := hid (RBox.new wg12 0 0 0 0)
     replace tw := hid (tw.out.alloc (cellsR4 0 0 0 0))
     generalize wg12.alloc (cellsR4 0 0 0 0) = wg11 at *
     refine hK.out _ _ ?hS230 (fun hHeld => ?re230)
     case hS230 => exact tw.out.S
     clear hK K
     try simp only [Act.put, setIfInBounds_toArray, set_cons_zero, set_cons_succ]
     refine wpAnyH_ready (fuel := 8) (rs := [4]) (by kernel_rfl) (by simp) ?_
     refine AllReadyH.cons (o := ?oi231) ?hi231 (fun K hK => ?st231) AllReadyH.nil
     case hi231 => rw [List.getElem?_toArray]; rfl
     go_simp
     refine (c_toRange _ _ _ _ _).mono ?_
     rintro ee wc4 ⟨rfl, hbn⟩
     replace tw := hid (tw.out.below hbn)
     replace hH := hid (hH.out.below hbn)
     replace hG := hid (hG.out.below hbn)
     clear hbn
     go_wp2_with fail
     refine hK.out _ _ ?hS231 (fun hHeld => ?re231)
     case hS231 => exact tw.out.S
     clear hK K
     try simp only [Act.put, setIfInBounds_toArray, set_cons_zero, set_cons_succ]
     refine wpAnyH_ready (fuel := 7) (rs := [6]) (by kernel_rfl) (by simp) ?_
     refine AllReadyH.cons (o := ?oi232) ?hi232 (fun K hK => ?st232) AllReadyH.nil
     case hi232 => rw [List.getElem?_toArray]; rfl
     go_simp
     refine (hs.out _).mono ?_
     rintro ee wc6 ⟨rfl, hbn⟩
     replace tw := hid (tw.out.below hbn)
     replace hH := hid (hH.out.below hbn)
     replace hG := hid (hG.out.below hbn)
     clear hbn
     go_wp2_with fail
     refine hK.out _ _ ?hS232 (fun hHeld => ?re232)
     case hS232 => exact tw.out.S
     clear hK K
     try simp only [Act.put, setIfInBounds_toArray, set_cons_zero, set_cons_succ]
     refine wpAnyH_take (i := 7) (oi := ?oi233) (v := ?v233) (fuel := 6) ?hi233 ?hs233 ?hf233 ?hr233 ?hq233 (Or.inl ⟨?hw233, ?hy233⟩) hHeld ?rest233
     case hi233 => rw [List.getElem?_toArray]; rfl
     case hq233 => exact fun _ _ _ h => h
     case hs233 | hf233 | hr233 => kernel_rfl
     case hw233 => rfl
     case hy233 => (intro w1 hSw; (try dsimp only at hSw); go_simp; try with_reducible rfl)
     try simp only [Act.put, setIfInBounds_toArray, set_cons_zero, set_cons_succ]
     refine wpAnyH_take (i := 8) (oi := ?oi234) (v := ?v234) (fuel := 5) ?hi234 ?hs234 ?hf234 ?hr234 ?hq234 (Or.inl ⟨?hw234, ?hy234⟩) hHeld ?rest234
     case hi234 => rw [List.getElem?_toArray]; rfl
     case hq234 => exact fun _ _ _ h => h
     case hs234 | hf234 | hr234 => kernel_rfl
     case hw234 => rfl
     case hy234 => (intro w1 hSw; (try dsimp only at hSw); go_simp; try with_reducible rfl)
     try simp only [Act.put, setIfInBounds_toArray, set_cons_zero, set_cons_succ]
     refine wpAnyH_take (i := 9) (oi := ?oi235) (v := ?v235) (fuel := 4) ?hi235 ?hs235 ?hf235 ?hr235 ?hq235 (Or.inl ⟨?hw235, ?hy235⟩) hHeld ?rest235
     case hi235 => rw [List.getElem?_toArray]; rfl
     case hq235 => exact fun _ _ _ h => h
     case hs235 | hf235 | hr235 => kernel_rfl
     case hw235 => rfl
     case hy235 => (intro w1 hSw; (try dsimp only at hSw); go_simp; try with_reducible rfl)
     try simp only [Act.put, setIfInBounds_toArray, set_cons_zero, set_cons_succ]
     refine wpAnyH_take (i := 10) (oi := ?oi236) (v := ?v236) (fuel := 3) ?hi236 ?hs236 ?hf236 ?hr236 ?hq236 (Or.inl ⟨?hw236, ?hy236⟩) hHeld ?rest236
     case hi236 => rw [List.getElem?_toArray]; rfl
     case hq236 => exact fun _ _ _ h => h
     case hs236 | hf236 | hr236 => kernel_rfl
     case hw236 => rfl
     case hy236 => (intro w1 hSw; (try dsimp only at hSw); go_simp; try with_reducible rfl)
     try simp only [Act.put, setIfInBounds_toArray, set_cons_zero, set_cons_succ]
     refine wpAnyH_ready (fuel := 2) (rs := [13]) (by kernel_rfl) (by simp) ?_
     refine AllReadyH.cons (o := ?oi237) ?hi237 (fun K hK => ?st237) AllReadyH.nil
     case hi237 => rw [List.getElem?_toArray]; rfl
     obtain ⟨g0, g1, g2, g3⟩ := RBox.box hG.out
     have fq := RBox.frozen hG.out
     go_simp
     clear g0 g1 g2 g3 fq
     replace hH := hid (hH.out.st4o (k := wg12.heap.size) (by have := nHG.out; omega) x y z u)
     replace hG := hid (hG.out.st4 (x' := x) (y' := y) (z' := z) (u' := u))
     replace tw := hid (tw.out.st4 kG.out x y z u)
     unfold st4 at hG tw hH
     generalize ((((wc6.setCell ⟨wg12.heap.size, 0, none⟩ (.int .i64 x)).setCell ⟨wg12.heap.size, 1, none⟩ (.int .i64 y)).setCell ⟨wg12.heap.size, 2, none⟩ (.int .i64 z)).setCell ⟨wg12.heap.size, 3, none⟩ (.int .i64 u)) = ws13 at *
     refine hK.out _ _ ?hS237 (fun hHeld => ?re237)
     case hS237 => exact tw.out.S
     clear hK K
     try simp only [Act.put, setIfInBounds_toArray, set_cons_zero, set_cons_succ]
     refine wpAnyH_ready (fuel := 1) (rs := [14]) (by kernel_rfl) (by simp) ?_
     refine AllReadyH.cons (o := ?oi238) ?hi238 (fun K hK => ?st238) AllReadyH.nil
     case hi238 => rw [List.getElem?_toArray]; rfl
     obtain ⟨g0, g1, g2, g3⟩ := RBox.box hH.out
     have fq := RBox.frozen hH.out
     go_simp
     clear g0 g1 g2 g3 fq
     replace hG := hid (hG.out.st4o (k := wc2.heap.size) (by have := nHG.out; omega) x' y' z' u')
     replace hH := hid (hH.out.st4 (x' := x') (y' := y') (z' := z') (u' := u'))
     replace tw := hid (tw.out.st4 kH.out x' y' z' u')
     unfold st4 at hH tw hG
     generalize ((((ws13.setCell ⟨wc2.heap.size, 0, none⟩ (.int .i64 x')).setCell ⟨wc2.heap.size, 1, none⟩ (.int .i64 y')).setCell ⟨wc2.heap.size, 2, none⟩ (.int .i64 z')).setCell ⟨wc2.heap.size, 3, none⟩ (.int .i64 u')) = ws14 at *
     refine hK.out _ _ ?hS238 (fun hHeld => ?re238)
     case hS238 => exact tw.out.S
     clear hK K
     try simp only [Act.put, setIfInBounds_toArray, set_cons_zero, set_cons_succ]
     refine wpAnyH_take (i := 15) (oi := ?oi239) (v := ?v239) (fuel := 0) ?hi239 ?hs239 ?hf239 ?hr239 ?hq239 (Or.inl ⟨?hw239, ?hy239⟩) hHeld ?rest239
     case hi239 => rw [List.getElem?_toArray]; rfl
     case hq239 => exact fun _ _ _ h => h
     case hs239 | hf239 | hr239 => kernel_rfl
     case hw239 => rfl
     case hy239 => (intro w1 hSw; (try dsimp only at hSw); go_simp; try with_reducible rfl)
     try simp only [Act.put, setIfInBounds_toArray, set_cons_zero, set_cons_succ]
     refine wpAnyH_done (by kernel_rfl) ?_ _
     clear hHeld
     go_wp2_with fail
     go_meet
     case rel => exact ⟨_, _, rfl, rfl, rfl, hG.out, hH.out, tw.out⟩
    exact AllReadyH.nil
   exact AllReadyH.nil
  refine AllReadyH.cons (o := ?oi240) ?hi240 (fun K hK => ?st240) ?mo240
  case hi240 => rw [List.getElem?_toArray]; rfl
  case st240 =>
   go_simp
   have kG := hid tw.out.l
   have hG := hid (RBox.new W1 0 0 0 0)
   replace tw := hid (tw.out.alloc (cellsR4 0 0 0 0))
   generalize W1.alloc (cellsR4 0 0 0 0) = wg11 at *
   refine hK.out _ _ ?hS240 (fun hHeld => ?re240)
   case hS240 => exact tw.out.S
   clear hK K
   try simp only [Act.put, setIfInBounds_toArray, set_cons_zero, set_cons_succ]
   refine wpAnyH_ready (fuel := 10) (rs := [2, 12]) (by kernel_rfl) (by simp) ?_
   refine AllReadyH.cons (o := ?oi241) ?hi241 (fun K hK => ?st241) ?mo241
   case hi241 => rw [List.getElem?_toArray]; rfl
   case st241 =>
    go_simp
    refine (c_toRange _ _ _ _ _).mono ?_
    rintro ee wc2 ⟨rfl, hbn⟩
    replace tw := hid (tw.out.below hbn)
    replace hG := hid (hG.out.below hbn)
    clear hbn
    go_wp2_with fail
    refine hK.out _ _ ?hS241 (fun hHeld => ?re241)
    case hS241 => exact tw.out.S
    clear hK K
    try simp only [Act.put, setIfInBounds_toArray, set_cons_zero, set_cons_succ]
    refine wpAnyH_ready (fuel := 9) (rs := [4, 12]) (by kernel_rfl) (by simp) ?_
    refine AllReadyH.cons (o := ?oi242) ?hi242 (fun K hK => ?st242) ?mo242
    case hi242 => rw [List.getElem?_toArray]; rfl
    case st242 =>
     go_simp
     refine (c_toRange _ _ _ _ _).mono ?_
     rintro ee wc4 ⟨rfl, hbn⟩
     replace tw := hid (tw.out.below hbn)
     replace hG := hid (hG.out.below hbn)
     clear hbn
     go_wp2_with fail
     refine hK.out _ _ ?hS242 (fun hHeld => ?re242)
     case hS242 => exact tw.out.S
     clear hK K
     try simp only [Act.put, setIfInBounds_toArray, set_cons_zero, set_cons_succ]
     refine wpAnyH_ready (fuel := 8) (rs := [6, 12]) (by kernel_rfl) (by simp) ?_
     refine AllReadyH.cons (o := ?oi243) ?hi243 (fun K hK => ?st243) ?mo243
     case hi243 => rw [List.getElem?_toArray]; rfl
     case st243 =>
      go_simp
      refine (hs.out _).mono ?_
      rintro ee wc6 ⟨rfl, hbn⟩
      replace tw := hid (tw.out.below hbn)
      replace hG := hid (hG.out.below hbn)
      clear hbn
      go_wp2_with fail
      refine hK.out _ _ ?hS243 (fun hHeld => ?re243)
      case hS243 => exact tw.out.S
      clear hK K
      try simp only [Act.put, setIfInBounds_toArray, set_cons_zero, set_cons_succ]
      refine wpAnyH_take (i := 7) (oi := ?oi244) (v := ?v244) (fuel := 7) ?hi244 ?hs244 ?hf244 ?hr244 ?hq244 (Or.inl ⟨?hw244, ?hy244⟩) hHeld ?rest244
      case hi244 => rw [List.getElem?_toArray]; rfl
      case hq244 => exact fun _ _ _ h => h
      case hs244 | hf244 | hr244 => kernel_rfl
      case hw244 => rfl
      case hy244 => (intro w1 hSw; (try dsimp only at hSw); go_simp; try with_reducible rfl)
      try simp only [Act.put, setIfInBounds_toArray, set_cons_zero, set_cons_succ]
      refine wpAnyH_take (i := 8) (oi := ?oi245) (v := ?v245) (fuel := 6) ?hi245 ?hs245 ?hf245 ?hr245 ?hq245 (Or.inl ⟨?hw245, ?hy245⟩) hHeld ?rest245
      case hi245 => rw [List.getElem?_toArray]; rfl
      case hq245 => exact fun _ _ _ h => h
      case hs245 | hf245 | hr245 => kernel_rfl
      case hw245 => rfl
      case hy245 => (intro w1 hSw; (try dsimp only at hSw); go_simp; try with_reducible rfl)
      try simp only [Act.put, setIfInBounds_toArray, set_cons_zero, set_cons_succ]
      refine wpAnyH_take (i := 9) (oi := ?oi246) (v := ?v246) (fuel := 5) ?hi246 ?hs246 ?hf246 ?hr246 ?hq246 (Or.inl ⟨?hw246, ?hy246⟩) hHeld ?rest246
      case hi246 => rw [List.getElem?_toArray]; rfl
      case hq246 => exact fun _ _ _ h => h
      case hs246 | hf246 | hr246 => kernel_rfl
      case hw246 => rfl
      case hy246 => (intro w1 hSw; (try dsimp only at hSw); go_simp; try with_reducible rfl)
      try simp only [Act.put, setIfInBounds_toArray, set_cons_zero, set_cons_succ]
      refine wpAnyH_take (i := 10) (oi := ?oi247) (v := ?v247) (fuel := 4) ?hi247 ?hs247 ?hf247 ?hr247 ?hq247 (Or.inl ⟨?hw247, ?hy247⟩) hHeld ?rest247
      case hi247 => rw [List.getElem?_toArray]; rfl
      case hq247 => exact fun _ _ _ h => h
      case hs247 | hf247 | hr247 => kernel_rfl
      case hw247 => rfl
      case hy247 => (intro w1 hSw; (try dsimp only at hSw); go_simp; try with_reducible rfl)
      try simp only [Act.put, setIfInBounds_toArray, set_cons_zero, set_cons_succ]
      refine wpAnyH_ready (fuel := 3) (rs := [12]) (by kernel_rfl) (by simp) ?_
      refine AllReadyH.cons (o := ?oi248) ?hi248 (fun K hK => ?st248) AllReadyH.nil
      case hi248 => rw [List.getElem?_toArray]; rfl
      go_simp
      have kH := hid tw.out.l
      have nGH := hid hG.out.lt
      replace hG := hid (hG.out.alloc (cellsR4 0 0 0 0))
      have hH := hid (RBox.new wc6 0 0 0 0)
      replace tw := hid (tw.out.alloc (cellsR4 0 0 0 0))
      generalize wc6.alloc (cellsR4 0 0 0 0) = wg12 at *
      refine hK.out _ _ ?hS248 (fun hHeld => ?re248)
      case hS248 => exact tw.out.S
      clear hK K
      try simp only [Act.put, setIfInBounds_toArray, set_cons_zero, set_cons_succ]
      refine wpAnyH_ready (fuel := 2) (rs := [13]) (by kernel_rfl) (by simp) ?_
      refine AllReadyH.cons (o := ?oi249) ?hi249 (fun K hK => ?st249) AllReadyH.nil
      case hi249 => rw [List.getElem?_toArray]; rfl
      obtain ⟨g0, g1, g2, g3⟩ := RBox.box hG.out
      have fq := RBox.frozen hG.out
      go_simp
      clear g0 g1 g2 g3 fq
      replace hH := hid (hH.out.st4o (k := W1.heap.size) (by have := nGH.out; omega) x y z u)
      replace hG := hid (hG.out.st4 (x' := x) (y' := y) (z' := z) (u' := u))
      replace tw := hid (tw.out.st4 kG.out x y z u)
      unfold st4 at hG tw hH
      generalize ((((wg12.setCell ⟨W1.heap.size, 0, none⟩ (.int .i64 x)).setCell ⟨W1.heap.size, 1, none⟩ (.int .i64 y)).setCell ⟨W1.heap.size, 2, none⟩ (.int .i64 z)).setCell ⟨W1.heap.size, 3, none⟩ (.int .i64 u)) = ws13 at *
      refine hK.out _ _ ?hS249 (fun hHeld => ?re249)
      case hS249 => exact tw.out.S
      clear hK K
      try simp only [Act.put, setIfInBounds_toArray, set_cons_zero, set_cons_succ]
      refine wpAnyH_ready (fuel := 1) (rs := [14]) (by kernel_rfl) (by simp) ?_
      refine AllReadyH.cons (o := ?oi250) ?hi250 (fun K hK => ?st250) AllReadyH.nil
      case hi250 => rw [List.getElem?_toArray]; rfl
      obtain ⟨g0, g1, g2, g3⟩ := RBox.box hH.out
      have fq := RBox.frozen hH.out
      go_simp
      clear g0 g1 g2 g3 fq
      replace hG := hid (hG.out.st4o (k := wc6.heap.size) (by have := nGH.out; omega) x' y' z' u')
      replace hH := hid (hH.out.st4 (x' := x') (y' := y') (z' := z') (u' := u'))
      replace tw := hid (tw.out.st4 kH.out x' y' z' u')
      unfold st4 at hH tw hG
      generalize ((((ws13.setCell ⟨wc6.heap.size, 0, none⟩ (.int .i64 x')).setCell ⟨wc6.heap.size, 1, none⟩ (.int .i64 y')).setCell ⟨wc6.heap.size, 2, none⟩ (.int .i64 z')).setCell ⟨wc6.heap.size, 3, none⟩ (.int .i64 u')) = ws14 at *
      refine hK.out _ _ ?hS250 (fun hHeld => ?re250)
      case hS250 => exact tw.out.S
      clear hK K
      try simp only [Act.put, setIfInBounds_toArray, set_cons_zero, set_cons_succ]
      refine wpAnyH_take (i := 15) (oi := ?oi251) (v := ?v251) (fuel := 0) ?hi251 ?hs251 ?hf251 ?hr251 ?hq251 (Or.inl ⟨?hw251, ?hy251⟩) hHeld ?rest251
      case hi251 => rw [List.getElem?_toArray]; rfl
      case hq251 => exact fun _ _ _ h => h
      case hs251 | hf251 | hr251 => kernel_rfl
      case hw251 => rfl
      case hy251 => (intro w1 hSw; (try dsimp only at hSw); go_simp; try with_reducible rfl)
      try simp only [Act.put, setIfInBounds_toArray, set_cons_zero, set_cons_succ]
      refine wpAnyH_done (by kernel_rfl) ?_ _
      clear hHeld
      go_wp2_with fail
      go_meet
      case rel => exact ⟨_, _, rfl, rfl, rfl, hG.out, hH.out, tw.out⟩
     refine AllReadyH.cons (o := ?oi252) ?hi252 (fun K hK => ?st252) ?mo252
     case hi252 => rw [List.getElem?_toArray]; rfl
     case st252 =>
      go_simp
      have kH := hid tw.out.l
      have nGH := hid hG.out.lt
      replace hG := hid (hG.out.alloc (cellsR4 0 0 0 0))
      have hH := hid (RBox.new wc4 0 0 0 0)
      replace tw := hid (tw.out.alloc (cellsR4 0 0 0 0))
      generalize wc4.alloc (cellsR4 0 0 0 0) = wg12 at *
      refine hK.out _ _ ?hS252 (fun hHeld => ?re252)
      case hS252 => exact tw.out.S
      clear hK K
      try simp only [Act.put, setIfInBounds_toArray, set_cons_zero, set_cons_succ]
      refine wpAnyH_ready (fuel := 7) (rs := [6]) (by kernel_rfl) (by simp) ?_
      refine AllReadyH.cons (o := ?oi253) ?hi253 (fun K hK => ?st253) AllReadyH.nil
      case hi253 => rw [List.getElem?_toArray]; rfl
      go_simp
      refine (hs.out _).mono ?_
      rintro ee wc6 ⟨rfl, hbn⟩
      replace tw := hid (tw.out.below hbn)
      replace hG := hid (hG.out.below hbn)
      replace hH := hid (hH.out.below hbn)
      clear hbn
      go_wp2_with fail
      refine hK.out _ _ ?hS253 (fun hHeld => ?re253)
      case hS253 => exact tw.out.S
      clear hK K
      try simp only [Act.put, setIfInBounds_toArray, set_cons_zero, set_cons_succ]
      refine wpAnyH_take (i := 7) (oi := ?oi254) (v := ?v254) (fuel := 6) ?hi254 ?hs254 ?hf254 ?hr254 ?hq254 (Or.inl ⟨?hw254, ?hy254⟩) hHeld ?rest254
      case hi254 => rw [List.getElem?_toArray]; rfl
      case hq254 => exact fun _ _ _ h => h
      case hs254 | hf254 | hr254 => kernel_rfl
      case hw254 => rfl
      case hy254 => (intro w1 hSw; (try dsimp only at hSw); go_simp; try with_reducible rfl)
      try simp only [Act.put, setIfInBounds_toArray, set_cons_zero, set_cons_succ]
      refine wpAnyH_take (i := 8) (oi := ?oi255) (v := ?v255) (fuel := 5) ?hi255 ?hs255 ?hf255 ?hr255 ?hq255 (Or.inl ⟨?hw255, ?hy255⟩) hHeld ?rest255
      case hi255 => rw [List.getElem?_toArray]; rfl
      case hq255 => exact fun _ _ _ h => h
      case hs255 | hf255 | hr255 => kernel_rfl
      case hw255 => rfl
      case hy255 => (intro w1 hSw; (try dsimp only at hSw); go_simp; try with_reducible rfl)
      try simp only [Act.put, setIfInBounds_toArray, set_cons_zero, set_cons_succ]
      refine wpAnyH_take (i := 9) (oi := ?oi256) (v := ?v256) (fuel := 4) ?hi256 ?hs256 ?hf256 ?hr256 ?hq256 (Or.inl ⟨?hw256, ?hy256⟩) hHeld ?rest256
      case hi256 => rw [List.getElem?_toArray]; rfl
      case hq256 => exact fun _ _ _ h => h
      case hs256 | hf256 | hr256 => kernel_rfl
      case hw256 => rfl
      case hy256 => (intro w1 hSw; (try dsimp only at hSw); go_simp; try with_reducible rfl)
      try simp only [Act.put, setIfInBounds_toArray, set_cons_zero, set_cons_succ]
      refine wpAnyH_take (i := 10) (oi := ?oi257) (v := ?v257) (fuel := 3) ?hi257 ?hs257 ?hf257 ?hr257 ?hq257 (Or.inl ⟨?hw257, ?hy257⟩) hHeld ?rest257
      case hi257 => rw [List.getElem?_toArray]; rfl
      case hq257 => exact fun _ _ _ h => h
      case hs257 | hf257 | hr257 => kernel_rfl
      case hw257 => rfl
      case hy257 => (intro w1 hSw; (try dsimp only at hSw); go_simp; try with_reducible rfl)
      try simp only [Act.put, setIfInBounds_toArray, set_cons_zero, set_cons_succ]
      refine wpAnyH_ready (fuel := 2) (rs := [13]) (by kernel_rfl) (by simp) ?_
      refine AllReadyH.cons (o := ?oi258) ?hi258 (fun K hK => ?st258) AllReadyH.nil
      case hi258 => rw [List.getElem?_toArray]; rfl
      obtain ⟨g0, g1, g2, g3⟩ := RBox.box hG.out
      have fq := RBox.frozen hG.out
      go_simp
      clear g0 g1 g2 g3 fq
      replace hH := hid (hH.out.st4o (k := W1.heap.size) (by have := nGH.out; omega) x y z u)
      replace hG := hid (hG.out.st4 (x' := x) (y' := y) (z' := z) (u' := u))
      replace tw := hid (tw.out.st4 kG.out x y z u)
      unfold st4 at hG tw hH
      generalize ((((wc6.setCell ⟨W1.heap.size, 0, none⟩ (.int .i64 x)).setCell ⟨W1.heap.size, 1, none⟩ (.int .i64 y)).setCell ⟨W1.heap.size, 2, none⟩ (.int .i64 z)).setCell ⟨W1.heap.size, 3, none⟩ (.int .i64 u)) = ws13 at *
      refine hK.out _ _ ?hS258 (fun hHeld => ?re258)
      case hS258 => exact tw.out.S
      clear hK K
      try simp only [Act.put, setIfInBounds_toArray, set_cons_zero, set_cons_succ]
      refine wpAnyH_ready (fuel := 1) (rs := [14]) (by kernel_rfl) (by simp) ?_
      refine AllReadyH.cons (o := ?oi259) ?hi259 (fun K hK => ?st259) AllReadyH.nil
      case hi259 => rw [List.getElem?_toArray]; rfl
      obtain ⟨g0, g1, g2, g3⟩ := RBox.box hH.out
      have fq := RBox.frozen hH.out
      go_simp
      clear g0 g1 g2 g3 fq
      replace hG := hid (hG.out.st4o (k := wc4.heap.size) (by have := nGH.out; omega) x' y' z' u')
      replace hH := hid (hH.out.st4 (x' := x') (y' := y') (z' := z') (u' := u'))
      replace tw := hid (tw.out.st4 kH.out x' y' z' u')
      unfold st4 at hH tw hG
      generalize ((((ws13.setCell ⟨wc4.heap.size, 0, none⟩ (.int .i64 x')).setCell ⟨wc4.heap.size, 1, none⟩ (.int .i64 y')).setCell ⟨wc4.heap.size, 2, none⟩ (.int .i64 z')).setCell ⟨wc4.heap.size, 3, none⟩ (.int .i64 u')) = ws14 at *
      refine hK.out _ _ ?hS259 (fun hHeld => ?re259)
      case hS259 => exact tw.out.S
      clear hK K
      try simp only [Act.put, setIfInBounds_toArray, set_cons_zero, set_cons_succ]
      refine wpAnyH_take (i := 15) (oi := ?oi260) (v := ?v260) (fuel := 0) ?hi260 ?hs260 ?hf260 ?hr260 ?hq260 (Or.inl ⟨?hw260, ?hy260⟩) hHeld ?rest260
      case hi260 => rw [List.getElem?_toArray]; rfl
      case hq260 => exact fun _ _ _ h => h
      case hs260 | hf260 | hr260 => kernel_rfl
      case hw260 => rfl
      case hy260 => (intro w1 hSw; (try dsimp only at hSw); go_simp; try with_reducible rfl)
      try simp only [Act.put, setIfInBounds_toArray, set_cons_zero, set_cons_succ]
      refine wpAnyH_done (by kernel_rfl) ?_ _
      clear hHeld
      go_wp2_with fail
      go_meet
      case rel => exact ⟨_, _, rfl, rfl, rfl, hG.out, hH.out, tw.out⟩
     exact AllReadyH.nil
    refine AllReadyH.cons (o := ?oi261) ?hi261 (fun K hK => ?st261) ?mo261
    case hi261 => rw [List.getElem?_toArray]; rfl
    case st261 =>
     go_simp
     have kH := hid tw.out.l
     have nGH := hid hG.out.lt
     replace hG := hid (hG.out.alloc (cellsR4 0 0 0 0))
     have hH := hid (RBox.new wc2 0 0 0 0)
     replace tw := hid (tw.out.alloc (cellsR4 0 0 0 0))
     generalize wc2.alloc (cellsR4 0 0 0 0) = wg12 at *
     refine hK.out _ _ ?hS261 (fun hHeld => ?re261)
     case hS261 => exact tw.out.S
     clear hK K
     try simp only [Act.put, setIfInBounds_toArray, set_cons_zero, set_cons_succ]
     refine wpAnyH_ready (fuel := 8) (rs := [4]) (by kernel_rfl) (by simp) ?_
     refine AllReadyH.cons (o := ?oi262) ?hi262 (fun K hK => ?st262) AllReadyH.nil
     case hi262 => rw [List.getElem?_toArray]; rfl
     go_simp
     refine (c_toRange _ _ _ _ _).mono ?_
     rintro ee wc4 ⟨rfl, hbn⟩
     replace tw := hid (tw.out.below hbn)
     replace hG := hid (hG.out.below hbn)
     replace hH := hid (hH.out.below hbn)
     clear hbn
     go_wp2_with fail
     refine hK.out _ _ ?hS262 (fun hHeld => ?re262)
     case hS262 => exact tw.out.S
     clear hK K
     try simp only [Act.put, setIfInBounds_toArray, set_cons_zero, set_cons_succ]
     refine wpAnyH_ready (fuel := 7) (rs := [6]) (by kernel_rfl) (by simp) ?_
     refine AllReadyH.cons (o := ?oi263) ?hi263 (fun K hK => ?st263) AllReadyH.nil
     case hi263 => rw [List.getElem?_toArray]; rfl
     go_simp
     refine (hs.out _).mono ?_
     rintro ee wc6 ⟨rfl, hbn⟩
     replace tw := hid (tw.out.below hbn)
     replace hG := hid (hG.out.below hbn)
     replace hH := hid (hH.out.below hbn)
     clear hbn
     go_wp2_with fail
     refine hK.out _ _ ?hS263 (fun hHeld => ?re263)
     case hS263 => exact tw.out.S
     clear hK K
     try simp only [Act.put, setIfInBounds_toArray, set_cons_zero, set_cons_succ]
     refine wpAnyH_take (i := 7) (oi := ?oi264) (v := ?v264) (fuel := 6) ?hi264 ?hs264 ?hf264 ?hr264 ?hq264 (Or.inl ⟨?hw264, ?hy264⟩) hHeld ?rest264
     case hi264 => rw [List.getElem?_toArray]; rfl
     case hq264 => exact fun _ _ _ h => h
     case hs264 | hf264 | hr264 => kernel_rfl
     case hw264 => rfl
     case hy264 => (intro w1 hSw; (try dsimp only at hSw); go_simp; try with_reducible rfl)
     try simp only [Act.put, setIfInBounds_toArray, set_cons_zero, set_cons_succ]
     refine wpAnyH_take (i := 8) (oi := ?oi265) (v := ?v265) (fuel := 5) ?hi265 ?hs265 ?hf265 ?hr265 ?hq265 (Or.inl ⟨?hw265, ?hy265⟩) hHeld ?rest265
     case hi265 => rw [List.getElem?_toArray]; rfl
     case hq265 => exact fun _ _ _ h => h
     case hs265 | hf265 | hr265 => kernel_rfl
     case hw265 => rfl
     case hy265 => (intro w1 hSw; (try dsimp only at hSw); go_simp; try with_reducible rfl)
     try simp only [Act.put, setIfInBounds_toArray, set_cons_zero, set_cons_succ]
     refine wpAnyH_take (i := 9) (oi := ?oi266) (v := ?v266) (fuel := 4) ?hi266 ?hs266 ?hf266 ?hr266 ?hq266 (Or.inl ⟨?hw266, ?hy266⟩) hHeld ?rest266
     case hi266 => rw [List.getElem?_toArray]; rfl
     case hq266 => exact fun _ _ _ h => h
     case hs266 | hf266 | hr266 => kernel_rfl
     case hw266 => rfl
     case hy266 => (intro w1 hSw; (try dsimp only at hSw); go_simp; try with_reducible rfl)
     try simp only [Act.put, setIfInBounds_toArray, set_cons_zero, set_cons_succ]
     refine wpAnyH_take (i := 10) (oi := ?oi267) (v := ?v267) (fuel := 3) ?hi267 ?hs267 ?hf267 ?hr267 ?hq267 (Or.inl ⟨?hw267, ?hy267⟩) hHeld ?rest267
     case hi267 => rw [List.getElem?_toArray]; rfl
     case hq267 => exact fun _ _ _ h => h
     case hs267 | hf267 | hr267 => kernel_rfl
     case hw267 => rfl
     case hy267 => (intro w1 hSw; (try dsimp only at hSw); go_simp; try with_reducible rfl)
     try simp only [Act.put, setIfInBounds_toArray, set_cons_zero, set_cons_succ]
     refine wpAnyH_ready (fuel := 2) (rs := [13]) (by kernel_rfl) (by simp) ?_
     refine AllReadyH.cons (o := ?oi268) ?hi268 (fun K hK => ?st268) AllReadyH.nil
     case hi268 => rw [List.getElem?_toArray]; rfl
     obtain ⟨g0, g1, g2, g3⟩ := RBox.box hG.out
     have fq := RBox.frozen hG.out
     go_simp
     clear g0 g1 g2 g3 fq
     replace hH := hid (hH.out.st4o (k := W1.heap.size) (by have := nGH.out; omega) x y z u)
     replace hG := hid (hG.out.st4 (x' := x) (y' := y) (z' := z) (u' := u))
     replace tw := hid (tw.out.st4 kG.out x y z u)
     unfold st4 at hG tw hH
     generalize ((((wc6.setCell ⟨W1.heap.size, 0, none⟩ (.int .i64 x)).setCell ⟨W1.heap.size, 1, none⟩ (.int .i64 y)).setCell ⟨W1.heap.size, 2, none⟩ (.int .i64 z)).setCell ⟨W1.heap.size, 3, none⟩ (.int .i64 u)) = ws13 at *
     refine hK.out _ _ ?hS268 (fun hHeld => ?re268)
     case hS268 => exact tw.out.S
     clear hK K
     try simp only [Act.put, setIfInBounds_toArray, set_cons_zero, set_cons_succ]
     refine wpAnyH_ready (fuel := 1) (rs := [14]) (by kernel_rfl) (by simp) ?_
     refine AllReadyH.cons (o := ?oi269) ?hi269 (fun K hK => ?st269) AllReadyH.nil
     case hi269 => rw [List.getElem?_toArray]; rfl
     obtain ⟨g0, g1, g2, g3⟩ := RBox.box hH.out
     have fq := RBox.frozen hH.out
     go_simp
     clear g0 g1 g2 g3 fq
     replace hG := hid (hG.out.st4o (k := wc2.heap.size) (by have := nGH.out; omega) x' y' z' u')
     replace hH := hid (hH.out.st4 (x' := x') (y' := y') (z' := z') (u' := u'))
     replace tw := hid (tw.out.st4 kH.out x' y' z' u')
     unfold st4 at hH tw hG
     generalize ((((ws13.setCell ⟨wc2.heap.size, 0, none⟩ (.int .i64 x')).setCell ⟨wc2.heap.size, 1, none⟩ (.int .i64 y')).setCell ⟨wc2.heap.size, 2, none⟩ (.int .i64 z')).setCell ⟨wc2.heap.size, 3, none⟩ (.int .i64 u')) = ws14 at *
     refine hK.out _ _ ?hS269 (fun hHeld => ?re269)
     case hS269 => exact tw.out.S
     clear hK K
     try simp only [Act.put, setIfInBounds_toArray, set_cons_zero, set_cons_succ]
     refine wpAnyH_take (i := 15) (oi := ?oi270) (v := ?v270) (fuel := 0) ?hi270 ?hs270 ?hf270 ?hr270 ?hq270 (Or.inl ⟨?hw270, ?hy270⟩) hHeld ?rest270
     case hi270 => rw [List.getElem?_toArray]; rfl
     case hq270 => exact fun _ _ _ h => h
     case hs270 | hf270 | hr270 => kernel_rfl
     case hw270 => rfl
     case hy270 => (intro w1 hSw; (try dsimp only at hSw); go_simp; try with_reducible rfl)
     try simp only [Act.put, setIfInBounds_toArray, set_cons_zero, set_cons_succ]
     refine wpAnyH_done (by kernel_rfl) ?_ _
     clear hHeld
     go_wp2_with fail
     go_meet
     case rel => exact ⟨_, _, rfl, rfl, rfl, hG.out, hH.out, tw.out⟩
    exact AllReadyH.nil
   refine AllReadyH.cons (o := ?oi271) ?hi271 (fun K hK => ?st271) ?mo271
   case hi271 => rw [List.getElem?_toArray]; rfl
   case st271 =>
    go_simp
    have kH := hid tw.out.l
    have nGH := hid hG.out.lt
    replace hG := hid (hG.out.alloc (cellsR4 0 0 0 0))
    have hH := hid (RBox.new wg11 0 0 0 0)
    replace tw := hid (tw.out.alloc (cellsR4 0 0 0 0))
    generalize wg11.alloc (cellsR4 0 0 0 0) = wg12 at *
    refine hK.out _ _ ?hS271 (fun hHeld => ?re271)
    case hS271 => exact tw.out.S
    clear hK K
    try simp only [Act.put, setIfInBounds_toArray, set_cons_zero, set_cons_succ]
    refine wpAnyH_ready (fuel := 9) (rs := [2]) (by kernel_rfl) (by simp) ?_
    refine AllReadyH.cons (o := ?oi272) ?hi272 (fun K hK => ?st272) AllReadyH.nil
    case hi272 => rw [List.getElem?_toArray]; rfl
    go_simp
    refine (c_toRange _ _ _ _ _).mono ?_
    rintro ee wc2 ⟨rfl, hbn⟩
    replace tw := hid (tw.out.below hbn)
    replace hG := hid (hG.out.below hbn)
    replace hH := hid (hH.out.below hbn)
    clear hbn
    go_wp2_with fail
    refine hK.out _ _ ?hS272 (fun hHeld => ?re272)
    case hS272 => exact tw.out.S
    clear hK K
    try simp only [Act.put, setIfInBounds_toArray, set_cons_zero, set_cons_succ]
    refine wpAnyH_ready (fuel := 8) (rs := [4]) (by kernel_rfl) (by simp) ?_
    refine AllReadyH.cons (o := ?oi273) ?hi273 (fun K hK => ?st273) AllReadyH.nil
    case hi273 => rw [List.getElem?_toArray]; rfl
    go_simp
    refine (c_toRange _ _ _ _ _).mono ?_
    rintro ee wc4 ⟨rfl, hbn⟩
    replace tw := hid (tw.out.below hbn)
    replace hG := hid (hG.out.below hbn)
    replace hH := hid (hH.out.below hbn)
    clear hbn
    go_wp2_with fail
    refine hK.out _ _ ?hS273 (fun hHeld => ?re273)
    case hS273 => exact tw.out.S
    clear hK K
    try simp only [Act.put, setIfInBounds_toArray, set_cons_zero, set_cons_succ]
    refine wpAnyH_ready (fuel := 7) (rs := [6]) (by kernel_rfl) (by simp) ?_
    refine AllReadyH.cons (o := ?oi274) ?hi274 (fun K hK => ?st274) AllReadyH.nil
    case hi274 => rw [List.getElem?_toArray]; rfl
    go_simp
    refine (hs.out _).mono ?_
    rintro ee wc6 ⟨rfl, hbn⟩
    replace tw := hid (tw.out.below hbn)
    replace hG := hid (hG.out.below hbn)
    replace hH := hid (hH.out.below hbn)
    clear hbn
    go_wp2_with fail
    refine hK.out _ _ ?hS274 (fun hHeld => ?re274)
    case hS274 => exact tw.out.S
    clear hK K
    try simp only [Act.put, setIfInBounds_toArray, set_cons_zero, set_cons_succ]
    refine wpAnyH_take (i := 7) (oi := ?oi275) (v := ?v275) (fuel := 6) ?hi275 ?hs275 ?hf275 ?hr275 ?hq275 (Or.inl ⟨?hw275, ?hy275⟩) hHeld ?rest275
    case hi275 => rw [List.getElem?_toArray]; rfl
    case hq275 => exact fun _ _ _ h => h
    case hs275 | hf275 | hr275 => kernel_rfl
    case hw275 => rfl
    case hy275 => (intro w1 hSw; (try dsimp only at hSw); go_simp; try with_reducible rfl)
    try simp only [Act.put, setIfInBounds_toArray, set_cons_zero, set_cons_succ]
    refine wpAnyH_take (i := 8) (oi := ?oi276) (v := ?v276) (fuel := 5) ?hi276 ?hs276 ?hf276 ?hr276 ?hq276 (Or.inl ⟨?hw276, ?hy276⟩) hHeld ?rest276
    case hi276 => rw [List.getElem?_toArray]; rfl
    case hq276 => exact fun _ _ _ h => h
    case hs276 | hf276 | hr276 => kernel_rfl
    case hw276 => rfl
    case hy276 => (intro w1 hSw; (try dsimp only at hSw); go_simp; try with_reducible rfl)
    try simp only [Act.put, setIfInBounds_toArray, set_cons_zero, set_cons_succ]
    refine wpAnyH_take (i := 9) (oi := ?oi277) (v := ?v277) (fuel := 4) ?hi277 ?hs277 ?hf277 ?hr277 ?hq277 (Or.inl ⟨?hw277, ?hy277⟩) hHeld ?rest277
    case hi277 => rw [List.getElem?_toArray]; rfl
    case hq277 => exact fun _ _ _ h => h
    case hs277 | hf277 | hr277 => kernel_rfl
    case hw277 => rfl
    case hy277 => (intro w1 hSw; (try dsimp only at hSw); go_simp; try with_reducible rfl)
    try simp only [Act.put, setIfInBounds_toArray, set_cons_zero, set_cons_succ]
    refine wpAnyH_take (i := 10) (oi := ?oi278) (v := ?v278) (fuel := 3) ?hi278 ?hs278 ?hf278 ?hr278 ?hq278 (Or.inl ⟨?hw278, ?hy278⟩) hHeld ?rest278
    case hi278 => rw [List.getElem?_toArray]; rfl
    case hq278 => exact fun _ _ _ h => h
    case hs278 | hf278 | hr278 => kernel_rfl
    case hw278 => rfl
    case hy278 => (intro w1 hSw; (try dsimp only at hSw); go_simp; try with_reducible rfl)
    try simp only [Act.put, setIfInBounds_toArray, set_cons_zero, set_cons_succ]
    refine wpAnyH_ready (fuel := 2) (rs := [13]) (by kernel_rfl) (by simp) ?_
    refine AllReadyH.cons (o := ?oi279) ?hi279 (fun K hK => ?st279) AllReadyH.nil
    case hi279 => rw [List.getElem?_toArray]; rfl
    obtain ⟨g0, g1, g2, g3⟩ := RBox.box hG.out
    have fq := RBox.frozen hG.out
    go_simp
    clear g0 g1 g2 g3 fq
    replace hH := hid (hH.out.st4o (k := W1.heap.size) (by have := nGH.out; omega) x y z u)
    replace hG := hid (hG.out.st4 (x' := x) (y' := y) (z' := z) (u' := u))
    replace tw := hid (tw.out.st4 kG.out x y z u)
    unfold st4 at hG tw hH
    generalize ((((wc6.setCell ⟨W1.heap.size, 0, none⟩ (.int .i64 x)).setCell ⟨W1.heap.size, 1, none⟩ (.int .i64 y)).setCell ⟨W1.heap.size, 2, none⟩ (.int .i64 z)).setCell ⟨W1.heap.size, 3, none⟩ (.int .i64 u)) = ws13 at *
    refine hK.out _ _ ?hS279 (fun hHeld => ?re279)
    case hS279 => exact tw.out.S
    clear hK K
    try simp only [Act.put, setIfInBounds_toArray, set_cons_zero, set_cons_succ]
    refine wpAnyH_ready (fuel := 1) (rs := [14]) (by kernel_rfl) (by simp) ?_
    refine AllReadyH.cons (o := ?oi280) ?hi280 (fun K hK => ?st280) AllReadyH.nil
    case hi280 => rw [List.getElem?_toArray]; rfl
    obtain ⟨g0, g1, g2, g3⟩ := RBox.box hH.out
    have fq := RBox.frozen hH.out
    go_simp
    clear g0 g1 g2 g3 fq
    replace hG := hid (hG.out.st4o (k := wg11.heap.size) (by have := nGH.out; omega) x' y' z' u')
    replace hH := hid (hH.out.st4 (x' := x') (y' := y') (z' := z') (u' := u'))
    replace tw := hid (tw.out.st4 kH.out x' y' z' u')
    unfold st4 at hH tw hG
    generalize ((((ws13.setCell ⟨wg11.heap.size, 0, none⟩ (.int .i64 x')).setCell ⟨wg11.heap.size, 1, none⟩ (.int .i64 y')).setCell ⟨wg11.heap.size, 2, none⟩ (.int .i64 z')).setCell ⟨wg11.heap.size, 3, none⟩ (.int .i64 u')) = ws14 at *
    refine hK.out _ _ ?hS280 (fun hHeld => ?re280)
    case hS280 => exact tw.out.S
    clear hK K
    try simp only [Act.put, setIfInBounds_toArray, set_cons_zero, set_cons_succ]
    refine wpAnyH_take (i := 15) (oi := ?oi281) (v := ?v281) (fuel := 0) ?hi281 ?hs281 ?hf281 ?hr281 ?hq281 (Or.inl ⟨?hw281, ?hy281⟩) hHeld ?rest281
    case hi281 => rw [List.getElem?_toArray]; rfl
    case hq281 => exact fun _ _ _ h => h
    case hs281 | hf281 | hr281 => kernel_rfl
    case hw281 => rfl
    case hy281 => (intro w1 hSw; (try dsimp only at hSw); go_simp; try with_reducible rfl)
    try simp only [Act.put, setIfInBounds_toArray, set_cons_zero, set_cons_succ]
    refine wpAnyH_done (by kernel_rfl) ?_ _
    clear hHeld
    go_wp2_with fail
    go_meet
    case rel => exact ⟨_, _, rfl, rfl, rfl, hG.out, hH.out, tw.out⟩
   exact AllReadyH.nil
  refine AllReadyH.cons (o := ?oi282) ?hi282 (fun K hK => ?st282) ?mo282
  case hi282 => rw [List.getElem?_toArray]; rfl
  case st282 =>
   go_simp
   have kH := hid tw.out.l
   have hH := hid (RBox.new W1 0 0 0 0)
   replace tw := hid (tw.out.alloc (cellsR4 0 0 0 0))
   generalize W1.alloc (cellsR4 0 0 0 0) = wg12 at *
   refine hK.out _ _ ?hS282 (fun hHeld => ?re282)
   case hS282 => exact tw.out.S
   clear hK K
   try simp only [Act.put, setIfInBounds_toArray, set_cons_zero, set_cons_succ]
   refine wpAnyH_ready (fuel := 10) (rs := [2, 11]) (by kernel_rfl) (by simp) ?_
   refine AllReadyH.cons (o := ?oi283) ?hi283 (fun K hK => ?st283) ?mo283
   case hi283 => rw [List.getElem?_toArray]; rfl
   case st283 =>
    go_simp
    refine (c_toRange _ _ _ _ _).mono ?_
    rintro ee wc2 ⟨rfl, hbn⟩
    replace tw := hid (tw.out.below hbn)
    replace hH := hid (hH.out.below hbn)
    clear hbn
    go_wp2_with fail
    refine hK.out _ _ ?hS283 (fun hHeld => ?re283)
    case hS283 => exact tw.out.S
    clear hK K
    try simp only [Act.put, setIfInBounds_toArray, set_cons_zero, set_cons_succ]
    refine wpAnyH_ready (fuel := 9) (rs := [4, 11]) (by kernel_rfl) (by simp) ?_
    refine AllReadyH.cons (o := ?oi284) ?hi284 (fun K hK => ?st284) ?mo284
    case hi284 => rw [List.getElem?_toArray]; rfl
    case st284 =>
     go_simp
     refine (c_toRange _ _ _ _ _).mono ?_
     rintro ee wc4 ⟨rfl, hbn⟩
     replace tw := hid (tw.out.below hbn)
     replace hH := hid (hH.out.below hbn)
     clear hbn
     go_wp2_with fail
     refine hK.out _ _ ?hS284 (fun hHeld => ?re284)
     case hS284 => exact tw.out.S
     clear hK K
     try simp only [Act.put, setIfInBounds_toArray, set_cons_zero, set_cons_succ]
     refine wpAnyH_ready (fuel := 8) (rs := [6, 11]) (by kernel_rfl) (by simp) ?_
     refine AllReadyH.cons (o := ?oi285) ?hi285 (fun K hK => ?st285) ?mo285
     case hi285 => rw [List.getElem?_toArray]; rfl
     case st285 =>
      go_simp
      refine (hs.out _).mono ?_
      rintro ee wc6 ⟨rfl, hbn⟩
      replace tw := hid (tw.out.below hbn)
      replace hH := hid (hH.out.below hbn)
      clear hbn
      go_wp2_with fail
      refine hK.out _ _ ?hS285 (fun hHeld => ?re285)
      case hS285 => exact tw.out.S
      clear hK K
      try simp only [Act.put, setIfInBounds_toArray, set_cons_zero, set_cons_succ]
      refine wpAnyH_take (i := 7) (oi := ?oi286) (v := ?v286) (fuel := 7) ?hi286 ?hs286 ?hf286 ?hr286 ?hq286 (Or.inl ⟨?hw286, ?hy286⟩) hHeld ?rest286
      case hi286 => rw [List.getElem?_toArray]; rfl
      case hq286 => exact fun _ _ _ h => h
      case hs286 | hf286 | hr286 => kernel_rfl
      case hw286 => rfl
      case hy286 => (intro w1 hSw; (try dsimp only at hSw); go_simp; try with_reducible rfl)
      try simp only [Act.put, setIfInBounds_toArray, set_cons_zero, set_cons_succ]
      refine wpAnyH_take (i := 8) (oi := ?oi287) (v := ?v287) (fuel := 6) ?hi287 ?hs287 ?hf287 ?hr287 ?hq287 (Or.inl ⟨?hw287, ?hy287⟩) hHeld ?rest287
      case hi287 => rw [List.getElem?_toArray]; rfl
      case hq287 => exact fun _ _ _ h => h
      case hs287 | hf287 | hr287 => kernel_rfl
      case hw287 => rfl
      case hy287 => (intro w1 hSw; (try dsimp only at hSw); go_simp; try with_reducible rfl)
      try simp only [Act.put, setIfInBounds_toArray, set_cons_zero, set_cons_succ]
      refine wpAnyH_take (i := 9) (oi := ?oi288) (v := ?v288) (fuel := 5) ?hi288 ?hs288 ?hf288 ?hr288 ?hq288 (Or.inl ⟨?hw288, ?hy288⟩) hHeld ?rest288
      case hi288 => rw [List.getElem?_toArray]; rfl
      case hq288 => exact fun _ _ _ h => h
      case hs288 | hf288 | hr288 => kernel_rfl
      case hw288 => rfl
      case hy288 => (intro w1 hSw; (try dsimp only at hSw); go_simp; try with_reducible rfl)
      try simp only [Act.put, setIfInBounds_toArray, set_cons_zero, set_cons_succ]
      refine wpAnyH_take (i := 10) (oi := ?oi289) (v := ?v289) (fuel := 4) ?hi289 ?hs289 ?hf289 ?hr289 ?hq289 (Or.inl ⟨?hw289, ?hy289⟩) hHeld ?rest289
      case hi289 => rw [List.getElem?_toArray]; rfl
      case hq289 => exact fun _ _ _ h => h
      case hs289 | hf289 | hr289 => kernel_rfl
      case hw289 => rfl
      case hy289 => (intro w1 hSw; (try dsimp only at hSw); go_simp; try with_reducible rfl)
      try simp only [Act.put, setIfInBounds_toArray, set_cons_zero, set_cons_succ]
      refine wpAnyH_ready (fuel := 3) (rs := [11]) (by kernel_rfl) (by simp) ?_
      refine AllReadyH.cons (o := ?oi290) ?hi290 (fun K hK => ?st290) AllReadyH.nil
      case hi290 => rw [List.getElem?_toArray]; rfl
      go_simp
      have kG := hid tw.out.l
      have nHG := hid hH.out.lt
      replace hH := hid (hH.out.alloc (cellsR4 0 0 0 0))
      have hG := hid (RBox.new wc6 0 0 0 0)
      replace tw := hid (tw.out.alloc (cellsR4 0 0 0 0))
      generalize wc6.alloc (cellsR4 0 0 0 0) = wg11 at *
      refine hK.out _ _ ?hS290 (fun hHeld => ?re290)
      case hS290 => exact tw.out.S
      clear hK K
      try simp only [Act.put, setIfInBounds_toArray, set_cons_zero, set_cons_succ]
      refine wpAnyH_ready (fuel := 2) (rs := [13]) (by kernel_rfl) (by simp) ?_
      refine AllReadyH.cons (o := ?oi291) ?hi291 (fun K hK => ?st291) AllReadyH.nil
      case hi291 => rw [List.getElem?_toArray]; rfl
      obtain ⟨g0, g1, g2, g3⟩ := RBox.box hG.out
      have fq := RBox.frozen hG.out
      go_simp
      clear g0 g1 g2 g3 fq
      replace hH := hid (hH.out.st4o (k := wc6.heap.size) (by have := nHG.out; omega) x y z u)
      replace hG := hid (hG.out.st4 (x' := x) (y' := y) (z' := z) (u' := u))
      replace tw := hid (tw.out.st4 kG.out x y z u)
      unfold st4 at hG tw hH
      generalize ((((wg11.setCell ⟨wc6.heap.size, 0, none⟩ (.int .i64 x)).setCell ⟨wc6.heap.size, 1, none⟩ (.int .i64 y)).setCell ⟨wc6.heap.size, 2, none⟩ (.int .i64 z)).setCell ⟨wc6.heap.size, 3, none⟩ (.int .i64 u)) = ws13 at *
      refine hK.out _ _ ?hS291 (fun hHeld => ?re291)
      case hS291 => exact tw.out.S
      clear hK K
      try simp only [Act.put, setIfInBounds_toArray, set_cons_zero, set_cons_succ]
      refine wpAnyH_ready (fuel := 1) (rs := [14]) (by kernel_rfl) (by simp) ?_
      refine AllReadyH.cons (o := ?oi292) ?hi292 (fun K hK => ?st292) AllReadyH.nil
      case hi292 => rw [List.getElem?_toArray]; rfl
      obtain ⟨g0, g1, g2, g3⟩ := RBox.box hH.out
      have fq := RBox.frozen hH.out
      go_simp
      clear g0 g1 g2 g3 fq
      replace hG := hid (hG.out.st4o (k := W1.heap.size) (by have := nHG.out; omega) x' y' z' u')
      replace hH := hid (hH.out.st4 (x' := x') (y' := y') (z' := z') (u' := u'))
      replace tw := hid (tw.out.st4 kH.out x' y' z' u')
      unfold st4 at hH tw hG
      generalize ((((ws13.setCell ⟨W1.heap.size, 0, none⟩ (.int .i64 x')).setCell ⟨W1.heap.size, 1, none⟩ (.int .i64 y')).setCell ⟨W1.heap.size, 2, none⟩ (.int .i64 z')).setCell ⟨W1.heap.size, 3, none⟩ (.int .i64 u')) = ws14 at *
      refine hK.out _ _ ?hS292 (fun hHeld => ?re292)
      case hS292 => exact tw.out.S
      clear hK K
      try simp only [Act.put, setIfInBounds_toArray, set_cons_zero, set_cons_succ]
      refine wpAnyH_take (i := 15) (oi := ?oi293) (v := ?v293) (fuel := 0) ?hi293 ?hs293 ?hf293 ?hr293 ?hq293 (Or.inl ⟨?hw293, ?hy293⟩) hHeld ?rest293
      case hi293 => rw [List.getElem?_toArray]; rfl
      case hq293 => exact fun _ _ _ h => h
      case hs293 | hf293 | hr293 => kernel_rfl
      case hw293 => rfl
      case hy293 => (intro w1 hSw; (try dsimp only at hSw); go_simp; try with_reducible rfl)
      try simp only [Act.put, setIfInBounds_toArray, set_cons_zero, set_cons_succ]
      refine wpAnyH_done (by kernel_rfl) ?_ _
      clear hHeld
      go_wp2_with fail
      go_meet
      case rel => exact ⟨_, _, rfl, rfl, rfl, hG.out, hH.out, tw.out⟩
     refine AllReadyH.cons (o := ?oi294) ?hi294 (fun K hK => ?st294) ?mo294
     case hi294 => rw [List.getElem?_toArray]; rfl
     case st294 =>
      go_simp
      have kG := hid tw.out.l
      have nHG := hid hH.out.lt
      replace hH := hid (hH.out.alloc (cellsR4 0 0 0 0))
      have hG := hid (RBox.new wc4 0 0 0 0)
      replace tw := hid (tw.out.alloc (cellsR4 0 0 0 0))
      generalize wc4.alloc (cellsR4 0 0 0 0) = wg11 at *
      refine hK.out _ _ ?hS294 (fun hHeld => ?re294)
      case hS294 => exact tw.out.S
      clear hK K
      try simp only [Act.put, setIfInBounds_toArray, set_cons_zero, set_cons_succ]
      refine wpAnyH_ready (fuel := 7) (rs := [6]) (by kernel_rfl) (by simp) ?_
      refine AllReadyH.cons (o := ?oi295) ?hi295 (fun K hK => ?st295) AllReadyH.nil
      case hi295 => rw [List.getElem?_toArray]; rfl
      go_simp
      refine (hs.out _).mono ?_
      rintro ee wc6 ⟨rfl, hbn⟩
      replace tw := hid (tw.out.below hbn)
      replace hH := hid (hH.out.below hbn)
      replace hG := hid (hG.out.below hbn)
      clear hbn
      go_wp2_with fail
      refine hK.out _ _ ?hS295 (fun hHeld => ?re295)
      case hS295 => exact tw.out.S
      clear hK K
      try simp only [Act.put, setIfInBounds_toArray, set_cons_zero, set_cons_succ]
      refine wpAnyH_take (i := 7) (oi := ?oi296) (v := ?v296) (fuel := 6) ?hi296 ?hs296 ?hf296 ?hr296 ?hq296 (Or.inl ⟨?hw296, ?hy296⟩) hHeld ?rest296
      case hi296 => rw [List.getElem?_toArray]; rfl
      case hq296 => exact fun _ _ _ h => h
      case hs296 | hf296 | hr296 => kernel_rfl
      case hw296 => rfl
      case hy296 => (intro w1 hSw; (try dsimp only at hSw); go_simp; try with_reducible rfl)
      try simp only [Act.put, setIfInBounds_toArray, set_cons_zero, set_cons_succ]
      refine wpAnyH_take (i := 8) (oi := ?oi297) (v := ?v297) (fuel := 5) ?hi297 ?hs297 ?hf297 ?hr297 ?hq297 (Or.inl ⟨?hw297, ?hy297⟩) hHeld ?rest297
      case hi297 => rw [List.getElem?_toArray]; rfl
      case hq297 => exact fun _ _ _ h => h
      case hs297 | hf297 | hr297 => kernel_rfl
      case hw297 => rfl
      case hy297 => (intro w1 hSw; (try dsimp only at hSw); go_simp; try with_reducible rfl)
      try simp only [Act.put, setIfInBounds_toArray, set_cons_zero, set_cons_succ]
      refine wpAnyH_take (i := 9) (oi := ?oi298) (v := ?v298) (fuel := 4) ?hi298 ?hs298 ?hf298 ?hr298 ?hq298 (Or.inl ⟨?hw298, ?hy298⟩) hHeld ?rest298
      case hi298 => rw [List.getElem?_toArray]; rfl
      case hq298 => exact fun _ _ _ h => h
      case hs298 | hf298 | hr298 => kernel_rfl
      case hw298 => rfl
      case hy298 => (intro w1 hSw; (try dsimp only at hSw); go_simp; try with_reducible rfl)
      try simp only [Act.put, setIfInBounds_toArray, set_cons_zero, set_cons_succ]
      refine wpAnyH_take (i := 10) (oi := ?oi299) (v := ?v299) (fuel := 3) ?hi299 ?hs299 ?hf299 ?hr299 ?hq299 (Or.inl ⟨?hw299, ?hy299⟩) hHeld ?rest299
      case hi299 => rw [List.getElem?_toArray]; rfl
      case hq299 => exact fun _ _ _ h => h
      case hs299 | hf299 | hr299 => kernel_rfl
      case hw299 => rfl
      case hy299 => (intro w1 hSw; (try dsimp only at hSw); go_simp; try with_reducible rfl)
      try simp only [Act.put, setIfInBounds_toArray, set_cons_zero, set_cons_succ]
      refine wpAnyH_ready (fuel := 2) (rs := [13]) (by kernel_rfl) (by simp) ?_
      refine AllReadyH.cons (o := ?oi300) ?hi300 (fun K hK => ?st300) AllReadyH.nil
      case hi300 => rw [List.getElem?_toArray]; rfl
      obtain ⟨g0, g1, g2, g3⟩ := RBox.box hG.out
      have fq := RBox.frozen hG.out
      go_simp
      clear g0 g1 g2 g3 fq
      replace hH := hid (hH.out.st4o (k := wc4.heap.size) (by have := nHG.out; omega) x y z u)
      replace hG := hid (hG.out.st4 (x' := x) (y' := y) (z' := z) (u' := u))
      replace tw := hid (tw.out.st4 kG.out x y z u)
      unfold st4 at hG tw hH
      generalize ((((wc6.setCell ⟨wc4.heap.size, 0, none⟩ (.int .i64 x)).setCell ⟨wc4.heap.size, 1, none⟩ (.int .i64 y)).setCell ⟨wc4.heap.size, 2, none⟩ (.int .i64 z)).setCell ⟨wc4.heap.size, 3, none⟩ (.int .i64 u)) = ws13 at *
      refine hK.out _ _ ?hS300 (fun hHeld => ?re300)
      case hS300 => exact tw.out.S
      clear hK K
      try simp only [Act.put, setIfInBounds_toArray, set_cons_zero, set_cons_succ]
      refine wpAnyH_ready (fuel := 1) (rs := [14]) (by kernel_rfl) (by simp) ?_
      refine AllReadyH.cons (o := ?oi301) ?hi301 (fun K hK => ?st301) AllReadyH.nil
      case hi301 => rw [List.getElem?_toArray]; rfl
      obtain ⟨g0, g1, g2, g3⟩ := RBox.box hH.out
      have fq := RBox.frozen hH.out
      go_simp
      clear g0 g1 g2 g3 fq
      replace hG := hid (hG.out.st4o (k := W1.heap.size) (by have := nHG.out; omega) x' y' z' u')
      replace hH := hid (hH.out.st4 (x' := x') (y' := y') (z' := z') (u' := u'))
      replace tw := hid (tw.out.st4 kH.out x' y' z' u')
      unfold st4 at hH tw hG
      generalize ((((ws13.setCell ⟨W1.heap.size, 0, none⟩ (.int .i64 x')).setCell ⟨W1.heap.size, 1, none⟩ (.int .i64 y')).setCell ⟨W1.heap.size, 2, none⟩ (.int .i64 z')).setCell ⟨W1.heap.size, 3, none⟩ (.int .i64 u')) = ws14 at *
      refine hK.out _ _ ?hS301 (fun hHeld => ?re301)
      case hS301 => exact tw.out.S
      clear hK K
      try simp only [Act.put, setIfInBounds_toArray, set_cons_zero, set_cons_succ]
      refine wpAnyH_take (i := 15) (oi := ?oi302) (v := ?v302) (fuel := 0) ?hi302 ?hs302 ?hf302 ?hr302 ?hq302 (Or.inl ⟨?hw302, ?hy302⟩) hHeld ?rest302
      case hi302 => rw [List.getElem?_toArray]; rfl
      case hq302 => exact fun _ _ _ h => h
      case hs302 | hf302 | hr302 => kernel_rfl
      case hw302 => rfl
      case hy302 => (intro w1 hSw; (try dsimp only at hSw); go_simp; try with_reducible rfl)
      try simp only [Act.put, setIfInBounds_toArray, set_cons_zero, set_cons_succ]
      refine wpAnyH_done (by kernel_rfl) ?_ _
      clear hHeld
      go_wp2_with fail
      go_meet
      case rel => exact ⟨_, _, rfl, rfl, rfl, hG.out, hH.out, tw.out⟩
     exact AllReadyH.nil
    refine AllReadyH.cons (o := ?oi303) ?hi303 (fun K hK => ?st303) ?mo303
    case hi303 => rw [List.getElem?_toArray]; rfl
    case st303 =>
     go_simp
     have kG := hid tw.out.l
     have nHG := hid hH.out.lt
     replace hH := hid (hH.out.alloc (cellsR4 0 0 0 0))
     have hG := hid (RBox.new wc2 0 0 0 0)
     replace tw := hid (tw.out.alloc (cellsR4 0 0 0 0))
     generalize wc2.alloc (cellsR4 0 0 0 0) = wg11 at *
     refine hK.out _ _ ?hS303 (fun hHeld => ?re303)
     case hS303 => exact tw.out.S
     clear hK K
     try simp only [Act.put, setIfInBounds_toArray, set_cons_zero, set_cons_succ]
     refine wpAnyH_ready (fuel := 8) (rs := [4]) (by kernel_rfl) (by simp) ?_
     refine AllReadyH.cons (o := ?oi304) ?hi304 (fun K hK => ?st304) AllReadyH.nil
     case hi304 => rw [List.getElem?_toArray]; rfl
     go_simp
     refine (c_toRange _ _ _ _ _).mono ?_
     rintro ee wc4 ⟨rfl, hbn⟩
     replace tw := hid (tw.out.below hbn)
     replace hH := hid (hH.out.below hbn)
     replace hG := hid (hG.out.below hbn)
     clear hbn
     go_wp2_with fail
     refine hK.out _ _ ?hS304 (fun hHeld => ?re304)
     case hS304 => exact tw.out.S
     clear hK K
     try simp only [Act.put, setIfInBounds_toArray, set_cons_zero, set_cons_succ]
     refine wpAnyH_ready (fuel := 7) (rs := [6]) (by kernel_rfl) (by simp) ?_
     refine AllReadyH.cons (o := ?oi305) ?hi305 (fun K hK => ?st305) AllReadyH.nil
     case hi305 => rw [List.getElem?_toArray]; rfl
     go_simp
     refine (hs.out _).mono ?_
     rintro ee wc6 ⟨rfl, hbn⟩
     replace tw := hid (tw.out.below hbn)
     replace hH := hid (hH.out.below hbn)
     replace hG := hid (hG.out.below hbn)
     clear hbn
     go_wp2_with fail
     refine hK.out _ _ ?hS305 (fun hHeld => ?re305)
     case hS305 => exact tw.out.S
     clear hK K
     try simp only [Act.put, setIfInBounds_toArray, set_cons_zero, set_cons_succ]
     refine wpAnyH_take (i := 7) (oi := ?oi306) (v := ?v306) (fuel := 6) ?hi306 ?hs306 ?hf306 ?hr306 ?hq306 (Or.inl ⟨?hw306, ?hy306⟩) hHeld ?rest306
     case hi306 => rw [List.getElem?_toArray]; rfl
     case hq306 => exact fun _ _ _ h => h
     case hs306 | hf306 | hr306 => kernel_rfl
     case hw306 => rfl
     case hy306 => (intro w1 hSw; (try dsimp only at hSw); go_simp; try with_reducible rfl)
     try simp only [Act.put, setIfInBounds_toArray, set_cons_zero, set_cons_succ]
     refine wpAnyH_take (i := 8) (oi := ?oi307) (v := ?v307) (fuel := 5) ?hi307 ?hs307 ?hf307 ?hr307 ?hq307 (Or.inl ⟨?hw307, ?hy307⟩) hHeld ?rest307
     case hi307 => rw [List.getElem?_toArray]; rfl
     case hq307 => exact fun _ _ _ h => h
     case hs307 | hf307 | hr307 => kernel_rfl
     case hw307 => rfl
     case hy307 => (intro w1 hSw; (try dsimp only at hSw); go_simp; try with_reducible rfl)
     try simp only [Act.put, setIfInBounds_toArray, set_cons_zero, set_cons_succ]
     refine wpAnyH_take (i := 9) (oi := ?oi308) (v := ?v308) (fuel := 4) ?hi308 ?hs308 ?hf308 ?hr308 ?hq308 (Or.inl ⟨?hw308, ?hy308⟩) hHeld ?rest308
     case hi308 => rw [List.getElem?_toArray]; rfl
     case hq308 => exact fun _ _ _ h => h
     case hs308 | hf308 | hr308 => kernel_rfl
     case hw308 => rfl
     case hy308 => (intro w1 hSw; (try dsimp only at hSw); go_simp; try with_reducible rfl)
     try simp only [Act.put, setIfInBounds_toArray, set_cons_zero, set_cons_succ]
     refine wpAnyH_take (i := 10) (oi := ?oi309) (v := ?v309) (fuel := 3) ?hi309 ?hs309 ?hf309 ?hr309 ?hq309 (Or.inl ⟨?hw309, ?hy309⟩) hHeld ?rest309
     case hi309 => rw [List.getElem?_toArray]; rfl
     case hq309 => exact fun _ _ _ h => h
     case hs309 | hf309 | hr309 => kernel_rfl
     case hw309 => rfl
     case hy309 => (intro w1 hSw; (try dsimp only at hSw); go_simp; try with_reducible rfl)
     try simp only [Act.put, setIfInBounds_toArray, set_cons_zero, set_cons_succ]
     refine wpAnyH_ready (fuel := 2) (rs := [13]) (by kernel_rfl) (by simp) ?_
     refine AllReadyH.cons (o := ?oi310) ?hi310 (fun K hK => ?st310) AllReadyH.nil
     case hi310 => rw [List.getElem?_toArray]; rfl
     obtain ⟨g0, g1, g2, g3⟩ := RBox.box hG.out
     have fq := RBox.frozen hG.out
     go_simp
     clear g0 g1 g2 g3 fq
     replace hH := hid (hH.out.st4o (k := wc2.heap.size) (by have := nHG.out; omega) x y z u)
     replace hG := hid (hG.out.st4 (x' := x) (y' := y) (z' := z) (u' := u))
     replace tw := hid (tw.out.st4 kG.out x y z u)
     unfold st4 at hG tw hH
     generalize ((((wc6.setCell ⟨wc2.heap.size, 0, none⟩ (.int .i64 x)).setCell ⟨wc2.heap.size, 1, none⟩ (.int .i64 y)).setCell ⟨wc2.heap.size, 2, none⟩ (.int .i64 z)).setCell ⟨wc2.heap.size, 3, none⟩ (.int .i64 u)) = ws13 at *
     refine hK.out _ _ ?hS310 (fun hHeld => ?re310)
     case hS310 => exact tw.out.S
     clear hK K
     try simp only [Act.put, setIfInBounds_toArray, set_cons_zero, set_cons_succ]
     refine wpAnyH_ready (fuel := 1) (rs := [14]) (by kernel_rfl) (by simp) ?_
     refine AllReadyH.cons (o := ?oi311) ?hi311 (fun K hK => ?st311) AllReadyH.nil
     case hi311 => rw [List.getElem?_toArray]; rfl
     obtain ⟨g0, g1, g2, g3⟩ := RBox.box hH.out
     have fq := RBox.frozen hH.out
     go_simp
     clear g0 g1 g2 g3 fq
     replace hG := hid (hG.out.st4o (k := W1.heap.size) (by have := nHG.out; omega) x' y' z' u')
     replace hH := hid (hH.out.st4 (x' := x') (y' := y') (z' := z') (u' := u'))
     replace tw := hid (tw.out.st4 kH.out x' y' z' u')
     unfold st4 at hH tw hG
     generalize ((((ws13.setCell ⟨W1.heap.size, 0, none⟩ (.int .i64 x')).setCell ⟨W1.heap.size, 1, none⟩ (.int .i64 y')).setCell ⟨W1.heap.size, 2, none⟩ (.int .i64 z')).setCell ⟨W1.heap.size, 3, none⟩ (.int .i64 u')) = ws14 at *
     refine hK.out _ _ ?hS311 (fun hHeld => ?re311)
     case hS311 => exact tw.out.S
     clear hK K
     try simp only [Act.put, setIfInBounds_toArray, set_cons_zero, set_cons_succ]
     refine wpAnyH_take (i := 15) (oi := ?oi312) (v := ?v312) (fuel := 0) ?hi312 ?hs312 ?hf312 ?hr312 ?hq312 (Or.inl ⟨?hw312, ?hy312⟩) hHeld ?rest312
     case hi312 => rw [List.getElem?_toArray]; rfl
     case hq312 => exact fun _ _ _ h => h
     case hs312 | hf312 | hr312 => kernel_rfl
     case hw312 => rfl
     case hy312 => (intro w1 hSw; (try dsimp only at hSw); go_simp; try with_reducible rfl)
     try simp only [Act.put, setIfInBounds_toArray, set_cons_zero, set_cons_succ]
     refine wpAnyH_done (by kernel_rfl) ?_ _
     clear hHeld
     go_wp2_with fail
     go_meet
     case rel => exact ⟨_, _, rfl, rfl, rfl, hG.out, hH.out, tw.out⟩
    exact AllReadyH.nil
   refine AllReadyH.cons (o := ?oi313) ?hi313 (fun K hK => ?st313) ?mo313
   case hi313 => rw [List.getElem?_toArray]; rfl
   case st313 =>
    go_simp
    have kG := hid tw.out.l
    have nHG := hid hH.out.lt
    replace hH := hid (hH.out.alloc (cellsR4 0 0 0 0))
    have hG := hid (RBox.new wg12 0 0 0 0)
    replace tw := hid (tw.out.alloc (cellsR4 0 0 0 0))
    generalize wg12.alloc (cellsR4 0 0 0 0) = wg11 at *
    refine hK.out _ _ ?hS313 (fun hHeld => ?re313)
    case hS313 => exact tw.out.S
    clear hK K
    try simp only [Act.put, setIfInBounds_toArray, set_cons_zero, set_cons_succ]
    refine wpAnyH_ready (fuel := 9) (rs := [2]) (by kernel_rfl) (by simp) ?_
    refine AllReadyH.cons (o := ?oi314) ?hi314 (fun K hK => ?st314) AllReadyH.nil
    case hi314 => rw [List.getElem?_toArray]; rfl
    go_simp
    refine (c_toRange _ _ _ _ _).mono ?_
    rintro ee wc2 ⟨rfl, hbn⟩
    replace tw := hid (tw.out.below hbn)
    replace hH := hid (hH.out.below hbn)
    replace hG := hid (hG.out.below hbn)
    clear hbn
    go_wp2_with fail
    refine hK.out _ _ ?hS314 (fun hHeld => ?re314)
    case hS314 => exact tw.out.S
    clear hK K
    try simp only [Act.put, setIfInBounds_toArray, set_cons_zero, set_cons_succ]
    refine wpAnyH_ready (fuel := 8) (rs := [4]) (by kernel_rfl) (by simp) ?_
    refine AllReadyH.cons (o := ?oi315) ?hi315 (fun K hK => ?st315) AllReadyH.nil
    case hi315 => rw [List.getElem?_toArray]; rfl
    go_simp
    refine (c_toRange _ _ _ _ _).mono ?_
    rintro ee wc4 ⟨rfl, hbn⟩
    replace tw := hid (tw.out.below hbn)
    replace hH := hid (hH.out.below hbn)
    replace hG := hid (hG.out.below hbn)
    clear hbn
    go_wp2_with fail
    refine hK.out _ _ ?hS315 (fun hHeld => ?re315)
    case hS315 => exact tw.out.S
    clear hK K
    try simp only [Act.put, setIfInBounds_toArray, set_cons_zero, set_cons_succ]
    refine wpAnyH_ready (fuel := 7) (rs := [6]) (by kernel_rfl) (by simp) ?_
    refine AllReadyH.cons (o := ?oi316) ?hi316 (fun K hK => ?st316) AllReadyH.nil
    case hi316 => rw [List.getElem?_toArray]; rfl
    go_simp
    refine (hs.out _).mono ?_
    rintro ee wc6 ⟨rfl, hbn⟩
    replace tw := hid (tw.out.below hbn)
    replace hH := hid (hH.out.below hbn)
    replace hG := hid (hG.out.below hbn)
    clear hbn
    go_wp2_with fail
    refine hK.out _ _ ?hS316 (fun hHeld => ?re316)
    case hS316 => exact tw.out.S
    clear hK K
    try simp only [Act.put, setIfInBounds_toArray, set_cons_zero, set_cons_succ]
    refine wpAnyH_take (i := 7) (oi := ?oi317) (v := ?v317) (fuel := 6) ?hi317 ?hs317 ?hf317 ?hr317 ?hq317 (Or.inl ⟨?hw317, ?hy317⟩) hHeld ?rest317
    case hi317 => rw [List.getElem?_toArray]; rfl
    case hq317 => exact fun _ _ _ h => h
    case hs317 | hf317 | hr317 => kernel_rfl
    case hw317 => rfl
    case hy317 => (intro w1 hSw; (try dsimp only at hSw); go_simp; try with_reducible rfl)
    try simp only [Act.put, setIfInBounds_toArray, set_cons_zero, set_cons_succ]
    refine wpAnyH_take (i := 8) (oi := ?oi318) (v := ?v318) (fuel := 5) ?hi318 ?hs318 ?hf318 ?hr318 ?hq318 (Or.inl ⟨?hw318, ?hy318⟩) hHeld ?rest318
    case hi318 => rw [List.getElem?_toArray]; rfl
    case hq318 => exact fun _ _ _ h => h
    case hs318 | hf318 | hr318 => kernel_rfl
    case hw318 => rfl
    case hy318 => (intro w1 hSw; (try dsimp only at hSw); go_simp; try with_reducible rfl)
    try simp only [Act.put, setIfInBounds_toArray, set_cons_zero, set_cons_succ]
    refine wpAnyH_take (i := 9) (oi := ?oi319) (v := ?v319) (fuel := 4) ?hi319 ?hs319 ?hf319 ?hr319 ?hq319 (Or.inl ⟨?hw319, ?hy319⟩) hHeld ?rest319
    case hi319 => rw [List.getElem?_toArray]; rfl
    case hq319 => exact fun _ _ _ h => h
    case hs319 | hf319 | hr319 => kernel_rfl
    case hw319 => rfl
    case hy319 => (intro w1 hSw; (try dsimp only at hSw); go_simp; try with_reducible rfl)
    try simp only [Act.put, setIfInBounds_toArray, set_cons_zero, set_cons_succ]
    refine wpAnyH_take (i := 10) (oi := ?oi320) (v := ?v320) (fuel := 3) ?hi320 ?hs320 ?hf320 ?hr320 ?hq320 (Or.inl ⟨?hw320, ?hy320⟩) hHeld ?rest320
    case hi320 => rw [List.getElem?_toArray]; rfl
    case hq320 => exact fun _ _ _ h => h
    case hs320 | hf320 | hr320 => kernel_rfl
    case hw320 => rfl
    case hy320 => (intro w1 hSw; (try dsimp only at hSw); go_simp; try with_reducible rfl)
    try simp only [Act.put, setIfInBounds_toArray, set_cons_zero, set_cons_succ]
    refine wpAnyH_ready (fuel := 2) (rs := [13]) (by kernel_rfl) (by simp) ?_
    refine AllReadyH.cons (o := ?oi321) ?hi321 (fun K hK => ?st321) AllReadyH.nil
    case hi321 => rw [List.getElem?_toArray]; rfl
    obtain ⟨g0, g1, g2, g3⟩ := RBox.box hG.out
    have fq := RBox.frozen hG.out
    go_simp
    clear g0 g1 g2 g3 fq
    replace hH := hid (hH.out.st4o (k := wg12.heap.size) (by have := nHG.out; omega) x y z u)
    replace hG := hid (hG.out.st4 (x' := x) (y' := y) (z' := z) (u' := u))
    replace tw := hid (tw.out.st4 kG.out x y z u)
    unfold st4 at hG tw hH
    generalize ((((wc6.setCell ⟨wg12.heap.size, 0, none⟩ (.int .i64 x)).setCell ⟨wg12.heap.size, 1, none⟩ (.int .i64 y)).setCell ⟨wg12.heap.size, 2, none⟩ (.int .i64 z)).setCell ⟨wg12.heap.size, 3, none⟩ (.int .i64 u)) = ws13 at *
    refine hK.out _ _ ?hS321 (fun hHeld => ?re321)
    case hS321 => exact tw.out.S
    clear hK K
    try simp only [Act.put, setIfInBounds_toArray, set_cons_zero, set_cons_succ]
    refine wpAnyH_ready (fuel := 1) (rs := [14]) (by kernel_rfl) (by simp) ?_
    refine AllReadyH.cons (o := ?oi322) ?hi322 (fun K hK => ?st322) AllReadyH.nil
    case hi322 => rw [List.getElem?_toArray]; rfl
    obtain ⟨g0, g1, g2, g3⟩ := RBox.box hH.out
    have fq := RBox.frozen hH.out
    go_simp
    clear g0 g1 g2 g3 fq
    replace hG := hid (hG.out.st4o (k := W1.heap.size) (by have := nHG.out; omega) x' y' z' u')
    replace hH := hid (hH.out.st4 (x' := x') (y' := y') (z' := z') (u' := u'))
    replace tw := hid (tw.out.st4 kH.out x' y' z' u')
    unfold st4 at hH tw hG
    generalize ((((ws13.setCell ⟨W1.heap.size, 0, none⟩ (.int .i64 x')).setCell ⟨W1.heap.size, 1, none⟩ (.int .i64 y')).setCell ⟨W1.heap.size, 2, none⟩ (.int .i64 z')).setCell ⟨W1.heap.size, 3, none⟩ (.int .i64 u')) = ws14 at *
    refine hK.out _ _ ?hS322 (fun hHeld => ?re322)
    case hS322 => exact tw.out.S
    clear hK K
    try simp only [Act.put, setIfInBounds_toArray, set_cons_zero, set_cons_succ]
    refine wpAnyH_take (i := 15) (oi := ?oi323) (v := ?v323) (fuel := 0) ?hi323 ?hs323 ?hf323 ?hr323 ?hq323 (Or.inl ⟨?hw323, ?hy323⟩) hHeld ?rest323
    case hi323 => rw [List.getElem?_toArray]; rfl
    case hq323 => exact fun _ _ _ h => h
    case hs323 | hf323 | hr323 => kernel_rfl
    case hw323 => rfl
    case hy323 => (intro w1 hSw; (try dsimp only at hSw); go_simp; try with_reducible rfl)
    try simp only [Act.put, setIfInBounds_toArray, set_cons_zero, set_cons_succ]
    refine wpAnyH_done (by kernel_rfl) ?_ _
    clear hHeld
    go_wp2_with fail
    go_meet
    case rel => exact ⟨_, _, rfl, rfl, rfl, hG.out, hH.out, tw.out⟩
   exact AllReadyH.nil
  exact AllReadyH.nil
 case rest =>
  obtain ⟨kG, kH, rfl, rfl, rfl, hG0, hH0, tw1⟩ := hcut
  clear tw
  have tw := hid tw1
  have hG := hid hG0
  have hH := hid hH0
  clear hG0 hH0 tw1
  go_wp2_with fail
  go_cut [12, 13, 14] (fun s s2 s3 wr => ∃ k k', s = .pointer (some ⟨k, 0, none⟩) ∧ s2 = .pointer (some ⟨k', 0, none⟩) ∧ s3 = .bool q ∧ RBox wr k x y z u ∧ RBox wr k' x' y' z' u' ∧ RBox wr kG x y z u ∧ RBox wr kH x' y' z' u' ∧ Two w a b c d e f g h wr)
  case first =>
   refine wp_region_held_drew (S := (fun w' => w'.cell? ⟨w.heap.size, 0, none⟩ = some (.int .i64 a) ∧ w'.cell? ⟨w.heap.size, 1, none⟩ = some (.int .i64 b) ∧ w'.cell? ⟨w.heap.size, 2, none⟩ = some (.int .i64 c) ∧ w'.cell? ⟨w.heap.size, 3, none⟩ = some (.int .i64 d) ∧ w'.cell? ⟨w.heap.size + 1, 0, none⟩ = some (.int .i64 e) ∧ w'.cell? ⟨w.heap.size + 1, 1, none⟩ = some (.int .i64 f) ∧ w'.cell? ⟨w.heap.size + 1, 2, none⟩ = some (.int .i64 g) ∧ w'.cell? ⟨w.heap.size + 1, 3, none⟩ = some (.int .i64 h))) (by kernel_rfl) (by exact tw.out.S) (fun hHeld => ?_)
   replace tw := hid tw.out.drew
   replace hG := hid hG.out.drew
   replace hH := hid hH.out.drew
   generalize wc.drew = W1 at *
   refine wpAnyH_take (i := 0) (oi := ?oi324) (v := ?v324) (fuel := 15) ?hi324 ?hs324 ?hf324 ?hr324 ?hq324 (Or.inl ⟨?hw324, ?hy324⟩) hHeld ?rest324
   case hi324 => rw [List.getElem?_toArray]; rfl
   case hq324 => exact fun _ _ _ h => h
   case hs324 | hf324 | hr324 => kernel_rfl
   case hw324 => rfl
   case hy324 => (intro w1 hSw; (try dsimp only at hSw); go_simp; try with_reducible rfl)
   try simp only [Act.put, setIfInBounds_toArray, set_cons_zero, set_cons_succ]
   refine wpAnyH_take (i := 1) (oi := ?oi325) (v := ?v325) (fuel := 14) ?hi325 ?hs325 ?hf325 ?hr325 ?hq325 (Or.inl ⟨?hw325, ?hy325⟩) hHeld ?rest325
   case hi325 => rw [List.getElem?_toArray]; rfl
   case hq325 => exact fun _ _ _ h => h
   case hs325 | hf325 | hr325 => kernel_rfl
   case hw325 => rfl
   case hy325 => (intro w1 hSw; (try dsimp only at hSw); go_simp; try with_reducible rfl)
   try simp only [Act.put, setIfInBounds_toArray, set_cons_zero, set_cons_succ]
   refine wpAnyH_take (i := 3) (oi := ?oi326) (v := ?v326) (fuel := 13) ?hi326 ?hs326 ?hf326 ?hr326 ?hq326 (Or.inl ⟨?hw326, ?hy326⟩) hHeld ?rest326
   case hi326 => rw [List.getElem?_toArray]; rfl
   case hq326 => exact fun _ _ _ h => h
   case hs326 | hf326 | hr326 => kernel_rfl
   case hw326 => rfl
   case hy326 => (intro w1 hSw; (try dsimp only at hSw); go_simp; try with_reducible rfl)
   try simp only [Act.put, setIfInBounds_toArray, set_cons_zero, set_cons_succ]
   refine wpAnyH_take (i := 5) (oi := ?oi327) (v := ?v327) (fuel := 12) ?hi327 ?hs327 ?hf327 ?hr327 ?hq327 (Or.inl ⟨?hw327, ?hy327⟩) hHeld ?rest327
   case hi327 => rw [List.getElem?_toArray]; rfl
   case hq327 => exact fun _ _ _ h => h
   case hs327 | hf327 | hr327 => kernel_rfl
   case hw327 => rfl
   case hy327 => (intro w1 hSw; (try dsimp only at hSw); go_simp; try with_reducible rfl)
   try simp only [Act.put, setIfInBounds_toArray, set_cons_zero, set_cons_succ]
   refine wpAnyH_ready (fuel := 11) (rs := [2, 11, 12]) (by kernel_rfl) (by simp) ?_
   refine AllReadyH.cons (o := ?oi328) ?hi328 (fun K hK => ?st328) ?mo328
   case hi328 => rw [List.getElem?_toArray]; rfl
   case st328 =>
    go_simp
    refine (c_toRange _ _ _ _ _).mono ?_
    rintro ee wc2 ⟨rfl, hbn⟩
    replace tw := hid (tw.out.below hbn)
    replace hG := hid (hG.out.below hbn)
    replace hH := hid (hH.out.below hbn)
    clear hbn
    go_wp2_with fail
    refine hK.out _ _ ?hS328 (fun hHeld => ?re328)
    case hS328 => exact tw.out.S
    clear hK K
    try simp only [Act.put, setIfInBounds_toArray, set_cons_zero, set_cons_succ]
    refine wpAnyH_ready (fuel := 10) (rs := [4, 11, 12]) (by kernel_rfl) (by simp) ?_
    refine AllReadyH.cons (o := ?oi329) ?hi329 (fun K hK => ?st329) ?mo329
    case hi329 => rw [List.getElem?_toArray]; rfl
    case st329 =>
     go_simp
     refine (c_toRange _ _ _ _ _).mono ?_
     rintro ee wc4 ⟨rfl, hbn⟩
     replace tw := hid (tw.out.below hbn)
     replace hG := hid (hG.out.below hbn)
     replace hH := hid (hH.out.below hbn)
     clear hbn
     go_wp2_with fail
     refine hK.out _ _ ?hS329 (fun hHeld => ?re329)
     case hS329 => exact tw.out.S
     clear hK K
     try simp only [Act.put, setIfInBounds_toArray, set_cons_zero, set_cons_succ]
     refine wpAnyH_ready (fuel := 9) (rs := [6, 11, 12]) (by kernel_rfl) (by simp) ?_
     refine AllReadyH.cons (o := ?oi330) ?hi330 (fun K hK => ?st330) ?mo330
     case hi330 => rw [List.getElem?_toArray]; rfl
     case st330 =>
      go_simp
      refine (hp.out _).mono ?_
      rintro ee wc6 ⟨rfl, hbn⟩
      replace tw := hid (tw.out.below hbn)
      replace hG := hid (hG.out.below hbn)
      replace hH := hid (hH.out.below hbn)
      clear hbn
      go_wp2_with fail
      refine hK.out _ _ ?hS330 (fun hHeld => ?re330)
      case hS330 => exact tw.out.S
      clear hK K
      try simp only [Act.put, setIfInBounds_toArray, set_cons_zero, set_cons_succ]
      refine wpAnyH_take (i := 7) (oi := ?oi331) (v := ?v331) (fuel := 8) ?hi331 ?hs331 ?hf331 ?hr331 ?hq331 (Or.inl ⟨?hw331, ?hy331⟩) hHeld ?rest331
      case hi331 => rw [List.getElem?_toArray]; rfl
      case hq331 => exact fun _ _ _ h => h
      case hs331 | hf331 | hr331 => kernel_rfl
      case hw331 => rfl
      case hy331 => (intro w1 hSw; (try dsimp only at hSw); go_simp; try with_reducible rfl)
      try simp only [Act.put, setIfInBounds_toArray, set_cons_zero, set_cons_succ]
      refine wpAnyH_take (i := 8) (oi := ?oi332) (v := ?v332) (fuel := 7) ?hi332 ?hs332 ?hf332 ?hr332 ?hq332 (Or.inl ⟨?hw332, ?hy332⟩) hHeld ?rest332
      case hi332 => rw [List.getElem?_toArray]; rfl
      case hq332 => exact fun _ _ _ h => h
      case hs332 | hf332 | hr332 => kernel_rfl
      case hw332 => rfl
      case hy332 => (intro w1 hSw; (try dsimp only at hSw); go_simp; try with_reducible rfl)
      try simp only [Act.put, setIfInBounds_toArray, set_cons_zero, set_cons_succ]
      refine wpAnyH_take (i := 9) (oi := ?oi333) (v := ?v333) (fuel := 6) ?hi333 ?hs333 ?hf333 ?hr333 ?hq333 (Or.inl ⟨?hw333, ?hy333⟩) hHeld ?rest333
      case hi333 => rw [List.getElem?_toArray]; rfl
      case hq333 => exact fun _ _ _ h => h
      case hs333 | hf333 | hr333 => kernel_rfl
      case hw333 => rfl
      case hy333 => (intro w1 hSw; (try dsimp only at hSw); go_simp; try with_reducible rfl)
      try simp only [Act.put, setIfInBounds_toArray, set_cons_zero, set_cons_succ]
      refine wpAnyH_take (i := 10) (oi := ?oi334) (v := ?v334) (fuel := 5) ?hi334 ?hs334 ?hf334 ?hr334 ?hq334 (Or.inl ⟨?hw334, ?hy334⟩) hHeld ?rest334
      case hi334 => rw [List.getElem?_toArray]; rfl
      case hq334 => exact fun _ _ _ h => h
      case hs334 | hf334 | hr334 => kernel_rfl
      case hw334 => rfl
      case hy334 => (intro w1 hSw; (try dsimp only at hSw); go_simp; try with_reducible rfl)
      try simp only [Act.put, setIfInBounds_toArray, set_cons_zero, set_cons_succ]
      refine wpAnyH_ready (fuel := 4) (rs := [11, 12]) (by kernel_rfl) (by simp) ?_
      refine AllReadyH.cons (o := ?oi335) ?hi335 (fun K hK => ?st335) ?mo335
      case hi335 => rw [List.getElem?_toArray]; rfl
      case st335 =>
       go_simp
       have kM := hid tw.out.l
       have nGM := hid hG.out.lt
       replace hG := hid (hG.out.alloc (cellsR4 0 0 0 0))
       have nHM := hid hH.out.lt
       replace hH := hid (hH.out.alloc (cellsR4 0 0 0 0))
       have hM := hid (RBox.new wc6 0 0 0 0)
       replace tw := hid (tw.out.alloc (cellsR4 0 0 0 0))
       generalize wc6.alloc (cellsR4 0 0 0 0) = wg11 at *
       refine hK.out _ _ ?hS335 (fun hHeld => ?re335)
       case hS335 => exact tw.out.S
       clear hK K
       try simp only [Act.put, setIfInBounds_toArray, set_cons_zero, set_cons_succ]
       refine wpAnyH_ready (fuel := 3) (rs := [12]) (by kernel_rfl) (by simp) ?_
       refine AllReadyH.cons (o := ?oi336) ?hi336 (fun K hK => ?st336) AllReadyH.nil
       case hi336 => rw [List.getElem?_toArray]; rfl
       go_simp
       have kL := hid tw.out.l
       have nGL := hid hG.out.lt
       replace hG := hid (hG.out.alloc (cellsR4 0 0 0 0))
       have nHL := hid hH.out.lt
       replace hH := hid (hH.out.alloc (cellsR4 0 0 0 0))
       have nML := hid hM.out.lt
       replace hM := hid (hM.out.alloc (cellsR4 0 0 0 0))
       have hL := hid (RBox.new wg11 0 0 0 0)
       replace tw := hid (tw.out.alloc (cellsR4 0 0 0 0))
       generalize wg11.alloc (cellsR4 0 0 0 0) = wg12 at *
       refine hK.out _ _ ?hS336 (fun hHeld => ?re336)
       case hS336 => exact tw.out.S
       clear hK K
       try simp only [Act.put, setIfInBounds_toArray, set_cons_zero, set_cons_succ]
       refine wpAnyH_ready (fuel := 2) (rs := [13]) (by kernel_rfl) (by simp) ?_
       refine AllReadyH.cons (o := ?oi337) ?hi337 (fun K hK => ?st337) AllReadyH.nil
       case hi337 => rw [List.getElem?_toArray]; rfl
       obtain ⟨g0, g1, g2, g3⟩ := RBox.box hM.out
       have fq := RBox.frozen hM.out
       go_simp
       clear g0 g1 g2 g3 fq
       replace hG := hid (hG.out.st4o (k := wc6.heap.size) (by have := nGM.out; omega) x y z u)
       replace hH := hid (hH.out.st4o (k := wc6.heap.size) (by have := nHM.out; omega) x y z u)
       replace hL := hid (hL.out.st4o (k := wc6.heap.size) (by have := nML.out; omega) x y z u)
       replace hM := hid (hM.out.st4 (x' := x) (y' := y) (z' := z) (u' := u))
       replace tw := hid (tw.out.st4 kM.out x y z u)
       unfold st4 at hM tw hG hH hL
       generalize ((((wg12.setCell ⟨wc6.heap.size, 0, none⟩ (.int .i64 x)).setCell ⟨wc6.heap.size, 1, none⟩ (.int .i64 y)).setCell ⟨wc6.heap.size, 2, none⟩ (.int .i64 z)).setCell ⟨wc6.heap.size, 3, none⟩ (.int .i64 u)) = ws13 at *
       refine hK.out _ _ ?hS337 (fun hHeld => ?re337)
       case hS337 => exact tw.out.S
       clear hK K
       try simp only [Act.put, setIfInBounds_toArray, set_cons_zero, set_cons_succ]
       refine wpAnyH_ready (fuel := 1) (rs := [14]) (by kernel_rfl) (by simp) ?_
       refine AllReadyH.cons (o := ?oi338) ?hi338 (fun K hK => ?st338) AllReadyH.nil
       case hi338 => rw [List.getElem?_toArray]; rfl
       obtain ⟨g0, g1, g2, g3⟩ := RBox.box hL.out
       have fq := RBox.frozen hL.out
       go_simp
       clear g0 g1 g2 g3 fq
       replace hG := hid (hG.out.st4o (k := wg11.heap.size) (by have := nGL.out; omega) x' y' z' u')
       replace hH := hid (hH.out.st4o (k := wg11.heap.size) (by have := nHL.out; omega) x' y' z' u')
       replace hM := hid (hM.out.st4o (k := wg11.heap.size) (by have := nML.out; omega) x' y' z' u')
       replace hL := hid (hL.out.st4 (x' := x') (y' := y') (z' := z') (u' := u'))
       replace tw := hid (tw.out.st4 kL.out x' y' z' u')
       unfold st4 at hL tw hG hH hM
       generalize ((((ws13.setCell ⟨wg11.heap.size, 0, none⟩ (.int .i64 x')).setCell ⟨wg11.heap.size, 1, none⟩ (.int .i64 y')).setCell ⟨wg11.heap.size, 2, none⟩ (.int .i64 z')).setCell ⟨wg11.heap.size, 3, none⟩ (.int .i64 u')) = ws14 at *
       refine hK.out _ _ ?hS338 (fun hHeld => ?re338)
       case hS338 => exact tw.out.S
       clear hK K
       try simp only [Act.put, setIfInBounds_toArray, set_cons_zero, set_cons_succ]
       refine wpAnyH_take (i := 15) (oi := ?oi339) (v := ?v339) (fuel := 0) ?hi339 ?hs339 ?hf339 ?hr339 ?hq339 (Or.inl ⟨?hw339, ?hy339⟩) hHeld ?rest339
       case hi339 => rw [List.getElem?_toArray]; rfl
       case hq339 => exact fun _ _ _ h => h
       case hs339 | hf339 | hr339 => kernel_rfl
       case hw339 => rfl
       case hy339 => (intro w1 hSw; (try dsimp only at hSw); go_simp; try with_reducible rfl)
       try simp only [Act.put, setIfInBounds_toArray, set_cons_zero, set_cons_succ]
       refine wpAnyH_done (by kernel_rfl) ?_ _
       clear hHeld
       go_wp2_with fail
       go_meet
       case rel => exact ⟨_, _, rfl, rfl, rfl, hM.out, hL.out, hG.out, hH.out, tw.out⟩
      refine AllReadyH.cons (o := ?oi340) ?hi340 (fun K hK => ?st340) ?mo340
      case hi340 => rw [List.getElem?_toArray]; rfl
      case st340 =>
       go_simp
       have kL := hid tw.out.l
       have nGL := hid hG.out.lt
       replace hG := hid (hG.out.alloc (cellsR4 0 0 0 0))
       have nHL := hid hH.out.lt
       replace hH := hid (hH.out.alloc (cellsR4 0 0 0 0))
       have hL := hid (RBox.new wc6 0 0 0 0)
       replace tw := hid (tw.out.alloc (cellsR4 0 0 0 0))
       generalize wc6.alloc (cellsR4 0 0 0 0) = wg12 at *
       refine hK.out _ _ ?hS340 (fun hHeld => ?re340)
       case hS340 => exact tw.out.S
       clear hK K
       try simp only [Act.put, setIfInBounds_toArray, set_cons_zero, set_cons_succ]
       refine wpAnyH_ready (fuel := 3) (rs := [11]) (by kernel_rfl) (by simp) ?_
       refine AllReadyH.cons (o := ?oi341) ?hi341 (fun K hK => ?st341) AllReadyH.nil
       case hi341 => rw [List.getElem?_toArray]; rfl
       go_simp
       have kM := hid tw.out.l
       have nGM := hid hG.out.lt
       replace hG := hid (hG.out.alloc (cellsR4 0 0 0 0))
       have nHM := hid hH.out.lt
       replace hH := hid (hH.out.alloc (cellsR4 0 0 0 0))
       have nLM := hid hL.out.lt
       replace hL := hid (hL.out.alloc (cellsR4 0 0 0 0))
       have hM := hid (RBox.new wg12 0 0 0 0)
       replace tw := hid (tw.out.alloc (cellsR4 0 0 0 0))
       generalize wg12.alloc (cellsR4 0 0 0 0) = wg11 at *
       refine hK.out _ _ ?hS341 (fun hHeld => ?re341)
       case hS341 => exact tw.out.S
       clear hK K
       try simp only [Act.put, setIfInBounds_toArray, set_cons_zero, set_cons_succ]
       refine wpAnyH_ready (fuel := 2) (rs := [13]) (by kernel_rfl) (by simp) ?_
       refine AllReadyH.cons (o := ?oi342) ?hi342 (fun K hK => ?st342) AllReadyH.nil
       case hi342 => rw [List.getElem?_toArray]; rfl
       obtain ⟨g0, g1, g2, g3⟩ := RBox.box hM.out
       have fq := RBox.frozen hM.out
       go_simp
       clear g0 g1 g2 g3 fq
       replace hG := hid (hG.out.st4o (k := wg12.heap.size) (by have := nGM.out; omega) x y z u)
       replace hH := hid (hH.out.st4o (k := wg12.heap.size) (by have := nHM.out; omega) x y z u)
       replace hL := hid (hL.out.st4o (k := wg12.heap.size) (by have := nLM.out; omega) x y z u)
       replace hM := hid (hM.out.st4 (x' := x) (y' := y) (z' := z) (u' := u))
       replace tw := hid (tw.out.st4 kM.out x y z u)
       unfold st4 at hM tw hG hH hL
       generalize ((((wg11.setCell ⟨wg12.heap.size, 0, none⟩ (.int .i64 x)).setCell ⟨wg12.heap.size, 1, none⟩ (.int .i64 y)).setCell ⟨wg12.heap.size, 2, none⟩ (.int .i64 z)).setCell ⟨wg12.heap.size, 3, none⟩ (.int .i64 u)) = ws13 at *
       refine hK.out _ _ ?hS342 (fun hHeld => ?re342)
       case hS342 => exact tw.out.S
       clear hK K
       try simp only [Act.put, setIfInBounds_toArray, set_cons_zero, set_cons_succ]
       refine wpAnyH_ready (fuel := 1) (rs := [14]) (by kernel_rfl) (by simp) ?_
       refine AllReadyH.cons (o := ?oi343) ?hi343 (fun K hK => ?st343) AllReadyH.nil
       case hi343 => rw [List.getElem?_toArray]; rfl
       obtain ⟨g0, g1, g2, g3⟩ := RBox.box hL.out
       have fq := RBox.frozen hL.out
       go_simp
       clear g0 g1 g2 g3 fq
       replace hG := hid (hG.out.st4o (k := wc6.heap.size) (by have := nGL.out; omega) x' y' z' u')
       replace hH := hid (hH.out.st4o (k := wc6.heap.size) (by have := nHL.out; omega) x' y' z' u')
       replace hM := hid (hM.out.st4o (k := wc6.heap.size) (by have := nLM.out; omega) x' y' z' u')
       replace hL := hid (hL.out.st4 (x' := x') (y' := y') (z' := z') (u' := u'))
       replace tw := hid (tw.out.st4 kL.out x' y' z' u')
       unfold st4 at hL tw hG hH hM
       generalize ((((ws13.setCell ⟨wc6.heap.size, 0, none⟩ (.int .i64 x')).setCell ⟨wc6.heap.size, 1, none⟩ (.int .i64 y')).setCell ⟨wc6.heap.size, 2, none⟩ (.int .i64 z')).setCell ⟨wc6.heap.size, 3, none⟩ (.int .i64 u')) = ws14 at *
       refine hK.out _ _ ?hS343 (fun hHeld => ?re343)
       case hS343 => exact tw.out.S
       clear hK K
       try simp only [Act.put, setIfInBounds_toArray, set_cons_zero, set_cons_succ]
       refine wpAnyH_take (i := 15) (oi := ?oi344) (v := ?v344) (fuel := 0) ?hi344 ?hs344 ?hf344 ?hr344 ?hq344 (Or.inl ⟨?hw344, ?hy344⟩) hHeld ?rest344
       case hi344 => rw [List.getElem?_toArray]; rfl
       case hq344 => exact fun _ _ _ h => h
       case hs344 | hf344 | hr344 => kernel_rfl
       case hw344 => rfl
       case hy344 => (intro w1 hSw; (try dsimp only at hSw); go_simp; try with_reducible rfl)
       try simp only [Act.put, setIfInBounds_toArray, set_cons_zero, set_cons_succ]
       refine wpAnyH_done (by kernel_rfl) ?_ _
       clear hHeld
       go_wp2_with fail
       go_meet
       case rel => exact ⟨_, _, rfl, rfl, rfl, hM.out, hL.out, hG.out, hH.out, tw.out⟩
      exact AllReadyH.nil
     refine AllReadyH.cons (o := ?oi345) ?hi345 (fun K hK => ?st345) ?mo345
     case hi345 => rw [List.getElem?_toArray]; rfl
     case st345 =>
      go_simp
      have kM := hid tw.out.l
      have nGM := hid hG.out.lt
      replace hG := hid (hG.out.alloc (cellsR4 0 0 0 0))
      have nHM := hid hH.out.lt
      replace hH := hid (hH.out.alloc (cellsR4 0 0 0 0))
      have hM := hid (RBox.new wc4 0 0 0 0)
      replace tw := hid (tw.out.alloc (cellsR4 0 0 0 0))
      generalize wc4.alloc (cellsR4 0 0 0 0) = wg11 at *
      refine hK.out _ _ ?hS345 (fun hHeld => ?re345)
      case hS345 => exact tw.out.S
      clear hK K
      try simp only [Act.put, setIfInBounds_toArray, set_cons_zero, set_cons_succ]
      refine wpAnyH_ready (fuel := 8) (rs := [6, 12]) (by kernel_rfl) (by simp) ?_
      refine AllReadyH.cons (o := ?oi346) ?hi346 (fun K hK => ?st346) ?mo346
      case hi346 => rw [List.getElem?_toArray]; rfl
      case st346 =>
       go_simp
       refine (hp.out _).mono ?_
       rintro ee wc6 ⟨rfl, hbn⟩
       replace tw := hid (tw.out.below hbn)
       replace hG := hid (hG.out.below hbn)
       replace hH := hid (hH.out.below hbn)
       replace hM := hid (hM.out.below hbn)
       clear hbn
       go_wp2_with fail
       refine hK.out _ _ ?hS346 (fun hHeld => ?re346)
       case hS346 => exact tw.out.S
       clear hK K
       try simp only [Act.put, setIfInBounds_toArray, set_cons_zero, set_cons_succ]
       refine wpAnyH_take (i := 7) (oi := ?oi347) (v := ?v347) (fuel := 7) ?hi347 ?hs347 ?hf347 ?hr347 ?hq347 (Or.inl ⟨?hw347, ?hy347⟩) hHeld ?rest347
       case hi347 => rw [List.getElem?_toArray]; rfl
       case hq347 => exact fun _ _ _ h => h
       case hs347 | hf347 | hr347 => kernel_rfl
       case hw347 => rfl
       case hy347 => (intro w1 hSw; (try dsimp only at hSw); go_simp; try with_reducible rfl)
       try simp only [Act.put, setIfInBounds_toArray, set_cons_zero, set_cons_succ]
       refine wpAnyH_take (i := 8) (oi := ?oi348) (v := ?v348) (fuel := 6) ?hi348 ?hs348 ?hf348 ?hr348 ?hq348 (Or.inl ⟨?hw348, ?hy348⟩) hHeld ?rest348
       case hi348 => rw [List.getElem?_toArray]; rfl
       case hq348 => exact fun _ _ _ h => h
       case hs348 | hf348 | hr348 => kernel_rfl
       case hw348 => rfl
       case hy348 => (intro w1 hSw; (try dsimp only at hSw); go_simp; try with_reducible rfl)
       try simp only [Act.put, setIfInBounds_toArray, set_cons_zero, set_cons_succ]
       refine wpAnyH_take (i := 9) (oi := ?oi349) (v := ?v349) (fuel := 5) ?hi349 ?hs349 ?hf349 ?hr349 ?hq349 (Or.inl ⟨?hw349, ?hy349⟩) hHeld ?rest349
       case hi349 => rw [List.getElem?_toArray]; rfl
       case hq349 => exact fun _ _ _ h => h
       case hs349 | hf349 | hr349 => kernel_rfl
       case hw349 => rfl
       case hy349 => (intro w1 hSw; (try dsimp only at hSw); go_simp; try with_reducible rfl)
       try simp only [Act.put, setIfInBounds_toArray, set_cons_zero, set_cons_succ]
       refine wpAnyH_take (i := 10) (oi := ?oi350) (v := ?v350) (fuel := 4) ?hi350 ?hs350 ?hf350 ?hr350 ?hq350 (Or.inl ⟨?hw350, ?hy350⟩) hHeld ?rest350
       case hi350 => rw [List.getElem?_toArray]; rfl
       case hq350 => exact fun _ _ _ h => h
       case hs350 | hf350 | hr350 => kernel_rfl
       case hw350 => rfl
       case hy350 => (intro w1 hSw; (try dsimp only at hSw); go_simp; try with_reducible rfl)
       try simp only [Act.put, setIfInBounds_toArray, set_cons_zero, set_cons_succ]
       refine wpAnyH_ready (fuel := 3) (rs := [12]) (by kernel_rfl) (by simp) ?_
       refine AllReadyH.cons (o := ?oi351) ?hi351 (fun K hK => ?st351) AllReadyH.nil
       case hi351 => rw [List.getElem?_toArray]; rfl
       go_simp
       have kL := hid tw.out.l
       have nGL := hid hG.out.lt
       replace hG := hid (hG.out.alloc (cellsR4 0 0 0 0))
       have nHL := hid hH.out.lt
       replace hH := hid (hH.out.alloc (cellsR4 0 0 0 0))
       have nML := hid hM.out.lt
       replace hM := hid (hM.out.alloc (cellsR4 0 0 0 0))
       have hL := hid (RBox.new wc6 0 0 0 0)
       replace tw := hid (tw.out.alloc (cellsR4 0 0 0 0))
       generalize wc6.alloc (cellsR4 0 0 0 0) = wg12 at *
       refine hK.out _ _ ?hS351 (fun hHeld => ?re351)
       case hS351 => exact tw.out.S
       clear hK K
       try simp only [Act.put, setIfInBounds_toArray, set_cons_zero, set_cons_succ]
       refine wpAnyH_ready (fuel := 2) (rs := [13]) (by kernel_rfl) (by simp) ?_
       refine AllReadyH.cons (o := ?oi352) ?hi352 (fun K hK => ?st352) AllReadyH.nil
       case hi352 => rw [List.getElem?_toArray]; rfl
       obtain ⟨g0, g1, g2, g3⟩ := RBox.box hM.out
       have fq := RBox.frozen hM.out
       go_simp
       clear g0 g1 g2 g3 fq
       replace hG := hid (hG.out.st4o (k := wc4.heap.size) (by have := nGM.out; omega) x y z u)
       replace hH := hid (hH.out.st4o (k := wc4.heap.size) (by have := nHM.out; omega) x y z u)
       replace hL := hid (hL.out.st4o (k := wc4.heap.size) (by have := nML.out; omega) x y z u)
       replace hM := hid (hM.out.st4 (x' := x) (y' := y) (z' := z) (u' := u))
       replace tw := hid (tw.out.st4 kM.out x y z u)
       unfold st4 at hM tw hG hH hL
       generalize ((((wg12.setCell ⟨wc4.heap.size, 0, none⟩ (.int .i64 x)).setCell ⟨wc4.heap.size, 1, none⟩ (.int .i64 y)).setCell ⟨wc4.heap.size, 2, none⟩ (.int .i64 z)).setCell ⟨wc4.heap.size, 3, none⟩ (.int .i64 u)) = ws13 at *
       refine hK.out _ _ ?hS352 (fun hHeld => ?re352)
       case hS352 => exact tw.out.S
       clear hK K
       try simp only [Act.put, setIfInBounds_toArray, set_cons_zero, set_cons_succ]
       refine wpAnyH_ready (fuel := 1) (rs := [14]) (by kernel_rfl) (by simp) ?_
       refine AllReadyH.cons (o := ?oi353) ?hi353 (fun K hK => ?st353) AllReadyH.nil
       case hi353 => rw [List.getElem?_toArray]; rfl
       obtain ⟨g0, g1, g2, g3⟩ := RBox.box hL.out
       have fq := RBox.frozen hL.out
       go_simp
       clear g0 g1 g2 g3 fq
       replace hG := hid (hG.out.st4o (k := wc6.heap.size) (by have := nGL.out; omega) x' y' z' u')
       replace hH := hid (hH.out.st4o (k := wc6.heap.size) (by have := nHL.out; omega) x' y' z' u')
       replace hM := hid (hM.out.st4o (k := wc6.heap.size) (by have := nML.out; omega) x' y' z' u')
       replace hL := hid (hL.out.st4 (x' := x') (y' := y') (z' := z') (u' := u'))
       replace tw := hid (tw.out.st4 kL.out x' y' z' u')
       unfold st4 at hL tw hG hH hM
       generalize ((((ws13.setCell ⟨wc6.heap.size, 0, none⟩ (.int .i64 x')).setCell ⟨wc6.heap.size, 1, none⟩ (.int .i64 y')).setCell ⟨wc6.heap.size, 2, none⟩ (.int .i64 z')).setCell ⟨wc6.heap.size, 3, none⟩ (.int .i64 u')) = ws14 at *
       refine hK.out _ _ ?hS353 (fun hHeld => ?re353)
       case hS353 => exact tw.out.S
       clear hK K
       try simp only [Act.put, setIfInBounds_toArray, set_cons_zero, set_cons_succ]
       refine wpAnyH_take (i := 15) (oi := ?oi354) (v := ?v354) (fuel := 0) ?hi354 ?hs354 ?hf354 ?hr354 ?hq354 (Or.inl ⟨?hw354, ?hy354⟩) hHeld ?rest354
       case hi354 => rw [List.getElem?_toArray]; rfl
       case hq354 => exact fun _ _ _ h => h
       case hs354 | hf354 | hr354 => kernel_rfl
       case hw354 => rfl
       case hy354 => (intro w1 hSw; (try dsimp only at hSw); go_simp; try with_reducible rfl)
       try simp only [Act.put, setIfInBounds_toArray, set_cons_zero, set_cons_succ]
       refine wpAnyH_done (by kernel_rfl) ?_ _
       clear hHeld
       go_wp2_with fail
       go_meet
       case rel => exact ⟨_, _, rfl, rfl, rfl, hM.out, hL.out, hG.out, hH.out, tw.out⟩
      refine AllReadyH.cons (o := ?oi355) ?hi355 (fun K hK => ?st355) ?mo355
      case hi355 => rw [List.getElem?_toArray]; rfl
      case st355 =>
       go_simp
       have kL := hid tw.out.l
       have nGL := hid hG.out.lt
       replace hG := hid (hG.out.alloc (cellsR4 0 0 0 0))
       have nHL := hid hH.out.lt
       replace hH := hid (hH.out.alloc (cellsR4 0 0 0 0))
       have nML := hid hM.out.lt
       replace hM := hid (hM.out.alloc (cellsR4 0 0 0 0))
       have hL := hid (RBox.new wg11 0 0 0 0)
       replace tw := hid (tw.out.alloc (cellsR4 0 0 0 0))
       generalize wg11.alloc (cellsR4 0 0 0 0) = wg12 at *
       refine hK.out _ _ ?hS355 (fun hHeld => ?re355)
       case hS355 => exact tw.out.S
       clear hK K
       try simp only [Act.put, setIfInBounds_toArray, set_cons_zero, set_cons_succ]
       refine wpAnyH_ready (fuel := 7) (rs := [6]) (by kernel_rfl) (by simp) ?_
       refine AllReadyH.cons (o := ?oi356) ?hi356 (fun K hK => ?st356) AllReadyH.nil
       case hi356 => rw [List.getElem?_toArray]; rfl
       go_simp
       refine (hp.out _).mono ?_
       rintro ee wc6 ⟨rfl, hbn⟩
       replace tw := hid (tw.out.below hbn)
       replace hG := hid (hG.out.below hbn)
       replace hH := hid (hH.out.below hbn)
       replace hM := hid (hM.out.below hbn)
       replace hL := hid (hL.out.below hbn)
       clear hbn
       go_wp2_with fail
       refine hK.out _ _ ?hS356 (fun hHeld => ?re356)
       case hS356 => exact tw.out.S
       clear hK K
       try simp only [Act.put, setIfInBounds_toArray, set_cons_zero, set_cons_succ]
       refine wpAnyH_take (i := 7) (oi := ?oi357) (v := ?v357) (fuel := 6) ?hi357 ?hs357 ?hf357 ?hr357 ?hq357 (Or.inl ⟨?hw357, ?hy357⟩) hHeld ?rest357
       case hi357 => rw [List.getElem?_toArray]; rfl
       case hq357 => exact fun _ _ _ h => h
       case hs357 | hf357 | hr357 => kernel_rfl
       case hw357 => rfl
       case hy357 => (intro w1 hSw; (try dsimp only at hSw); go_simp; try with_reducible rfl)
       try simp only [Act.put, setIfInBounds_toArray, set_cons_zero, set_cons_succ]
       refine wpAnyH_take (i := 8) (oi := ?oi358) (v := ?v358) (fuel := 5) ?hi358 ?hs358 ?hf358 ?hr358 ?hq358 (Or.inl ⟨?hw358, ?hy358⟩) hHeld ?rest358
       case hi358 => rw [List.getElem?_toArray]; rfl
       case hq358 => exact fun _ _ _ h => h
       case hs358 | hf358 | hr358 => kernel_rfl
       case hw358 => rfl
       case hy358 => (intro w1 hSw; (try dsimp only at hSw); go_simp; try with_reducible rfl)
       try simp only [Act.put, setIfInBounds_toArray, set_cons_zero, set_cons_succ]
       refine wpAnyH_take (i := 9) (oi := ?oi359) (v := ?v359) (fuel := 4) ?hi359 ?hs359 ?hf359 ?hr359 ?hq359 (Or.inl ⟨?hw359, ?hy359⟩) hHeld ?rest359
       case hi359 => rw [List.getElem?_toArray]; rfl
       case hq359 => exact fun _ _ _ h => h
       case hs359 | hf359 | hr359 => kernel_rfl
       case hw359 => rfl
       case hy359 => (intro w1 hSw; (try dsimp only at hSw); go_simp; try with_reducible rfl)
       try simp only [Act.put, setIfInBounds_toArray, set_cons_zero, set_cons_succ]
       refine wpAnyH_take (i := 10) (oi := ?oi360) (v := ?v360) (fuel := 3) ?hi360 ?hs360 ?hf360 ?hr360 ?hq360 (Or.inl ⟨?hw360, ?hy360⟩) hHeld ?rest360
       case hi360 => rw [List.getElem?_toArray]; rfl
       case hq360 => exact fun _ _ _ h => h
       case hs360 | hf360 | hr360 => kernel_rfl
       case hw360 => rfl
       case hy360 => (intro w1 hSw; (try dsimp only at hSw); go_simp; try with_reducible rfl)
       try simp only [Act.put, setIfInBounds_toArray, set_cons_zero, set_cons_succ]
       refine wpAnyH_ready (fuel := 2) (rs := [13]) (by kernel_rfl) (by simp) ?_
       refine AllReadyH.cons (o := ?oi361) ?hi361 (fun K hK => ?st361) AllReadyH.nil
       case hi361 => rw [List.getElem?_toArray]; rfl
       obtain ⟨g0, g1, g2, g3⟩ := RBox.box hM.out
       have fq := RBox.frozen hM.out
       go_simp
       clear g0 g1 g2 g3 fq
       replace hG := hid (hG.out.st4o (k := wc4.heap.size) (by have := nGM.out; omega) x y z u)
       replace hH := hid (hH.out.st4o (k := wc4.heap.size) (by have := nHM.out; omega) x y z u)
       replace hL := hid (hL.out.st4o (k := wc4.heap.size) (by have := nML.out; omega) x y z u)
       replace hM := hid (hM.out.st4 (x' := x) (y' := y) (z' := z) (u' := u))
       replace tw := hid (tw.out.st4 kM.out x y z u)
       unfold st4 at hM tw hG hH hL
       generalize ((((wc6.setCell ⟨wc4.heap.size, 0, none⟩ (.int .i64 x)).setCell ⟨wc4.heap.size, 1, none⟩ (.int .i64 y)).setCell ⟨wc4.heap.size, 2, none⟩ (.int .i64 z)).setCell ⟨wc4.heap.size, 3, none⟩ (.int .i64 u)) = ws13 at *
       refine hK.out _ _ ?hS361 (fun hHeld => ?re361)
       case hS361 => exact tw.out.S
       clear hK K
       try simp only [Act.put, setIfInBounds_toArray, set_cons_zero, set_cons_succ]
       refine wpAnyH_ready (fuel := 1) (rs := [14]) (by kernel_rfl) (by simp) ?_
       refine AllReadyH.cons (o := ?oi362) ?hi362 (fun K hK => ?st362) AllReadyH.nil
       case hi362 => rw [List.getElem?_toArray]; rfl
       obtain ⟨g0, g1, g2, g3⟩ := RBox.box hL.out
       have fq := RBox.frozen hL.out
       go_simp
       clear g0 g1 g2 g3 fq
       replace hG := hid (hG.out.st4o (k := wg11.heap.size) (by have := nGL.out; omega) x' y' z' u')
       replace hH := hid (hH.out.st4o (k := wg11.heap.size) (by have := nHL.out; omega) x' y' z' u')
       replace hM := hid (hM.out.st4o (k := wg11.heap.size) (by have := nML.out; omega) x' y' z' u')
       replace hL := hid (hL.out.st4 (x' := x') (y' := y') (z' := z') (u' := u'))
       replace tw := hid (tw.out.st4 kL.out x' y' z' u')
       unfold st4 at hL tw hG hH hM
       generalize ((((ws13.setCell ⟨wg11.heap.size, 0, none⟩ (.int .i64 x')).setCell ⟨wg11.heap.size, 1, none⟩ (.int .i64 y')).setCell ⟨wg11.heap.size, 2, none⟩ (.int .i64 z')).setCell ⟨wg11.heap.size, 3, none⟩ (.int .i64 u')) = ws14 at *
       refine hK.out _ _ ?hS362 (fun hHeld => ?re362)
       case hS362 => exact tw.out.S
       clear hK K
       try simp only [Act.put, setIfInBounds_toArray, set_cons_zero, set_cons_succ]
       refine wpAnyH_take (i := 15) (oi := ?oi363) (v := ?v363) (fuel := 0) ?hi363 ?hs363 ?hf363 ?hr363 ?hq363 (Or.inl ⟨?hw363, ?hy363⟩) hHeld ?rest363
       case hi363 => rw [List.getElem?_toArray]; rfl
       case hq363 => exact fun _ _ _ h => h
       case hs363 | hf363 | hr363 => kernel_rfl
       case hw363 => rfl
       case hy363 => (intro w1 hSw; (try dsimp only at hSw); go_simp; try with_reducible rfl)
       try simp only [Act.put, setIfInBounds_toArray, set_cons_zero, set_cons_succ]
       refine wpAnyH_done (by kernel_rfl) ?_ _
       clear hHeld
       go_wp2_with fail
       go_meet
       case rel => exact ⟨_, _, rfl, rfl, rfl, hM.out, hL.out, hG.out, hH.out, tw.out⟩
      exact AllReadyH.nil
     refine AllReadyH.cons (o := ?oi364) ?hi364 (fun K hK => ?st364) ?mo364
     case hi364 => rw [List.getElem?_toArray]; rfl
     case st364 =>
      go_simp
      have kL := hid tw.out.l
      have nGL := hid hG.out.lt
      replace hG := hid (hG.out.alloc (cellsR4 0 0 0 0))
      have nHL := hid hH.out.lt
      replace hH := hid (hH.out.alloc (cellsR4 0 0 0 0))
      have hL := hid (RBox.new wc4 0 0 0 0)
      replace tw := hid (tw.out.alloc (cellsR4 0 0 0 0))
      generalize wc4.alloc (cellsR4 0 0 0 0) = wg12 at *
      refine hK.out _ _ ?hS364 (fun hHeld => ?re364)
      case hS364 => exact tw.out.S
      clear hK K
      try simp only [Act.put, setIfInBounds_toArray, set_cons_zero, set_cons_succ]
      refine wpAnyH_ready (fuel := 8) (rs := [6, 11]) (by kernel_rfl) (by simp) ?_
      refine AllReadyH.cons (o := ?oi365) ?hi365 (fun K hK => ?st365) ?mo365
      case hi365 => rw [List.getElem?_toArray]; rfl
      case st365 =>
       go_simp
       refine (hp.out _).mono ?_
       rintro ee wc6 ⟨rfl, hbn⟩
       replace tw := hid (tw.out.below hbn)
       replace hG := hid (hG.out.below hbn)
       replace hH := hid (hH.out.below hbn)
       replace hL := hid (hL.out.below hbn)
       clear hbn
       go_wp2_with fail
       refine hK.out _ _ ?hS365 (fun hHeld => ?re365)
       case hS365 => exact tw.out.S
       clear hK K
       try simp only [Act.put, setIfInBounds_toArray, set_cons_zero, set_cons_succ]
       refine wpAnyH_take (i := 7) (oi := ?oi366) (v := ?v366) (fuel := 7) ?hi366 ?hs366 ?hf366 ?hr366 ?hq366 (Or.inl ⟨?hw366, ?hy366⟩) hHeld ?rest366
       case hi366 => rw [List.getElem?_toArray]; rfl
       case hq366 => exact fun _ _ _ h => h
       case hs366 | hf366 | hr366 => kernel_rfl
       case hw366 => rfl
       case hy366 => (intro w1 hSw; (try dsimp only at hSw); go_simp; try with_reducible rfl)
       try simp only [Act.put, setIfInBounds_toArray, set_cons_zero, set_cons_succ]
       refine wpAnyH_take (i := 8) (oi := ?oi367) (v := ?v367) (fuel := 6) ?hi367 ?hs367 ?hf367 ?hr367 ?hq367 (Or.inl ⟨?hw367, ?hy367⟩) hHeld ?rest367
       case hi367 => rw [List.getElem?_toArray]; rfl
       case hq367 => exact fun _ _ _ h => h
       case hs367 | hf367 | hr367 => kernel_rfl
       case hw367 => rfl
       case hy367 => (intro w1 hSw; (try dsimp only at hSw); go_simp; try with_reducible rfl)
       try simp only [Act.put, setIfInBounds_toArray, set_cons_zero, set_cons_succ]
       refine wpAnyH_take (i := 9) (oi := ?oi368) (v := ?v368) (fuel := 5) ?hi368 ?hs368 ?hf368 ?hr368 ?hq368 (Or.inl ⟨?hw368, ?hy368⟩) hHeld ?rest368
       case hi368 => rw [List.getElem?_toArray]; rfl
       case hq368 => exact fun _ _ _ h => h
       case hs368 | hf368 | hr368 => kernel_rfl
       case hw368 => rfl
       case hy368 => (intro w1 hSw; (try dsimp only at hSw); go_simp; try with_reducible rfl)
       try simp only [Act.put, setIfInBounds_toArray, set_cons_zero, set_cons_succ]
       refine wpAnyH_take (i := 10) (oi := ?oi369) (v := ?v369) (fuel := 4) ?hi369 ?hs369 ?hf369 ?hr369 ?hq369 (Or.inl ⟨?hw369, ?hy369⟩) hHeld ?rest369
       case hi369 => rw [List.getElem?_toArray]; rfl
       case hq369 => exact fun _ _ _ h => h
       case hs369 | hf369 | hr369 => kernel_rfl
       case hw369 => rfl
       case hy369 => (intro w1 hSw; (try dsimp only at hSw); go_simp; try with_reducible rfl)
       try simp only [Act.put, setIfInBounds_toArray, set_cons_zero, set_cons_succ]
       refine wpAnyH_ready (fuel := 3) (rs := [11]) (by kernel_rfl) (by simp) ?_
       refine AllReadyH.cons (o := ?oi370) ?hi370 (fun K hK => ?st370) AllReadyH.nil
       case hi370 => rw [List.getElem?_toArray]; rfl
       go_simp
       have kM := hid tw.out.l
       have nGM := hid hG.out.lt
       replace hG := hid (hG.out.alloc (cellsR4 0 0 0 0))
       have nHM := hid hH.out.lt
       replace hH := hid (hH.out.alloc (cellsR4 0 0 0 0))
       have nLM := hid hL.out.lt
       replace hL := hid (hL.out.alloc (cellsR4 0 0 0 0))
       have hM := hid (RBox.new wc6 0 0 0 0)
       replace tw := hid (tw.out.alloc (cellsR4 0 0 0 0))
       generalize wc6.alloc (cellsR4 0 0 0 0) = wg11 at *
       refine hK.out _ _ ?hS370 (fun hHeld => ?re370)
       case hS370 => exact tw.out.S
       clear hK K
       try simp only [Act.put, setIfInBounds_toArray, set_cons_zero, set_cons_succ]
       refine wpAnyH_ready (fuel := 2) (rs := [13]) (by kernel_rfl) (by simp) ?_
       refine AllReadyH.cons (o := ?oi371) ?hi371 (fun K hK => ?st371) AllReadyH.nil
       case hi371 => rw [List.getElem?_toArray]; rfl
       obtain ⟨g0, g1, g2, g3⟩ := RBox.box hM.out
       have fq := RBox.frozen hM.out
       go_simp
       clear g0 g1 g2 g3 fq
       replace hG := hid (hG.out.st4o (k := wc6.heap.size) (by have := nGM.out; omega) x y z u)
       replace hH := hid (hH.out.st4o (k := wc6.heap.size) (by have := nHM.out; omega) x y z u)
       replace hL := hid (hL.out.st4o (k := wc6.heap.size) (by have := nLM.out; omega) x y z u)
       replace hM := hid (hM.out.st4 (x' := x) (y' := y) (z' := z) (u' := u))
       replace tw := hid (tw.out.st4 kM.out x y z u)
       unfold st4 at hM tw hG hH hL
       generalize ((((wg11.setCell ⟨wc6.heap.size, 0, none⟩ (.int .i64 x)).setCell ⟨wc6.heap.size, 1, none⟩ (.int .i64 y)).setCell ⟨wc6.heap.size, 2, none⟩ (.int .i64 z)).setCell ⟨wc6.heap.size, 3, none⟩ (.int .i64 u)) = ws13 at *
       refine hK.out _ _ ?hS371 (fun hHeld => ?re371)
       case hS371 => exact tw.out.S
       clear hK K
       try simp only [Act.put, setIfInBounds_toArray, set_cons_zero, set_cons_succ]
       refine wpAnyH_ready (fuel := 1) (rs := [14]) (by kernel_rfl) (by simp) ?_
       refine AllReadyH.cons (o := ?oi372) ?hi372 (fun K hK => ?st372) AllReadyH.nil
       case hi372 => rw [List.getElem?_toArray]; rfl
       obtain ⟨g0, g1, g2, g3⟩ := RBox.box hL.out
       have fq := RBox.frozen hL.out
       go_simp
       clear g0 g1 g2 g3 fq
       replace hG := hid (hG.out.st4o (k := wc4.heap.size) (by have := nGL.out; omega) x' y' z' u')
       replace hH := hid (hH.out.st4o (k := wc4.heap.size) (by have := nHL.out; omega) x' y' z' u')
       replace hM := hid (hM.out.st4o (k := wc4.heap.size) (by have := nLM.out; omega) x' y' z' u')
       replace hL := hid (hL.out.st4 (x' := x') (y' := y') (z' := z') (u' := u'))
       replace tw := hid (tw.out.st4 kL.out x' y' z' u')
       unfold st4 at hL tw hG hH hM
       generalize ((((ws13.setCell ⟨wc4.heap.size, 0, none⟩ (.int .i64 x')).setCell ⟨wc4.heap.size, 1, none⟩ (.int .i64 y')).setCell ⟨wc4.heap.size, 2, none⟩ (.int .i64 z')).setCell ⟨wc4.heap.size, 3, none⟩ (.int .i64 u')) = ws14 at *
       refine hK.out _ _ ?hS372 (fun hHeld => ?re372)
       case hS372 => exact tw.out.S
       clear hK K
       try simp only [Act.put, setIfInBounds_toArray, set_cons_zero, set_cons_succ]
       refine wpAnyH_take (i := 15) (oi := ?oi373) (v := ?v373) (fuel := 0) ?hi373 ?hs373 ?hf373 ?hr373 ?hq373 (Or.inl ⟨?hw373, ?hy373⟩) hHeld ?rest373
       case hi373 => rw [List.getElem?_toArray]; rfl
       case hq373 => exact fun _ _ _ h => h
       case hs373 | hf373 | hr373 => kernel_rfl
       case hw373 => rfl
       case hy373 => (intro w1 hSw; (try dsimp only at hSw); go_simp; try with_reducible rfl)
       try simp only [Act.put, setIfInBounds_toArray, set_cons_zero, set_cons_succ]
       refine wpAnyH_done (by kernel_rfl) ?_ _
       clear hHeld
       go_wp2_with fail
       go_meet
       case rel => exact ⟨_, _, rfl, rfl, rfl, hM.out, hL.out, hG.out, hH.out, tw.out⟩
      refine AllReadyH.cons (o := ?oi374) ?hi374 (fun K hK => ?st374) ?mo374
      case hi374 => rw [List.getElem?_toArray]; rfl
      case st374 =>
       go_simp
       have kM := hid tw.out.l
       have nGM := hid hG.out.lt
       replace hG := hid (hG.out.alloc (cellsR4 0 0 0 0))
       have nHM := hid hH.out.lt
       replace hH := hid (hH.out.alloc (cellsR4 0 0 0 0))
       have nLM := hid hL.out.lt
       replace hL := hid (hL.out.alloc (cellsR4 0 0 0 0))
       have hM := hid (RBox.new wg12 0 0 0 0)
       replace tw := hid (tw.out.alloc (cellsR4 0 0 0 0))
       generalize wg12.alloc (cellsR4 0 0 0 0) = wg11 at *
       refine hK.out _ _ ?hS374 (fun hHeld => ?re374)
       case hS374 => exact tw.out.S
       clear hK K
       try simp only [Act.put, setIfInBounds_toArray, set_cons_zero, set_cons_succ]
       refine wpAnyH_ready (fuel := 7) (rs := [6]) (by kernel_rfl) (by simp) ?_
       refine AllReadyH.cons (o := ?oi375) ?hi375 (fun K hK => ?st375) AllReadyH.nil
       case hi375 => rw [List.getElem?_toArray]; rfl
       go_simp
       refine (hp.out _).mono ?_
       rintro ee wc6 ⟨rfl, hbn⟩
       replace tw := hid (tw.out.below hbn)
       replace hG := hid (hG.out.below hbn)
       replace hH := hid (hH.out.below hbn)
       replace hL := hid (hL.out.below hbn)
       replace hM := hid (hM.out.below hbn)
       clear hbn
       go_wp2_with fail
       refine hK.out _ _ ?hS375 (fun hHeld => ?re375)
       case hS375 => exact tw.out.S
       clear hK K
       try simp only [Act.put, setIfInBounds_toArray, set_cons_zero, set_cons_succ]
       refine wpAnyH_take (i := 7) (oi := ?oi376) (v := ?v376) (fuel := 6) ?hi376 ?hs376 ?hf376 ?hr376 ?hq376 (Or.inl ⟨?hw376, ?hy376⟩) hHeld ?rest376
       case hi376 => rw [List.getElem?_toArray]; rfl
       case hq376 => exact fun _ _ _ h => h
       case hs376 | hf376 | hr376 => kernel_rfl
       case hw376 => rfl
       case hy376 => (intro w1 hSw; (try dsimp only at hSw); go_simp; try with_reducible rfl)
       try simp only [Act.put, setIfInBounds_toArray, set_cons_zero, set_cons_succ]
       refine wpAnyH_take (i := 8) (oi := ?oi377) (v := ?v377) (fuel := 5) ?hi377 ?hs377 ?hf377 ?hr377 ?hq377 (Or.inl ⟨?hw377, ?hy377⟩) hHeld ?rest377
       case hi377 => rw [List.getElem?_toArray]; rfl
       case hq377 => exact fun _ _ _ h => h
       case hs377 | hf377 | hr377 => kernel_rfl
       case hw377 => rfl
       case hy377 => (intro w1 hSw; (try dsimp only at hSw); go_simp; try with_reducible rfl)
       try simp only [Act.put, setIfInBounds_toArray, set_cons_zero, set_cons_succ]
       refine wpAnyH_take (i := 9) (oi := ?oi378) (v := ?v378) (fuel := 4) ?hi378 ?hs378 ?hf378 ?hr378 ?hq378 (Or.inl ⟨?hw378, ?hy378⟩) hHeld ?rest378
       case hi378 => rw [List.getElem?_toArray]; rfl
       case hq378 => exact fun _ _ _ h => h
       case hs378 | hf378 | hr378 => kernel_rfl
       case hw378 => rfl
       case hy378 => (intro w1 hSw; (try dsimp only at hSw); go_simp; try with_reducible rfl)
       try simp only [Act.put, setIfInBounds_toArray, set_cons_zero, set_cons_succ]
       refine wpAnyH_take (i := 10) (oi := ?oi379) (v := ?v379) (fuel := 3) ?hi379 ?hs379 ?hf379 ?hr379 ?hq379 (Or.inl ⟨?hw379, ?hy379⟩) hHeld ?rest379
       case hi379 => rw [List.getElem?_toArray]; rfl
       case hq379 => exact fun _ _ _ h => h
       case hs379 | hf379 | hr379 => kernel_rfl
       case hw379 => rfl
       case hy379 => (intro w1 hSw; (try dsimp only at hSw); go_simp; try with_reducible rfl)
       try simp only [Act.put, setIfInBounds_toArray, set_cons_zero, set_cons_succ]
       refine wpAnyH_ready (fuel := 2) (rs := [13]) (by kernel_rfl) (by simp) ?_
       refine AllReadyH.cons (o := ?oi380) ?hi380 (fun K hK => ?st380) AllReadyH.nil
       case hi380 => rw [List.getElem?_toArray]; rfl
       obtain ⟨g0, g1, g2, g3⟩ := RBox.box hM.out
       have fq := RBox.frozen hM.out
       go_simp
       clear g0 g1 g2 g3 fq
       replace hG := hid (hG.out.st4o (k := wg12.heap.size) (by have := nGM.out; omega) x y z u)
       replace hH := hid (hH.out.st4o (k := wg12.heap.size) (by have := nHM.out; omega) x y z u)
       replace hL := hid (hL.out.st4o (k := wg12.heap.size) (by have := nLM.out; omega) x y z u)
       replace hM := hid (hM.out.st4 (x' := x) (y' := y) (z' := z) (u' := u))
       replace tw := hid (tw.out.st4 kM.out x y z u)
       unfold st4 at hM tw hG hH hL
       generalize ((((wc6.setCell ⟨wg12.heap.size, 0, none⟩ (.int .i64 x)).setCell ⟨wg12.heap.size, 1, none⟩ (.int .i64 y)).setCell ⟨wg12.heap.size, 2, none⟩ (.int .i64 z)).setCell ⟨wg12.heap.size, 3, none⟩ (.int .i64 u)) = ws13 at *
       refine hK.out _ _ ?hS380 (fun hHeld => ?re380)
       case hS380 => exact tw.out.S
       clear hK K
       try simp only [Act.put, setIfInBounds_toArray, set_cons_zero, set_cons_succ]
       refine wpAnyH_ready (fuel := 1) (rs := [14]) (by kernel_rfl) (by simp) ?_
       refine AllReadyH.cons (o := ?oi381) ?hi381 (fun K hK => ?st381) AllReadyH.nil
       case hi381 => rw [List.getElem?_toArray]; rfl
       obtain ⟨g0, g1, g2, g3⟩ := RBox.box hL.out
       have fq := RBox.frozen hL.out
       go_simp
       clear g0 g1 g2 g3 fq
       replace hG := hid (hG.out.st4o (k := wc4.heap.size) (by have := nGL.out; omega) x' y' z' u')
       replace hH := hid (hH.out.st4o (k := wc4.heap.size) (by have := nHL.out; omega) x' y' z' u')
       replace hM := hid (hM.out.st4o (k := wc4.heap.size) (by have := nLM.out; omega) x' y' z' u')
       replace hL := hid (hL.out.st4 (x' := x') (y' := y') (z' := z') (u' := u'))
       replace tw := hid (tw.out.st4 kL.out x' y' z' u')
       unfold st4 at hL tw hG hH hM
       generalize ((((ws13.setCell ⟨wc4.heap.size, 0, none⟩ (.int .i64 x')).setCell ⟨wc4.heap.size, 1, none⟩ (.int .i64 y')).setCell ⟨wc4.heap.size, 2, none⟩ (.int .i64 z')).setCell ⟨wc4.heap.size, 3, none⟩ (.int .i64 u')) = ws14 at *
       refine hK.out _ _ ?hS381 (fun hHeld => ?re381)
       case hS381 => exact tw.out.S
       clear hK K
       try simp only [Act.put, setIfInBounds_toArray, set_cons_zero, set_cons_succ]
       refine wpAnyH_take (i := 15) (oi := ?oi382) (v := ?v382) (fuel := 0) ?hi382 ?hs382 ?hf382 ?hr382 ?hq382 (Or.inl ⟨?hw382, ?hy382⟩) hHeld ?rest382
       case hi382 => rw [List.getElem?_toArray]; rfl
       case hq382 => exact fun _ _ _ h => h
       case hs382 | hf382 | hr382 => kernel_rfl
       case hw382 => rfl
       case hy382 => (intro w1 hSw; (try dsimp only at hSw); go_simp; try with_reducible rfl)
       try simp only [Act.put, setIfInBounds_toArray, set_cons_zero, set_cons_succ]
       refine wpAnyH_done (by kernel_rfl) ?_ _
       clear hHeld
       go_wp2_with fail
       go_meet
       case rel => exact ⟨_, _, rfl, rfl, rfl, hM.out, hL.out, hG.out, hH.out, tw.out⟩
      exact AllReadyH.nil
     exact AllReadyH.nil
    refine AllReadyH.cons (o := ?oi383) ?hi383 (fun K hK => ?st383) ?mo383
    case hi383 => rw [List.getElem?_toArray]; rfl
    case st383 =>
     go_simp
     have kM := hid tw.out.l
     have nGM := hid hG.out.lt
     replace hG := hid (hG.out.alloc (cellsR4 0 0 0 0))
     have nHM := hid hH.out.lt
     replace hH := hid (hH.out.alloc (cellsR4 0 0 0 0))
     have hM := hid (RBox.new wc2 0 0 0 0)
     replace tw := hid (tw.out.alloc (cellsR4 0 0 0 0))
     generalize wc2.alloc (cellsR4 0 0 0 0) = wg11 at *
     refine hK.out _ _ ?hS383 (fun hHeld => ?re383)
     case hS383 => exact tw.out.S
     clear hK K
     try simp only [Act.put, setIfInBounds_toArray, set_cons_zero, set_cons_succ]
     refine wpAnyH_ready (fuel := 9) (rs := [4, 12]) (by kernel_rfl) (by simp) ?_
     refine AllReadyH.cons (o := ?oi384) ?hi384 (fun K hK => ?st384) ?mo384
     case hi384 => rw [List.getElem?_toArray]; rfl
     case st384 =>
      go_simp
      refine (c_toRange _ _ _ _ _).mono ?_
      rintro ee wc4 ⟨rfl, hbn⟩
      replace tw := hid (tw.out.below hbn)
      replace hG := hid (hG.out.below hbn)
      replace hH := hid (hH.out.below hbn)
      replace hM := hid (hM.out.below hbn)
      clear hbn
      go_wp2_with fail
      refine hK.out _ _ ?hS384 (fun hHeld => ?re384)
      case hS384 => exact tw.out.S
      clear hK K
      try simp only [Act.put, setIfInBounds_toArray, set_cons_zero, set_cons_succ]
      refine wpAnyH_ready (fuel := 8) (rs := [6, 12]) (by kernel_rfl) (by simp) ?_
      refine AllReadyH.cons (o := ?oi385) ?hi385 (fun K hK => ?st385) ?mo385
      case hi385 => rw [List.getElem?_toArray]; rfl
      case st385 =>
       go_simp
       refine (hp.out _).mono ?_
       rintro ee wc6 ⟨rfl, hbn⟩
       replace tw := hid (tw.out.below hbn)
       replace hG := hid (hG.out.below hbn)
       replace hH := hid (hH.out.below hbn)
       replace hM := hid (hM.out.below hbn)
       clear hbn
       go_wp2_with fail
       refine hK.out _ _ ?hS385 (fun hHeld => ?re385)
       case hS385 => exact tw.out.S
       clear hK K
       try simp only [Act.put, setIfInBounds_toArray, set_cons_zero, set_cons_succ]
       refine wpAnyH_take (i := 7) (oi := ?oi386) (v := ?v386) (fuel := 7) ?hi386 ?hs386 ?hf386 ?hr386 ?hq386 (Or.inl ⟨?hw386, ?hy386⟩) hHeld ?rest386
       case hi386 => rw [List.getElem?_toArray]; rfl
       case hq386 => exact fun _ _ _ h => h
       case hs386 | hf386 | hr386 => kernel_rfl
       case hw386 => rfl
       case hy386 => (intro w1 hSw; (try dsimp only at hSw); go_simp; try with_reducible rfl)
       try simp only [Act.put, setIfInBounds_toArray, set_cons_zero, set_cons_succ]
       refine wpAnyH_take (i := 8) (oi := ?oi387) (v := ?v387) (fuel := 6) ?hi387 ?hs387 ?hf387 ?hr387 ?hq387 (Or.inl ⟨?hw387, ?hy387⟩) hHeld ?rest387
       case hi387 => rw [List.getElem?_toArray]; rfl
       case hq387 => exact fun _ _ _ h => h
       case hs387 | hf387 | hr387 => kernel_rfl
       case hw387 => rfl
       case hy387 => (intro w1 hSw; (try dsimp only at hSw); go_simp; try with_reducible rfl)
       try simp only [Act.put, setIfInBounds_toArray, set_cons_zero, set_cons_succ]
       refine wpAnyH_take (i := 9) (oi := ?oi388) (v := ?v388) (fuel := 5) ?hi388 ?hs388 ?hf388 ?hr388 ?hq388 (Or.inl ⟨?hw388, ?hy388⟩) hHeld ?rest388
       case hi388 => rw [List.getElem?_toArray]; rfl
       case hq388 => exact fun _ _ _ h => h
       case hs388 | hf388 | hr388 => kernel_rfl
       case hw388 => rfl
       case hy388 => (intro w1 hSw; (try dsimp only at hSw); go_simp; try with_reducible rfl)
       try simp only [Act.put, setIfInBounds_toArray, set_cons_zero, set_cons_succ]
       refine wpAnyH_take (i := 10) (oi := ?oi389) (v := ?v389) (fuel := 4) ?hi389 ?hs389 ?hf389 ?hr389 ?hq389 (Or.inl ⟨?hw389, ?hy389⟩) hHeld ?rest389
       case hi389 => rw [List.getElem?_toArray]; rfl
       case hq389 => exact fun _ _ _ h => h
       case hs389 | hf389 | hr389 => kernel_rfl
       case hw389 => rfl
       case hy389 => (intro w1 hSw; (try dsimp only at hSw); go_simp; try with_reducible rfl)
       try simp only [Act.put, setIfInBounds_toArray, set_cons_zero, set_cons_succ]
       refine wpAnyH_ready (fuel := 3) (rs := [12]) (by kernel_rfl) (by simp) ?_
       refine AllReadyH.cons (o := ?oi390) ?hi390 (fun K hK => ?st390) AllReadyH.nil
       case hi390 => rw [List.getElem?_toArray]; rfl
       go_simp
       have kL := hid tw.out.l
       have nGL := hid hG.out.lt
       replace hG := hid (hG.out.alloc (cellsR4 0 0 0 0))
       have nHL := hid hH.out.lt
       replace hH := hid (hH.out.alloc (cellsR4 0 0 0 0))
       have nML := hid hM.out.lt
       replace hM := hid (hM.out.alloc (cellsR4 0 0 0 0))
       have hL := hid (RBox.new wc6 0 0 0 0)
       replace tw := hid (tw.out.alloc (cellsR4 0 0 0 0))
       generalize wc6.alloc (cellsR4 0 0 0 0) = wg12 at *
       refine hK.out _ _ ?hS390 (fun hHeld => ?re390)
       case hS390 => exact tw.out.S
       clear hK K
       try simp only [Act.put, setIfInBounds_toArray, set_cons_zero, set_cons_succ]
       refine wpAnyH_ready (fuel := 2) (rs := [13]) (by kernel_rfl) (by simp) ?_
       refine AllReadyH.cons (o := ?oi391) ?hi391 (fun K hK => ?st391) AllReadyH.nil
       case hi391 => rw [List.getElem?_toArray]; rfl
       obtain ⟨g0, g1, g2, g3⟩ := RBox.box hM.out
       have fq := RBox.frozen hM.out
       go_simp
       clear g0 g1 g2 g3 fq
       replace hG := hid (hG.out.st4o (k := wc2.heap.size) (by have := nGM.out; omega) x y z u)
       replace hH := hid (hH.out.st4o (k := wc2.heap.size) (by have := nHM.out; omega) x y z u)
       replace hL := hid (hL.out.st4o (k := wc2.heap.size) (by have := nML.out; omega) x y z u)
       replace hM := hid (hM.out.st4 (x' := x) (y' := y) (z' := z) (u' := u))
       replace tw := hid (tw.out.st4 kM.out x y z u)
       unfold st4 at hM tw hG hH hL
       generalize ((((wg12.setCell ⟨wc2.heap.size, 0, none⟩ (.int .i64 x)).setCell ⟨wc2.heap.size, 1, none⟩ (.int .i64 y)).setCell ⟨wc2.heap.size, 2, none⟩ (.int .i64 z)).setCell ⟨wc2.heap.size, 3, none⟩ (.int .i64 u)) = ws13 at *
       refine hK.out _ _ ?hS391 (fun hHeld => ?re391)
       case hS391 => exact tw.out.S
       clear hK K
       try simp only [Act.put, setIfInBounds_toArray, set_cons_zero, set_cons_succ]
       refine wpAnyH_ready (fuel := 1) (rs := [14]) (by kernel_rfl) (by simp) ?_
       refine AllReadyH.cons (o := ?oi392) ?hi392 (fun K hK => ?st392) AllReadyH.nil
       case hi392 => rw [List.getElem?_toArray]; rfl
       obtain ⟨g0, g1, g2, g3⟩ := RBox.box hL.out
       have fq := RBox.frozen hL.out
       go_simp
       clear g0 g1 g2 g3 fq
       replace hG := hid (hG.out.st4o (k := wc6.heap.size) (by have := nGL.out; omega) x' y' z' u')
       replace hH := hid (hH.out.st4o (k := wc6.heap.size) (by have := nHL.out; omega) x' y' z' u')
       replace hM := hid (hM.out.st4o (k := wc6.heap.size) (by have := nML.out; omega) x' y' z' u')
       replace hL := hid (hL.out.st4 (x' := x') (y' := y') (z' := z') (u' := u'))
       replace tw := hid (tw.out.st4 kL.out x' y' z' u')
       unfold st4 at hL tw hG hH hM
       generalize ((((ws13.setCell ⟨wc6.heap.size, 0, none⟩ (.int .i64 x')).setCell ⟨wc6.heap.size, 1, none⟩ (.int .i64 y')).setCell ⟨wc6.heap.size, 2, none⟩ (.int .i64 z')).setCell ⟨wc6.heap.size, 3, none⟩ (.int .i64 u')) = ws14 at *
       refine hK.out _ _ ?hS392 (fun hHeld => ?re392)
       case hS392 => exact tw.out.S
       clear hK K
       try simp only [Act.put, setIfInBounds_toArray, set_cons_zero, set_cons_succ]
       refine wpAnyH_take (i := 15) (oi := ?oi393) (v := ?v393) (fuel := 0) ?hi393 ?hs393 ?hf393 ?hr393 ?hq393 (Or.inl ⟨?hw393, ?hy393⟩) hHeld ?rest393
       case hi393 => rw [List.getElem?_toArray]; rfl
       case hq393 => exact fun _ _ _ h => h
       case hs393 | hf393 | hr393 => kernel_rfl
       case hw393 => rfl
       case hy393 => (intro w1 hSw; (try dsimp only at hSw); go_simp; try with_reducible rfl)
       try simp only [Act.put, setIfInBounds_toArray, set_cons_zero, set_cons_succ]
       refine wpAnyH_done (by kernel_rfl) ?_ _
       clear hHeld
       go_wp2_with fail
       go_meet
       case rel => exact ⟨_, _, rfl, rfl, rfl, hM.out, hL.out, hG.out, hH.out, tw.out⟩
      refine AllReadyH.cons (o := ?oi394) ?hi394 (fun K hK => ?st394) ?mo394
      case hi394 => rw [List.getElem?_toArray]; rfl
      case st394 =>
       go_simp
       have kL := hid tw.out.l
       have nGL := hid hG.out.lt
       replace hG := hid (hG.out.alloc (cellsR4 0 0 0 0))
       have nHL := hid hH.out.lt
       replace hH := hid (hH.out.alloc (cellsR4 0 0 0 0))
       have nML := hid hM.out.lt
       replace hM := hid (hM.out.alloc (cellsR4 0 0 0 0))
       have hL := hid (RBox.new wc4 0 0 0 0)
       replace tw := hid (tw.out.alloc (cellsR4 0 0 0 0))
       generalize wc4.alloc (cellsR4 0 0 0 0) = wg12 at *
       refine hK.out _ _ ?hS394 (fun hHeld => ?re394)
       case hS394 => exact tw.out.S
       clear hK K
       try simp only [Act.put, setIfInBounds_toArray, set_cons_zero, set_cons_succ]
       refine wpAnyH_ready (fuel := 7) (rs := [6]) (by kernel_rfl) (by simp) ?_
       refine AllReadyH.cons (o := ?oi395) ?hi395 (fun K hK => ?st395) AllReadyH.nil
       case hi395 => rw [List.getElem?_toArray]; rfl
       go_simp
       refine (hp.out _).mono ?_
       rintro ee wc6 ⟨rfl, hbn⟩
       replace tw := hid (tw.out.below hbn)
       replace hG := hid (hG.out.below hbn)
       replace hH := hid (hH.out.below hbn)
       replace hM := hid (hM.out.below hbn)
       replace hL := hid (hL.out.below hbn)
       clear hbn
       go_wp2_with fail
       refine hK.out _ _ ?hS395 (fun hHeld => ?re395)
       case hS395 => exact tw.out.S
       clear hK K
       try simp only [Act.put, setIfInBounds_toArray, set_cons_zero, set_cons_succ]
       refine wpAnyH_take (i := 7) (oi := ?oi396) (v := ?v396) (fuel := 6) ?hi396 ?hs396 ?hf396 ?hr396 ?hq396 (Or.inl ⟨?hw396, ?hy396⟩) hHeld ?rest396
       case hi396 => rw [List.getElem?_toArray]; rfl
       case hq396 => exact fun _ _ _ h => h
       case hs396 | hf396 | hr396 => kernel_rfl
       case hw396 => rfl
       case hy396 => (intro w1 hSw; (try dsimp only at hSw); go_simp; try with_reducible rfl)
       try simp only [Act.put, setIfInBounds_toArray, set_cons_zero, set_cons_succ]
       refine wpAnyH_take (i := 8) (oi := ?oi397) (v := ?v397) (fuel := 5) ?hi397 ?hs397 ?hf397 ?hr397 ?hq397 (Or.inl ⟨?hw397, ?hy397⟩) hHeld ?rest397
       case hi397 => rw [List.getElem?_toArray]; rfl
       case hq397 => exact fun _ _ _ h => h
       case hs397 | hf397 | hr397 => kernel_rfl
       case hw397 => rfl
       case hy397 => (intro w1 hSw; (try dsimp only at hSw); go_simp; try with_reducible rfl)
       try simp only [Act.put, setIfInBounds_toArray, set_cons_zero, set_cons_succ]
       refine wpAnyH_take (i := 9) (oi := ?oi398) (v := ?v398) (fuel := 4) ?hi398 ?hs398 ?hf398 ?hr398 ?hq398 (Or.inl ⟨?hw398, ?hy398⟩) hHeld ?rest398
       case hi398 => rw [List.getElem?_toArray]; rfl
       case hq398 => exact fun _ _ _ h => h
       case hs398 | hf398 | hr398 => kernel_rfl
       case hw398 => rfl
       case hy398 => (intro w1 hSw; (try dsimp only at hSw); go_simp; try with_reducible rfl)
       try simp only [Act.put, setIfInBounds_toArray, set_cons_zero, set_cons_succ]
       refine wpAnyH_take (i := 10) (oi := ?oi399) (v := ?v399) (fuel := 3) ?hi399 ?hs399 ?hf399 ?hr399 ?hq399 (Or.inl ⟨?hw399, ?hy399⟩) hHeld ?rest399
       case hi399 => rw [List.getElem?_toArray]; rfl
       case hq399 => exact fun _ _ _ h => h
       case hs399 | hf399 | hr399 => kernel_rfl
       case hw399 => rfl
       case hy399 => (intro w1 hSw; (try dsimp only at hSw); go_simp; try with_reducible rfl)
       try simp only [Act.put, setIfInBounds_toArray, set_cons_zero, set_cons_succ]
       refine wpAnyH_ready (fuel := 2) (rs := [13]) (by kernel_rfl) (by simp) ?_
       refine AllReadyH.cons (o := ?oi400) ?hi400 (fun K hK => ?st400) AllReadyH.nil
       case hi400 => rw [List.getElem?_toArray]; rfl
       obtain ⟨g0, g1, g2, g3⟩ := RBox.box hM.out
       have fq := RBox.frozen hM.out
       go_simp
       clear g0 g1 g2 g3 fq
       replace hG := hid (hG.out.st4o (k := wc2.heap.size) (by have := nGM.out; omega) x y z u)
       replace hH := hid (hH.out.st4o (k := wc2.heap.size) (by have := nHM.out; omega) x y z u)
       replace hL := hid (hL.out.st4o (k := wc2.heap.size) (by have := nML.out; omega) x y z u)
       replace hM := hid (hM.out.st4 (x' := x) (y' := y) (z' := z) (u' := u))
       replace tw := hid (tw.out.st4 kM.out x y z u)
       unfold st4 at hM tw hG hH hL
       generalize ((((wc6.setCell ⟨wc2.heap.size, 0, none⟩ (.int .i64 x)).setCell ⟨wc2.heap.size, 1, none⟩ (.int .i64 y)).setCell ⟨wc2.heap.size, 2, none⟩ (.int .i64 z)).setCell ⟨wc2.heap.size, 3, none⟩ (.int .i64 u)) = ws13 at *
       refine hK.out _ _ ?hS400 (fun hHeld => ?re400)
       case hS400 => exact tw.out.S
       clear hK K
       try simp only [Act.put, setIfInBounds_toArray, set_cons_zero, set_cons_succ]
       refine wpAnyH_ready (fuel := 1) (rs := [14]) (by kernel_rfl) (by simp) ?_
       refine AllReadyH.cons (o := ?oi401) ?hi401 (fun K hK => ?st401) AllReadyH.nil
       case hi401 => rw [List.getElem?_toArray]; rfl
       obtain ⟨g0, g1, g2, g3⟩ := RBox.box hL.out
       have fq := RBox.frozen hL.out
       go_simp
       clear g0 g1 g2 g3 fq
       replace hG := hid (hG.out.st4o (k := wc4.heap.size) (by have := nGL.out; omega) x' y' z' u')
       replace hH := hid (hH.out.st4o (k := wc4.heap.size) (by have := nHL.out; omega) x' y' z' u')
       replace hM := hid (hM.out.st4o (k := wc4.heap.size) (by have := nML.out; omega) x' y' z' u')
       replace hL := hid (hL.out.st4 (x' := x') (y' := y') (z' := z') (u' := u'))
       replace tw := hid (tw.out.st4 kL.out x' y' z' u')
       unfold st4 at hL tw hG hH hM
       generalize ((((ws13.setCell ⟨wc4.heap.size, 0, none⟩ (.int .i64 x')).setCell ⟨wc4.heap.size, 1, none⟩ (.int .i64 y')).setCell ⟨wc4.heap.size, 2, none⟩ (.int .i64 z')).setCell ⟨wc4.heap.size, 3, none⟩ (.int .i64 u')) = ws14 at *
       refine hK.out _ _ ?hS401 (fun hHeld => ?re401)
       case hS401 => exact tw.out.S
       clear hK K
       try simp only [Act.put, setIfInBounds_toArray, set_cons_zero, set_cons_succ]
       refine wpAnyH_take (i := 15) (oi := ?oi402) (v := ?v402) (fuel := 0) ?hi402 ?hs402 ?hf402 ?hr402 ?hq402 (Or.inl ⟨?hw402, ?hy402⟩) hHeld ?rest402
       case hi402 => rw [List.getElem?_toArray]; rfl
       case hq402 => exact fun _ _ _ h => h
       case hs402 | hf402 | hr402 => kernel_rfl
       case hw402 => rfl
       case hy402 => (intro w1 hSw; (try dsimp only at hSw); go_simp; try with_reducible rfl)
       try simp only [Act.put, setIfInBounds_toArray, set_cons_zero, set_cons_succ]
       refine wpAnyH_done (by kernel_rfl) ?_ _
       clear hHeld
       go_wp2_with fail
       go_meet
       case rel => exact ⟨_, _, rfl, rfl, rfl, hM.out, hL.out, hG.out, hH.out, tw.out⟩
      exact AllReadyH.nil
     refine AllReadyH.cons (o := ?oi403) ?hi403 (fun K hK => ?st403) ?mo403
     case hi403 => rw [List.getElem?_toArray]; rfl
     case st403 =>
      go_simp
      have kL := hid tw.out.l
      have nGL := hid hG.out.lt
      replace hG := hid (hG.out.alloc (cellsR4 0 0 0 0))
      have nHL := hid hH.out.lt
      replace hH := hid (hH.out.alloc (cellsR4 0 0 0 0))
      have nML := hid hM.out.lt
      replace hM := hid (hM.out.alloc (cellsR4 0 0 0 0))
      have hL := hid (RBox.new wg11 0 0 0 0)
      replace tw := hid (tw.out.alloc (cellsR4 0 0 0 0))
      generalize wg11.alloc (cellsR4 0 0 0 0) = wg12 at *
      refine hK.out _ _ ?hS403 (fun hHeld => ?re403)
      case hS403 => exact tw.out.S
      clear hK K
      try simp only [Act.put, setIfInBounds_toArray, set_cons_zero, set_cons_succ]
      refine wpAnyH_ready (fuel := 8) (rs := [4]) (by kernel_rfl) (by simp) ?_
      refine AllReadyH.cons (o := ?oi404) ?hi404 (fun K hK => ?st404) AllReadyH.nil
      case hi404 => rw [List.getElem?_toArray]; rfl
      go_simp
      refine (c_toRange _ _ _ _ _).mono ?_
      rintro ee wc4 ⟨rfl, hbn⟩
      replace tw := hid (tw.out.below hbn)
      replace hG := hid (hG.out.below hbn)
      replace hH := hid (hH.out.below hbn)
      replace hM := hid (hM.out.below hbn)
      replace hL := hid (hL.out.below hbn)
      clear hbn
      go_wp2_with fail
      refine hK.out _ _ ?hS404 (fun hHeld => ?re404)
      case hS404 => exact tw.out.S
      clear hK K
      try simp only [Act.put, setIfInBounds_toArray, set_cons_zero, set_cons_succ]
      refine wpAnyH_ready (fuel := 7) (rs := [6]) (by kernel_rfl) (by simp) ?_
      refine AllReadyH.cons (o := ?oi405) ?hi405 (fun K hK => ?st405) AllReadyH.nil
      case hi405 => rw [List.getElem?_toArray]; rfl
      go_simp
      refine (hp.out _).mono ?_
      rintro ee wc6 ⟨rfl, hbn⟩
      replace tw := hid (tw.out.below hbn)
      replace hG := hid (hG.out.below hbn)
      replace hH := hid (hH.out.below hbn)
      replace hM := hid (hM.out.below hbn)
      replace hL := hid (hL.out.below hbn)
      clear hbn
      go_wp2_with fail
      refine hK.out _ _ ?hS405 (fun hHeld => ?re405)
      case hS405 => exact tw.out.S
      clear hK K
      try simp only [Act.put, setIfInBounds_toArray, set_cons_zero, set_cons_succ]
      refine wpAnyH_take (i := 7) (oi := ?oi406) (v := ?v406) (fuel := 6) ?hi406 ?hs406 ?hf406 ?hr406 ?hq406 (Or.inl ⟨?hw406, ?hy406⟩) hHeld ?rest406
      case hi406 => rw [List.getElem?_toArray]; rfl
      case hq406 => exact fun _ _ _ h => h
      case hs406 | hf406 | hr406 => kernel_rfl
      case hw406 => rfl
      case hy406 => (intro w1 hSw; (try dsimp only at hSw); go_simp; try with_reducible rfl)
      try simp only [Act.put, setIfInBounds_toArray, set_cons_zero, set_cons_succ]
      refine wpAnyH_take (i := 8) (oi := ?oi407) (v := ?v407) (fuel := 5) ?hi407 ?hs407 ?hf407 ?hr407 ?hq407 (Or.inl ⟨?hw407, ?hy407⟩) hHeld ?rest407
      case hi407 => rw [List.getElem?_toArray]; rfl
      case hq407 => exact fun _ _ _ h => h
      case hs407 | hf407 | hr407 => kernel_rfl
      case hw407 => rfl
      case hy407 => (intro w1 hSw; (try dsimp only at hSw); go_simp; try with_reducible rfl)
      try simp only [Act.put, setIfInBounds_toArray, set_cons_zero, set_cons_succ]
      refine wpAnyH_take (i := 9) (oi := ?oi408) (v := ?v408) (fuel := 4) ?hi408 ?hs408 ?hf408 ?hr408 ?hq408 (Or.inl ⟨?hw408, ?hy408⟩) hHeld ?rest408
      case hi408 => rw [List.getElem?_toArray]; rfl
      case hq408 => exact fun _ _ _ h => h
      case hs408 | hf408 | hr408 => kernel_rfl
      case hw408 => rfl
      case hy408 => (intro w1 hSw; (try dsimp only at hSw); go_simp; try with_reducible rfl)
      try simp only [Act.put, setIfInBounds_toArray, set_cons_zero, set_cons_succ]
      refine wpAnyH_take (i := 10) (oi := ?oi409) (v := ?v409) (fuel := 3) ?hi409 ?hs409 ?hf409 ?hr409 ?hq409 (Or.inl ⟨?hw409, ?hy409⟩) hHeld ?rest409
      case hi409 => rw [List.getElem?_toArray]; rfl
      case hq409 => exact fun _ _ _ h => h
      case hs409 | hf409 | hr409 => kernel_rfl
      case hw409 => rfl
      case hy409 => (intro w1 hSw; (try dsimp only at hSw); go_simp; try with_reducible rfl)
      try simp only [Act.put, setIfInBounds_toArray, set_cons_zero, set_cons_succ]
      refine wpAnyH_ready (fuel := 2) (rs := [13]) (by kernel_rfl) (by simp) ?_
      refine AllReadyH.cons (o := ?oi410) ?hi410 (fun K hK => ?st410) AllReadyH.nil
      case hi410 => rw [List.getElem?_toArray]; rfl
      obtain ⟨g0, g1, g2, g3⟩ := RBox.box hM.out
      have fq := RBox.frozen hM.out
      go_simp
      clear g0 g1 g2 g3 fq
      replace hG := hid (hG.out.st4o (k := wc2.heap.size) (by have := nGM.out; omega) x y z u)
      replace hH := hid (hH.out.st4o (k := wc2.heap.size) (by have := nHM.out; omega) x y z u)
      replace hL := hid (hL.out.st4o (k := wc2.heap.size) (by have := nML.out; omega) x y z u)
      replace hM := hid (hM.out.st4 (x' := x) (y' := y) (z' := z) (u' := u))
      replace tw := hid (tw.out.st4 kM.out x y z u)
      unfold st4 at hM tw hG hH hL
      generalize ((((wc6.setCell ⟨wc2.heap.size, 0, none⟩ (.int .i64 x)).setCell ⟨wc2.heap.size, 1, none⟩ (.int .i64 y)).setCell ⟨wc2.heap.size, 2, none⟩ (.int .i64 z)).setCell ⟨wc2.heap.size, 3, none⟩ (.int .i64 u)) = ws13 at *
      refine hK.out _ _ ?hS410 (fun hHeld => ?re410)
      case hS410 => exact tw.out.S
      clear hK K
      try simp only [Act.put, setIfInBounds_toArray, set_cons_zero, set_cons_succ]
      refine wpAnyH_ready (fuel := 1) (rs := [14]) (by kernel_rfl) (by simp) ?_
      refine AllReadyH.cons (o := ?oi411) ?hi411 (fun K hK => ?st411) AllReadyH.nil
      case hi411 => rw [List.getElem?_toArray]; rfl
      obtain ⟨g0, g1, g2, g3⟩ := RBox.box hL.out
      have fq := RBox.frozen hL.out
      go_simp
      clear g0 g1 g2 g3 fq
      replace hG := hid (hG.out.st4o (k := wg11.heap.size) (by have := nGL.out; omega) x' y' z' u')
      replace hH := hid (hH.out.st4o (k := wg11.heap.size) (by have := nHL.out; omega) x' y' z' u')
      replace hM := hid (hM.out.st4o (k := wg11.heap.size) (by have := nML.out; omega) x' y' z' u')
      replace hL := hid (hL.out.st4 (x' := x') (y' := y') (z' := z') (u' := u'))
      replace tw := hid (tw.out.st4 kL.out x' y' z' u')
      unfold st4 at hL tw hG hH hM
      generalize ((((ws13.setCell ⟨wg11.heap.size, 0, none⟩ (.int .i64 x')).setCell ⟨wg11.heap.size, 1, none⟩ (.int .i64 y')).setCell ⟨wg11.heap.size, 2, none⟩ (.int .i64 z')).setCell ⟨wg11.heap.size, 3, none⟩ (.int .i64 u')) = ws14 at *
      refine hK.out _ _ ?hS411 (fun hHeld => ?re411)
      case hS411 => exact tw.out.S
      clear hK K
      try simp only [Act.put, setIfInBounds_toArray, set_cons_zero, set_cons_succ]
      refine wpAnyH_take (i := 15) (oi := ?oi412) (v := ?v412) (fuel := 0) ?hi412 ?hs412 ?hf412 ?hr412 ?hq412 (Or.inl ⟨?hw412, ?hy412⟩) hHeld ?rest412
      case hi412 => rw [List.getElem?_toArray]; rfl
      case hq412 => exact fun _ _ _ h => h
      case hs412 | hf412 | hr412 => kernel_rfl
      case hw412 => rfl
      case hy412 => (intro w1 hSw; (try dsimp only at hSw); go_simp; try with_reducible rfl)
      try simp only [Act.put, setIfInBounds_toArray, set_cons_zero, set_cons_succ]
      refine wpAnyH_done (by kernel_rfl) ?_ _
      clear hHeld
      go_wp2_with fail
      go_meet
      case rel => exact ⟨_, _, rfl, rfl, rfl, hM.out, hL.out, hG.out, hH.out, tw.out⟩
     exact AllReadyH.nil
    refine AllReadyH.cons (o := ?oi413) ?hi413 (fun K hK => ?st413) ?mo413
    case hi413 => rw [List.getElem?_toArray]; rfl
    case st413 =>
     go_simp
     have kL := hid tw.out.l
     have nGL := hid hG.out.lt
     replace hG := hid (hG.out.alloc (cellsR4 0 0 0 0))
     have nHL := hid hH.out.lt
     replace hH := hid (hH.out.alloc (cellsR4 0 0 0 0))
     have hL := hid (RBox.new wc2 0 0 0 0)
     replace tw := hid (tw.out.alloc (cellsR4 0 0 0 0))
     generalize wc2.alloc (cellsR4 0 0 0 0) = wg12 at *
     refine hK.out _ _ ?hS413 (fun hHeld => ?re413)
     case hS413 => exact tw.out.S
     clear hK K
     try simp only [Act.put, setIfInBounds_toArray, set_cons_zero, set_cons_succ]
     refine wpAnyH_ready (fuel := 9) (rs := [4, 11]) (by kernel_rfl) (by simp) ?_
     refine AllReadyH.cons (o := ?oi414) ?hi414 (fun K hK => ?st414) ?mo414
     case hi414 => rw [List.getElem?_toArray]; rfl
     case st414 =>
      go_simp
      refine (c_toRange _ _ _ _ _).mono ?_
      rintro ee wc4 ⟨rfl, hbn⟩
      replace tw := hid (tw.out.below hbn)
      replace hG := hid (hG.out.below hbn)
      replace hH := hid (hH.out.below hbn)
      replace hL := hid (hL.out.below hbn)
      clear hbn
      go_wp2_with fail
      refine hK.out _ _ ?hS414 (fun hHeld => ?re414)
      case hS414 => exact tw.out.S
      clear hK K
      try simp only [Act.put, setIfInBounds_toArray, set_cons_zero, set_cons_succ]
      refine wpAnyH_ready (fuel := 8) (rs := [6, 11]) (by kernel_rfl) (by simp) ?_
      refine AllReadyH.cons (o := ?oi415) ?hi415 (fun K hK => ?st415) ?mo415
      case hi415 => rw [List.getElem?_toArray]; rfl
      case st415 =>
       go_simp
       refine (hp.out _).mono ?_
       rintro ee wc6 ⟨rfl, hbn⟩
       replace tw := hid (tw.out.below hbn)
       replace hG := hid (hG.out.below hbn)
       replace hH := hid (hH.out.below hbn)
       replace hL := hid (hL.out.below hbn)
       clear hbn
       go_wp2_with fail
       refine hK.out _ _ ?hS415 (fun hHeld => ?re415)
       case hS415 => exact tw.out.S
       clear hK K
       try simp only [Act.put, setIfInBounds_toArray, set_cons_zero, set_cons_succ]
       refine wpAnyH_take (i := 7) (oi := ?oi416) (v := ?v416) (fuel := 7) ?hi416 ?hs416 ?hf416 ?hr416 ?hq416 (Or.inl ⟨?hw416, ?hy416⟩) hHeld ?rest416
       case hi416 => rw [List.getElem?_toArray]; rfl
       case hq416 => exact fun _ _ _ h => h
       case hs416 | hf416 | hr416 => kernel_rfl
       case hw416 => rfl
       case hy416 => (intro w1 hSw; (try dsimp only at hSw); go_simp; try with_reducible rfl)
       try simp only [Act.put, setIfInBounds_toArray, set_cons_zero, set_cons_succ]
       refine wpAnyH_take (i := 8) (oi := ?oi417) (v := ?v417) (fuel := 6) ?hi417 ?hs417 ?hf417 ?hr417 ?hq417 (Or.inl ⟨?hw417, ?hy417⟩) hHeld ?rest417
       case hi417 => rw [List.getElem?_toArray]; rfl
       case hq417 => exact fun _ _ _ h => h
       case hs417 | hf417 | hr417 => kernel_rfl
       case hw417 => rfl
       case hy417 => (intro w1 hSw; (try dsimp only at hSw); go_simp; try with_reducible rfl)
       try simp only [Act.put, setIfInBounds_toArray, set_cons_zero, set_cons_succ]
       refine wpAnyH_take (i := 9) (oi := ?oi418) (v := ?v418) (fuel := 5) ?hi418 ?hs418 ?hf418 ?hr418 ?hq418 (Or.inl ⟨?hw418, ?hy418⟩) hHeld ?rest418
       case hi418 => rw [List.getElem?_toArray]; rfl
       case hq418 => exact fun _ _ _ h => h
       case hs418 | hf418 | hr418 => kernel_rfl
       case hw418 => rfl
       case hy418 => (intro w1 hSw; (try dsimp only at hSw); go_simp; try with_reducible rfl)
       try simp only [Act.put, setIfInBounds_toArray, set_cons_zero, set_cons_succ]
       refine wpAnyH_take (i := 10) (oi := ?oi419) (v := ?v419) (fuel := 4) ?hi419 ?hs419 ?hf419 ?hr419 ?hq419 (Or.inl ⟨?hw419, ?hy419⟩) hHeld ?rest419
       case hi419 => rw [List.getElem?_toArray]; rfl
       case hq419 => exact fun _ _ _ h => h
       case hs419 | hf419 | hr419 => kernel_rfl
       case hw419 => rfl
       case hy419 => (intro w1 hSw; (try dsimp only at hSw); go_simp; try with_reducible rfl)
       try simp only [Act.put, setIfInBounds_toArray, set_cons_zero, set_cons_succ]
       refine wpAnyH_ready (fuel := 3) (rs := [11]) (by kernel_rfl) (by simp) ?_
       refine AllReadyH.cons (o := ?oi420) ?hi420 (fun K hK => ?st420) AllReadyH.nil
       case hi420 => rw [List.getElem?_toArray]; rfl
       go_simp
       have kM := hid tw.out.l
       have nGM := hid hG.out.lt
       replace hG := hid (hG.out.alloc (cellsR4 0 0 0 0))
       have nHM := hid hH.out.lt
       replace hH := hid (hH.out.alloc (cellsR4 0 0 0 0))
       have nLM := hid hL.out.lt
       replace hL := hid (hL.out.alloc (cellsR4 0 0 0 0))
       have hM := hid (RBox.new wc6 0 0 0 0)
       replace tw := hid (tw.out.alloc (cellsR4 0 0 0 0))
       generalize wc6.alloc (cellsR4 0 0 0 0) = wg11 at *
       refine hK.out _ _ ?hS420 (fun hHeld => ?re420)
       case hS420 => exact tw.out.S
       clear hK K
       try simp only [Act.put, setIfInBounds_toArray, set_cons_zero, set_cons_succ]
       refine wpAnyH_ready (fuel := 2) (rs := [13]) (by kernel_rfl) (by simp) ?_
       refine AllReadyH.cons (o := ?oi421) ?hi421 (fun K hK => ?st421) AllReadyH.nil
       case hi421 => rw [List.getElem?_toArray]; rfl
       obtain ⟨g0, g1, g2, g3⟩ := RBox.box hM.out
       have fq := RBox.frozen hM.out
       go_simp
       clear g0 g1 g2 g3 fq
       replace hG := hid (hG.out.st4o (k := wc6.heap.size) (by have := nGM.out; omega) x y z u)
       replace hH := hid (hH.out.st4o (k := wc6.heap.size) (by have := nHM.out; omega) x y z u)
       replace hL := hid (hL.out.st4o (k := wc6.heap.size) (by have := nLM.out; omega) x y z u)
       replace hM := hid (hM.out.st4 (x' := x) (y' := y) (z' := z) (u' := u))
       replace tw := hid (tw.out.st4 kM.out x y z u)
       unfold st4 at hM tw hG hH hL
       generalize ((((wg11.setCell ⟨wc6.heap.size, 0, none⟩ (.int .i64 x)).setCell ⟨wc6.heap.size, 1, none⟩ (.int .i64 y)).setCell ⟨wc6.heap.size, 2, none⟩ (.int .i64 z)).setCell ⟨wc6.heap.size, 3, none⟩ (.int .i64 u)) = ws13 at *
       refine hK.out _ _ ?hS421 (fun hHeld => ?re421)
       case hS421 => exact tw.out.S
       clear hK K
       try simp only [Act.put, setIfInBounds_toArray, set_cons_zero, set_cons_succ]
       refine wpAnyH_ready (fuel := 1) (rs := [14]) (by kernel_rfl) (by simp) ?_
       refine AllReadyH.cons (o := ?oi422) ?hi422 (fun K hK => ?st422) AllReadyH.nil
       case hi422 => rw [List.getElem?_toArray]; rfl
       obtain ⟨g0, g1, g2, g3⟩ := RBox.box hL.out
       have fq := RBox.frozen hL.out
       go_simp
       clear g0 g1 g2 g3 fq
       replace hG := hid (hG.out.st4o (k := wc2.heap.size) (by have := nGL.out; omega) x' y' z' u')
       replace hH := hid (hH.out.st4o (k := wc2.heap.size) (by have := nHL.out; omega) x' y' z' u')
       replace hM := hid (hM.out.st4o (k := wc2.heap.size) (by have := nLM.out; omega) x' y' z' u')
       replace hL := hid (hL.out.st4 (x' := x') (y' := y') (z' := z') (u' := u'))
       replace tw := hid (tw.out.st4 kL.out x' y' z' u')
       unfold st4 at hL tw hG hH hM
       generalize ((((ws13.setCell ⟨wc2.heap.size, 0, none⟩ (.int .i64 x')).setCell ⟨wc2.heap.size, 1, none⟩ (.int .i64 y')).setCell ⟨wc2.heap.size, 2, none⟩ (.int .i64 z')).setCell ⟨wc2.heap.size, 3, none⟩ (.int .i64 u')) = ws14 at *
       refine hK.out _ _ ?hS422 (fun hHeld => ?re422)
       case hS422 => exact tw.out.S
       clear hK K
       try simp only [Act.put, setIfInBounds_toArray, set_cons_zero, set_cons_succ]
       refine wpAnyH_take (i := 15) (oi := ?oi423) (v := ?v423) (fuel := 0) ?hi423 ?hs423 ?hf423 ?hr423 ?hq423 (Or.inl ⟨?hw423, ?hy423⟩) hHeld ?rest423
       case hi423 => rw [List.getElem?_toArray]; rfl
       case hq423 => exact fun _ _ _ h => h
       case hs423 | hf423 | hr423 => kernel_rfl
       case hw423 => rfl
       case hy423 => (intro w1 hSw; (try dsimp only at hSw); go_simp; try with_reducible rfl)
       try simp only [Act.put, setIfInBounds_toArray, set_cons_zero, set_cons_succ]
       refine wpAnyH_done (by kernel_rfl) ?_ _
       clear hHeld
       go_wp2_with fail
       go_meet
       case rel => exact ⟨_, _, rfl, rfl, rfl, hM.out, hL.out, hG.out, hH.out, tw.out⟩
      refine AllReadyH.cons (o := ?oi424) ?hi424 (fun K hK => ?st424) ?mo424
      case hi424 => rw [List.getElem?_toArray]; rfl
      case st424 =>
       go_simp
       have kM := hid tw.out.l
       have nGM := hid hG.out.lt
       replace hG := hid (hG.out.alloc (cellsR4 0 0 0 0))
       have nHM := hid hH.out.lt
       replace hH := hid (hH.out.alloc (cellsR4 0 0 0 0))
       have nLM := hid hL.out.lt
       replace hL := hid (hL.out.alloc (cellsR4 0 0 0 0))
       have hM := hid (RBox.new wc4 0 0 0 0)
       replace tw := hid (tw.out.alloc (cellsR4 0 0 0 0))
       generalize wc4.alloc (cellsR4 0 0 0 0) = wg11 at *
       refine hK.out _ _ ?hS424 (fun hHeld => ?re424)
       case hS424 => exact tw.out.S
       clear hK K
       try simp only [Act.put, setIfInBounds_toArray, set_cons_zero, set_cons_succ]
       refine wpAnyH_ready (fuel := 7) (rs := [6]) (by kernel_rfl) (by simp) ?_
       refine AllReadyH.cons (o := ?oi425) ?hi425 (fun K hK => ?st425) AllReadyH.nil
       case hi425 => rw [List.getElem?_toArray]; rfl
       go_simp
       refine (hp.out _).mono ?_
       rintro ee wc6 ⟨rfl, hbn⟩
       replace tw := hid (tw.out.below hbn)
       replace hG := hid (hG.out.below hbn)
       replace hH := hid (hH.out.below hbn)
       replace hL := hid (hL.out.below hbn)
       replace hM := hid (hM.out.below hbn)
       clear hbn
       go_wp2_with fail
       refine hK.out _ _ ?hS425 (fun hHeld => ?re425)
       case hS425 => exact tw.out.S
       clear hK K
       try simp only [Act.put, setIfInBounds_toArray, set_cons_zero, set_cons_succ]
       refine wpAnyH_take (i := 7) (oi := ?oi426) (v := ?v426) (fuel := 6) ?hi426 ?hs426 ?hf426 ?hr426 ?hq426 (Or.inl ⟨?hw426, ?hy426⟩) hHeld ?rest426
       case hi426 => rw [List.getElem?_toArray]; rfl
       case hq426 => exact fun _ _ _ h => h
       case hs426 | hf426 | hr426 => kernel_rfl
       case hw426 => rfl
       case hy426 => (intro w1 hSw; (try dsimp only at hSw); go_simp; try with_reducible rfl)
       try simp only [Act.put, setIfInBounds_toArray, set_cons_zero, set_cons_succ]
       refine wpAnyH_take (i := 8) (oi := ?oi427) (v := ?v427) (fuel := 5) ?hi427 ?hs427 ?hf427 ?hr427 ?hq427 (Or.inl ⟨?hw427, ?hy427⟩) hHeld ?rest427
       case hi427 => rw [List.getElem?_toArray]; rfl
       case hq427 => exact fun _ _ _ h => h
       case hs427 | hf427 | hr427 => kernel_rfl
       case hw427 => rfl
       case hy427 => (intro w1 hSw; (try dsimp only at hSw); go_simp; try with_reducible rfl)
       try simp only [Act.put, setIfInBounds_toArray, set_cons_zero, set_cons_succ]
       refine wpAnyH_take (i := 9) (oi := ?oi428) (v := ?v428) (fuel := 4) ?hi428 ?hs428 ?hf428 ?hr428 ?hq428 (Or.inl ⟨?hw428, ?hy428⟩) hHeld ?rest428
       case hi428 => rw [List.getElem?_toArray]; rfl
       case hq428 => exact fun _ _ _ h => h
       case hs428 | hf428 | hr428 => kernel_rfl
       case hw428 => rfl
       case hy428 => (intro w1 hSw; (try dsimp only at hSw); go_simp; try with_reducible rfl)
       try simp only [Act.put, setIfInBounds_toArray, set_cons_zero, set_cons_succ]
       refine wpAnyH_take (i := 10) (oi := ?oi429) (v := ?v429) (fuel := 3) ?hi429 ?hs429 ?hf429 ?hr429 ?hq429 (Or.inl ⟨?hw429, ?hy429⟩) hHeld ?rest429
       case hi429 => rw [List.getElem?_toArray]; rfl
       case hq429 => exact fun _ _ _ h => h
       case hs429 | hf429 | hr429 => kernel_rfl
       case hw429 => rfl
       case hy429 => (intro w1 hSw; (try dsimp only at hSw); go_simp; try with_reducible rfl)
       try simp only [Act.put, setIfInBounds_toArray, set_cons_zero, set_cons_succ]
       refine wpAnyH_ready (fuel := 2) (rs := [13]) (by kernel_rfl) (by simp) ?_
       refine AllReadyH.cons (o := ?oi430) ?hi430 (fun K hK => ?st430) AllReadyH.nil
       case hi430 => rw [List.getElem?_toArray]; rfl
       obtain ⟨g0, g1, g2, g3⟩ := RBox.box hM.out
       have fq := RBox.frozen hM.out
       go_simp
       clear g0 g1 g2 g3 fq
       replace hG := hid (hG.out.st4o (k := wc4.heap.size) (by have := nGM.out; omega) x y z u)
       replace hH := hid (hH.out.st4o (k := wc4.heap.size) (by have := nHM.out; omega) x y z u)
       replace hL := hid (hL.out.st4o (k := wc4.heap.size) (by have := nLM.out; omega) x y z u)
       replace hM := hid (hM.out.st4 (x' := x) (y' := y) (z' := z) (u' := u))
       replace tw := hid (tw.out.st4 kM.out x y z u)
       unfold st4 at hM tw hG hH hL
       generalize ((((wc6.setCell ⟨wc4.heap.size, 0, none⟩ (.int .i64 x)).setCell ⟨wc4.heap.size, 1, none⟩ (.int .i64 y)).setCell ⟨wc4.heap.size, 2, none⟩ (.int .i64 z)).setCell ⟨wc4.heap.size, 3, none⟩ (.int .i64 u)) = ws13 at *
       refine hK.out _ _ ?hS430 (fun hHeld => ?re430)
       case hS430 => exact tw.out.S
       clear hK K
       try simp only [Act.put, setIfInBounds_toArray, set_cons_zero, set_cons_succ]
       refine wpAnyH_ready (fuel := 1) (rs := [14]) (by kernel_rfl) (by simp) ?_
       refine AllReadyH.cons (o := ?oi431) ?hi431 (fun K hK => ?st431) AllReadyH.nil
       case hi431 => rw [List.getElem?_toArray]; rfl
       obtain ⟨g0, g1, g2, g3⟩ := RBox.box hL.out
       have fq := RBox.frozen hL.out
       go_simp
       clear g0 g1 g2 g3 fq
       replace hG := hid (hG.out.st4o (k := wc2.heap.size) (by have := nGL.out; omega) x' y' z' u')
       replace hH := hid (hH.out.st4o (k := wc2.heap.size) (by have := nHL.out; omega) x' y' z' u')
       replace hM := hid (hM.out.st4o (k := wc2.heap.size) (by have := nLM.out; omega) x' y' z' u')
       replace hL := hid (hL.out.st4 (x' := x') (y' := y') (z' := z') (u' := u'))
       replace tw := hid (tw.out.st4 kL.out x' y' z' u')
       unfold st4 at hL tw hG hH hM
       generalize ((((ws13.setCell ⟨wc2.heap.size, 0, none⟩ (.int .i64 x')).setCell ⟨wc2.heap.size, 1, none⟩ (.int .i64 y')).setCell ⟨wc2.heap.size, 2, none⟩ (.int .i64 z')).setCell ⟨wc2.heap.size, 3, none⟩ (.int .i64 u')) = ws14 at *
       refine hK.out _ _ ?hS431 (fun hHeld => ?re431)
       case hS431 => exact tw.out.S
       clear hK K
       try simp only [Act.put, setIfInBounds_toArray, set_cons_zero, set_cons_succ]
       refine wpAnyH_take (i := 15) (oi := ?oi432) (v := ?v432) (fuel := 0) ?hi432 ?hs432 ?hf432 ?hr432 ?hq432 (Or.inl ⟨?hw432, ?hy432⟩) hHeld ?rest432
       case hi432 => rw [List.getElem?_toArray]; rfl
       case hq432 => exact fun _ _ _ h => h
       case hs432 | hf432 | hr432 => kernel_rfl
       case hw432 => rfl
       case hy432 => (intro w1 hSw; (try dsimp only at hSw); go_simp; try with_reducible rfl)
       try simp only [Act.put, setIfInBounds_toArray, set_cons_zero, set_cons_succ]
       refine wpAnyH_done (by kernel_rfl) ?_ _
       clear hHeld
       go_wp2_with fail
       go_meet
       case rel => exact ⟨_, _, rfl, rfl, rfl, hM.out, hL.out, hG.out, hH.out, tw.out⟩
      exact AllReadyH.nil
     refine AllReadyH.cons (o := ?oi433) ?hi433 (fun K hK => ?st433) ?mo433
     case hi433 => rw [List.getElem?_toArray]; rfl
     case st433 =>
      go_simp
      have kM := hid tw.out.l
      have nGM := hid hG.out.lt
      replace hG := hid (hG.out.alloc (cellsR4 0 0 0 0))
      have nHM := hid hH.out.lt
      replace hH := hid (hH.out.alloc (cellsR4 0 0 0 0))
      have nLM := hid hL.out.lt
      replace hL := hid (hL.out.alloc (cellsR4 0 0 0 0))
      have hM := hid (RBox.new wg12 0 0 0 0)
      replace tw := hid (tw.out.alloc (cellsR4 0 0 0 0))
      generalize wg12.alloc (cellsR4 0 0 0 0) = wg11 at *
      refine hK.out _ _ ?hS433 (fun hHeld => ?re433)
      case hS433 => exact tw.out.S
      clear hK K
      try simp only [Act.put, setIfInBounds_toArray, set_cons_zero, set_cons_succ]
      refine wpAnyH_ready (fuel := 8) (rs := [4]) (by kernel_rfl) (by simp) ?_
      refine AllReadyH.cons (o := ?oi434) ?hi434 (fun K hK => ?st434) AllReadyH.nil
      case hi434 => rw [List.getElem?_toArray]; rfl
      go_simp
      refine (c_toRange _ _ _ _ _).mono ?_
      rintro ee wc4 ⟨rfl, hbn⟩
      replace tw := hid (tw.out.below hbn)
      replace hG := hid (hG.out.below hbn)
      replace hH := hid (hH.out.below hbn)
      replace hL := hid (hL.out.below hbn)
      replace hM := hid (hM.out.below hbn)
      clear hbn
      go_wp2_with fail
      refine hK.out _ _ ?hS434 (fun hHeld => ?re434)
      case hS434 => exact tw.out.S
      clear hK K
      try simp only [Act.put, setIfInBounds_toArray, set_cons_zero, set_cons_succ]
      refine wpAnyH_ready (fuel := 7) (rs := [6]) (by kernel_rfl) (by simp) ?_
      refine AllReadyH.cons (o := ?oi435) ?hi435 (fun K hK => ?st435) AllReadyH.nil
      case hi435 => rw [List.getElem?_toArray]; rfl
      go_simp
      refine (hp.out _).mono ?_
      rintro ee wc6 ⟨rfl, hbn⟩
      replace tw := hid (tw.out.below hbn)
      replace hG := hid (hG.out.below hbn)
      replace hH := hid (hH.out.below hbn)
      replace hL := hid (hL.out.below hbn)
      replace hM := hid (hM.out.below hbn)
      clear hbn
      go_wp2_with fail
      refine hK.out _ _ ?hS435 (fun hHeld => ?re435)
      case hS435 => exact tw.out.S
      clear hK K
      try simp only [Act.put, setIfInBounds_toArray, set_cons_zero, set_cons_succ]
      refine wpAnyH_take (i := 7) (oi := ?oi436) (v := ?v436) (fuel := 6) ?hi436 ?hs436 ?hf436 ?hr436 ?hq436 (Or.inl ⟨?hw436, ?hy436⟩) hHeld ?rest436
      case hi436 => rw [List.getElem?_toArray]; rfl
      case hq436 => exact fun _ _ _ h => h
      case hs436 | hf436 | hr436 => kernel_rfl
      case hw436 => rfl
      case hy436 => (intro w1 hSw; (try dsimp only at hSw); go_simp; try with_reducible rfl)
      try simp only [Act.put, setIfInBounds_toArray, set_cons_zero, set_cons_succ]
      refine wpAnyH_take (i := 8) (oi := ?oi437) (v := ?v437) (fuel := 5) ?hi437 ?hs437 ?hf437 ?hr437 ?hq437 (Or.inl ⟨?hw437, ?hy437⟩) hHeld ?rest437
      case hi437 => rw [List.getElem?_toArray]; rfl
      case hq437 => exact fun _ _ _ h => h
      case hs437 | hf437 | hr437 => kernel_rfl
      case hw437 => rfl
      case hy437 => (intro w1 hSw; (try dsimp only at hSw); go_simp; try with_reducible rfl)
      try simp only [Act.put, setIfInBounds_toArray, set_cons_zero, set_cons_succ]
      refine wpAnyH_take (i := 9) (oi := ?oi438) (v := ?v438) (fuel := 4) ?hi438 ?hs438 ?hf438 ?hr438 ?hq438 (Or.inl ⟨?hw438, ?hy438⟩) hHeld ?rest438
      case hi438 => rw [List.getElem?_toArray]; rfl
      case hq438 => exact fun _ _ _ h => h
      case hs438 | hf438 | hr438 => kernel_rfl
      case hw438 => rfl
      case hy438 => (intro w1 hSw; (try dsimp only at hSw); go_simp; try with_reducible rfl)
      try simp only [Act.put, setIfInBounds_toArray, set_cons_zero, set_cons_succ]
      refine wpAnyH_take (i := 10) (oi := ?oi439) (v := ?v439) (fuel := 3) ?hi439 ?hs439 ?hf439 ?hr439 ?hq439 (Or.inl ⟨?hw439, ?hy439⟩) hHeld ?rest439
      case hi439 => rw [List.getElem?_toArray]; rfl
      case hq439 => exact fun _ _ _ h => h
      case hs439 | hf439 | hr439 => kernel_rfl
      case hw439 => rfl
      case hy439 => (intro w1 hSw; (try dsimp only at hSw); go_simp; try with_reducible rfl)
      try simp only [Act.put, setIfInBounds_toArray, set_cons_zero, set_cons_succ]
      refine wpAnyH_ready (fuel := 2) (rs := [13]) (by kernel_rfl) (by simp) ?_
      refine AllReadyH.cons (o := ?oi440) ?hi440 (fun K hK => ?st440) AllReadyH.nil
      case hi440 => rw [List.getElem?_toArray]; rfl
      obtain ⟨g0, g1, g2, g3⟩ := RBox.box hM.out
      have fq := RBox.frozen hM.out
      go_simp
      clear g0 g1 g2 g3 fq
      replace hG := hid (hG.out.st4o (k := wg12.heap.size) (by have := nGM.out; omega) x y z u)
      replace hH := hid (hH.out.st4o (k := wg12.heap.size) (by have := nHM.out; omega) x y z u)
      replace hL := hid (hL.out.st4o (k := wg12.heap.size) (by have := nLM.out; omega) x y z u)
      replace hM := hid (hM.out.st4 (x' := x) (y' := y) (z' := z) (u' := u))
      replace tw := hid (tw.out.st4 kM.out x y z u)
      unfold st4 at hM tw hG hH hL
      generalize ((((wc6.setCell ⟨wg12.heap.size, 0, none⟩ (.int .i64 x)).setCell ⟨wg12.heap.size, 1, none⟩ (.int .i64 y)).setCell ⟨wg12.heap.size, 2, none⟩ (.int .i64 z)).setCell ⟨wg12.heap.size, 3, none⟩ (.int .i64 u)) = ws13 at *
      refine hK.out _ _ ?hS440 (fun hHeld => ?re440)
      case hS440 => exact tw.out.S
      clear hK K
      try simp only [Act.put, setIfInBounds_toArray, set_cons_zero, set_cons_succ]
      refine wpAnyH_ready (fuel := 1) (rs := [14]) (by kernel_rfl) (by simp) ?_
      refine AllReadyH.cons (o := ?oi441) ?hi441 (fun K hK => ?st441) AllReadyH.nil
      case hi441 => rw [List.getElem?_toArray]; rfl
      obtain ⟨g0, g1, g2, g3⟩ := RBox.box hL.out
      have fq := RBox.frozen hL.out
      go_simp
      clear g0 g1 g2 g3 fq
      replace hG := hid (hG.out.st4o (k := wc2.heap.size) (by have := nGL.out; omega) x' y' z' u')
      replace hH := hid (hH.out.st4o (k := wc2.heap.size) (by have := nHL.out; omega) x' y' z' u')
      replace hM := hid (hM.out.st4o (k := wc2.heap.size) (by have := nLM.out; omega) x' y' z' u')
      replace hL := hid (hL.out.st4 (x' := x') (y' := y') (z' := z') (u' := u'))
      replace tw := hid (tw.out.st4 kL.out x' y' z' u')
      unfold st4 at hL tw hG hH hM
      generalize ((((ws13.setCell ⟨wc2.heap.size, 0, none⟩ (.int .i64 x')).setCell ⟨wc2.heap.size, 1, none⟩ (.int .i64 y')).setCell ⟨wc2.heap.size, 2, none⟩ (.int .i64 z')).setCell ⟨wc2.heap.size, 3, none⟩ (.int .i64 u')) = ws14 at *
      refine hK.out _ _ ?hS441 (fun hHeld => ?re441)
      case hS441 => exact tw.out.S
      clear hK K
      try simp only [Act.put, setIfInBounds_toArray, set_cons_zero, set_cons_succ]
      refine wpAnyH_take (i := 15) (oi := ?oi442) (v := ?v442) (fuel := 0) ?hi442 ?hs442 ?hf442 ?hr442 ?hq442 (Or.inl ⟨?hw442, ?hy442⟩) hHeld ?rest442
      case hi442 => rw [List.getElem?_toArray]; rfl
      case hq442 => exact fun _ _ _ h => h
      case hs442 | hf442 | hr442 => kernel_rfl
      case hw442 => rfl
      case hy442 => (intro w1 hSw; (try dsimp only at hSw); go_simp; try with_reducible rfl)
      try simp only [Act.put, setIfInBounds_toArray, set_cons_zero, set_cons_succ]
      refine wpAnyH_done (by kernel_rfl) ?_ _
      clear hHeld
      go_wp2_with fail
      go_meet
      case rel => exact ⟨_, _, rfl, rfl, rfl, hM.out, hL.out, hG.out, hH.out, tw.out⟩
     exact AllReadyH.nil
    exact AllReadyH.nil
   refine AllReadyH.cons (o := ?oi443) ?hi443 (fun K hK => ?st443) ?mo443
   case hi443 => rw [List.getElem?_toArray]; rfl
   case st443 =>
    go_simp
    have kM := hid tw.out.l
    have nGM := hid hG.out.lt
    replace hG := hid (hG.out.alloc (cellsR4 0 0 0 0))
    have nHM := hid hH.out.lt
    replace hH := hid (hH.out.alloc (cellsR4 0 0 0 0))
    have hM := hid (RBox.new W1 0 0 0 0)
    replace tw := hid (tw.out.alloc (cellsR4 0 0 0 0))
    generalize W1.alloc (cellsR4 0 0 0 0) = wg11 at *
    refine hK.out _ _ ?hS443 (fun hHeld => ?re443)
    case hS443 => exact tw.out.S
    clear hK K
    try simp only [Act.put, setIfInBounds_toArray, set_cons_zero, set_cons_succ]
    refine wpAnyH_ready (fuel := 10) (rs := [2, 12]) (by kernel_rfl) (by simp) ?_
    refine AllReadyH.cons (o := ?oi444) ?hi444 (fun K hK => ?st444) ?mo444
    case hi444 => rw [List.getElem?_toArray]; rfl
    case st444 =>
     go_simp
     refine (c_toRange _ _ _ _ _).mono ?_
     rintro ee wc2 ⟨rfl, hbn⟩
     replace tw := hid (tw.out.below hbn)
     replace hG := hid (hG.out.below hbn)
     replace hH := hid (hH.out.below hbn)
     replace hM := hid (hM.out.below hbn)
     clear hbn
     go_wp2_with fail
     refine hK.out _ _ ?hS444 (fun hHeld => ?re444)
     case hS444 => exact tw.out.S
     clear hK K
     try simp only [Act.put, setIfInBounds_toArray, set_cons_zero, set_cons_succ]
     refine wpAnyH_ready (fuel := 9) (rs := [4, 12]) (by kernel_rfl) (by simp) ?_
     refine AllReadyH.cons (o := ?oi445) ?hi445 (fun K hK => ?st445) ?mo445
     case hi445 => rw [List.getElem?_toArray]; rfl
     case st445 =>
      go_simp
      refine (c_toRange _ _ _ _ _).mono ?_
      rintro ee wc4 ⟨rfl, hbn⟩
      replace tw := hid (tw.out.below hbn)
      replace hG := hid (hG.out.below hbn)
      replace hH := hid (hH.out.below hbn)
      replace hM := hid (hM.out.below hbn)
      clear hbn
      go_wp2_with fail
      refine hK.out _ _ ?hS445 (fun hHeld => ?re445)
      case hS445 => exact tw.out.S
      clear hK K
      try simp only [Act.put, setIfInBounds_toArray, set_cons_zero, set_cons_succ]
      refine wpAnyH_ready (fuel := 8) (rs := [6, 12]) (by kernel_rfl) (by simp) ?_
      refine AllReadyH.cons (o := ?oi446) ?hi446 (fun K hK => ?st446) ?mo446
      case hi446 => rw [List.getElem?_toArray]; rfl
      case st446 =>
       go_simp
       refine (hp.out _).mono ?_
       rintro ee wc6 ⟨rfl, hbn⟩
       replace tw := hid (tw.out.below hbn)
       replace hG := hid (hG.out.below hbn)
       replace hH := hid (hH.out.below hbn)
       replace hM := hid (hM.out.below hbn)
       clear hbn
       go_wp2_with fail
       refine hK.out _ _ ?hS446 (fun hHeld => ?re446)
       case hS446 => exact tw.out.S
       clear hK K
       try simp only [Act.put, setIfInBounds_toArray, set_cons_zero, set_cons_succ]
       refine wpAnyH_take (i := 7) (oi := ?oi447) (v := ?v447) (fuel := 7) ?hi447 ?hs447 ?hf447 ?hr447 ?hq447 (Or.inl ⟨?hw447, ?hy447⟩) hHeld ?rest447
       case hi447 => rw [List.getElem?_toArray]; rfl
       case hq447 => exact fun _ _ _ h => h
       case hs447 | hf447 | hr447 => kernel_rfl
       case hw447 => rfl
       case hy447 => (intro w1 hSw; (try dsimp only at hSw); go_simp; try with_reducible rfl)
       try simp only [Act.put, setIfInBounds_toArray, set_cons_zero, set_cons_succ]
       refine wpAnyH_take (i := 8) (oi := ?oi448) (v := ?v448) (fuel := 6) ?hi448 ?hs448 ?hf448 ?hr448 ?hq448 (Or.inl ⟨?hw448, ?hy448⟩) hHeld ?rest448
       case hi448 => rw [List.getElem?_toArray]; rfl
       case hq448 => exact fun _ _ _ h => h
       case hs448 | hf448 | hr448 => kernel_rfl
       case hw448 => rfl
       case hy448 => (intro w1 hSw; (try dsimp only at hSw); go_simp; try with_reducible rfl)
       try simp only [Act.put, setIfInBounds_toArray, set_cons_zero, set_cons_succ]
       refine wpAnyH_take (i := 9) (oi := ?oi449) (v := ?v449) (fuel := 5) ?hi449 ?hs449 ?hf449 ?hr449 ?hq449 (Or.inl ⟨?hw449, ?hy449⟩) hHeld ?rest449
       case hi449 => rw [List.getElem?_toArray]; rfl
       case hq449 => exact fun _ _ _ h => h
       case hs449 | hf449 | hr449 => kernel_rfl
       case hw449 => rfl
       case hy449 => (intro w1 hSw; (try dsimp only at hSw); go_simp; try with_reducible rfl)
       try simp only [Act.put, setIfInBounds_toArray, set_cons_zero, set_cons_succ]
       refine wpAnyH_take (i := 10) (oi := ?oi450) (v := ?v450) (fuel := 4) ?hi450 ?hs450 ?hf450 ?hr450 ?hq450 (Or.inl ⟨?hw450, ?hy450⟩) hHeld ?rest450
       case hi450 => rw [List.getElem?_toArray]; rfl
       case hq450 => exact fun _ _ _ h => h
       case hs450 | hf450 | hr450 => kernel_rfl
       case hw450 => rfl
       case hy450 => (intro w1 hSw; (try dsimp only at hSw); go_simp; try with_reducible rfl)
       try simp only [Act.put, setIfInBounds_toArray, set_cons_zero, set_cons_succ]
       refine wpAnyH_ready (fuel := 3) (rs := [12]) (by kernel_rfl) (by simp) ?_
       refine AllReadyH.cons (o := ?oi451) ?hi451 (fun K hK => ?st451) AllReadyH.nil
       case hi451 => rw [List.getElem?_toArray]; rfl
       go_simp
       have kL := hid tw.out.l
       have nGL := hid hG.out.lt
       replace hG := hid (hG.out.alloc (cellsR4 0 0 0 0))
       have nHL := hid hH.out.lt
       replace hH := hid (hH.out.alloc (cellsR4 0 0 0 0))
       have nML := hid hM.out.lt
       replace hM := hid (hM.out.alloc (cellsR4 0 0 0 0))
       have hL := hid (RBox.new wc6 0 0 0 0)
       replace tw := hid (tw.out.alloc (cellsR4 0 0 0 0))
       generalize wc6.alloc (cellsR4 0 0 0 0) = wg12 at *
       refine hK.out _ _ ?hS451 (fun hHeld => ?re451)
       case hS451 => exact tw.out.S
       clear hK K
       try simp only [Act.put, setIfInBounds_toArray, set_cons_zero, set_cons_succ]
       refine wpAnyH_ready (fuel := 2) (rs := [13]) (by kernel_rfl) (by simp) ?_
       refine AllReadyH.cons (o := ?oi452) ?hi452 (fun K hK => ?st452) AllReadyH.nil
       case hi452 => rw [List.getElem?_toArray]; rfl
       obtain ⟨g0, g1, g2, g3⟩ := RBox.box hM.out
       have fq := RBox.frozen hM.out
       go_simp
       clear g0 g1 g2 g3 fq
       replace hG := hid (hG.out.st4o (k := W1.heap.size) (by have := nGM.out; omega) x y z u)
       replace hH := hid (hH.out.st4o (k := W1.heap.size) (by have := nHM.out; omega) x y z u)
       replace hL := hid (hL.out.st4o (k := W1.heap.size) (by have := nML.out; omega) x y z u)
       replace hM := hid (hM.out.st4 (x' := x) (y' := y) (z' := z) (u' := u))
       replace tw := hid (tw.out.st4 kM.out x y z u)
       unfold st4 at hM tw hG hH hL
       generalize ((((wg12.setCell ⟨W1.heap.size, 0, none⟩ (.int .i64 x)).setCell ⟨W1.heap.size, 1, none⟩ (.int .i64 y)).setCell ⟨W1.heap.size, 2, none⟩ (.int .i64 z)).setCell ⟨W1.heap.size, 3, none⟩ (.int .i64 u)) = ws13 at *
       refine hK.out _ _ ?hS452 (fun hHeld => ?re452)
       case hS452 => exact tw.out.S
       clear hK K
       try simp only [Act.put, setIfInBounds_toArray, set_cons_zero, set_cons_succ]
       refine wpAnyH_ready (fuel := 1) (rs := [14]) (by kernel_rfl) (by simp) ?_
       refine AllReadyH.cons (o := ?oi453) ?hi453 (fun K hK => ?st453) AllReadyH.nil
       case hi453 => rw [List.getElem?_toArray]; rfl
       obtain ⟨g0, g1, g2, g3⟩ := RBox.box hL.out
       have fq := RBox.frozen hL.out
       go_simp
       clear g0 g1 g2 g3 fq
       replace hG := hid (hG.out.st4o (k := wc6.heap.size) (by have := nGL.out; omega) x' y' z' u')
       replace hH := hid (hH.out.st4o (k := wc6.heap.size) (by have := nHL.out; omega) x' y' z' u')
       replace hM := hid (hM.out.st4o (k := wc6.heap.size) (by have := nML.out; omega) x' y' z' u')
       replace hL := hid (hL.out.st4 (x' := x') (y' := y') (z' := z') (u' := u'))
       replace tw := hid (tw.out.st4 kL.out x' y' z' u')
       unfold st4 at hL tw hG hH hM
       generalize ((((ws13.setCell ⟨wc6.heap.size, 0, none⟩ (.int .i64 x')).setCell ⟨wc6.heap.size, 1, none⟩ (.int .i64 y')).setCell ⟨wc6.heap.size, 2, none⟩ (.int .i64 z')).setCell ⟨wc6.heap.size, 3, none⟩ (.int .i64 u')) = ws14 at *
       refine hK.out _ _ ?hS453 (fun hHeld => ?re453)
       case hS453 => exact tw.out.S
       clear hK K
       try simp only [Act.put, setIfInBounds_toArray, set_cons_zero, set_cons_succ]
       refine wpAnyH_take (i := 15) (oi := ?oi454) (v := ?v454) (fuel := 0) ?hi454 ?hs454 ?hf454 ?hr454 ?hq454 (Or.inl ⟨?hw454, ?hy454⟩) hHeld ?rest454
       case hi454 => rw [List.getElem?_toArray]; rfl
       case hq454 => exact fun _ _ _ h => h
       case hs454 | hf454 | hr454 => kernel_rfl
       case hw454 => rfl
       case hy454 => (intro w1 hSw; (try dsimp only at hSw); go_simp; try with_reducible rfl)
       try simp only [Act.put, setIfInBounds_toArray, set_cons_zero, set_cons_succ]
       refine wpAnyH_done (by kernel_rfl) ?_ _
       clear hHeld
       go_wp2_with fail
       go_meet
       case rel => exact ⟨_, _, rfl, rfl, rfl, hM.out, hL.out, hG.out, hH.out, tw.out⟩
      refine AllReadyH.cons (o := ?oi455) ?hi455 (fun K hK => ?st455) ?mo455
      case hi455 => rw [List.getElem?_toArray]; rfl
      case st455 =>
       go_simp
       have kL := hid tw.out.l
       have nGL := hid hG.out.lt
       replace hG := hid (hG.out.alloc (cellsR4 0 0 0 0))
       have nHL := hid hH.out.lt
       replace hH := hid (hH.out.alloc (cellsR4 0 0 0 0))
       have nML := hid hM.out.lt
       replace hM := hid (hM.out.alloc (cellsR4 0 0 0 0))
       have hL := hid (RBox.new wc4 0 0 0 0)
       replace tw := hid (tw.out.alloc (cellsR4 0 0 0 0))
       generalize wc4.alloc (cellsR4 0 0 0 0) = wg12 at *
       refine hK.out _ _ ?hS455 (fun hHeld => ?re455)
       case hS455 => exact tw.out.S
       clear hK K
       try simp only [Act.put, setIfInBounds_toArray, set_cons_zero, set_cons_succ]
       refine wpAnyH_ready (fuel := 7) (rs := [6]) (by kernel_rfl) (by simp) ?_
       refine AllReadyH.cons (o := ?oi456) ?hi456 (fun K hK => ?st456) AllReadyH.nil
       case hi456 => rw [List.getElem?_toArray]; rfl
       go_simp
       refine (hp.out _).mono ?_
       rintro ee wc6 ⟨rfl, hbn⟩
       replace tw := hid (tw.out.below hbn)
       replace hG := hid (hG.out.below hbn)
       replace hH := hid (hH.out.below hbn)
       replace hM := hid (hM.out.below hbn)
       replace hL := hid (hL.out.below hbn)
       clear hbn
       go_wp2_with fail
       refine hK.out _ _ ?hS456 (fun hHeld => ?re456)
       case hS456 => exact tw.out.S
       clear hK K
       try simp only [Act.put, setIfInBounds_toArray, set_cons_zero, set_cons_succ]
       refine wpAnyH_take (i := 7) (oi := ?oi457) (v := ?v457) (fuel := 6) ?hi457 ?hs457 ?hf457 ?hr457 ?hq457 (Or.inl ⟨?hw457, ?hy457⟩) hHeld ?rest457
       case hi457 => rw [List.getElem?_toArray]; rfl
       case hq457 => exact fun _ _ _ h => h
       case hs457 | hf457 | hr457 => kernel_rfl
       case hw457 => rfl
       case hy457 => (intro w1 hSw; (try dsimp only at hSw); go_simp; try with_reducible rfl)
       try simp only [Act.put, setIfInBounds_toArray, set_cons_zero, set_cons_succ]
       refine wpAnyH_take (i := 8) (oi := ?oi458) (v := ?v458) (fuel := 5) ?hi458 ?hs458 ?hf458 ?hr458 ?hq458 (Or.inl ⟨?hw458, ?hy458⟩) hHeld ?rest458
       case hi458 => rw [List.getElem?_toArray]; rfl
       case hq458 => exact fun _ _ _ h => h
       case hs458 | hf458 | hr458 => kernel_rfl
       case hw458 => rfl
       case hy458 => (intro w1 hSw; (try dsimp only at hSw); go_simp; try with_reducible rfl)
       try simp only [Act.put, setIfInBounds_toArray, set_cons_zero, set_cons_succ]
       refine wpAnyH_take (i := 9) (oi := ?oi459) (v := ?v459) (fuel := 4) ?hi459 ?hs459 ?hf459 ?hr459 ?hq459 (Or.inl ⟨?hw459, ?hy459⟩) hHeld ?rest459
       case hi459 => rw [List.getElem?_toArray]; rfl
       case hq459 => exact fun _ _ _ h => h
       case hs459 | hf459 | hr459 => kernel_rfl
       case hw459 => rfl
       case hy459 => (intro w1 hSw; (try dsimp only at hSw); go_simp; try with_reducible rfl)
       try simp only [Act.put, setIfInBounds_toArray, set_cons_zero, set_cons_succ]
       refine wpAnyH_take (i := 10) (oi := ?oi460) (v := ?v460) (fuel := 3) ?hi460 ?hs460 ?hf460 ?hr460 ?hq460 (Or.inl ⟨?hw460, ?hy460⟩) hHeld ?rest460
       case hi460 => rw [List.getElem?_toArray]; rfl
       case hq460 => exact fun _ _ _ h => h
       case hs460 | hf460 | hr460 => kernel_rfl
       case hw460 => rfl
       case hy460 => (intro w1 hSw; (try dsimp only at hSw); go_simp; try with_reducible rfl)
       try simp only [Act.put, setIfInBounds_toArray, set_cons_zero, set_cons_succ]
       refine wpAnyH_ready (fuel := 2) (rs := [13]) (by kernel_rfl) (by simp) ?_
       refine AllReadyH.cons (o := ?oi461) ?hi461 (fun K hK => ?st461) AllReadyH.nil
       case hi461 => rw [List.getElem?_toArray]; rfl
       obtain ⟨g0, g1, g2, g3⟩ := RBox.box hM.out
       have fq := RBox.frozen hM.out
       go_simp
       clear g0 g1 g2 g3 fq
       replace hG := hid (hG.out.st4o (k := W1.heap.size) (by have := nGM.out; omega) x y z u)
       replace hH := hid (hH.out.st4o (k := W1.heap.size) (by have := nHM.out; omega) x y z u)
       replace hL := hid (hL.out.st4o (k := W1.heap.size) (by have := nML.out; omega) x y z u)
       replace hM := hid (hM.out.st4 (x' := x) (y' := y) (z' := z) (u' := u))
       replace tw := hid (tw.out.st4 kM.out x y z u)
       unfold st4 at hM tw hG hH hL
       generalize ((((wc6.setCell ⟨W1.heap.size, 0, none⟩ (.int .i64 x)).setCell ⟨W1.heap.size, 1, none⟩ (.int .i64 y)).setCell ⟨W1.heap.size, 2, none⟩ (.int .i64 z)).setCell ⟨W1.heap.size, 3, none⟩ (.int .i64 u)) = ws13 at *
       refine hK.out _ _ ?hS461 (fun hHeld => ?re461)
       case hS461 => exact tw.out.S
       clear hK K
       try simp only [Act.put, setIfInBounds_toArray, set_cons_zero, set_cons_succ]
       refine wpAnyH_ready (fuel := 1) (rs := [14]) (by kernel_rfl) (by simp) ?_
       refine AllReadyH.cons (o := ?oi462) ?hi462 (fun K hK => ?st462) AllReadyH.nil
       case hi462 => rw [List.getElem?_toArray]; rfl
       obtain ⟨g0, g1, g2, g3⟩ := RBox.box hL.out
       have fq := RBox.frozen hL.out
       go_simp
       clear g0 g1 g2 g3 fq
       replace hG := hid (hG.out.st4o (k := wc4.heap.size) (by have := nGL.out; omega) x' y' z' u')
       replace hH := hid (hH.out.st4o (k := wc4.heap.size) (by have := nHL.out; omega) x' y' z' u')
       replace hM := hid (hM.out.st4o (k := wc4.heap.size) (by have := nML.out; omega) x' y' z' u')
       replace hL := hid (hL.out.st4 (x' := x') (y' := y') (z' := z') (u' := u'))
       replace tw := hid (tw.out.st4 kL.out x' y' z' u')
       unfold st4 at hL tw hG hH hM
       generalize ((((ws13.setCell ⟨wc4.heap.size, 0, none⟩ (.int .i64 x')).setCell ⟨wc4.heap.size, 1, none⟩ (.int .i64 y')).setCell ⟨wc4.heap.size, 2, none⟩ (.int .i64 z')).setCell ⟨wc4.heap.size, 3, none⟩ (.int .i64 u')) = ws14 at *
       refine hK.out _ _ ?hS462 (fun hHeld => ?re462)
       case hS462 => exact tw.out.S
       clear hK K
       try simp only [Act.put, setIfInBounds_toArray, set_cons_zero, set_cons_succ]
       refine wpAnyH_take (i := 15) (oi := ?oi463) (v := ?v463) (fuel := 0) ?hi463 ?hs463 ?hf463 ?hr463 ?hq463 (Or.inl ⟨?hw463, ?hy463⟩) hHeld ?rest463
       case hi463 => rw [List.getElem?_toArray]; rfl
       case hq463 => exact fun _ _ _ h => h
       case hs463 | hf463 | hr463 => kernel_rfl
       case hw463 => rfl
       case hy463 => (intro w1 hSw; (try dsimp only at hSw); go_simp; try with_reducible rfl)
       try simp only [Act.put, setIfInBounds_toArray, set_cons_zero, set_cons_succ]
       refine wpAnyH_done (by kernel_rfl) ?_ _
       clear hHeld
       go_wp2_with fail
       go_meet
       case rel => exact ⟨_, _, rfl, rfl, rfl, hM.out, hL.out, hG.out, hH.out, tw.out⟩
      exact AllReadyH.nil
     refine AllReadyH.cons (o := ?oi464) ?hi464 (fun K hK => ?st464) ?mo464
     case hi464 => rw [List.getElem?_toArray]; rfl
     case st464 =>
      go_simp
      have kL := hid tw.out.l
      have nGL := hid hG.out.lt
      replace hG := hid (hG.out.alloc (cellsR4 0 0 0 0))
      have nHL := hid hH.out.lt
      replace hH := hid (hH.out.alloc (cellsR4 0 0 0 0))
      have nML := hid hM.out.lt
      replace hM := hid (hM.out.alloc (cellsR4 0 0 0 0))
      have hL := hid (RBox.new wc2 0 0 0 0)
      replace tw := hid (tw.out.alloc (cellsR4 0 0 0 0))
      generalize wc2.alloc (cellsR4 0 0 0 0) = wg12 at *
      refine hK.out _ _ ?hS464 (fun hHeld => ?re464)
      case hS464 => exact tw.out.S
      clear hK K
      try simp only [Act.put, setIfInBounds_toArray, set_cons_zero, set_cons_succ]
      refine wpAnyH_ready (fuel := 8) (rs := [4]) (by kernel_rfl) (by simp) ?_
      refine AllReadyH.cons (o := ?oi465) ?hi465 (fun K hK => ?st465) AllReadyH.nil
      case hi465 => rw [List.getElem?_toArray]; rfl
      go_simp
      refine (c_toRange _ _ _ _ _).mono ?_
      rintro ee wc4 ⟨rfl, hbn⟩
      replace tw := hid (tw.out.below hbn)
      replace hG := hid (hG.out.below hbn)
      replace hH := hid (hH.out.below hbn)
      replace hM := hid (hM.out.below hbn)
      replace hL := hid (hL.out.below hbn)
      clear hbn
      go_wp2_with fail
      refine hK.out _ _ ?hS465 (fun hHeld => ?re465)
      case hS465 => exact tw.out.S
      clear hK K
      try simp only [Act.put, setIfInBounds_toArray, set_cons_zero, set_cons_succ]
      refine wpAnyH_ready (fuel := 7) (rs := [6]) (by kernel_rfl) (by simp) ?_
      refine AllReadyH.cons (o := ?oi466) ?hi466 (fun K hK => ?st466) AllReadyH.nil
      case hi466 => rw [List.getElem?_toArray]; rfl
      go_simp
      refine (hp.out _).mono ?_
      rintro ee wc6 ⟨rfl, hbn⟩
      replace tw := hid (tw.out.below hbn)
      replace hG := hid (hG.out.below hbn)
      replace hH := hid (hH.out.below hbn)
      replace hM := hid (hM.out.below hbn)
      replace hL := hid (hL.out.below hbn)
      clear hbn
      go_wp2_with fail
      refine hK.out _ _ ?hS466 (fun hHeld => ?re466)
      case hS466 => exact tw.out.S
      clear hK K
      try simp only [Act.put, setIfInBounds_toArray, set_cons_zero, set_cons_succ]
      refine wpAnyH_take (i := 7) (oi := ?oi467) (v := ?v467) (fuel := 6) ?hi467 ?hs467 ?hf467 ?hr467 ?hq467 (Or.inl ⟨?hw467, ?hy467⟩) hHeld ?rest467
      case hi467 => rw [List.getElem?_toArray]; rfl
      case hq467 => exact fun _ _ _ h => h
      case hs467 | hf467 | hr467 => kernel_rfl
      case hw467 => rfl
      case hy467 => (intro w1 hSw; (try dsimp only at hSw); go_simp; try with_reducible rfl)
      try simp only [Act.put, setIfInBounds_toArray, set_cons_zero, set_cons_succ]
      refine wpAnyH_take (i := 8) (oi := ?oi468) (v := ?v468) (fuel := 5) ?hi468 ?hs468 ?hf468 ?hr468 ?hq468 (Or.inl ⟨?hw468, ?hy468⟩) hHeld ?rest468
      case hi468 => rw [List.getElem?_toArray]; rfl
      case hq468 => exact fun _ _ _ h => h
      case hs468 | hf468 | hr468 => kernel_rfl
      case hw468 => rfl
      case hy468 => (intro w1 hSw; (try dsimp only at hSw); go_simp; try with_reducible rfl)
      try simp only [Act.put, setIfInBounds_toArray, set_cons_zero, set_cons_succ]
      refine wpAnyH_take (i := 9) (oi := ?oi469) (v := ?v469) (fuel := 4) ?hi469 ?hs469 ?hf469 ?hr469 ?hq469 (Or.inl ⟨?hw469, ?hy469⟩) hHeld ?rest469
      case hi469 => rw [List.getElem?_toArray]; rfl
      case hq469 => exact fun _ _ _ h => h
      case hs469 | hf469 | hr469 => kernel_rfl
      case hw469 => rfl
      case hy469 => (intro w1 hSw; (try dsimp only at hSw); go_simp; try with_reducible rfl)
      try simp only [Act.put, setIfInBounds_toArray, set_cons_zero, set_cons_succ]
      refine wpAnyH_take (i := 10) (oi := ?oi470) (v := ?v470) (fuel := 3) ?hi470 ?hs470 ?hf470 ?hr470 ?hq470 (Or.inl ⟨?hw470, ?hy470⟩) hHeld ?rest470
      case hi470 => rw [List.getElem?_toArray]; rfl
      case hq470 => exact fun _ _ _ h => h
      case hs470 | hf470 | hr470 => kernel_rfl
      case hw470 => rfl
      case hy470 => (intro w1 hSw; (try dsimp only at hSw); go_simp; try with_reducible rfl)
      try simp only [Act.put, setIfInBounds_toArray, set_cons_zero, set_cons_succ]
      refine wpAnyH_ready (fuel := 2) (rs := [13]) (by kernel_rfl) (by simp) ?_
      refine AllReadyH.cons (o := ?oi471) ?hi471 (fun K hK => ?st471) AllReadyH.nil
      case hi471 => rw [List.getElem?_toArray]; rfl
      obtain ⟨g0, g1, g2, g3⟩ := RBox.box hM.out
      have fq := RBox.frozen hM.out
      go_simp
      clear g0 g1 g2 g3 fq
      replace hG := hid (hG.out.st4o (k := W1.heap.size) (by have := nGM.out; omega) x y z u)
      replace hH := hid (hH.out.st4o (k := W1.heap.size) (by have := nHM.out; omega) x y z u)
      replace hL := hid (hL.out.st4o (k := W1.heap.size) (by have := nML.out; omega) x y z u)
      replace hM := hid (hM.out.st4 (x' := x) (y' := y) (z' := z) (u' := u))
      replace tw := hid (tw.out.st4 kM.out x y z u)
      unfold st4 at hM tw hG hH hL
      generalize ((((wc6.setCell ⟨W1.heap.size, 0, none⟩ (.int .i64 x)).setCell ⟨W1.heap.size, 1, none⟩ (.int .i64 y)).setCell ⟨W1.heap.size, 2, none⟩ (.int .i64 z)).setCell ⟨W1.heap.size, 3, none⟩ (.int .i64 u)) = ws13 at *
      refine hK.out _ _ ?hS471 (fun hHeld => ?re471)
      case hS471 => exact tw.out.S
      clear hK K
      try simp only [Act.put, setIfInBounds_toArray, set_cons_zero, set_cons_succ]
      refine wpAnyH_ready (fuel := 1) (rs := [14]) (by kernel_rfl) (by simp) ?_
      refine AllReadyH.cons (o := ?oi472) ?hi472 (fun K hK => ?st472) AllReadyH.nil
      case hi472 => rw [List.getElem?_toArray]; rfl
      obtain ⟨g0, g1, g2, g3⟩ := RBox.box hL.out
      have fq := RBox.frozen hL.out
      go_simp
      clear g0 g1 g2 g3 fq
      replace hG := hid (hG.out.st4o (k := wc2.heap.size) (by have := nGL.out; omega) x' y' z' u')
      replace hH := hid (hH.out.st4o (k := wc2.heap.size) (by have := nHL.out; omega) x' y' z' u')
      replace hM := hid (hM.out.st4o (k := wc2.heap.size) (by have := nML.out; omega) x' y' z' u')
      replace hL := hid (hL.out.st4 (x' := x') (y' := y') (z' := z') (u' := u'))
      replace tw := hid (tw.out.st4 kL.out x' y' z' u')
      unfold st4 at hL tw hG hH hM
      generalize ((((ws13.setCell ⟨wc2.heap.size, 0, none⟩ (.int .i64 x')).setCell ⟨wc2.heap.size, 1, none⟩ (.int .i64 y')).setCell ⟨wc2.heap.size, 2, none⟩ (.int .i64 z')).setCell ⟨wc2.heap.size, 3, none⟩ (.int .i64 u')) = ws14 at *
      refine hK.out _ _ ?hS472 (fun hHeld => ?re472)
      case hS472 => exact tw.out.S
      clear hK K
      try simp only [Act.put, setIfInBounds_toArray, set_cons_zero, set_cons_succ]
      refine wpAnyH_take (i := 15) (oi := ?oi473) (v := ?v473) (fuel := 0) ?hi473 ?hs473 ?hf473 ?hr473 ?hq473 (Or.inl ⟨?hw473, ?hy473⟩) hHeld ?rest473
      case hi473 => rw [List.getElem?_toArray]; rfl
      case hq473 => exact fun _ _ _ h => h
      case hs473 | hf473 | hr473 => kernel_rfl
      case hw473 => rfl
      case hy473 => (intro w1 hSw; (try dsimp only at hSw); go_simp; try with_reducible rfl)
      try simp only [Act.put, setIfInBounds_toArray, set_cons_zero, set_cons_succ]
      refine wpAnyH_done (by kernel_rfl) ?_ _
      clear hHeld
      go_wp2_with fail
      go_meet
      case rel => exact ⟨_, _, rfl, rfl, rfl, hM.out, hL.out, hG.out, hH.out, tw.out⟩
     exact AllReadyH.nil
    refine AllReadyH.cons (o := ?oi474) ?hi474 (fun K hK => ?st474) ?mo474
    case hi474 => rw [List.getElem?_toArray]; rfl
    case st474 =>
     go_simp
     have kL := hid tw.out.l
     have nGL := hid hG.out.lt
     replace hG := hid (hG.out.alloc (cellsR4 0 0 0 0))
     have nHL := hid hH.out.lt
     replace hH := hid (hH.out.alloc (cellsR4 0 0 0 0))
     have nML := hid hM.out.lt
     replace hM := hid (hM.out.alloc (cellsR4 0 0 0 0))
     have hL := hid (RBox.new wg11 0 0 0 0)
     replace tw := hid (tw.out.alloc (cellsR4 0 0 0 0))
     generalize wg11.alloc (cellsR4 0 0 0 0) = wg12 at *
     refine hK.out _ _ ?hS474 (fun hHeld => ?re474)
     case hS474 => exact tw.out.S
     clear hK K
     try simp only [Act.put, setIfInBounds_toArray, set_cons_zero, set_cons_succ]
     refine wpAnyH_ready (fuel := 9) (rs := [2]) (by kernel_rfl) (by simp) ?_
     refine AllReadyH.cons (o := ?oi475) ?hi475 (fun K hK => ?st475) AllReadyH.nil
     case hi475 => rw [List.getElem?_toArray]; rfl
     go_simp
     refine (c_toRange _ _ _ _ _).mono ?_
     rintro ee wc2 ⟨rfl, hbn⟩
     replace tw := hid (tw.out.below hbn)
     replace hG := hid (hG.out.below hbn)
     replace hH := hid (hH.out.below hbn)
     replace hM := hid (hM.out.below hbn)
     replace hL := hid (hL.out.below hbn)
     clear hbn
     go_wp2_with fail
     refine hK.out _ _ ?hS475 (fun hHeld => ?re475)
     case hS475 => exact tw.out.S
     clear hK K
     try simp only [Act.put, setIfInBounds_toArray, set_cons_zero, set_cons_succ]
     refine wpAnyH_ready (fuel := 8) (rs := [4]) (by kernel_rfl) (by simp) ?_
     refine AllReadyH.cons (o := ?oi476) ?hi476 (fun K hK => ?st476) AllReadyH.nil
     case hi476 => rw [List.getElem?_toArray]; rfl
     go_simp
     refine (c_toRange _ _ _ _ _).mono ?_
     rintro ee wc4 ⟨rfl, hbn⟩
     replace tw := hid (tw.out.below hbn)
     replace hG := hid (hG.out.below hbn)
     replace hH := hid (hH.out.below hbn)
     replace hM := hid (hM.out.below hbn)
     replace hL := hid (hL.out.below hbn)
     clear hbn
     go_wp2_with fail
     refine hK.out _ _ ?hS476 (fun hHeld => ?re476)
     case hS476 => exact tw.out.S
     clear hK K
     try simp only [Act.put, setIfInBounds_toArray, set_cons_zero, set_cons_succ]
     refine wpAnyH_ready (fuel := 7) (rs := [6]) (by kernel_rfl) (by simp) ?_
     refine AllReadyH.cons (o := ?oi477) ?hi477 (fun K hK => ?st477) AllReadyH.nil
     case hi477 => rw [List.getElem?_toArray]; rfl
     go_simp
     refine (hp.out _).mono ?_
     rintro ee wc6 ⟨rfl, hbn⟩
     replace tw := hid (tw.out.below hbn)
     replace hG := hid (hG.out.below hbn)
     replace hH := hid (hH.out.below hbn)
     replace hM := hid (hM.out.below hbn)
     replace hL := hid (hL.out.below hbn)
     clear hbn
     go_wp2_with fail
     refine hK.out _ _ ?hS477 (fun hHeld => ?re477)
     case hS477 => exact tw.out.S
     clear hK K
     try simp only [Act.put, setIfInBounds_toArray, set_cons_zero, set_cons_succ]
     refine wpAnyH_take (i := 7) (oi := ?oi478) (v := ?v478) (fuel := 6) ?hi478 ?hs478 ?hf478 ?hr478 ?hq478 (Or.inl ⟨?hw478, ?hy478⟩) hHeld ?rest478
     case hi478 => rw [List.getElem?_toArray]; rfl
     case hq478 => exact fun _ _ _ h => h
     case hs478 | hf478 | hr478 => kernel_rfl
     case hw478 => rfl
     case hy478 => (intro w1 hSw; (try dsimp only at hSw); go_simp; try with_reducible rfl)
     try simp only [Act.put, setIfInBounds_toArray, set_cons_zero, set_cons_succ]
     refine wpAnyH_take (i := 8) (oi := ?oi479) (v := ?v479) (fuel := 5) ?hi479 ?hs479 ?hf479 ?hr479 ?hq479 (Or.inl ⟨?hw479, ?hy479⟩) hHeld ?rest479
     case hi479 => rw [List.getElem?_toArray]; rfl
     case hq479 => exact fun _ _ _ h => h
     case hs479 | hf479 | hr479 => kernel_rfl
     case hw479 => rfl
     case hy479 => (intro w1 hSw; (try dsimp only at hSw); go_simp; try with_reducible rfl)
     try simp only [Act.put, setIfInBounds_toArray, set_cons_zero, set_cons_succ]
     refine wpAnyH_take (i := 9) (oi := ?oi480) (v := ?v480) (fuel := 4) ?hi480 ?hs480 ?hf480 ?hr480 ?hq480 (Or.inl ⟨?hw480, ?hy480⟩) hHeld ?rest480
     case hi480 => rw [List.getElem?_toArray]; rfl
     case hq480 => exact fun _ _ _ h => h
     case hs480 | hf480 | hr480 => kernel_rfl
     case hw480 => rfl
     case hy480 => (intro w1 hSw; (try dsimp only at hSw); go_simp; try with_reducible rfl)
     try simp only [Act.put, setIfInBounds_toArray, set_cons_zero, set_cons_succ]
     refine wpAnyH_take (i := 10) (oi := ?oi481) (v := ?v481) (fuel := 3) ?hi481 ?hs481 ?hf481 ?hr481 ?hq481 (Or.inl ⟨?hw481, ?hy481⟩) hHeld ?rest481
     case hi481 => rw [List.getElem?_toArray]; rfl
     case hq481 => exact fun _ _ _ h => h
     case hs481 | hf481 | hr481 => kernel_rfl
     case hw481 => rfl
     case hy481 => (intro w1 hSw; (try dsimp only at hSw); go_simp; try with_reducible rfl)
     try simp only [Act.put, setIfInBounds_toArray, set_cons_zero, set_cons_succ]
     refine wpAnyH_ready (fuel := 2) (rs := [13]) (by kernel_rfl) (by simp) ?_
     refine AllReadyH.cons (o := ?oi482) ?hi482 (fun K hK => ?st482) AllReadyH.nil
     case hi482 => rw [List.getElem?_toArray]; rfl
     obtain ⟨g0, g1, g2, g3⟩ := RBox.box hM.out
     have fq := RBox.frozen hM.out
     go_simp
     clear g0 g1 g2 g3 fq
     replace hG := hid (hG.out.st4o (k := W1.heap.size) (by have := nGM.out; omega) x y z u)
     replace hH := hid (hH.out.st4o (k := W1.heap.size) (by have := nHM.out; omega) x y z u)
     replace hL := hid (hL.out.st4o (k := W1.heap.size) (by have := nML.out; omega) x y z u)
     replace hM := hid (hM.out.st4 (x' := x) (y' := y) (z' := z) (u' := u))
     replace tw := hid (tw.out.st4 kM.out x y z u)
     unfold st4 at hM tw hG hH hL
     generalize ((((wc6.setCell ⟨W1.heap.size, 0, none⟩ (.int .i64 x)).setCell ⟨W1.heap.size, 1, none⟩ (.int .i64 y)).setCell ⟨W1.heap.size, 2, none⟩ (.int .i64 z)).setCell ⟨W1.heap.size, 3, none⟩ (.int .i64 u)) = ws13 at *
     refine hK.out _ _ ?hS482 (fun hHeld => ?re482)
     case hS482 => exact tw.out.S
     clear hK K
     try simp only [Act.put, setIfInBounds_toArray, set_cons_zero, set_cons_succ]
     refine wpAnyH_ready (fuel := 1) (rs := [14]) (by kernel_rfl) (by simp) ?_
     refine AllReadyH.cons (o := ?oi483) ?hi483 (fun K hK => ?st483) AllReadyH.nil
     case hi483 => rw [List.getElem?_toArray]; rfl
     obtain ⟨g0, g1, g2, g3⟩ := RBox.box hL.out
     have fq := RBox.frozen hL.out
     go_simp
     clear g0 g1 g2 g3 fq
     replace hG := hid (hG.out.st4o (k := wg11.heap.size) (by have := nGL.out; omega) x' y' z' u')
     replace hH := hid (hH.out.st4o (k := wg11.heap.size) (by have := nHL.out; omega) x' y' z' u')
     replace hM := hid (hM.out.st4o (k := wg11.heap.size) (by have := nML.out; omega) x' y' z' u')
     replace hL := hid (hL.out.st4 (x' := x') (y' := y') (z' := z') (u' := u'))
     replace tw := hid (tw.out.st4 kL.out x' y' z' u')
     unfold st4 at hL tw hG hH hM
     generalize ((((ws13.setCell ⟨wg11.heap.size, 0, none⟩ (.int .i64 x')).setCell ⟨wg11.heap.size, 1, none⟩ (.int .i64 y')).setCell ⟨wg11.heap.size, 2, none⟩ (.int .i64 z')).setCell ⟨wg11.heap.size, 3, none⟩ (.int .i64 u')) = ws14 at *
     refine hK.out _ _ ?hS483 (fun hHeld => ?re483)
     case hS483 => exact tw.out.S
     clear hK K
     try simp only [Act.put, setIfInBounds_toArray, set_cons_zero, set_cons_succ]
     refine wpAnyH_take (i := 15) (oi := ?oi484) (v := ?v484) (fuel := 0) ?hi484 ?hs484 ?hf484 ?hr484 ?hq484 (Or.inl ⟨?hw484, ?hy484⟩) hHeld ?rest484
     case hi484 => rw [List.getElem?_toArray]; rfl
     case hq484 => exact fun _ _ _ h => h
     case hs484 | hf484 | hr484 => kernel_rfl
     case hw484 => rfl
     case hy484 => (intro w1 hSw; (try dsimp only at hSw); go_simp; try with_reducible rfl)
     try simp only [Act.put, setIfInBounds_toArray, set_cons_zero, set_cons_succ]
     refine wpAnyH_done (by kernel_rfl) ?_ _
     clear hHeld
     go_wp2_with fail
     go_meet
     case rel => exact ⟨_, _, rfl, rfl, rfl, hM.out, hL.out, hG.out, hH.out, tw.out⟩
    exact AllReadyH.nil
   refine AllReadyH.cons (o := ?oi485) ?hi485 (fun K hK => ?st485) ?mo485
   case hi485 => rw [List.getElem?_toArray]; rfl
   case st485 =>
    go_simp
    have kL := hid tw.out.l
    have nGL := hid hG.out.lt
    replace hG := hid (hG.out.alloc (cellsR4 0 0 0 0))
    have nHL := hid hH.out.lt
    replace hH := hid (hH.out.alloc (cellsR4 0 0 0 0))
    have hL := hid (RBox.new W1 0 0 0 0)
    replace tw := hid (tw.out.alloc (cellsR4 0 0 0 0))
    generalize W1.alloc (cellsR4 0 0 0 0) = wg12 at *
    refine hK.out _ _ ?hS485 (fun hHeld => ?re485)
    case hS485 => exact tw.out.S
    clear hK K
    try simp only [Act.put, setIfInBounds_toArray, set_cons_zero, set_cons_succ]
    refine wpAnyH_ready (fuel := 10) (rs := [2, 11]) (by kernel_rfl) (by simp) ?_
    refine AllReadyH.cons (o := ?oi486) ?hi486 (fun K hK => ?st486) ?mo486
    case hi486 => rw [List.getElem?_toArray]; rfl
    case st486 =>
     go_simp
     refine (c_toRange _ _ _ _ _).mono ?_
     rintro ee wc2 ⟨rfl, hbn⟩
     replace tw := hid (tw.out.below hbn)
     replace hG := hid (hG.out.below hbn)
     replace hH := hid (hH.out.below hbn)
     replace hL := hid (hL.out.below hbn)
     clear hbn
     go_wp2_with fail
     refine hK.out _ _ ?hS486 (fun hHeld => ?re486)
     case hS486 => exact tw.out.S
     clear hK K
     try simp only [Act.put, setIfInBounds_toArray, set_cons_zero, set_cons_succ]
     refine wpAnyH_ready (fuel := 9) (rs := [4, 11]) (by kernel_rfl) (by simp) ?_
     refine AllReadyH.cons (o := ?oi487) ?hi487 (fun K hK => ?st487) ?mo487
     case hi487 => rw [List.getElem?_toArray]; rfl
     case st487 =>
      go_simp
      refine (c_toRange _ _ _ _ _).mono ?_
      rintro ee wc4 ⟨rfl, hbn⟩
      replace tw := hid (tw.out.below hbn)
      replace hG := hid (hG.out.below hbn)
      replace hH := hid (hH.out.below hbn)
      replace hL := hid (hL.out.below hbn)
      clear hbn
      go_wp2_with fail
      refine hK.out _ _ ?hS487 (fun hHeld => ?re487)
      case hS487 => exact tw.out.S
      clear hK K
      try simp only [Act.put, setIfInBounds_toArray, set_cons_zero, set_cons_succ]
      refine wpAnyH_ready (fuel := 8) (rs := [6, 11]) (by kernel_rfl) (by simp) ?_
      refine AllReadyH.cons (o := ?oi488) ?hi488 (fun K hK => ?st488) ?mo488
      case hi488 => rw [List.getElem?_toArray]; rfl
      case st488 =>
       go_simp
       refine (hp.out _).mono ?_
       rintro ee wc6 ⟨rfl, hbn⟩
       replace tw := hid (tw.out.below hbn)
       replace hG := hid (hG.out.below hbn)
       replace hH := hid (hH.out.below hbn)
       replace hL := hid (hL.out.below hbn)
       clear hbn
       go_wp2_with fail
       refine hK.out _ _ ?hS488 (fun hHeld => ?re488)
       case hS488 => exact tw.out.S
       clear hK K
       try simp only [Act.put, setIfInBounds_toArray, set_cons_zero, set_cons_succ]
       refine wpAnyH_take (i := 7) (oi := ?oi489) (v := ?v489) (fuel := 7) ?hi489 ?hs489 ?hf489 ?hr489 ?hq489 (Or.inl ⟨?hw489, ?hy489⟩) hHeld ?rest489
       case hi489 => rw [List.getElem?_toArray]; rfl
       case hq489 => exact fun _ _ _ h => h
       case hs489 | hf489 | hr489 => kernel_rfl
       case hw489 => rfl
       case hy489 => (intro w1 hSw; (try dsimp only at hSw); go_simp; try with_reducible rfl)
       try simp only [Act.put, setIfInBounds_toArray, set_cons_zero, set_cons_succ]
       refine wpAnyH_take (i := 8) (oi := ?oi490) (v := ?v490) (fuel := 6) ?hi490 ?hs490 ?hf490 ?hr490 ?hq490 (Or.inl ⟨?hw490, ?hy490⟩) hHeld ?rest490
       case hi490 => rw [List.getElem?_toArray]; rfl
       case hq490 => exact fun _ _ _ h => h
       case hs490 | hf490 | hr490 => kernel_rfl
       case hw490 => rfl
       case hy490 => (intro w1 hSw; (try dsimp only at hSw); go_simp; try with_reducible rfl)
       try simp only [Act.put, setIfInBounds_toArray, set_cons_zero, set_cons_succ]
       refine wpAnyH_take (i := 9) (oi := ?oi491) (v := ?v491) (fuel := 5) ?hi491 ?hs491 ?hf491 ?hr491 ?hq491 (Or.inl ⟨?hw491, ?hy491⟩) hHeld ?rest491
       case hi491 => rw [List.getElem?_toArray]; rfl
       case hq491 => exact fun _ _ _ h => h
       case hs491 | hf491 | hr491 => kernel_rfl
       case hw491 => rfl
       case hy491 => (intro w1 hSw; (try dsimp only at hSw); go_simp; try with_reducible rfl)
       try simp only [Act.put, setIfInBounds_toArray, set_cons_zero, set_cons_succ]
       refine wpAnyH_take (i := 10) (oi := ?oi492) (v := ?v492) (fuel := 4) ?hi492 ?hs492 ?hf492 ?hr492 ?hq492 (Or.inl ⟨?hw492, ?hy492⟩) hHeld ?rest492
       case hi492 => rw [List.getElem?_toArray]; rfl
       case hq492 => exact fun _ _ _ h => h
       case hs492 | hf492 | hr492 => kernel_rfl
       case hw492 => rfl
       case hy492 => (intro w1 hSw; (try dsimp only at hSw); go_simp; try with_reducible rfl)
       try simp only [Act.put, setIfInBounds_toArray, set_cons_zero, set_cons_succ]
       refine wpAnyH_ready (fuel := 3) (rs := [11]) (by kernel_rfl) (by simp) ?_
       refine AllReadyH.cons (o := ?oi493) ?hi493 (fun K hK => ?st493) AllReadyH.nil
       case hi493 => rw [List.getElem?_toArray]; rfl
       go_simp
       have kM := hid tw.out.l
       have nGM := hid hG.out.lt
       replace hG := hid (hG.out.alloc (cellsR4 0 0 0 0))
       have nHM := hid hH.out.lt
       replace hH := hid (hH.out.alloc (cellsR4 0 0 0 0))
       have nLM := hid hL.out.lt
       replace hL := hid (hL.out.alloc (cellsR4 0 0 0 0))
       have hM := hid (RBox.new wc6 0 0 0 0)
       replace tw := hid (tw.out.alloc (cellsR4 0 0 0 0))
       generalize wc6.alloc (cellsR4 0 0 0 0) = wg11 at *
       refine hK.out _ _ ?hS493 (fun hHeld => ?re493)
       case hS493 => exact tw.out.S
       clear hK K
       try simp only [Act.put, setIfInBounds_toArray, set_cons_zero, set_cons_succ]
       refine wpAnyH_ready (fuel := 2) (rs := [13]) (by kernel_rfl) (by simp) ?_
       refine AllReadyH.cons (o := ?oi494) ?hi494 (fun K hK => ?st494) AllReadyH.nil
       case hi494 => rw [List.getElem?_toArray]; rfl
       obtain ⟨g0, g1, g2, g3⟩ := RBox.box hM.out
       have fq := RBox.frozen hM.out
       go_simp
       clear g0 g1 g2 g3 fq
       replace hG := hid (hG.out.st4o (k := wc6.heap.size) (by have := nGM.out; omega) x y z u)
       replace hH := hid (hH.out.st4o (k := wc6.heap.size) (by have := nHM.out; omega) x y z u)
       replace hL := hid (hL.out.st4o (k := wc6.heap.size) (by have := nLM.out; omega) x y z u)
       replace hM := hid (hM.out.st4 (x' := x) (y' := y) (z' := z) (u' := u))
       replace tw := hid (tw.out.st4 kM.out x y z u)
       unfold st4 at hM tw hG hH hL
       generalize ((((wg11.setCell ⟨wc6.heap.size, 0, none⟩ (.int .i64 x)).setCell ⟨wc6.heap.size, 1, none⟩ (.int .i64 y)).setCell ⟨wc6.heap.size, 2, none⟩ (.int .i64 z)).setCell ⟨wc6.heap.size, 3, none⟩ (.int .i64 u)) = ws13 at *
       refine hK.out _ _ ?hS494 (fun hHeld => ?re494)
       case hS494 => exact tw.out.S
       clear hK K
       try simp only [Act.put, setIfInBounds_toArray, set_cons_zero, set_cons_succ]
       refine wpAnyH_ready (fuel := 1) (rs := [14]) (by kernel_rfl) (by simp) ?_
       refine AllReadyH.cons (o := ?oi495) ?hi495 (fun K hK => ?st495) AllReadyH.nil
       case hi495 => rw [List.getElem?_toArray]; rfl
       obtain ⟨g0, g1, g2, g3⟩ := RBox.box hL.out
       have fq := RBox.frozen hL.out
       go_simp
       clear g0 g1 g2 g3 fq
       replace hG := hid (hG.out.st4o (k := W1.heap.size) (by have := nGL.out; omega) x' y' z' u')
       replace hH := hid (hH.out.st4o (k := W1.heap.size) (by have := nHL.out; omega) x' y' z' u')
       replace hM := hid (hM.out.st4o (k := W1.heap.size) (by have := nLM.out; omega) x' y' z' u')
       replace hL := hid (hL.out.st4 (x' := x') (y' := y') (z' := z') (u' := u'))
       replace tw := hid (tw.out.st4 kL.out x' y' z' u')
       unfold st4 at hL tw hG hH hM
       generalize ((((ws13.setCell ⟨W1.heap.size, 0, none⟩ (.int .i64 x')).setCell ⟨W1.heap.size, 1, none⟩ (.int .i64 y')).setCell ⟨W1.heap.size, 2, none⟩ (.int .i64 z')).setCell ⟨W1.heap.size, 3, none⟩ (.int .i64 u')) = ws14 at *
       refine hK.out _ _ ?hS495 (fun hHeld => ?re495)
       case hS495 => exact tw.out.S
       clear hK K
       try simp only [Act.put, setIfInBounds_toArray, set_cons_zero, set_cons_succ]
       refine wpAnyH_take (i := 15) (oi := ?oi496) (v := ?v496) (fuel := 0) ?hi496 ?hs496 ?hf496 ?hr496 ?hq496 (Or.inl ⟨?hw496, ?hy496⟩) hHeld ?rest496
       case hi496 => rw [List.getElem?_toArray]; rfl
       case hq496 => exact fun _ _ _ h => h
       case hs496 | hf496 | hr496 => kernel_rfl
       case hw496 => rfl
       case hy496 => (intro w1 hSw; (try dsimp only at hSw); go_simp; try with_reducible rfl)
       try simp only [Act.put, setIfInBounds_toArray, set_cons_zero, set_cons_succ]
       refine wpAnyH_done (by kernel_rfl) ?_ _
       clear hHeld
       go_wp2_with fail
       go_meet
       case rel => exact ⟨_, _, rfl, rfl, rfl, hM.out, hL.out, hG.out, hH.out, tw.out⟩
      refine AllReadyH.cons (o := ?oi497) ?hi497 (fun K hK => ?st497) ?mo497
      case hi497 => rw [List.getElem?_toArray]; rfl
      case st497 =>
       go_simp
       have kM := hid tw.out.l
       have nGM := hid hG.out.lt
       replace hG := hid (hG.out.alloc (cellsR4 0 0 0 0))
       have nHM := hid hH.out.lt
       replace hH := hid (hH.out.alloc (cellsR4 0 0 0 0))
       have nLM := hid hL.out.lt
       replace hL := hid (hL.out.alloc (cellsR4 0 0 0 0))
       have hM := hid (RBox.new wc4 0 0 0 0)
       replace tw := hid (tw.out.alloc (cellsR4 0 0 0 0))
       generalize wc4.alloc (cellsR4 0 0 0 0) = wg11 at *
       refine hK.out _ _ ?hS497 (fun hHeld => ?re497)
       case hS497 => exact tw.out.S
       clear hK K
       try simp only [Act.put, setIfInBounds_toArray, set_cons_zero, set_cons_succ]
       refine wpAnyH_ready (fuel := 7) (rs := [6]) (by kernel_rfl) (by simp) ?_
       refine AllReadyH.cons (o := ?oi498) ?hi498 (fun K hK => ?st498) AllReadyH.nil
       case hi498 => rw [List.getElem?_toArray]; rfl
       go_simp
       refine (hp.out _).mono ?_
       rintro ee wc6 ⟨rfl, hbn⟩
       replace tw := hid (tw.out.below hbn)
       replace hG := hid (hG.out.below hbn)
       replace hH := hid (hH.out.below hbn)
       replace hL := hid (hL.out.below hbn)
       replace hM := hid (hM.out.below hbn)
       clear hbn
       go_wp2_with fail
       refine hK.out _ _ ?hS498 (fun hHeld => ?re498)
       case hS498 => exact tw.out.S
       clear hK K
       try simp only [Act.put, setIfInBounds_toArray, set_cons_zero, set_cons_succ]
       refine wpAnyH_take (i := 7) (oi := ?oi499) (v := ?v499) (fuel := 6) ?hi499 ?hs499 ?hf499 ?hr499 ?hq499 (Or.inl ⟨?hw499, ?hy499⟩) hHeld ?rest499
       case hi499 => rw [List.getElem?_toArray]; rfl
       case hq499 => exact fun _ _ _ h => h
       case hs499 | hf499 | hr499 => kernel_rfl
       case hw499 => rfl
       case hy499 => (intro w1 hSw; (try dsimp only at hSw); go_simp; try with_reducible rfl)
       try simp only [Act.put, setIfInBounds_toArray, set_cons_zero, set_cons_succ]
       refine wpAnyH_take (i := 8) (oi := ?oi500) (v := ?v500) (fuel := 5) ?hi500 ?hs500 ?hf500 ?hr500 ?hq500 (Or.inl ⟨?hw500, ?hy500⟩) hHeld ?rest500
       case hi500 => rw [List.getElem?_toArray]; rfl
       case hq500 => exact fun _ _ _ h => h
       case hs500 | hf500 | hr500 => kernel_rfl
       case hw500 => rfl
       case hy500 => (intro w1 hSw; (try dsimp only at hSw); go_simp; try with_reducible rfl)
       try simp only [Act.put, setIfInBounds_toArray, set_cons_zero, set_cons_succ]
       refine wpAnyH_take (i := 9) (oi := ?oi501) (v := ?v501) (fuel := 4) ?hi501 ?hs501 ?hf501 ?hr501 ?hq501 (Or.inl ⟨?hw501, ?hy501⟩) hHeld ?rest501
       case hi501 => rw [List.getElem?_toArray]; rfl
       case hq501 => exact fun _ _ _ h => h
       case hs501 | hf501 | hr501 => kernel_rfl
       case hw501 => rfl
       case hy501 => (intro w1 hSw; (try dsimp only at hSw); go_simp; try with_reducible rfl)
       try simp only [Act.put, setIfInBounds_toArray, set_cons_zero, set_cons_succ]
       refine wpAnyH_take (i := 10) (oi := ?oi502) (v := ?v502) (fuel := 3) ?hi502 ?hs502 ?hf502 ?hr502 ?hq502 (Or.inl ⟨?hw502, ?hy502⟩) hHeld ?rest502
       case hi502 => rw [List.getElem?_toArray]; rfl
       case hq502 => exact fun _ _ _ h => h
       case hs502 | hf502 | hr502 => kernel_rfl
       case hw502 => rfl
       case hy502 => (intro w1 hSw; (try dsimp only at hSw); go_simp; try with_reducible rfl)
       try simp only [Act.put, setIfInBounds_toArray, set_cons_zero, set_cons_succ]
       refine wpAnyH_ready (fuel := 2) (rs := [13]) (by kernel_rfl) (by simp) ?_
       refine AllReadyH.cons (o := ?oi503) ?hi503 (fun K hK => ?st503) AllReadyH.nil
       case hi503 => rw [List.getElem?_toArray]; rfl
       obtain ⟨g0, g1, g2, g3⟩ := RBox.box hM.out
       have fq := RBox.frozen hM.out
       go_simp
       clear g0 g1 g2 g3 fq
       replace hG := hid (hG.out.st4o (k := wc4.heap.size) (by have := nGM.out; omega) x y z u)
       replace hH := hid (hH.out.st4o (k := wc4.heap.size) (by have := nHM.out; omega) x y z u)
       replace hL := hid (hL.out.st4o (k := wc4.heap.size) (by have := nLM.out; omega) x y z u)
       replace hM := hid (hM.out.st4 (x' := x) (y' := y) (z' := z) (u' := u))
       replace tw := hid (tw.out.st4 kM.out x y z u)
       unfold st4 at hM tw hG hH hL
       generalize ((((wc6.setCell ⟨wc4.heap.size, 0, none⟩ (.int .i64 x)).setCell ⟨wc4.heap.size, 1, none⟩ (.int .i64 y)).setCell ⟨wc4.heap.size, 2, none⟩ (.int .i64 z)).setCell ⟨wc4.heap.size, 3, none⟩ (.int .i64 u)) = ws13 at *
       refine hK.out _ _ ?hS503 (fun hHeld => ?re503)
       case hS503 => exact tw.out.S
       clear hK K
       try simp only [Act.put, setIfInBounds_toArray, set_cons_zero, set_cons_succ]
       refine wpAnyH_ready (fuel := 1) (rs := [14]) (by kernel_rfl) (by simp) ?_
       refine AllReadyH.cons (o := ?oi504) ?hi504 (fun K hK => ?st504) AllReadyH.nil
       case hi504 => rw [List.getElem?_toArray]; rfl
       obtain ⟨g0, g1, g2, g3⟩ := RBox.box hL.out
       have fq := RBox.frozen hL.out
       go_simp
       clear g0 g1 g2 g3 fq
       replace hG := hid (hG.out.st4o (k := W1.heap.size) (by have := nGL.out; omega) x' y' z' u')
       replace hH := hid (hH.out.st4o (k := W1.heap.size) (by have := nHL.out; omega) x' y' z' u')
       replace hM := hid (hM.out.st4o (k := W1.heap.size) (by have := nLM.out; omega) x' y' z' u')
       replace hL := hid (hL.out.st4 (x' := x') (y' := y') (z' := z') (u' := u'))
       replace tw := hid (tw.out.st4 kL.out x' y' z' u')
       unfold st4 at hL tw hG hH hM
       generalize ((((ws13.setCell ⟨W1.heap.size, 0, none⟩ (.int .i64 x')).setCell ⟨W1.heap.size, 1, none⟩ (.int .i64 y')).setCell ⟨W1.heap.size, 2, none⟩ (.int .i64 z')).setCell ⟨W1.heap.size, 3, none⟩ (.int .i64 u')) = ws14 at *
       refine hK.out _ _ ?hS504 (fun hHeld => ?re504)
       case hS504 => exact tw.out.S
       clear hK K
       try simp only [Act.put, setIfInBounds_toArray, set_cons_zero, set_cons_succ]
       refine wpAnyH_take (i := 15) (oi := ?oi505) (v := ?v505) (fuel := 0) ?hi505 ?hs505 ?hf505 ?hr505 ?hq505 (Or.inl ⟨?hw505, ?hy505⟩) hHeld ?rest505
       case hi505 => rw [List.getElem?_toArray]; rfl
       case hq505 => exact fun _ _ _ h => h
       case hs505 | hf505 | hr505 => kernel_rfl
       case hw505 => rfl
       case hy505 => (intro w1 hSw; (try dsimp only at hSw); go_simp; try with_reducible rfl)
       try simp only [Act.put, setIfInBounds_toArray, set_cons_zero, set_cons_succ]
       refine wpAnyH_done (by kernel_rfl) ?_ _
       clear hHeld
       go_wp2_with fail
       go_meet
       case rel => exact ⟨_, _, rfl, rfl, rfl, hM.out, hL.out, hG.out, hH.out, tw.out⟩
      exact AllReadyH.nil
     refine AllReadyH.cons (o := ?oi506) ?hi506 (fun K hK => ?st506) ?mo506
     case hi506 => rw [List.getElem?_toArray]; rfl
     case st506 =>
      go_simp
      have kM := hid tw.out.l
      have nGM := hid hG.out.lt
      replace hG := hid (hG.out.alloc (cellsR4 0 0 0 0))
      have nHM := hid hH.out.lt
      replace hH := hid (hH.out.alloc (cellsR4 0 0 0 0))
      have nLM := hid hL.out.lt
      replace hL := hid (hL.out.alloc (cellsR4 0 0 0 0))
      have hM := hid (RBox.new wc2 0 0 0 0)
      replace tw := hid (tw.out.alloc (cellsR4 0 0 0 0))
      generalize wc2.alloc (cellsR4 0 0 0 0) = wg11 at *
      refine hK.out _ _ ?hS506 (fun hHeld => ?re506)
      case hS506 => exact tw.out.S
      clear hK K
      try simp only [Act.put, setIfInBounds_toArray, set_cons_zero, set_cons_succ]
      refine wpAnyH_ready (fuel := 8) (rs := [4]) (by kernel_rfl) (by simp) ?_
      refine AllReadyH.cons (o := ?oi507) ?hi507 (fun K hK => ?st507) AllReadyH.nil
      case hi507 => rw [List.getElem?_toArray]; rfl
      go_simp
      refine (c_toRange _ _ _ _ _).mono ?_
      rintro ee wc4 ⟨rfl, hbn⟩
      replace tw := hid (tw.out.below hbn)
      replace hG := hid (hG.out.below hbn)
      replace hH := hid (hH.out.below hbn)
      replace hL := hid (hL.out.below hbn)
      replace hM := hid (hM.out.below hbn)
      clear hbn
      go_wp2_with fail
      refine hK.out _ _ ?hS507 (fun hHeld => ?re507)
      case hS507 => exact tw.out.S
      clear hK K
      try simp only [Act.put, setIfInBounds_toArray, set_cons_zero, set_cons_succ]
      refine wpAnyH_ready (fuel := 7) (rs := [6]) (by kernel_rfl) (by simp) ?_
      refine AllReadyH.cons (o := ?oi508) ?hi508 (fun K hK => ?st508) AllReadyH.nil
      case hi508 => rw [List.getElem?_toArray]; rfl
      go_simp
      refine (hp.out _).mono ?_
      rintro ee wc6 ⟨rfl, hbn⟩
      replace tw := hid (tw.out.below hbn)
      replace hG := hid (hG.out.below hbn)
      replace hH := hid (hH.out.below hbn)
      replace hL := hid (hL.out.below hbn)
      replace hM := hid (hM.out.below hbn)
      clear hbn
      go_wp2_with fail
      refine hK.out _ _ ?hS508 (fun hHeld => ?re508)
      case hS508 => exact tw.out.S
      clear hK K
      try simp only [Act.put, setIfInBounds_toArray, set_cons_zero, set_cons_succ]
      refine wpAnyH_take (i := 7) (oi := ?oi509) (v := ?v509) (fuel := 6) ?hi509 ?hs509 ?hf509 ?hr509 ?hq509 (Or.inl ⟨?hw509, ?hy509⟩) hHeld ?rest509
      case hi509 => rw [List.getElem?_toArray]; rfl
      case hq509 => exact fun _ _ _ h => h
      case hs509 | hf509 | hr509 => kernel_rfl
      case hw509 => rfl
      case hy509 => (intro w1 hSw; (try dsimp only at hSw); go_simp; try with_reducible rfl)
      try simp only [Act.put, setIfInBounds_toArray, set_cons_zero, set_cons_succ]
      refine wpAnyH_take (i := 8) (oi := ?oi510) (v := ?v510) (fuel := 5) ?hi510 ?hs510 ?hf510 ?hr510 ?hq510 (Or.inl ⟨?hw510, ?hy510⟩) hHeld ?rest510
      case hi510 => rw [List.getElem?_toArray]; rfl
      case hq510 => exact fun _ _ _ h => h
      case hs510 | hf510 | hr510 => kernel_rfl
      case hw510 => rfl
      case hy510 => (intro w1 hSw; (try dsimp only at hSw); go_simp; try with_reducible rfl)
      try simp only [Act.put, setIfInBounds_toArray, set_cons_zero, set_cons_succ]
      refine wpAnyH_take (i := 9) (oi := ?oi511) (v := ?v511) (fuel := 4) ?hi511 ?hs511 ?hf511 ?hr511 ?hq511 (Or.inl ⟨?hw511, ?hy511⟩) hHeld ?rest511
      case hi511 => rw [List.getElem?_toArray]; rfl
      case hq511 => exact fun _ _ _ h => h
      case hs511 | hf511 | hr511 => kernel_rfl
      case hw511 => rfl
      case hy511 => (intro w1 hSw; (try dsimp only at hSw); go_simp; try with_reducible rfl)
      try simp only [Act.put, setIfInBounds_toArray, set_cons_zero, set_cons_succ]
      refine wpAnyH_take (i := 10) (oi := ?oi512) (v := ?v512) (fuel := 3) ?hi512 ?hs512 ?hf512 ?hr512 ?hq512 (Or.inl ⟨?hw512, ?hy512⟩) hHeld ?rest512
      case hi512 => rw [List.getElem?_toArray]; rfl
      case hq512 => exact fun _ _ _ h => h
      case hs512 | hf512 | hr512 => kernel_rfl
      case hw512 => rfl
      case hy512 => (intro w1 hSw; (try dsimp only at hSw); go_simp; try with_reducible rfl)
      try simp only [Act.put, setIfInBounds_toArray, set_cons_zero, set_cons_succ]
      refine wpAnyH_ready (fuel := 2) (rs := [13]) (by kernel_rfl) (by simp) ?_
      refine AllReadyH.cons (o := ?oi513) ?hi513 (fun K hK => ?st513) AllReadyH.nil
      case hi513 => rw [List.getElem?_toArray]; rfl
      obtain ⟨g0, g1, g2, g3⟩ := RBox.box hM.out
      have fq := RBox.frozen hM.out
      go_simp
      clear g0 g1 g2 g3 fq
      replace hG := hid (hG.out.st4o (k := wc2.heap.size) (by have := nGM.out; omega) x y z u)
      replace hH := hid (hH.out.st4o (k := wc2.heap.size) (by have := nHM.out; omega) x y z u)
      replace hL := hid (hL.out.st4o (k := wc2.heap.size) (by have := nLM.out; omega) x y z u)
      replace hM := hid (hM.out.st4 (x' := x) (y' := y) (z' := z) (u' := u))
      replace tw := hid (tw.out.st4 kM.out x y z u)
      unfold st4 at hM tw hG hH hL
      generalize ((((wc6.setCell ⟨wc2.heap.size, 0, none⟩ (.int .i64 x)).setCell ⟨wc2.heap.size, 1, none⟩ (.int .i64 y)).setCell ⟨wc2.heap.size, 2, none⟩ (.int .i64 z)).setCell ⟨wc2.heap.size, 3, none⟩ (.int .i64 u)) = ws13 at *
      refine hK.out _ _ ?hS513 (fun hHeld => ?re513)
      case hS513 => exact tw.out.S
      clear hK K
      try simp only [Act.put, setIfInBounds_toArray, set_cons_zero, set_cons_succ]
      refine wpAnyH_ready (fuel := 1) (rs := [14]) (by kernel_rfl) (by simp) ?_
      refine AllReadyH.cons (o := ?oi514) ?hi514 (fun K hK => ?st514) AllReadyH.nil
      case hi514 => rw [List.getElem?_toArray]; rfl
      obtain ⟨g0, g1, g2, g3⟩ := RBox.box hL.out
      have fq := RBox.frozen hL.out
      go_simp
      clear g0 g1 g2 g3 fq
      replace hG := hid (hG.out.st4o (k := W1.heap.size) (by have := nGL.out; omega) x' y' z' u')
      replace hH := hid (hH.out.st4o (k := W1.heap.size) (by have := nHL.out; omega) x' y' z' u')
      replace hM := hid (hM.out.st4o (k := W1.heap.size) (by have := nLM.out; omega) x' y' z' u')
      replace hL := hid (hL.out.st4 (x' := x') (y' := y') (z' := z') (u' := u'))
      replace tw := hid (tw.out.st4 kL.out x' y' z' u')
      unfold st4 at hL tw hG hH hM
      generalize ((((ws13.setCell ⟨W1.heap.size, 0, none⟩ (.int .i64 x')).setCell ⟨W1.heap.size, 1, none⟩ (.int .i64 y')).setCell ⟨W1.heap.size, 2, none⟩ (.int .i64 z')).setCell ⟨W1.heap.size, 3, none⟩ (.int .i64 u')) = ws14 at *
      refine hK.out _ _ ?hS514 (fun hHeld => ?re514)
      case hS514 => exact tw.out.S
      clear hK K
      try simp only [Act.put, setIfInBounds_toArray, set_cons_zero, set_cons_succ]
      refine wpAnyH_take (i := 15) (oi := ?oi515) (v := ?v515) (fuel := 0) ?hi515 ?hs515 ?hf515 ?hr515 ?hq515 (Or.inl ⟨?hw515, ?hy515⟩) hHeld ?rest515
      case hi515 => rw [List.getElem?_toArray]; rfl
      case hq515 => exact fun _ _ _ h => h
      case hs515 | hf515 | hr515 => kernel_rfl
      case hw515 => rfl
      case hy515 => (intro w1 hSw; (try dsimp only at hSw); go_simp; try with_reducible rfl)
      try simp only [Act.put, setIfInBounds_toArray, set_cons_zero, set_cons_succ]
      refine wpAnyH_done (by kernel_rfl) ?_ _
      clear hHeld
      go_wp2_with fail
      go_meet
      case rel => exact ⟨_, _, rfl, rfl, rfl, hM.out, hL.out, hG.out, hH.out, tw.out⟩
     exact AllReadyH.nil
    refine AllReadyH.cons (o := ?oi516) ?hi516 (fun K hK => ?st516) ?mo516
    case hi516 => rw [List.getElem?_toArray]; rfl
    case st516 =>
     go_simp
     have kM := hid tw.out.l
     have nGM := hid hG.out.lt
     replace hG := hid (hG.out.alloc (cellsR4 0 0 0 0))
     have nHM := hid hH.out.lt
     replace hH := hid (hH.out.alloc (cellsR4 0 0 0 0))
     have nLM := hid hL.out.lt
     replace hL := hid (hL.out.alloc (cellsR4 0 0 0 0))
     have hM := hid (RBox.new wg12 0 0 0 0)
     replace tw := hid (tw.out.alloc (cellsR4 0 0 0 0))
     generalize wg12.alloc (cellsR4 0 0 0 0) = wg11 at *
     refine hK.out _ _ ?hS516 (fun hHeld => ?re516)
     case hS516 => exact tw.out.S
     clear hK K
     try simp only [Act.put, setIfInBounds_toArray, set_cons_zero, set_cons_succ]
     refine wpAnyH_ready (fuel := 9) (rs := [2]) (by kernel_rfl) (by simp) ?_
     refine AllReadyH.cons (o := ?oi517) ?hi517 (fun K hK => ?st517) AllReadyH.nil
     case hi517 => rw [List.getElem?_toArray]; rfl
     go_simp
     refine (c_toRange _ _ _ _ _).mono ?_
     rintro ee wc2 ⟨rfl, hbn⟩
     replace tw := hid (tw.out.below hbn)
     replace hG := hid (hG.out.below hbn)
     replace hH := hid (hH.out.below hbn)
     replace hL := hid (hL.out.below hbn)
     replace hM := hid (hM.out.below hbn)
     clear hbn
     go_wp2_with fail
     refine hK.out _ _ ?hS517 (fun hHeld => ?re517)
     case hS517 => exact tw.out.S
     clear hK K
     try simp only [Act.put, setIfInBounds_toArray, set_cons_zero, set_cons_succ]
     refine wpAnyH_ready (fuel := 8) (rs := [4]) (by kernel_rfl) (by simp) ?_
     refine AllReadyH.cons (o := ?oi518) ?hi518 (fun K hK => ?st518) AllReadyH.nil
     case hi518 => rw [List.getElem?_toArray]; rfl
     go_simp
     refine (c_toRange _ _ _ _ _).mono ?_
     rintro ee wc4 ⟨rfl, hbn⟩
     replace tw := hid (tw.out.below hbn)
     replace hG := hid (hG.out.below hbn)
     replace hH := hid (hH.out.below hbn)
     replace hL := hid (hL.out.below hbn)
     replace hM := hid (hM.out.below hbn)
     clear hbn
     go_wp2_with fail
     refine hK.out _ _ ?hS518 (fun hHeld => ?re518)
     case hS518 => exact tw.out.S
     clear hK K
     try simp only [Act.put, setIfInBounds_toArray, set_cons_zero, set_cons_succ]
     refine wpAnyH_ready (fuel := 7) (rs := [6]) (by kernel_rfl) (by simp) ?_
     refine AllReadyH.cons (o := ?oi519) ?hi519 (fun K hK => ?st519) AllReadyH.nil
     case hi519 => rw [List.getElem?_toArray]; rfl
     go_simp
     refine (hp.out _).mono ?_
     rintro ee wc6 ⟨rfl, hbn⟩
     replace tw := hid (tw.out.below hbn)
     replace hG := hid (hG.out.below hbn)
     replace hH := hid (hH.out.below hbn)
     replace hL := hid (hL.out.below hbn)
     replace hM := hid (hM.out.below hbn)
     clear hbn
     go_wp2_with fail
     refine hK.out _ _ ?hS519 (fun hHeld => ?re519)
     case hS519 => exact tw.out.S
     clear hK K
     try simp only [Act.put, setIfInBounds_toArray, set_cons_zero, set_cons_succ]
     refine wpAnyH_take (i := 7) (oi := ?oi520) (v := ?v520) (fuel := 6) ?hi520 ?hs520 ?hf520 ?hr520 ?hq520 (Or.inl ⟨?hw520, ?hy520⟩) hHeld ?rest520
     case hi520 => rw [List.getElem?_toArray]; rfl
     case hq520 => exact fun _ _ _ h => h
     case hs520 | hf520 | hr520 => kernel_rfl
     case hw520 => rfl
     case hy520 => (intro w1 hSw; (try dsimp only at hSw); go_simp; try with_reducible rfl)
     try simp only [Act.put, setIfInBounds_toArray, set_cons_zero, set_cons_succ]
     refine wpAnyH_take (i := 8) (oi := ?oi521) (v := ?v521) (fuel := 5) ?hi521 ?hs521 ?hf521 ?hr521 ?hq521 (Or.inl ⟨?hw521, ?hy521⟩) hHeld ?rest521
     case hi521 => rw [List.getElem?_toArray]; rfl
     case hq521 => exact fun _ _ _ h => h
     case hs521 | hf521 | hr521 => kernel_rfl
     case hw521 => rfl
     case hy521 => (intro w1 hSw; (try dsimp only at hSw); go_simp; try with_reducible rfl)
     try simp only [Act.put, setIfInBounds_toArray, set_cons_zero, set_cons_succ]
     refine wpAnyH_take (i := 9) (oi := ?oi522) (v := ?v522) (fuel := 4) ?hi522 ?hs522 ?hf522 ?hr522 ?hq522 (Or.inl ⟨?hw522, ?hy522⟩) hHeld ?rest522
     case hi522 => rw [List.getElem?_toArray]; rfl
     case hq522 => exact fun _ _ _ h => h
     case hs522 | hf522 | hr522 => kernel_rfl
     case hw522 => rfl
     case hy522 => (intro w1 hSw; (try dsimp only at hSw); go_simp; try with_reducible rfl)
     try simp only [Act.put, setIfInBounds_toArray, set_cons_zero, set_cons_succ]
     refine wpAnyH_take (i := 10) (oi := ?oi523) (v := ?v523) (fuel := 3) ?hi523 ?hs523 ?hf523 ?hr523 ?hq523 (Or.inl ⟨?hw523, ?hy523⟩) hHeld ?rest523
     case hi523 => rw [List.getElem?_toArray]; rfl
     case hq523 => exact fun _ _ _ h => h
     case hs523 | hf523 | hr523 => kernel_rfl
     case hw523 => rfl
     case hy523 => (intro w1 hSw; (try dsimp only at hSw); go_simp; try with_reducible rfl)
     try simp only [Act.put, setIfInBounds_toArray, set_cons_zero, set_cons_succ]
     refine wpAnyH_ready (fuel := 2) (rs := [13]) (by kernel_rfl) (by simp) ?_
     refine AllReadyH.cons (o := ?oi524) ?hi524 (fun K hK => ?st524) AllReadyH.nil
     case hi524 => rw [List.getElem?_toArray]; rfl
     obtain ⟨g0, g1, g2, g3⟩ := RBox.box hM.out
     have fq := RBox.frozen hM.out
     go_simp
     clear g0 g1 g2 g3 fq
     replace hG := hid (hG.out.st4o (k := wg12.heap.size) (by have := nGM.out; omega) x y z u)
     replace hH := hid (hH.out.st4o (k := wg12.heap.size) (by have := nHM.out; omega) x y z u)
     replace hL := hid (hL.out.st4o (k := wg12.heap.size) (by have := nLM.out; omega) x y z u)
     replace hM := hid (hM.out.st4 (x' := x) (y' := y) (z' := z) (u' := u))
     replace tw := hid (tw.out.st4 kM.out x y z u)
     unfold st4 at hM tw hG hH hL
     generalize ((((wc6.setCell ⟨wg12.heap.size, 0, none⟩ (.int .i64 x)).setCell ⟨wg12.heap.size, 1, none⟩ (.int .i64 y)).setCell ⟨wg12.heap.size, 2, none⟩ (.int .i64 z)).setCell ⟨wg12.heap.size, 3, none⟩ (.int .i64 u)) = ws13 at *
     refine hK.out _ _ ?hS524 (fun hHeld => ?re524)
     case hS524 => exact tw.out.S
     clear hK K
     try simp only [Act.put, setIfInBounds_toArray, set_cons_zero, set_cons_succ]
     refine wpAnyH_ready (fuel := 1) (rs := [14]) (by kernel_rfl) (by simp) ?_
     refine AllReadyH.cons (o := ?oi525) ?hi525 (fun K hK => ?st525) AllReadyH.nil
     case hi525 => rw [List.getElem?_toArray]; rfl
     obtain ⟨g0, g1, g2, g3⟩ := RBox.box hL.out
     have fq := RBox.frozen hL.out
     go_simp
     clear g0 g1 g2 g3 fq
     replace hG := hid (hG.out.st4o (k := W1.heap.size) (by have := nGL.out; omega) x' y' z' u')
     replace hH := hid (hH.out.st4o (k := W1.heap.size) (by have := nHL.out; omega) x' y' z' u')
     replace hM := hid (hM.out.st4o (k := W1.heap.size) (by have := nLM.out; omega) x' y' z' u')
     replace hL := hid (hL.out.st4 (x' := x') (y' := y') (z' := z') (u' := u'))
     replace tw := hid (tw.out.st4 kL.out x' y' z' u')
     unfold st4 at hL tw hG hH hM
     generalize ((((ws13.setCell ⟨W1.heap.size, 0, none⟩ (.int .i64 x')).setCell ⟨W1.heap.size, 1, none⟩ (.int .i64 y')).setCell ⟨W1.heap.size, 2, none⟩ (.int .i64 z')).setCell ⟨W1.heap.size, 3, none⟩ (.int .i64 u')) = ws14 at *
     refine hK.out _ _ ?hS525 (fun hHeld => ?re525)
     case hS525 => exact tw.out.S
     clear hK K
     try simp only [Act.put, setIfInBounds_toArray, set_cons_zero, set_cons_succ]
     refine wpAnyH_take (i := 15) (oi := ?oi526) (v := ?v526) (fuel := 0) ?hi526 ?hs526 ?hf526 ?hr526 ?hq526 (Or.inl ⟨?hw526, ?hy526⟩) hHeld ?rest526
     case hi526 => rw [List.getElem?_toArray]; rfl
     case hq526 => exact fun _ _ _ h => h
     case hs526 | hf526 | hr526 => kernel_rfl
     case hw526 => rfl
     case hy526 => (intro w1 hSw; (try dsimp only at hSw); go_simp; try with_reducible rfl)
     try simp only [Act.put, setIfInBounds_toArray, set_cons_zero, set_cons_succ]
     refine wpAnyH_done (by kernel_rfl) ?_ _
     clear hHeld
     go_wp2_with fail
     go_meet
     case rel => exact ⟨_, _, rfl, rfl, rfl, hM.out, hL.out, hG.out, hH.out, tw.out⟩
    exact AllReadyH.nil
   exact AllReadyH.nil
  case rest =>
   obtain ⟨kM, kL, rfl, rfl, rfl, hM0, hL0, hG1, hH1, tw2⟩ := hcut
   clear tw hG hH
   have tw := hid tw2
   have hG := hid hG1
   have hH := hid hH1
   have hM := hid hM0
   have hL := hid hL0
   clear hG1 hH1 hM0 hL0 tw2
   obtain ⟨g0, g1, g2, g3⟩ := RBox.box hM.out
   obtain ⟨j0, j1, j2, j3⟩ := RBox.box hG.out
   go_wp2_with fail
   refine (c_eqRange x y z u _).mono ?_
   rintro ee we ⟨rfl, hbe⟩
   have bele := hid (tw.out.bel.trans (hbe.mono tw.out.bel.size))
   replace hL := hid (hL.out.below hbe)
   replace hH := hid (hH.out.below hbe)
   clear g0 g1 g2 g3 j0 j1 j2 j3 hbe
   obtain ⟨g0, g1, g2, g3⟩ := RBox.box hL.out
   obtain ⟨j0, j1, j2, j3⟩ := RBox.box hH.out
   go_wp2_with fail
   refine (c_eqRange x' y' z' u' _).mono ?_
   rintro ee we2 ⟨rfl, hbe2⟩
   have bele2 := hid (bele.out.trans (hbe2.mono bele.out.size))
   clear g0 g1 g2 g3 j0 j1 j2 j3 hbe2
   go_wp2_with fail
   go_ret
   exact ⟨rfl, bele2.out⟩
end Go.Proofs.Ytcigdckmiibgmab
