/- Contracts for branches: RangeBranch of the program. -/
import Derived.Test.YtkaekiodjjhjkaaJGrp3
import Derived.Test.YtkaekiodjjhjkaaJGrp5
set_option maxHeartbeats 2000000
set_option maxRecDepth 100000
set_option linter.unusedSimpArgs false
set_option linter.unusedVariables false
namespace Go.Proofs.Ytkaekiodjjhjkaa.H
open Go.RowKit
theorem c_asksB (k : Int) (w : World) :
 Calls Try.prog 42 #[.int .i64 k] w fun e w' => e = .returned (.bool (inB k 12 15)) ∧ w' = w := by
 go_enter Try.func42, Try.ntmps42
 go_wp2
 all_goals (go_ret; exact ⟨ret_bool (by rw [Bool.eq_iff_iff]; simp [inB]; omega), rfl⟩)
theorem w_Br_no4 (op a b c d e f g h : Int) (hl : Bool) (k1 k2 k3 k4 m1 m2 m3 m4 : Int) (x y z u x' y' z' u' : Int) (w : World) (hop : inB op 12 15 = true) (h1 : someI a b c d = true) (h2 : someI e f g h = true) (tA : Hid (∀ w, Calls Try.prog 40 #[rv a b c d] w fun ee w' => ee = .returned (rv k1 k2 k3 k4) ∧ Below w.heap.size w w')) (tB : Hid (∀ w, Calls Try.prog 40 #[rv e f g h] w fun ee w' => ee = .returned (rv m1 m2 m3 m4) ∧ Below w.heap.size w w')) (tP : Hid (∀ w, Calls Try.prog 44 #[.int .i64 op, rv k1 k2 k3 k4, rv m1 m2 m3 m4, .bool hl] w fun ee w' => ee = .returned (.tuple #[rv x y z u, rv x' y' z' u']) ∧ Below w.heap.size w w')) (s1 : someI x y z u = false) :
 Calls Try.prog 24 #[.int .i64 op, rv a b c d, rv e f g h, .bool hl] w fun ee w' => ee = .returned (.tuple #[rv 1 0 0 0, rv 1 0 0 0, .bool false]) ∧ Below w.heap.size w w' := by
 refine calls_begin Try.func24 rfl 48 rfl (Nat.le_of_ble_eq_true rfl) [(0, .int .i64 (op)), (1, .agg (#[zI a, zI b, zI c, zI d])), (2, .agg (#[zI e, zI f, zI g, zI h])), (3, .bool (hl))] ⟨rfl, rfl, rfl, rfl, trivial⟩ (fun a0 e0 hm0 => ?_)
 refine wp_seqR ?_
 refine kx e0 hm0 1 (.agg (#[zI a, zI b, zI c, zI d])) (#[zI a, zI b, zI c, zI d]) 56 fun a1 w1 b1 e1 hm1 => ?_
 refine kx e1 hm1 2 (.agg (#[zI e, zI f, zI g, zI h])) (#[zI e, zI f, zI g, zI h]) 56 fun a2 w2 b2 e2 hm2 => ?_
 refine ka e2 hm2 3 56 (.agg #[.int .i64 0, .int .i64 0, .int .i64 0, .int .i64 0]) (#[zI 0, zI 0, zI 0, zI 0]) fun a3 w3 b3 e3 hm3 => ?_
 refine ka e3 hm3 4 56 (.agg #[.int .i64 0, .int .i64 0, .int .i64 0, .int .i64 0]) (#[zI 0, zI 0, zI 0, zI 0]) fun a4 w4 b4 e4 hm4 => ?_
 refine wb 1 e4 [(10, zF)] fun a5 e5 => ?_
 refine wl_end (wp_seq (wp_seqR ?_))
 refine wb 1 e5 [(11, zI op)] fun a6 e6 => ?_
 refine kc e6 hm4 (v := zT) (callsV (congrArg Value.bool (hop)) (callsS (c_asksB op _))) fun a7 w5 e7 hm5 => ?_
 refine wr [0, 0, 3] e7 hm5 [(15, .agg (#[zI a, zI b, zI c, zI d])), (14, zF), (13, zF)] [b1] vl0 fun a8 w6 e8 hm6 => ?_
 refine kc e8 hm6 (v := zT) (callsV (congrArg Value.bool (h1)) (c_RangeSomeI a b c d _)) fun a9 w7 e9 hm7 => ?_
 refine wr [0, 0, 0, 4] e9 hm7 [(20, .agg (#[zI e, zI f, zI g, zI h])), (19, zF), (18, zF), (17, zF)] [b2] vl0 fun a10 w8 e10 hm8 => ?_
 refine kc e10 hm8 (v := zT) (callsV (congrArg Value.bool (h2)) (c_RangeSomeI e f g h _)) fun a11 w9 e11 hm9 => ?_
 refine wb 2 e11 [(23, zF), (22, zF)] fun a12 e12 => ?_
 refine wl_end (wp_condF (he := e12) rfl (wp_skip (then_normal (wp_seq ?_))))
 refine wh_begin (by kernel_rfl) hm9 [(3, ⟨true, b3, 56, #[zI 0, zI 0, zI 0, zI 0]⟩), (4, ⟨true, b4, 56, #[zI 0, zI 0, zI 0, zI 0]⟩)] ⟨rfl, rfl, trivial⟩ (fun w10 hm10 => ?_)
 refine wtb (fuel := 10) [0, 5] e12 hm10 [(32, .bool (hl)), (27, zI op)] fun a13 e13 => ?_
 refine up2 (fuel := 9) 1 3 rfl rfl ?_ ?_
 ·
  refine sv e13 hm10 (.agg (#[zI a, zI b, zI c, zI d])) (rn_loadA hm10 1 rfl _ _ rfl (0) (e13.tmp 5 _ rfl) 4 agg56 (#[zI a, zI b, zI c, zI d]) rfl rfl) fun a14 e14 => ?_
  refine up2 (fuel := 8) 2 3 rfl rfl ?_ ?_
  ·
   refine sc e14 hm10 (v := .agg (#[zI k1, zI k2, zI k3, zI k4])) (tA.out _) fun a15 w11 e15 hm11 => ?_
   refine up1 (fuel := 7) 3 rfl ?_
   refine sv e15 hm11 (.agg (#[zI e, zI f, zI g, zI h])) (rn_loadA hm11 2 rfl _ _ rfl (0) (e15.tmp 6 _ rfl) 4 agg56 (#[zI e, zI f, zI g, zI h]) rfl rfl) fun a16 e16 => ?_
   refine tc (fuel := 6) 4 rfl e16 hm11 (v := .agg (#[zI m1, zI m2, zI m3, zI m4])) (tB.out _) fun a17 w12 e17 hm12 => ?_
   refine tc (fuel := 5) 6 rfl e17 hm12 (v := .tuple #[.agg (#[zI x, zI y, zI z, zI u]), .agg (#[zI x', zI y', zI z', zI u'])]) (tP.out _) fun a18 w13 e18 hm13 => ?_
   refine wtb (fuel := 2) [7, 8, 9] e18 hm13 [(35, .agg (#[zI x', zI y', zI z', zI u'])), (34, .agg (#[zI x, zI y, zI z, zI u])), (26, .tuple #[.agg (#[zI x, zI y, zI z, zI u]), .agg (#[zI x', zI y', zI z', zI u'])])] fun a19 e19 => ?_
   refine ts (fuel := 1) 10 rfl e19 hm13 1 agg56.sz (0) (.agg (#[zI x, zI y, zI z, zI u])) (#[zI x, zI y, zI z, zI u]) ⟨rfl, rfl, trivial⟩ (hin := (by simp)) (hA := (by kernel_rfl)) fun w14 hm14 => ?_
   refine ts (fuel := 0) 11 rfl e19 hm14 2 agg56.sz (0) (.agg (#[zI x', zI y', zI z', zI u'])) (#[zI x', zI y', zI z', zI u']) ⟨rfl, rfl, trivial⟩ (hin := (by simp)) (hA := (by kernel_rfl)) fun w15 hm15 => ?_
   refine wpAnyH_done (by kernel_rfl) ?_ _
   refine then_normal (wp_seq (wp_seqR ?_))
   refine wr [3] e19 hm15 [(36, .agg (#[zI x, zI y, zI z, zI u]))] [b1] vl0 fun a20 w16 e20 hm16 => ?_
   refine kc e20 hm16 (v := zF) (callsV (congrArg Value.bool (s1)) (c_RangeSomeI x y z u _)) fun a21 w17 e21 hm17 => ?_
   refine wb 6 e21 [(43, zT), (42, zU), (41, zU), (40, zU), (39, zT), (38, zT)] fun a22 e22 => ?_
   refine wl_end (wp_condT (he := e22) rfl (wp_seqR ?_))
   refine kc e22 hm17 (v := .agg (#[zI 1, zI 0, zI 0, zI 0])) (c_noRange _) fun a23 w18 e23 hm18 => ?_
   refine kc e23 hm18 (v := .agg (#[zI 1, zI 0, zI 0, zI 0])) (c_noRange _) fun a24 w19 e24 hm19 => ?_
   refine wm [5, 6, 0] e24 hm19 [(10, zF)] [(4, zE b4 56 (#[zI 1, zI 0, zI 0, zI 0])), (3, zE b3 56 (#[zI 1, zI 0, zI 0, zI 0]))] [b4, b3] vl0 fun a25 w20 e25 hm20 => ?_
   refine wl_end (wp_ret (ret_then ?_))
   exact bodyPost_ret (results_cct e25 hm20 _ _ _ _ _ Try.results24 _ rfl 3 rfl 4 agg56 rfl _ rfl 4 rfl 4 agg56 rfl (.bool false) rfl) e25.defers ⟨rfl, hm20.below⟩
  ·
   refine sv e14 hm10 (.agg (#[zI e, zI f, zI g, zI h])) (rn_loadA hm10 2 rfl _ _ rfl (0) (e14.tmp 6 _ rfl) 4 agg56 (#[zI e, zI f, zI g, zI h]) rfl rfl) fun a15 e15 => ?_
   refine tc (fuel := 7) 2 rfl e15 hm10 (v := .agg (#[zI k1, zI k2, zI k3, zI k4])) (tA.out _) fun a16 w11 e16 hm11 => ?_
   refine tc (fuel := 6) 4 rfl e16 hm11 (v := .agg (#[zI m1, zI m2, zI m3, zI m4])) (tB.out _) fun a17 w12 e17 hm12 => ?_
   refine tc (fuel := 5) 6 rfl e17 hm12 (v := .tuple #[.agg (#[zI x, zI y, zI z, zI u]), .agg (#[zI x', zI y', zI z', zI u'])]) (tP.out _) fun a18 w13 e18 hm13 => ?_
   refine wtb (fuel := 2) [7, 8, 9] e18 hm13 [(35, .agg (#[zI x', zI y', zI z', zI u'])), (34, .agg (#[zI x, zI y, zI z, zI u])), (26, .tuple #[.agg (#[zI x, zI y, zI z, zI u]), .agg (#[zI x', zI y', zI z', zI u'])])] fun a19 e19 => ?_
   refine ts (fuel := 1) 10 rfl e19 hm13 1 agg56.sz (0) (.agg (#[zI x, zI y, zI z, zI u])) (#[zI x, zI y, zI z, zI u]) ⟨rfl, rfl, trivial⟩ (hin := (by simp)) (hA := (by kernel_rfl)) fun w14 hm14 => ?_
   refine ts (fuel := 0) 11 rfl e19 hm14 2 agg56.sz (0) (.agg (#[zI x', zI y', zI z', zI u'])) (#[zI x', zI y', zI z', zI u']) ⟨rfl, rfl, trivial⟩ (hin := (by simp)) (hA := (by kernel_rfl)) fun w15 hm15 => ?_
   refine wpAnyH_done (by kernel_rfl) ?_ _
   refine then_normal (wp_seq (wp_seqR ?_))
   refine wr [3] e19 hm15 [(36, .agg (#[zI x, zI y, zI z, zI u]))] [b1] vl0 fun a20 w16 e20 hm16 => ?_
   refine kc e20 hm16 (v := zF) (callsV (congrArg Value.bool (s1)) (c_RangeSomeI x y z u _)) fun a21 w17 e21 hm17 => ?_
   refine wb 6 e21 [(43, zT), (42, zU), (41, zU), (40, zU), (39, zT), (38, zT)] fun a22 e22 => ?_
   refine wl_end (wp_condT (he := e22) rfl (wp_seqR ?_))
   refine kc e22 hm17 (v := .agg (#[zI 1, zI 0, zI 0, zI 0])) (c_noRange _) fun a23 w18 e23 hm18 => ?_
   refine kc e23 hm18 (v := .agg (#[zI 1, zI 0, zI 0, zI 0])) (c_noRange _) fun a24 w19 e24 hm19 => ?_
   refine wm [5, 6, 0] e24 hm19 [(10, zF)] [(4, zE b4 56 (#[zI 1, zI 0, zI 0, zI 0])), (3, zE b3 56 (#[zI 1, zI 0, zI 0, zI 0]))] [b4, b3] vl0 fun a25 w20 e25 hm20 => ?_
   refine wl_end (wp_ret (ret_then ?_))
   exact bodyPost_ret (results_cct e25 hm20 _ _ _ _ _ Try.results24 _ rfl 3 rfl 4 agg56 rfl _ rfl 4 rfl 4 agg56 rfl (.bool false) rfl) e25.defers ⟨rfl, hm20.below⟩
 ·
  refine sv e13 hm10 (.agg (#[zI e, zI f, zI g, zI h])) (rn_loadA hm10 2 rfl _ _ rfl (0) (e13.tmp 6 _ rfl) 4 agg56 (#[zI e, zI f, zI g, zI h]) rfl rfl) fun a14 e14 => ?_
  refine up1 (fuel := 8) 1 rfl ?_
  refine sv e14 hm10 (.agg (#[zI a, zI b, zI c, zI d])) (rn_loadA hm10 1 rfl _ _ rfl (0) (e14.tmp 5 _ rfl) 4 agg56 (#[zI a, zI b, zI c, zI d]) rfl rfl) fun a15 e15 => ?_
  refine tc (fuel := 7) 2 rfl e15 hm10 (v := .agg (#[zI k1, zI k2, zI k3, zI k4])) (tA.out _) fun a16 w11 e16 hm11 => ?_
  refine tc (fuel := 6) 4 rfl e16 hm11 (v := .agg (#[zI m1, zI m2, zI m3, zI m4])) (tB.out _) fun a17 w12 e17 hm12 => ?_
  refine tc (fuel := 5) 6 rfl e17 hm12 (v := .tuple #[.agg (#[zI x, zI y, zI z, zI u]), .agg (#[zI x', zI y', zI z', zI u'])]) (tP.out _) fun a18 w13 e18 hm13 => ?_
  refine wtb (fuel := 2) [7, 8, 9] e18 hm13 [(35, .agg (#[zI x', zI y', zI z', zI u'])), (34, .agg (#[zI x, zI y, zI z, zI u])), (26, .tuple #[.agg (#[zI x, zI y, zI z, zI u]), .agg (#[zI x', zI y', zI z', zI u'])])] fun a19 e19 => ?_
  refine ts (fuel := 1) 10 rfl e19 hm13 1 agg56.sz (0) (.agg (#[zI x, zI y, zI z, zI u])) (#[zI x, zI y, zI z, zI u]) ⟨rfl, rfl, trivial⟩ (hin := (by simp)) (hA := (by kernel_rfl)) fun w14 hm14 => ?_
  refine ts (fuel := 0) 11 rfl e19 hm14 2 agg56.sz (0) (.agg (#[zI x', zI y', zI z', zI u'])) (#[zI x', zI y', zI z', zI u']) ⟨rfl, rfl, trivial⟩ (hin := (by simp)) (hA := (by kernel_rfl)) fun w15 hm15 => ?_
  refine wpAnyH_done (by kernel_rfl) ?_ _
  refine then_normal (wp_seq (wp_seqR ?_))
  refine wr [3] e19 hm15 [(36, .agg (#[zI x, zI y, zI z, zI u]))] [b1] vl0 fun a20 w16 e20 hm16 => ?_
  refine kc e20 hm16 (v := zF) (callsV (congrArg Value.bool (s1)) (c_RangeSomeI x y z u _)) fun a21 w17 e21 hm17 => ?_
  refine wb 6 e21 [(43, zT), (42, zU), (41, zU), (40, zU), (39, zT), (38, zT)] fun a22 e22 => ?_
  refine wl_end (wp_condT (he := e22) rfl (wp_seqR ?_))
  refine kc e22 hm17 (v := .agg (#[zI 1, zI 0, zI 0, zI 0])) (c_noRange _) fun a23 w18 e23 hm18 => ?_
  refine kc e23 hm18 (v := .agg (#[zI 1, zI 0, zI 0, zI 0])) (c_noRange _) fun a24 w19 e24 hm19 => ?_
  refine wm [5, 6, 0] e24 hm19 [(10, zF)] [(4, zE b4 56 (#[zI 1, zI 0, zI 0, zI 0])), (3, zE b3 56 (#[zI 1, zI 0, zI 0, zI 0]))] [b4, b3] vl0 fun a25 w20 e25 hm20 => ?_
  refine wl_end (wp_ret (ret_then ?_))
  exact bodyPost_ret (results_cct e25 hm20 _ _ _ _ _ Try.results24 _ rfl 3 rfl 4 agg56 rfl _ rfl 4 rfl 4 agg56 rfl (.bool false) rfl) e25.defers ⟨rfl, hm20.below⟩
theorem w_Br_no5 (op a b c d e f g h : Int) (hl : Bool) (k1 k2 k3 k4 m1 m2 m3 m4 : Int) (x y z u x' y' z' u' : Int) (w : World) (hop : inB op 12 15 = true) (h1 : someI a b c d = true) (h2 : someI e f g h = true) (tA : Hid (∀ w, Calls Try.prog 40 #[rv a b c d] w fun ee w' => ee = .returned (rv k1 k2 k3 k4) ∧ Below w.heap.size w w')) (tB : Hid (∀ w, Calls Try.prog 40 #[rv e f g h] w fun ee w' => ee = .returned (rv m1 m2 m3 m4) ∧ Below w.heap.size w w')) (tP : Hid (∀ w, Calls Try.prog 44 #[.int .i64 op, rv k1 k2 k3 k4, rv m1 m2 m3 m4, .bool hl] w fun ee w' => ee = .returned (.tuple #[rv x y z u, rv x' y' z' u']) ∧ Below w.heap.size w w')) (s1 : someI x y z u = true) (s2 : someI x' y' z' u' = false) :
 Calls Try.prog 24 #[.int .i64 op, rv a b c d, rv e f g h, .bool hl] w fun ee w' => ee = .returned (.tuple #[rv 1 0 0 0, rv 1 0 0 0, .bool false]) ∧ Below w.heap.size w w' := by
 refine calls_begin Try.func24 rfl 48 rfl (Nat.le_of_ble_eq_true rfl) [(0, .int .i64 (op)), (1, .agg (#[zI a, zI b, zI c, zI d])), (2, .agg (#[zI e, zI f, zI g, zI h])), (3, .bool (hl))] ⟨rfl, rfl, rfl, rfl, trivial⟩ (fun a0 e0 hm0 => ?_)
 refine wp_seqR ?_
 refine kx e0 hm0 1 (.agg (#[zI a, zI b, zI c, zI d])) (#[zI a, zI b, zI c, zI d]) 56 fun a1 w1 b1 e1 hm1 => ?_
 refine kx e1 hm1 2 (.agg (#[zI e, zI f, zI g, zI h])) (#[zI e, zI f, zI g, zI h]) 56 fun a2 w2 b2 e2 hm2 => ?_
 refine ka e2 hm2 3 56 (.agg #[.int .i64 0, .int .i64 0, .int .i64 0, .int .i64 0]) (#[zI 0, zI 0, zI 0, zI 0]) fun a3 w3 b3 e3 hm3 => ?_
 refine ka e3 hm3 4 56 (.agg #[.int .i64 0, .int .i64 0, .int .i64 0, .int .i64 0]) (#[zI 0, zI 0, zI 0, zI 0]) fun a4 w4 b4 e4 hm4 => ?_
 refine wb 1 e4 [(10, zF)] fun a5 e5 => ?_
 refine wl_end (wp_seq (wp_seqR ?_))
 refine wb 1 e5 [(11, zI op)] fun a6 e6 => ?_
 refine kc e6 hm4 (v := zT) (callsV (congrArg Value.bool (hop)) (callsS (c_asksB op _))) fun a7 w5 e7 hm5 => ?_
 refine wr [0, 0, 3] e7 hm5 [(15, .agg (#[zI a, zI b, zI c, zI d])), (14, zF), (13, zF)] [b1] vl0 fun a8 w6 e8 hm6 => ?_
 refine kc e8 hm6 (v := zT) (callsV (congrArg Value.bool (h1)) (c_RangeSomeI a b c d _)) fun a9 w7 e9 hm7 => ?_
 refine wr [0, 0, 0, 4] e9 hm7 [(20, .agg (#[zI e, zI f, zI g, zI h])), (19, zF), (18, zF), (17, zF)] [b2] vl0 fun a10 w8 e10 hm8 => ?_
 refine kc e10 hm8 (v := zT) (callsV (congrArg Value.bool (h2)) (c_RangeSomeI e f g h _)) fun a11 w9 e11 hm9 => ?_
 refine wb 2 e11 [(23, zF), (22, zF)] fun a12 e12 => ?_
 refine wl_end (wp_condF (he := e12) rfl (wp_skip (then_normal (wp_seq ?_))))
 refine wh_begin (by kernel_rfl) hm9 [(3, ⟨true, b3, 56, #[zI 0, zI 0, zI 0, zI 0]⟩), (4, ⟨true, b4, 56, #[zI 0, zI 0, zI 0, zI 0]⟩)] ⟨rfl, rfl, trivial⟩ (fun w10 hm10 => ?_)
 refine wtb (fuel := 10) [0, 5] e12 hm10 [(32, .bool (hl)), (27, zI op)] fun a13 e13 => ?_
 refine up2 (fuel := 9) 1 3 rfl rfl ?_ ?_
 ·
  refine sv e13 hm10 (.agg (#[zI a, zI b, zI c, zI d])) (rn_loadA hm10 1 rfl _ _ rfl (0) (e13.tmp 5 _ rfl) 4 agg56 (#[zI a, zI b, zI c, zI d]) rfl rfl) fun a14 e14 => ?_
  refine up2 (fuel := 8) 2 3 rfl rfl ?_ ?_
  ·
   refine sc e14 hm10 (v := .agg (#[zI k1, zI k2, zI k3, zI k4])) (tA.out _) fun a15 w11 e15 hm11 => ?_
   refine up1 (fuel := 7) 3 rfl ?_
   refine sv e15 hm11 (.agg (#[zI e, zI f, zI g, zI h])) (rn_loadA hm11 2 rfl _ _ rfl (0) (e15.tmp 6 _ rfl) 4 agg56 (#[zI e, zI f, zI g, zI h]) rfl rfl) fun a16 e16 => ?_
   refine tc (fuel := 6) 4 rfl e16 hm11 (v := .agg (#[zI m1, zI m2, zI m3, zI m4])) (tB.out _) fun a17 w12 e17 hm12 => ?_
   refine tc (fuel := 5) 6 rfl e17 hm12 (v := .tuple #[.agg (#[zI x, zI y, zI z, zI u]), .agg (#[zI x', zI y', zI z', zI u'])]) (tP.out _) fun a18 w13 e18 hm13 => ?_
   refine wtb (fuel := 2) [7, 8, 9] e18 hm13 [(35, .agg (#[zI x', zI y', zI z', zI u'])), (34, .agg (#[zI x, zI y, zI z, zI u])), (26, .tuple #[.agg (#[zI x, zI y, zI z, zI u]), .agg (#[zI x', zI y', zI z', zI u'])])] fun a19 e19 => ?_
   refine ts (fuel := 1) 10 rfl e19 hm13 1 agg56.sz (0) (.agg (#[zI x, zI y, zI z, zI u])) (#[zI x, zI y, zI z, zI u]) ⟨rfl, rfl, trivial⟩ (hin := (by simp)) (hA := (by kernel_rfl)) fun w14 hm14 => ?_
   refine ts (fuel := 0) 11 rfl e19 hm14 2 agg56.sz (0) (.agg (#[zI x', zI y', zI z', zI u'])) (#[zI x', zI y', zI z', zI u']) ⟨rfl, rfl, trivial⟩ (hin := (by simp)) (hA := (by kernel_rfl)) fun w15 hm15 => ?_
   refine wpAnyH_done (by kernel_rfl) ?_ _
   refine then_normal (wp_seq (wp_seqR ?_))
   refine wr [3] e19 hm15 [(36, .agg (#[zI x, zI y, zI z, zI u]))] [b1] vl0 fun a20 w16 e20 hm16 => ?_
   refine kc e20 hm16 (v := zT) (callsV (congrArg Value.bool (s1)) (c_RangeSomeI x y z u _)) fun a21 w17 e21 hm17 => ?_
   refine wr [0, 0, 4] e21 hm17 [(40, .agg (#[zI x', zI y', zI z', zI u'])), (39, zF), (38, zF)] [b2] vl0 fun a22 w18 e22 hm18 => ?_
   refine kc e22 hm18 (v := zF) (callsV (congrArg Value.bool (s2)) (c_RangeSomeI x' y' z' u' _)) fun a23 w19 e23 hm19 => ?_
   refine wb 2 e23 [(43, zT), (42, zT)] fun a24 e24 => ?_
   refine wl_end (wp_condT (he := e24) rfl (wp_seqR ?_))
   refine kc e24 hm19 (v := .agg (#[zI 1, zI 0, zI 0, zI 0])) (c_noRange _) fun a25 w20 e25 hm20 => ?_
   refine kc e25 hm20 (v := .agg (#[zI 1, zI 0, zI 0, zI 0])) (c_noRange _) fun a26 w21 e26 hm21 => ?_
   refine wm [5, 6, 0] e26 hm21 [(10, zF)] [(4, zE b4 56 (#[zI 1, zI 0, zI 0, zI 0])), (3, zE b3 56 (#[zI 1, zI 0, zI 0, zI 0]))] [b4, b3] vl0 fun a27 w22 e27 hm22 => ?_
   refine wl_end (wp_ret (ret_then ?_))
   exact bodyPost_ret (results_cct e27 hm22 _ _ _ _ _ Try.results24 _ rfl 3 rfl 4 agg56 rfl _ rfl 4 rfl 4 agg56 rfl (.bool false) rfl) e27.defers ⟨rfl, hm22.below⟩
  ·
   refine sv e14 hm10 (.agg (#[zI e, zI f, zI g, zI h])) (rn_loadA hm10 2 rfl _ _ rfl (0) (e14.tmp 6 _ rfl) 4 agg56 (#[zI e, zI f, zI g, zI h]) rfl rfl) fun a15 e15 => ?_
   refine tc (fuel := 7) 2 rfl e15 hm10 (v := .agg (#[zI k1, zI k2, zI k3, zI k4])) (tA.out _) fun a16 w11 e16 hm11 => ?_
   refine tc (fuel := 6) 4 rfl e16 hm11 (v := .agg (#[zI m1, zI m2, zI m3, zI m4])) (tB.out _) fun a17 w12 e17 hm12 => ?_
   refine tc (fuel := 5) 6 rfl e17 hm12 (v := .tuple #[.agg (#[zI x, zI y, zI z, zI u]), .agg (#[zI x', zI y', zI z', zI u'])]) (tP.out _) fun a18 w13 e18 hm13 => ?_
   refine wtb (fuel := 2) [7, 8, 9] e18 hm13 [(35, .agg (#[zI x', zI y', zI z', zI u'])), (34, .agg (#[zI x, zI y, zI z, zI u])), (26, .tuple #[.agg (#[zI x, zI y, zI z, zI u]), .agg (#[zI x', zI y', zI z', zI u'])])] fun a19 e19 => ?_
   refine ts (fuel := 1) 10 rfl e19 hm13 1 agg56.sz (0) (.agg (#[zI x, zI y, zI z, zI u])) (#[zI x, zI y, zI z, zI u]) ⟨rfl, rfl, trivial⟩ (hin := (by simp)) (hA := (by kernel_rfl)) fun w14 hm14 => ?_
   refine ts (fuel := 0) 11 rfl e19 hm14 2 agg56.sz (0) (.agg (#[zI x', zI y', zI z', zI u'])) (#[zI x', zI y', zI z', zI u']) ⟨rfl, rfl, trivial⟩ (hin := (by simp)) (hA := (by kernel_rfl)) fun w15 hm15 => ?_
   refine wpAnyH_done (by kernel_rfl) ?_ _
   refine then_normal (wp_seq (wp_seqR ?_))
   refine wr [3] e19 hm15 [(36, .agg (#[zI x, zI y, zI z, zI u]))] [b1] vl0 fun a20 w16 e20 hm16 => ?_
   refine kc e20 hm16 (v := zT) (callsV (congrArg Value.bool (s1)) (c_RangeSomeI x y z u _)) fun a21 w17 e21 hm17 => ?_
   refine wr [0, 0, 4] e21 hm17 [(40, .agg (#[zI x', zI y', zI z', zI u'])), (39, zF), (38, zF)] [b2] vl0 fun a22 w18 e22 hm18 => ?_
   refine kc e22 hm18 (v := zF) (callsV (congrArg Value.bool (s2)) (c_RangeSomeI x' y' z' u' _)) fun a23 w19 e23 hm19 => ?_
   refine wb 2 e23 [(43, zT), (42, zT)] fun a24 e24 => ?_
   refine wl_end (wp_condT (he := e24) rfl (wp_seqR ?_))
   refine kc e24 hm19 (v := .agg (#[zI 1, zI 0, zI 0, zI 0])) (c_noRange _) fun a25 w20 e25 hm20 => ?_
   refine kc e25 hm20 (v := .agg (#[zI 1, zI 0, zI 0, zI 0])) (c_noRange _) fun a26 w21 e26 hm21 => ?_
   refine wm [5, 6, 0] e26 hm21 [(10, zF)] [(4, zE b4 56 (#[zI 1, zI 0, zI 0, zI 0])), (3, zE b3 56 (#[zI 1, zI 0, zI 0, zI 0]))] [b4, b3] vl0 fun a27 w22 e27 hm22 => ?_
   refine wl_end (wp_ret (ret_then ?_))
   exact bodyPost_ret (results_cct e27 hm22 _ _ _ _ _ Try.results24 _ rfl 3 rfl 4 agg56 rfl _ rfl 4 rfl 4 agg56 rfl (.bool false) rfl) e27.defers ⟨rfl, hm22.below⟩
 ·
  refine sv e13 hm10 (.agg (#[zI e, zI f, zI g, zI h])) (rn_loadA hm10 2 rfl _ _ rfl (0) (e13.tmp 6 _ rfl) 4 agg56 (#[zI e, zI f, zI g, zI h]) rfl rfl) fun a14 e14 => ?_
  refine up1 (fuel := 8) 1 rfl ?_
  refine sv e14 hm10 (.agg (#[zI a, zI b, zI c, zI d])) (rn_loadA hm10 1 rfl _ _ rfl (0) (e14.tmp 5 _ rfl) 4 agg56 (#[zI a, zI b, zI c, zI d]) rfl rfl) fun a15 e15 => ?_
  refine tc (fuel := 7) 2 rfl e15 hm10 (v := .agg (#[zI k1, zI k2, zI k3, zI k4])) (tA.out _) fun a16 w11 e16 hm11 => ?_
  refine tc (fuel := 6) 4 rfl e16 hm11 (v := .agg (#[zI m1, zI m2, zI m3, zI m4])) (tB.out _) fun a17 w12 e17 hm12 => ?_
  refine tc (fuel := 5) 6 rfl e17 hm12 (v := .tuple #[.agg (#[zI x, zI y, zI z, zI u]), .agg (#[zI x', zI y', zI z', zI u'])]) (tP.out _) fun a18 w13 e18 hm13 => ?_
  refine wtb (fuel := 2) [7, 8, 9] e18 hm13 [(35, .agg (#[zI x', zI y', zI z', zI u'])), (34, .agg (#[zI x, zI y, zI z, zI u])), (26, .tuple #[.agg (#[zI x, zI y, zI z, zI u]), .agg (#[zI x', zI y', zI z', zI u'])])] fun a19 e19 => ?_
  refine ts (fuel := 1) 10 rfl e19 hm13 1 agg56.sz (0) (.agg (#[zI x, zI y, zI z, zI u])) (#[zI x, zI y, zI z, zI u]) ⟨rfl, rfl, trivial⟩ (hin := (by simp)) (hA := (by kernel_rfl)) fun w14 hm14 => ?_
  refine ts (fuel := 0) 11 rfl e19 hm14 2 agg56.sz (0) (.agg (#[zI x', zI y', zI z', zI u'])) (#[zI x', zI y', zI z', zI u']) ⟨rfl, rfl, trivial⟩ (hin := (by simp)) (hA := (by kernel_rfl)) fun w15 hm15 => ?_
  refine wpAnyH_done (by kernel_rfl) ?_ _
  refine then_normal (wp_seq (wp_seqR ?_))
  refine wr [3] e19 hm15 [(36, .agg (#[zI x, zI y, zI z, zI u]))] [b1] vl0 fun a20 w16 e20 hm16 => ?_
  refine kc e20 hm16 (v := zT) (callsV (congrArg Value.bool (s1)) (c_RangeSomeI x y z u _)) fun a21 w17 e21 hm17 => ?_
  refine wr [0, 0, 4] e21 hm17 [(40, .agg (#[zI x', zI y', zI z', zI u'])), (39, zF), (38, zF)] [b2] vl0 fun a22 w18 e22 hm18 => ?_
  refine kc e22 hm18 (v := zF) (callsV (congrArg Value.bool (s2)) (c_RangeSomeI x' y' z' u' _)) fun a23 w19 e23 hm19 => ?_
  refine wb 2 e23 [(43, zT), (42, zT)] fun a24 e24 => ?_
  refine wl_end (wp_condT (he := e24) rfl (wp_seqR ?_))
  refine kc e24 hm19 (v := .agg (#[zI 1, zI 0, zI 0, zI 0])) (c_noRange _) fun a25 w20 e25 hm20 => ?_
  refine kc e25 hm20 (v := .agg (#[zI 1, zI 0, zI 0, zI 0])) (c_noRange _) fun a26 w21 e26 hm21 => ?_
  refine wm [5, 6, 0] e26 hm21 [(10, zF)] [(4, zE b4 56 (#[zI 1, zI 0, zI 0, zI 0])), (3, zE b3 56 (#[zI 1, zI 0, zI 0, zI 0]))] [b4, b3] vl0 fun a27 w22 e27 hm22 => ?_
  refine wl_end (wp_ret (ret_then ?_))
  exact bodyPost_ret (results_cct e27 hm22 _ _ _ _ _ Try.results24 _ rfl 3 rfl 4 agg56 rfl _ rfl 4 rfl 4 agg56 rfl (.bool false) rfl) e27.defers ⟨rfl, hm22.below⟩
theorem w_Br_yes (op a b c d e f g h : Int) (hl : Bool) (k1 k2 k3 k4 m1 m2 m3 m4 : Int) (x y z u x' y' z' u' : Int) (w : World) (hop : inB op 12 15 = true) (h1 : someI a b c d = true) (h2 : someI e f g h = true) (tA : Hid (∀ w, Calls Try.prog 40 #[rv a b c d] w fun ee w' => ee = .returned (rv k1 k2 k3 k4) ∧ Below w.heap.size w w')) (tB : Hid (∀ w, Calls Try.prog 40 #[rv e f g h] w fun ee w' => ee = .returned (rv m1 m2 m3 m4) ∧ Below w.heap.size w w')) (tP : Hid (∀ w, Calls Try.prog 44 #[.int .i64 op, rv k1 k2 k3 k4, rv m1 m2 m3 m4, .bool hl] w fun ee w' => ee = .returned (.tuple #[rv x y z u, rv x' y' z' u']) ∧ Below w.heap.size w w')) (s1 : someI x y z u = true) (s2 : someI x' y' z' u' = true) :
 Calls Try.prog 24 #[.int .i64 op, rv a b c d, rv e f g h, .bool hl] w fun ee w' => ee = .returned (.tuple #[rv x y z u, rv x' y' z' u', .bool true]) ∧ Below w.heap.size w w' := by
 refine calls_begin Try.func24 rfl 48 rfl (Nat.le_of_ble_eq_true rfl) [(0, .int .i64 (op)), (1, .agg (#[zI a, zI b, zI c, zI d])), (2, .agg (#[zI e, zI f, zI g, zI h])), (3, .bool (hl))] ⟨rfl, rfl, rfl, rfl, trivial⟩ (fun a0 e0 hm0 => ?_)
 refine wp_seqR ?_
 refine kx e0 hm0 1 (.agg (#[zI a, zI b, zI c, zI d])) (#[zI a, zI b, zI c, zI d]) 56 fun a1 w1 b1 e1 hm1 => ?_
 refine kx e1 hm1 2 (.agg (#[zI e, zI f, zI g, zI h])) (#[zI e, zI f, zI g, zI h]) 56 fun a2 w2 b2 e2 hm2 => ?_
 refine ka e2 hm2 3 56 (.agg #[.int .i64 0, .int .i64 0, .int .i64 0, .int .i64 0]) (#[zI 0, zI 0, zI 0, zI 0]) fun a3 w3 b3 e3 hm3 => ?_
 refine ka e3 hm3 4 56 (.agg #[.int .i64 0, .int .i64 0, .int .i64 0, .int .i64 0]) (#[zI 0, zI 0, zI 0, zI 0]) fun a4 w4 b4 e4 hm4 => ?_
 refine wb 1 e4 [(10, zF)] fun a5 e5 => ?_
 refine wl_end (wp_seq (wp_seqR ?_))
 refine wb 1 e5 [(11, zI op)] fun a6 e6 => ?_
 refine kc e6 hm4 (v := zT) (callsV (congrArg Value.bool (hop)) (callsS (c_asksB op _))) fun a7 w5 e7 hm5 => ?_
 refine wr [0, 0, 3] e7 hm5 [(15, .agg (#[zI a, zI b, zI c, zI d])), (14, zF), (13, zF)] [b1] vl0 fun a8 w6 e8 hm6 => ?_
 refine kc e8 hm6 (v := zT) (callsV (congrArg Value.bool (h1)) (c_RangeSomeI a b c d _)) fun a9 w7 e9 hm7 => ?_
 refine wr [0, 0, 0, 4] e9 hm7 [(20, .agg (#[zI e, zI f, zI g, zI h])), (19, zF), (18, zF), (17, zF)] [b2] vl0 fun a10 w8 e10 hm8 => ?_
 refine kc e10 hm8 (v := zT) (callsV (congrArg Value.bool (h2)) (c_RangeSomeI e f g h _)) fun a11 w9 e11 hm9 => ?_
 refine wb 2 e11 [(23, zF), (22, zF)] fun a12 e12 => ?_
 refine wl_end (wp_condF (he := e12) rfl (wp_skip (then_normal (wp_seq ?_))))
 refine wh_begin (by kernel_rfl) hm9 [(3, ⟨true, b3, 56, #[zI 0, zI 0, zI 0, zI 0]⟩), (4, ⟨true, b4, 56, #[zI 0, zI 0, zI 0, zI 0]⟩)] ⟨rfl, rfl, trivial⟩ (fun w10 hm10 => ?_)
 refine wtb (fuel := 10) [0, 5] e12 hm10 [(32, .bool (hl)), (27, zI op)] fun a13 e13 => ?_
 refine up2 (fuel := 9) 1 3 rfl rfl ?_ ?_
 ·
  refine sv e13 hm10 (.agg (#[zI a, zI b, zI c, zI d])) (rn_loadA hm10 1 rfl _ _ rfl (0) (e13.tmp 5 _ rfl) 4 agg56 (#[zI a, zI b, zI c, zI d]) rfl rfl) fun a14 e14 => ?_
  refine up2 (fuel := 8) 2 3 rfl rfl ?_ ?_
  ·
   refine sc e14 hm10 (v := .agg (#[zI k1, zI k2, zI k3, zI k4])) (tA.out _) fun a15 w11 e15 hm11 => ?_
   refine up1 (fuel := 7) 3 rfl ?_
   refine sv e15 hm11 (.agg (#[zI e, zI f, zI g, zI h])) (rn_loadA hm11 2 rfl _ _ rfl (0) (e15.tmp 6 _ rfl) 4 agg56 (#[zI e, zI f, zI g, zI h]) rfl rfl) fun a16 e16 => ?_
   refine tc (fuel := 6) 4 rfl e16 hm11 (v := .agg (#[zI m1, zI m2, zI m3, zI m4])) (tB.out _) fun a17 w12 e17 hm12 => ?_
   refine tc (fuel := 5) 6 rfl e17 hm12 (v := .tuple #[.agg (#[zI x, zI y, zI z, zI u]), .agg (#[zI x', zI y', zI z', zI u'])]) (tP.out _) fun a18 w13 e18 hm13 => ?_
   refine wtb (fuel := 2) [7, 8, 9] e18 hm13 [(35, .agg (#[zI x', zI y', zI z', zI u'])), (34, .agg (#[zI x, zI y, zI z, zI u])), (26, .tuple #[.agg (#[zI x, zI y, zI z, zI u]), .agg (#[zI x', zI y', zI z', zI u'])])] fun a19 e19 => ?_
   refine ts (fuel := 1) 10 rfl e19 hm13 1 agg56.sz (0) (.agg (#[zI x, zI y, zI z, zI u])) (#[zI x, zI y, zI z, zI u]) ⟨rfl, rfl, trivial⟩ (hin := (by simp)) (hA := (by kernel_rfl)) fun w14 hm14 => ?_
   refine ts (fuel := 0) 11 rfl e19 hm14 2 agg56.sz (0) (.agg (#[zI x', zI y', zI z', zI u'])) (#[zI x', zI y', zI z', zI u']) ⟨rfl, rfl, trivial⟩ (hin := (by simp)) (hA := (by kernel_rfl)) fun w15 hm15 => ?_
   refine wpAnyH_done (by kernel_rfl) ?_ _
   refine then_normal (wp_seq (wp_seqR ?_))
   refine wr [3] e19 hm15 [(36, .agg (#[zI x, zI y, zI z, zI u]))] [b1] vl0 fun a20 w16 e20 hm16 => ?_
   refine kc e20 hm16 (v := zT) (callsV (congrArg Value.bool (s1)) (c_RangeSomeI x y z u _)) fun a21 w17 e21 hm17 => ?_
   refine wr [0, 0, 4] e21 hm17 [(40, .agg (#[zI x', zI y', zI z', zI u'])), (39, zF), (38, zF)] [b2] vl0 fun a22 w18 e22 hm18 => ?_
   refine kc e22 hm18 (v := zT) (callsV (congrArg Value.bool (s2)) (c_RangeSomeI x' y' z' u' _)) fun a23 w19 e23 hm19 => ?_
   refine wb 2 e23 [(43, zF), (42, zF)] fun a24 e24 => ?_
   refine wl_end (wp_condF (he := e24) rfl (wp_skip (then_normal (wp_seq ?_))))
   refine wh_begin (by kernel_rfl) hm19 [(1, ⟨true, b1, 56, #[zI x, zI y, zI z, zI u]⟩), (2, ⟨true, b2, 56, #[zI x', zI y', zI z', zI u']⟩)] ⟨rfl, rfl, trivial⟩ (fun w20 hm20 => ?_)
   refine wtd (fuel := 3) [(0, 3), (1, 4)] e24 hm20 [(47, .agg (#[zI x', zI y', zI z', zI u'])), (46, .agg (#[zI x, zI y, zI z, zI u]))] [b2, b1] vl0 fun a25 e25 => ?_
   refine ts (fuel := 2) 2 rfl e25 hm20 3 agg56.sz (0) (.agg (#[zI x, zI y, zI z, zI u])) (#[zI x, zI y, zI z, zI u]) ⟨rfl, rfl, trivial⟩ (hin := (by simp)) (hA := (by kernel_rfl)) fun w21 hm21 => ?_
   refine ts (fuel := 1) 3 rfl e25 hm21 4 agg56.sz (0) (.agg (#[zI x', zI y', zI z', zI u'])) (#[zI x', zI y', zI z', zI u']) ⟨rfl, rfl, trivial⟩ (hin := (by simp)) (hA := (by kernel_rfl)) fun w22 hm22 => ?_
   refine wtb (fuel := 0) [4] e25 hm22 [(10, zT)] fun a26 e26 => ?_
   refine wpAnyH_done (by kernel_rfl) ?_ _
   refine then_normal (wp_ret ?_)
   exact bodyPost_ret (results_cct e26 hm22 _ _ _ _ _ Try.results24 _ rfl 3 rfl 4 agg56 rfl _ rfl 4 rfl 4 agg56 rfl (.bool true) rfl) e26.defers ⟨rfl, hm22.below⟩
  ·
   refine sv e14 hm10 (.agg (#[zI e, zI f, zI g, zI h])) (rn_loadA hm10 2 rfl _ _ rfl (0) (e14.tmp 6 _ rfl) 4 agg56 (#[zI e, zI f, zI g, zI h]) rfl rfl) fun a15 e15 => ?_
   refine tc (fuel := 7) 2 rfl e15 hm10 (v := .agg (#[zI k1, zI k2, zI k3, zI k4])) (tA.out _) fun a16 w11 e16 hm11 => ?_
   refine tc (fuel := 6) 4 rfl e16 hm11 (v := .agg (#[zI m1, zI m2, zI m3, zI m4])) (tB.out _) fun a17 w12 e17 hm12 => ?_
   refine tc (fuel := 5) 6 rfl e17 hm12 (v := .tuple #[.agg (#[zI x, zI y, zI z, zI u]), .agg (#[zI x', zI y', zI z', zI u'])]) (tP.out _) fun a18 w13 e18 hm13 => ?_
   refine wtb (fuel := 2) [7, 8, 9] e18 hm13 [(35, .agg (#[zI x', zI y', zI z', zI u'])), (34, .agg (#[zI x, zI y, zI z, zI u])), (26, .tuple #[.agg (#[zI x, zI y, zI z, zI u]), .agg (#[zI x', zI y', zI z', zI u'])])] fun a19 e19 => ?_
   refine ts (fuel := 1) 10 rfl e19 hm13 1 agg56.sz (0) (.agg (#[zI x, zI y, zI z, zI u])) (#[zI x, zI y, zI z, zI u]) ⟨rfl, rfl, trivial⟩ (hin := (by simp)) (hA := (by kernel_rfl)) fun w14 hm14 => ?_
   refine ts (fuel := 0) 11 rfl e19 hm14 2 agg56.sz (0) (.agg (#[zI x', zI y', zI z', zI u'])) (#[zI x', zI y', zI z', zI u']) ⟨rfl, rfl, trivial⟩ (hin := (by simp)) (hA := (by kernel_rfl)) fun w15 hm15 => ?_
   refine wpAnyH_done (by kernel_rfl) ?_ _
   refine then_normal (wp_seq (wp_seqR ?_))
   refine wr [3] e19 hm15 [(36, .agg (#[zI x, zI y, zI z, zI u]))] [b1] vl0 fun a20 w16 e20 hm16 => ?_
   refine kc e20 hm16 (v := zT) (callsV (congrArg Value.bool (s1)) (c_RangeSomeI x y z u _)) fun a21 w17 e21 hm17 => ?_
   refine wr [0, 0, 4] e21 hm17 [(40, .agg (#[zI x', zI y', zI z', zI u'])), (39, zF), (38, zF)] [b2] vl0 fun a22 w18 e22 hm18 => ?_
   refine kc e22 hm18 (v := zT) (callsV (congrArg Value.bool (s2)) (c_RangeSomeI x' y' z' u' _)) fun a23 w19 e23 hm19 => ?_
   refine wb 2 e23 [(43, zF), (42, zF)] fun a24 e24 => ?_
   refine wl_end (wp_condF (he := e24) rfl (wp_skip (then_normal (wp_seq ?_))))
   refine wh_begin (by kernel_rfl) hm19 [(1, ⟨true, b1, 56, #[zI x, zI y, zI z, zI u]⟩), (2, ⟨true, b2, 56, #[zI x', zI y', zI z', zI u']⟩)] ⟨rfl, rfl, trivial⟩ (fun w20 hm20 => ?_)
   refine wtd (fuel := 3) [(0, 3), (1, 4)] e24 hm20 [(47, .agg (#[zI x', zI y', zI z', zI u'])), (46, .agg (#[zI x, zI y, zI z, zI u]))] [b2, b1] vl0 fun a25 e25 => ?_
   refine ts (fuel := 2) 2 rfl e25 hm20 3 agg56.sz (0) (.agg (#[zI x, zI y, zI z, zI u])) (#[zI x, zI y, zI z, zI u]) ⟨rfl, rfl, trivial⟩ (hin := (by simp)) (hA := (by kernel_rfl)) fun w21 hm21 => ?_
   refine ts (fuel := 1) 3 rfl e25 hm21 4 agg56.sz (0) (.agg (#[zI x', zI y', zI z', zI u'])) (#[zI x', zI y', zI z', zI u']) ⟨rfl, rfl, trivial⟩ (hin := (by simp)) (hA := (by kernel_rfl)) fun w22 hm22 => ?_
   refine wtb (fuel := 0) [4] e25 hm22 [(10, zT)] fun a26 e26 => ?_
   refine wpAnyH_done (by kernel_rfl) ?_ _
   refine then_normal (wp_ret ?_)
   exact bodyPost_ret (results_cct e26 hm22 _ _ _ _ _ Try.results24 _ rfl 3 rfl 4 agg56 rfl _ rfl 4 rfl 4 agg56 rfl (.bool true) rfl) e26.defers ⟨rfl, hm22.below⟩
 ·
  refine sv e13 hm10 (.agg (#[zI e, zI f, zI g, zI h])) (rn_loadA hm10 2 rfl _ _ rfl (0) (e13.tmp 6 _ rfl) 4 agg56 (#[zI e, zI f, zI g, zI h]) rfl rfl) fun a14 e14 => ?_
  refine up1 (fuel := 8) 1 rfl ?_
  refine sv e14 hm10 (.agg (#[zI a, zI b, zI c, zI d])) (rn_loadA hm10 1 rfl _ _ rfl (0) (e14.tmp 5 _ rfl) 4 agg56 (#[zI a, zI b, zI c, zI d]) rfl rfl) fun a15 e15 => ?_
  refine tc (fuel := 7) 2 rfl e15 hm10 (v := .agg (#[zI k1, zI k2, zI k3, zI k4])) (tA.out _) fun a16 w11 e16 hm11 => ?_
  refine tc (fuel := 6) 4 rfl e16 hm11 (v := .agg (#[zI m1, zI m2, zI m3, zI m4])) (tB.out _) fun a17 w12 e17 hm12 => ?_
  refine tc (fuel := 5) 6 rfl e17 hm12 (v := .tuple #[.agg (#[zI x, zI y, zI z, zI u]), .agg (#[zI x', zI y', zI z', zI u'])]) (tP.out _) fun a18 w13 e18 hm13 => ?_
  refine wtb (fuel := 2) [7, 8, 9] e18 hm13 [(35, .agg (#[zI x', zI y', zI z', zI u'])), (34, .agg (#[zI x, zI y, zI z, zI u])), (26, .tuple #[.agg (#[zI x, zI y, zI z, zI u]), .agg (#[zI x', zI y', zI z', zI u'])])] fun a19 e19 => ?_
  refine ts (fuel := 1) 10 rfl e19 hm13 1 agg56.sz (0) (.agg (#[zI x, zI y, zI z, zI u])) (#[zI x, zI y, zI z, zI u]) ⟨rfl, rfl, trivial⟩ (hin := (by simp)) (hA := (by kernel_rfl)) fun w14 hm14 => ?_
  refine ts (fuel := 0) 11 rfl e19 hm14 2 agg56.sz (0) (.agg (#[zI x', zI y', zI z', zI u'])) (#[zI x', zI y', zI z', zI u']) ⟨rfl, rfl, trivial⟩ (hin := (by simp)) (hA := (by kernel_rfl)) fun w15 hm15 => ?_
  refine wpAnyH_done (by kernel_rfl) ?_ _
  refine then_normal (wp_seq (wp_seqR ?_))
  refine wr [3] e19 hm15 [(36, .agg (#[zI x, zI y, zI z, zI u]))] [b1] vl0 fun a20 w16 e20 hm16 => ?_
  refine kc e20 hm16 (v := zT) (callsV (congrArg Value.bool (s1)) (c_RangeSomeI x y z u _)) fun a21 w17 e21 hm17 => ?_
  refine wr [0, 0, 4] e21 hm17 [(40, .agg (#[zI x', zI y', zI z', zI u'])), (39, zF), (38, zF)] [b2] vl0 fun a22 w18 e22 hm18 => ?_
  refine kc e22 hm18 (v := zT) (callsV (congrArg Value.bool (s2)) (c_RangeSomeI x' y' z' u' _)) fun a23 w19 e23 hm19 => ?_
  refine wb 2 e23 [(43, zF), (42, zF)] fun a24 e24 => ?_
  refine wl_end (wp_condF (he := e24) rfl (wp_skip (then_normal (wp_seq ?_))))
  refine wh_begin (by kernel_rfl) hm19 [(1, ⟨true, b1, 56, #[zI x, zI y, zI z, zI u]⟩), (2, ⟨true, b2, 56, #[zI x', zI y', zI z', zI u']⟩)] ⟨rfl, rfl, trivial⟩ (fun w20 hm20 => ?_)
  refine wtd (fuel := 3) [(0, 3), (1, 4)] e24 hm20 [(47, .agg (#[zI x', zI y', zI z', zI u'])), (46, .agg (#[zI x, zI y, zI z, zI u]))] [b2, b1] vl0 fun a25 e25 => ?_
  refine ts (fuel := 2) 2 rfl e25 hm20 3 agg56.sz (0) (.agg (#[zI x, zI y, zI z, zI u])) (#[zI x, zI y, zI z, zI u]) ⟨rfl, rfl, trivial⟩ (hin := (by simp)) (hA := (by kernel_rfl)) fun w21 hm21 => ?_
  refine ts (fuel := 1) 3 rfl e25 hm21 4 agg56.sz (0) (.agg (#[zI x', zI y', zI z', zI u'])) (#[zI x', zI y', zI z', zI u']) ⟨rfl, rfl, trivial⟩ (hin := (by simp)) (hA := (by kernel_rfl)) fun w22 hm22 => ?_
  refine wtb (fuel := 0) [4] e25 hm22 [(10, zT)] fun a26 e26 => ?_
  refine wpAnyH_done (by kernel_rfl) ?_ _
  refine then_normal (wp_ret ?_)
  exact bodyPost_ret (results_cct e26 hm22 _ _ _ _ _ Try.results24 _ rfl 3 rfl 4 agg56 rfl _ rfl 4 rfl 4 agg56 rfl (.bool true) rfl) e26.defers ⟨rfl, hm22.below⟩
end Go.Proofs.Ytkaekiodjjhjkaa.H
namespace Go.Proofs.Ytkaekiodjjhjkaa.H
open Go.RowKit
theorem oneA (w : World) (a b c d : Int) : RBox ((w.alloc (cellsR4 a b c d)).alloc (cellsR4 0 0 0 0)) w.heap.size a b c d := (RBox.new w a b c d).alloc _
theorem oneQ (w : World) (a b c d : Int) : RBox ((w.alloc (cellsR4 a b c d)).alloc (cellsR4 0 0 0 0)) (w.heap.size + 1) 0 0 0 0 := newQ w a b c d
theorem oneW (w : World) (a b c d : Int) : Below w.heap.size w ((w.alloc (cellsR4 a b c d)).alloc (cellsR4 0 0 0 0)) := newB w _ _
theorem w_But_1_gt (a b c d n : Int) (w : World) (n0 : 0 ≤ n) (n1 : n ≤ 4294967295) (h1 : (a == n) = true) (h2 : (b == n) = true) (h3 : (n - 1) < (n + 1)) :
 Calls Try.prog 79 #[rv a b c d, .int .i64 n] w fun ee w' => ee = .returned (.tuple #[rv 1 0 0 0, .bool false]) ∧ Below w.heap.size w w' := by
 have bA0 : Hid (RBox ((w.alloc (cellsR4 (n + 1) (n - 1) c d)).alloc (cellsR4 0 0 0 0)) w.heap.size (n + 1) (n - 1) c d) := oneA w (n + 1) (n - 1) c d
 have bQ0 : Hid (RBox ((w.alloc (cellsR4 (n + 1) (n - 1) c d)).alloc (cellsR4 0 0 0 0)) (w.heap.size + 1) 0 0 0 0) := oneQ w (n + 1) (n - 1) c d
 have bel0 : Hid (Below w.heap.size w ((w.alloc (cellsR4 (n + 1) (n - 1) c d)).alloc (cellsR4 0 0 0 0))) := oneW w (n + 1) (n - 1) c d
 go_enter Try.func79, Try.ntmps79
 have P5 : Hid (RBox ((w.alloc (cellsR4 (n + 1) (n - 1) c d)).alloc (cellsR4 1 0 0 0)) (w.heap.size + 1) 1 0 0 0) := by have h0 := RBox.new (w.alloc (cellsR4 (n + 1) (n - 1) c d)) 1 0 0 0; simp only [World.size_alloc] at h0; exact h0
 have B5 := hid (newB w (cellsR4 (n + 1) (n - 1) c d) (cellsR4 1 0 0 0))
 go_wp2_with fail
 obtain ⟨p0, p1, p2, p3⟩ := RBox.box P5.out
 refine bodyPost_ret (v := .tuple #[rv 1 0 0 0, .bool false]) (by simp [results, Try.results79, go_sem, p0, p1, p2, p3]) rfl ⟨rfl, B5.out⟩
theorem w_But_2_none (a b c d n : Int) (w : World) (n0 : 0 ≤ n) (n1 : n ≤ 4294967295) (h1 : (a == n) = true) (h2 : (b == n) = false) (h3 : (n + 1) ≤ b) (tS : Hid (∀ w, Calls Try.prog 78 #[rv (n + 1) b c d] w fun ee w' => ee = .returned (.bool false) ∧ Below w.heap.size w w')) :
 Calls Try.prog 79 #[rv a b c d, .int .i64 n] w fun ee w' => ee = .returned (.tuple #[rv 1 0 0 0, .bool false]) ∧ Below w.heap.size w w' := by
 have bA0 : Hid (RBox ((w.alloc (cellsR4 (n + 1) b c d)).alloc (cellsR4 0 0 0 0)) w.heap.size (n + 1) b c d) := oneA w (n + 1) b c d
 have bQ0 : Hid (RBox ((w.alloc (cellsR4 (n + 1) b c d)).alloc (cellsR4 0 0 0 0)) (w.heap.size + 1) 0 0 0 0) := oneQ w (n + 1) b c d
 have bel0 : Hid (Below w.heap.size w ((w.alloc (cellsR4 (n + 1) b c d)).alloc (cellsR4 0 0 0 0))) := oneW w (n + 1) b c d
 go_enter Try.func79, Try.ntmps79
 go_wp2_with fail
 refine (tS.out _).mono ?_
 rintro ee w1 ⟨rfl, hb1⟩
 have bA1 := hid (bA0.out.below hb1)
 have bQ1 := hid (bQ0.out.below hb1)
 have bel1 := hid (bel0.out.trans (hb1.mono bel0.out.size))
 clear hb1 bA0 bQ0 bel0
 obtain ⟨cQ0, cQ1, cQ2, cQ3⟩ := RBox.box bQ1.out
 have frQ := RBox.frozen bQ1.out
 go_wp2_with fail
 have bA2 := hid (bA1.out.st4o (k := w.heap.size + 1) (by first | omega | (have := RBox.lt bA1.out; omega)) (1) (0) (0) (0))
 have bQ2 := hid (bQ1.out.st4 (x' := 1) (y' := 0) (z' := 0) (u' := 0))
 have bel2 := hid (st4_below (w.heap.size + 1) (1) (0) (0) (0) bel1.out (by omega))
 clear bA1 bQ1 bel1
 unfold Go.Proofs.Ytkaekiodjjhjkaa.H.st4 at bel2 bA2 bQ2
 generalize ((((w1.setCell ⟨w.heap.size + 1, 0, none⟩ (.int .i64 (1))).setCell ⟨w.heap.size + 1, 1, none⟩ (.int .i64 (0))).setCell ⟨w.heap.size + 1, 2, none⟩ (.int .i64 (0))).setCell ⟨w.heap.size + 1, 3, none⟩ (.int .i64 (0))) = w2 at *
 clear cQ0 cQ1 cQ2 cQ3
 clear frQ
 obtain ⟨p0, p1, p2, p3⟩ := RBox.box bQ2.out
 refine bodyPost_ret (v := .tuple #[rv 1 0 0 0, .bool false]) (by simp [results, Try.results79, go_sem, p0, p1, p2, p3]) rfl ⟨rfl, bel2.out⟩
theorem w_But_2_yes (a b c d n : Int) (x y z u : Int) (w : World) (n0 : 0 ≤ n) (n1 : n ≤ 4294967295) (h1 : (a == n) = true) (h2 : (b == n) = false) (h3 : (n + 1) ≤ b) (tS : Hid (∀ w, Calls Try.prog 78 #[rv (n + 1) b c d] w fun ee w' => ee = .returned (.bool true) ∧ Below w.heap.size w w')) (tT : Hid (∀ w, Calls Try.prog 45 #[rv (n + 1) b c d] w fun ee w' => ee = .returned (rv x y z u) ∧ Below w.heap.size w w')) :
 Calls Try.prog 79 #[rv a b c d, .int .i64 n] w fun ee w' => ee = .returned (.tuple #[rv x y z u, .bool true]) ∧ Below w.heap.size w w' := by
 have bA0 : Hid (RBox ((w.alloc (cellsR4 (n + 1) b c d)).alloc (cellsR4 0 0 0 0)) w.heap.size (n + 1) b c d) := oneA w (n + 1) b c d
 have bQ0 : Hid (RBox ((w.alloc (cellsR4 (n + 1) b c d)).alloc (cellsR4 0 0 0 0)) (w.heap.size + 1) 0 0 0 0) := oneQ w (n + 1) b c d
 have bel0 : Hid (Below w.heap.size w ((w.alloc (cellsR4 (n + 1) b c d)).alloc (cellsR4 0 0 0 0))) := oneW w (n + 1) b c d
 go_enter Try.func79, Try.ntmps79
 go_wp2_with fail
 refine (tS.out _).mono ?_
 rintro ee w1 ⟨rfl, hb1⟩
 have bA1 := hid (bA0.out.below hb1)
 have bQ1 := hid (bQ0.out.below hb1)
 have bel1 := hid (bel0.out.trans (hb1.mono bel0.out.size))
 clear hb1 bA0 bQ0 bel0
 obtain ⟨cA0, cA1, cA2, cA3⟩ := RBox.box bA1.out
 go_wp2_with fail
 refine (tT.out _).mono ?_
 rintro ee w2 ⟨rfl, hb2⟩
 have bA2 := hid (bA1.out.below hb2)
 have bQ2 := hid (bQ1.out.below hb2)
 have bel2 := hid (bel1.out.trans (hb2.mono bel1.out.size))
 clear hb2 bA1 bQ1 bel1
 clear cA0 cA1 cA2 cA3
 obtain ⟨cQ0, cQ1, cQ2, cQ3⟩ := RBox.box bQ2.out
 have frQ := RBox.frozen bQ2.out
 go_wp2_with fail
 have bA3 := hid (bA2.out.st4o (k := w.heap.size + 1) (by first | omega | (have := RBox.lt bA2.out; omega)) (x) (y) (z) (u))
 have bQ3 := hid (bQ2.out.st4 (x' := x) (y' := y) (z' := z) (u' := u))
 have bel3 := hid (st4_below (w.heap.size + 1) (x) (y) (z) (u) bel2.out (by omega))
 clear bA2 bQ2 bel2
 unfold Go.Proofs.Ytkaekiodjjhjkaa.H.st4 at bel3 bA3 bQ3
 generalize ((((w2.setCell ⟨w.heap.size + 1, 0, none⟩ (.int .i64 (x))).setCell ⟨w.heap.size + 1, 1, none⟩ (.int .i64 (y))).setCell ⟨w.heap.size + 1, 2, none⟩ (.int .i64 (z))).setCell ⟨w.heap.size + 1, 3, none⟩ (.int .i64 (u))) = w3 at *
 clear cQ0 cQ1 cQ2 cQ3
 clear frQ
 obtain ⟨p0, p1, p2, p3⟩ := RBox.box bQ3.out
 refine bodyPost_ret (v := .tuple #[rv x y z u, .bool true]) (by simp [results, Try.results79, go_sem, p0, p1, p2, p3]) rfl ⟨rfl, bel3.out⟩
theorem w_But_3_none (a b c d n : Int) (w : World) (n0 : 0 ≤ n) (n1 : n ≤ 4294967295) (h1 : (a == n) = false) (h2 : (b == n) = true) (h3 : a ≤ (n - 1)) (tS : Hid (∀ w, Calls Try.prog 78 #[rv a (n - 1) c d] w fun ee w' => ee = .returned (.bool false) ∧ Below w.heap.size w w')) :
 Calls Try.prog 79 #[rv a b c d, .int .i64 n] w fun ee w' => ee = .returned (.tuple #[rv 1 0 0 0, .bool false]) ∧ Below w.heap.size w w' := by
 have bA0 : Hid (RBox ((w.alloc (cellsR4 a (n - 1) c d)).alloc (cellsR4 0 0 0 0)) w.heap.size a (n - 1) c d) := oneA w a (n - 1) c d
 have bQ0 : Hid (RBox ((w.alloc (cellsR4 a (n - 1) c d)).alloc (cellsR4 0 0 0 0)) (w.heap.size + 1) 0 0 0 0) := oneQ w a (n - 1) c d
 have bel0 : Hid (Below w.heap.size w ((w.alloc (cellsR4 a (n - 1) c d)).alloc (cellsR4 0 0 0 0))) := oneW w a (n - 1) c d
 go_enter Try.func79, Try.ntmps79
 go_wp2_with fail
 refine (tS.out _).mono ?_
 rintro ee w1 ⟨rfl, hb1⟩
 have bA1 := hid (bA0.out.below hb1)
 have bQ1 := hid (bQ0.out.below hb1)
 have bel1 := hid (bel0.out.trans (hb1.mono bel0.out.size))
 clear hb1 bA0 bQ0 bel0
 obtain ⟨cQ0, cQ1, cQ2, cQ3⟩ := RBox.box bQ1.out
 have frQ := RBox.frozen bQ1.out
 go_wp2_with fail
 have bA2 := hid (bA1.out.st4o (k := w.heap.size + 1) (by first | omega | (have := RBox.lt bA1.out; omega)) (1) (0) (0) (0))
 have bQ2 := hid (bQ1.out.st4 (x' := 1) (y' := 0) (z' := 0) (u' := 0))
 have bel2 := hid (st4_below (w.heap.size + 1) (1) (0) (0) (0) bel1.out (by omega))
 clear bA1 bQ1 bel1
 unfold Go.Proofs.Ytkaekiodjjhjkaa.H.st4 at bel2 bA2 bQ2
 generalize ((((w1.setCell ⟨w.heap.size + 1, 0, none⟩ (.int .i64 (1))).setCell ⟨w.heap.size + 1, 1, none⟩ (.int .i64 (0))).setCell ⟨w.heap.size + 1, 2, none⟩ (.int .i64 (0))).setCell ⟨w.heap.size + 1, 3, none⟩ (.int .i64 (0))) = w2 at *
 clear cQ0 cQ1 cQ2 cQ3
 clear frQ
 obtain ⟨p0, p1, p2, p3⟩ := RBox.box bQ2.out
 refine bodyPost_ret (v := .tuple #[rv 1 0 0 0, .bool false]) (by simp [results, Try.results79, go_sem, p0, p1, p2, p3]) rfl ⟨rfl, bel2.out⟩
theorem w_But_3_yes (a b c d n : Int) (x y z u : Int) (w : World) (n0 : 0 ≤ n) (n1 : n ≤ 4294967295) (h1 : (a == n) = false) (h2 : (b == n) = true) (h3 : a ≤ (n - 1)) (tS : Hid (∀ w, Calls Try.prog 78 #[rv a (n - 1) c d] w fun ee w' => ee = .returned (.bool true) ∧ Below w.heap.size w w')) (tT : Hid (∀ w, Calls Try.prog 45 #[rv a (n - 1) c d] w fun ee w' => ee = .returned (rv x y z u) ∧ Below w.heap.size w w')) :
 Calls Try.prog 79 #[rv a b c d, .int .i64 n] w fun ee w' => ee = .returned (.tuple #[rv x y z u, .bool true]) ∧ Below w.heap.size w w' := by
 have bA0 : Hid (RBox ((w.alloc (cellsR4 a (n - 1) c d)).alloc (cellsR4 0 0 0 0)) w.heap.size a (n - 1) c d) := oneA w a (n - 1) c d
 have bQ0 : Hid (RBox ((w.alloc (cellsR4 a (n - 1) c d)).alloc (cellsR4 0 0 0 0)) (w.heap.size + 1) 0 0 0 0) := oneQ w a (n - 1) c d
 have bel0 : Hid (Below w.heap.size w ((w.alloc (cellsR4 a (n - 1) c d)).alloc (cellsR4 0 0 0 0))) := oneW w a (n - 1) c d
 go_enter Try.func79, Try.ntmps79
 go_wp2_with fail
 refine (tS.out _).mono ?_
 rintro ee w1 ⟨rfl, hb1⟩
 have bA1 := hid (bA0.out.below hb1)
 have bQ1 := hid (bQ0.out.below hb1)
 have bel1 := hid (bel0.out.trans (hb1.mono bel0.out.size))
 clear hb1 bA0 bQ0 bel0
 obtain ⟨cA0, cA1, cA2, cA3⟩ := RBox.box bA1.out
 go_wp2_with fail
 refine (tT.out _).mono ?_
 rintro ee w2 ⟨rfl, hb2⟩
 have bA2 := hid (bA1.out.below hb2)
 have bQ2 := hid (bQ1.out.below hb2)
 have bel2 := hid (bel1.out.trans (hb2.mono bel1.out.size))
 clear hb2 bA1 bQ1 bel1
 clear cA0 cA1 cA2 cA3
 obtain ⟨cQ0, cQ1, cQ2, cQ3⟩ := RBox.box bQ2.out
 have frQ := RBox.frozen bQ2.out
 go_wp2_with fail
 have bA3 := hid (bA2.out.st4o (k := w.heap.size + 1) (by first | omega | (have := RBox.lt bA2.out; omega)) (x) (y) (z) (u))
 have bQ3 := hid (bQ2.out.st4 (x' := x) (y' := y) (z' := z) (u' := u))
 have bel3 := hid (st4_below (w.heap.size + 1) (x) (y) (z) (u) bel2.out (by omega))
 clear bA2 bQ2 bel2
 unfold Go.Proofs.Ytkaekiodjjhjkaa.H.st4 at bel3 bA3 bQ3
 generalize ((((w2.setCell ⟨w.heap.size + 1, 0, none⟩ (.int .i64 (x))).setCell ⟨w.heap.size + 1, 1, none⟩ (.int .i64 (y))).setCell ⟨w.heap.size + 1, 2, none⟩ (.int .i64 (z))).setCell ⟨w.heap.size + 1, 3, none⟩ (.int .i64 (u))) = w3 at *
 clear cQ0 cQ1 cQ2 cQ3
 clear frQ
 obtain ⟨p0, p1, p2, p3⟩ := RBox.box bQ3.out
 refine bodyPost_ret (v := .tuple #[rv x y z u, .bool true]) (by simp [results, Try.results79, go_sem, p0, p1, p2, p3]) rfl ⟨rfl, bel3.out⟩
theorem w_But_4_none (a b c d n : Int) (w : World) (n0 : 0 ≤ n) (n1 : n ≤ 4294967295) (h1 : (a == n) = false) (h2 : (b == n) = false) (h3 : a ≤ b) (tS : Hid (∀ w, Calls Try.prog 78 #[rv a b c d] w fun ee w' => ee = .returned (.bool false) ∧ Below w.heap.size w w')) :
 Calls Try.prog 79 #[rv a b c d, .int .i64 n] w fun ee w' => ee = .returned (.tuple #[rv 1 0 0 0, .bool false]) ∧ Below w.heap.size w w' := by
 have bA0 : Hid (RBox ((w.alloc (cellsR4 a b c d)).alloc (cellsR4 0 0 0 0)) w.heap.size a b c d) := oneA w a b c d
 have bQ0 : Hid (RBox ((w.alloc (cellsR4 a b c d)).alloc (cellsR4 0 0 0 0)) (w.heap.size + 1) 0 0 0 0) := oneQ w a b c d
 have bel0 : Hid (Below w.heap.size w ((w.alloc (cellsR4 a b c d)).alloc (cellsR4 0 0 0 0))) := oneW w a b c d
 go_enter Try.func79, Try.ntmps79
 go_wp2_with fail
 refine (tS.out _).mono ?_
 rintro ee w1 ⟨rfl, hb1⟩
 have bA1 := hid (bA0.out.below hb1)
 have bQ1 := hid (bQ0.out.below hb1)
 have bel1 := hid (bel0.out.trans (hb1.mono bel0.out.size))
 clear hb1 bA0 bQ0 bel0
 obtain ⟨cQ0, cQ1, cQ2, cQ3⟩ := RBox.box bQ1.out
 have frQ := RBox.frozen bQ1.out
 go_wp2_with fail
 have bA2 := hid (bA1.out.st4o (k := w.heap.size + 1) (by first | omega | (have := RBox.lt bA1.out; omega)) (1) (0) (0) (0))
 have bQ2 := hid (bQ1.out.st4 (x' := 1) (y' := 0) (z' := 0) (u' := 0))
 have bel2 := hid (st4_below (w.heap.size + 1) (1) (0) (0) (0) bel1.out (by omega))
 clear bA1 bQ1 bel1
 unfold Go.Proofs.Ytkaekiodjjhjkaa.H.st4 at bel2 bA2 bQ2
 generalize ((((w1.setCell ⟨w.heap.size + 1, 0, none⟩ (.int .i64 (1))).setCell ⟨w.heap.size + 1, 1, none⟩ (.int .i64 (0))).setCell ⟨w.heap.size + 1, 2, none⟩ (.int .i64 (0))).setCell ⟨w.heap.size + 1, 3, none⟩ (.int .i64 (0))) = w2 at *
 clear cQ0 cQ1 cQ2 cQ3
 clear frQ
 obtain ⟨p0, p1, p2, p3⟩ := RBox.box bQ2.out
 refine bodyPost_ret (v := .tuple #[rv 1 0 0 0, .bool false]) (by simp [results, Try.results79, go_sem, p0, p1, p2, p3]) rfl ⟨rfl, bel2.out⟩
theorem w_But_4_yes (a b c d n : Int) (x y z u : Int) (w : World) (n0 : 0 ≤ n) (n1 : n ≤ 4294967295) (h1 : (a == n) = false) (h2 : (b == n) = false) (h3 : a ≤ b) (tS : Hid (∀ w, Calls Try.prog 78 #[rv a b c d] w fun ee w' => ee = .returned (.bool true) ∧ Below w.heap.size w w')) (tT : Hid (∀ w, Calls Try.prog 45 #[rv a b c d] w fun ee w' => ee = .returned (rv x y z u) ∧ Below w.heap.size w w')) :
 Calls Try.prog 79 #[rv a b c d, .int .i64 n] w fun ee w' => ee = .returned (.tuple #[rv x y z u, .bool true]) ∧ Below w.heap.size w w' := by
 have bA0 : Hid (RBox ((w.alloc (cellsR4 a b c d)).alloc (cellsR4 0 0 0 0)) w.heap.size a b c d) := oneA w a b c d
 have bQ0 : Hid (RBox ((w.alloc (cellsR4 a b c d)).alloc (cellsR4 0 0 0 0)) (w.heap.size + 1) 0 0 0 0) := oneQ w a b c d
 have bel0 : Hid (Below w.heap.size w ((w.alloc (cellsR4 a b c d)).alloc (cellsR4 0 0 0 0))) := oneW w a b c d
 go_enter Try.func79, Try.ntmps79
 go_wp2_with fail
 refine (tS.out _).mono ?_
 rintro ee w1 ⟨rfl, hb1⟩
 have bA1 := hid (bA0.out.below hb1)
 have bQ1 := hid (bQ0.out.below hb1)
 have bel1 := hid (bel0.out.trans (hb1.mono bel0.out.size))
 clear hb1 bA0 bQ0 bel0
 obtain ⟨cA0, cA1, cA2, cA3⟩ := RBox.box bA1.out
 go_wp2_with fail
 refine (tT.out _).mono ?_
 rintro ee w2 ⟨rfl, hb2⟩
 have bA2 := hid (bA1.out.below hb2)
 have bQ2 := hid (bQ1.out.below hb2)
 have bel2 := hid (bel1.out.trans (hb2.mono bel1.out.size))
 clear hb2 bA1 bQ1 bel1
 clear cA0 cA1 cA2 cA3
 obtain ⟨cQ0, cQ1, cQ2, cQ3⟩ := RBox.box bQ2.out
 have frQ := RBox.frozen bQ2.out
 go_wp2_with fail
 have bA3 := hid (bA2.out.st4o (k := w.heap.size + 1) (by first | omega | (have := RBox.lt bA2.out; omega)) (x) (y) (z) (u))
 have bQ3 := hid (bQ2.out.st4 (x' := x) (y' := y) (z' := z) (u' := u))
 have bel3 := hid (st4_below (w.heap.size + 1) (x) (y) (z) (u) bel2.out (by omega))
 clear bA2 bQ2 bel2
 unfold Go.Proofs.Ytkaekiodjjhjkaa.H.st4 at bel3 bA3 bQ3
 generalize ((((w2.setCell ⟨w.heap.size + 1, 0, none⟩ (.int .i64 (x))).setCell ⟨w.heap.size + 1, 1, none⟩ (.int .i64 (y))).setCell ⟨w.heap.size + 1, 2, none⟩ (.int .i64 (z))).setCell ⟨w.heap.size + 1, 3, none⟩ (.int .i64 (u))) = w3 at *
 clear cQ0 cQ1 cQ2 cQ3
 clear frQ
 obtain ⟨p0, p1, p2, p3⟩ := RBox.box bQ3.out
 refine bodyPost_ret (v := .tuple #[rv x y z u, .bool true]) (by simp [results, Try.results79, go_sem, p0, p1, p2, p3]) rfl ⟨rfl, bel3.out⟩
theorem w_Apart (a b c d e f g h x y z u : Int) (q : Bool) (w : World) (h1 : (e == f) = true) (tB : Hid (∀ w, Calls Try.prog 79 #[rv a b c d, .int .i64 e] w fun ee w' => ee = .returned (.tuple #[rv x y z u, .bool q]) ∧ Below w.heap.size w w')) :
 Calls Try.prog 66 #[rv a b c d, rv e f g h] w fun ee w' => ee = .returned (.tuple #[rv x y z u, .bool q]) ∧ Below w.heap.size w w' := by
 refine calls_begin Try.func66 rfl 18 rfl (Nat.le_of_ble_eq_true rfl) [(0, .agg (#[zI a, zI b, zI c, zI d])), (1, .agg (#[zI e, zI f, zI g, zI h]))] ⟨rfl, rfl, trivial⟩ (fun a0 e0 hm0 => ?_)
 have h1p : e = f := by simpa using h1
 refine wp_seqR ?_
 refine kx e0 hm0 1 (.agg (#[zI a, zI b, zI c, zI d])) (#[zI a, zI b, zI c, zI d]) 56 fun a1 w1 b1 e1 hm1 => ?_
 refine kx e1 hm1 2 (.agg (#[zI e, zI f, zI g, zI h])) (#[zI e, zI f, zI g, zI h]) 56 fun a2 w2 b2 e2 hm2 => ?_
 refine ka e2 hm2 3 56 (.agg #[.int .i64 0, .int .i64 0, .int .i64 0, .int .i64 0]) (#[zI 0, zI 0, zI 0, zI 0]) fun a3 w3 b3 e3 hm3 => ?_
 refine wb 1 e3 [(5, zF)] fun a4 e4 => ?_
 refine wl_end (wp_seq (wp_seqR ?_))
 refine wr [0, 4, 0, 4, 1] e4 hm3 [(10, zT), (9, zI f), (8, zP b2 1), (7, zI e), (6, zP b2 0)] [b2, b2] (vb (h1) vl0) fun a5 w4 e5 hm4 => ?_
 refine wl_end (wp_condT (he := e5) rfl (wp_seqR ?_))
 refine wr [3, 0, 4] e5 hm4 [(13, zI e), (12, zP b2 0), (11, .agg (#[zI a, zI b, zI c, zI d]))] [b2, b1] vl0 fun a6 w5 e6 hm5 => ?_
 refine kc e6 hm5 (v := .tuple #[.agg (#[zI x, zI y, zI z, zI u]), .bool (q)]) (tB.out _) fun a7 w6 e7 hm6 => ?_
 refine wm [0, 0, 5, 0] e7 hm6 [(5, .bool (q)), (16, .bool (q)), (15, .agg (#[zI x, zI y, zI z, zI u]))] [(3, zE b3 56 (#[zI x, zI y, zI z, zI u]))] [b3] vl0 fun a8 w7 e8 hm7 => ?_
 refine wl_end (wp_ret (ret_then ?_))
 exact bodyPost_ret (results_cell_t e8 hm7 _ _ _ Try.results66 _ rfl 3 rfl 4 agg56 (by first | rfl | assumption) _ rfl) e8.defers ⟨rfl, hm7.below⟩
theorem w_Apart_un (a b c d e f g h : Int) (w : World) (h1 : (e == f) = false) :
 Calls Try.prog 66 #[rv a b c d, rv e f g h] w fun ee w' => ee = .returned (.tuple #[rv a b c d, .bool true]) ∧ Below w.heap.size w w' := by
 have P5 : Hid (RBox (((w.alloc (cellsR4 a b c d)).alloc (cellsR4 e f g h)).alloc (cellsR4 a b c d)) (w.heap.size + 2) a b c d) := by
  have h0 := RBox.new ((w.alloc (cellsR4 a b c d)).alloc (cellsR4 e f g h)) a b c d
  simp only [World.size_alloc] at h0
  exact h0
 have B5 := hid ((newB w (cellsR4 a b c d) (cellsR4 e f g h)).alloc (by simp; omega) (cellsR4 a b c d))
 go_enter Try.func66, Try.ntmps66
 go_wp2_with fail
 obtain ⟨p0, p1, p2, p3⟩ := RBox.box P5.out
 refine bodyPost_ret (v := .tuple #[rv a b c d, .bool true]) (by simp [results, Try.results66, go_sem, p0, p1, p2, p3]) rfl ⟨rfl, B5.out⟩
end Go.Proofs.Ytkaekiodjjhjkaa.H
namespace Go.Proofs.Ytkaekiodjjhjkaa.H
open Go.RowKit
theorem w_Low_1_g1 (a b c d e f g h k : Int) (w : World) (a0 : 0 ≤ a) (a1 : a ≤ 4294967295) (f0 : 0 ≤ f) (f1 : f ≤ 4294967295) (k0 : 0 ≤ k) (k1 : k ≤ 1) (h1 : (f - k < b)) (h2 : (e < a + k)) (h3 : (f - k) < a) :
 Calls Try.prog 67 #[rv a b c d, rv e f g h, .int .i64 k] w fun ee w' => ee = .returned (.tuple #[rv 1 0 0 0, rv 1 0 0 0, .bool false]) ∧ Below w.heap.size w w' := by
 have P5 : Hid (RBox ((((w.alloc (cellsR4 a (f - k) c d)).alloc (cellsR4 (a + k) f g h)).alloc (cellsR4 1 0 0 0)).alloc (cellsR4 1 0 0 0)) (w.heap.size + 2) 1 0 0 0) := by
  have h0 := (RBox.new ((w.alloc (cellsR4 a (f - k) c d)).alloc (cellsR4 (a + k) f g h)) 1 0 0 0).alloc (cellsR4 1 0 0 0)
  simp only [World.size_alloc] at h0
  exact h0
 have P6 : Hid (RBox ((((w.alloc (cellsR4 a (f - k) c d)).alloc (cellsR4 (a + k) f g h)).alloc (cellsR4 1 0 0 0)).alloc (cellsR4 1 0 0 0)) (w.heap.size + 3) 1 0 0 0) := by
  have h0 := RBox.new (((w.alloc (cellsR4 a (f - k) c d)).alloc (cellsR4 (a + k) f g h)).alloc (cellsR4 1 0 0 0)) 1 0 0 0
  simp only [World.size_alloc] at h0
  exact h0
 have B5 : Hid (Below w.heap.size w ((((w.alloc (cellsR4 a (f - k) c d)).alloc (cellsR4 (a + k) f g h)).alloc (cellsR4 1 0 0 0)).alloc (cellsR4 1 0 0 0))) := ((newB w (cellsR4 a (f - k) c d) (cellsR4 (a + k) f g h)).alloc (by simp; omega) (cellsR4 1 0 0 0)).alloc (by simp; omega) (cellsR4 1 0 0 0)
 go_enter Try.func67, Try.ntmps67
 go_wp2_with fail
 obtain ⟨p0, p1, p2, p3⟩ := RBox.box P5.out
 obtain ⟨q0, q1, q2, q3⟩ := RBox.box P6.out
 refine bodyPost_ret (v := .tuple #[rv 1 0 0 0, rv 1 0 0 0, .bool false]) (by simp [results, Try.results67, go_sem, p0, p1, p2, p3, q0, q1, q2, q3]) rfl ⟨rfl, B5.out⟩
theorem w_Low_1_n1 (a b c d e f g h k : Int) (w : World) (a0 : 0 ≤ a) (a1 : a ≤ 4294967295) (f0 : 0 ≤ f) (f1 : f ≤ 4294967295) (k0 : 0 ≤ k) (k1 : k ≤ 1) (h1 : (f - k < b)) (h2 : (e < a + k)) (h3 : a ≤ (f - k)) (h4 : (a + k) ≤ f) (tS : Hid (∀ w, Calls Try.prog 78 #[rv a (f - k) c d] w fun ee w' => ee = .returned (.bool false) ∧ Below w.heap.size w w')) :
 Calls Try.prog 67 #[rv a b c d, rv e f g h, .int .i64 k] w fun ee w' => ee = .returned (.tuple #[rv 1 0 0 0, rv 1 0 0 0, .bool false]) ∧ Below w.heap.size w w' := by
 have bA0 : Hid (RBox ((((w.alloc (cellsR4 a (f - k) c d)).alloc (cellsR4 (a + k) f g h)).alloc (cellsR4 0 0 0 0)).alloc (cellsR4 0 0 0 0)) w.heap.size a (f - k) c d) := fourA w a (f - k) c d (a + k) f g h
 have bB0 : Hid (RBox ((((w.alloc (cellsR4 a (f - k) c d)).alloc (cellsR4 (a + k) f g h)).alloc (cellsR4 0 0 0 0)).alloc (cellsR4 0 0 0 0)) (w.heap.size + 1) (a + k) f g h) := fourB w a (f - k) c d (a + k) f g h
 have bQ0 : Hid (RBox ((((w.alloc (cellsR4 a (f - k) c d)).alloc (cellsR4 (a + k) f g h)).alloc (cellsR4 0 0 0 0)).alloc (cellsR4 0 0 0 0)) (w.heap.size + 2) 0 0 0 0) := fourQ w a (f - k) c d (a + k) f g h
 have bR0 : Hid (RBox ((((w.alloc (cellsR4 a (f - k) c d)).alloc (cellsR4 (a + k) f g h)).alloc (cellsR4 0 0 0 0)).alloc (cellsR4 0 0 0 0)) (w.heap.size + 3) 0 0 0 0) := fourR w a (f - k) c d (a + k) f g h
 have bel0 : Hid (Below w.heap.size w ((((w.alloc (cellsR4 a (f - k) c d)).alloc (cellsR4 (a + k) f g h)).alloc (cellsR4 0 0 0 0)).alloc (cellsR4 0 0 0 0))) := fourW w a (f - k) c d (a + k) f g h
 go_enter Try.func67, Try.ntmps67
 go_wp2_with fail
 refine (tS.out _).mono ?_
 rintro ee w1 ⟨rfl, hb1⟩
 have bA1 := hid (bA0.out.below hb1)
 have bB1 := hid (bB0.out.below hb1)
 have bQ1 := hid (bQ0.out.below hb1)
 have bR1 := hid (bR0.out.below hb1)
 have bel1 := hid (bel0.out.trans (hb1.mono bel0.out.size))
 clear hb1 bA0 bB0 bQ0 bR0 bel0
 obtain ⟨cQ0, cQ1, cQ2, cQ3⟩ := RBox.box bQ1.out
 obtain ⟨cR0, cR1, cR2, cR3⟩ := RBox.box bR1.out
 have frQ := RBox.frozen bQ1.out
 have frR := RBox.frozen bR1.out
 go_wp2_with fail
 have bA2 := hid (bA1.out.st4o (k := w.heap.size + 2) (by first | omega | (have := RBox.lt bA1.out; omega)) (1) (0) (0) (0))
 have bB2 := hid (bB1.out.st4o (k := w.heap.size + 2) (by first | omega | (have := RBox.lt bB1.out; omega)) (1) (0) (0) (0))
 have bQ2 := hid (bQ1.out.st4 (x' := 1) (y' := 0) (z' := 0) (u' := 0))
 have bR2 := hid (bR1.out.st4o (k := w.heap.size + 2) (by first | omega | (have := RBox.lt bR1.out; omega)) (1) (0) (0) (0))
 have bel2 := hid (st4_below (w.heap.size + 2) (1) (0) (0) (0) bel1.out (by omega))
 clear bA1 bB1 bQ1 bR1 bel1
 unfold Go.Proofs.Ytkaekiodjjhjkaa.H.st4 at bel2 bA2 bB2 bQ2 bR2
 generalize ((((w1.setCell ⟨w.heap.size + 2, 0, none⟩ (.int .i64 (1))).setCell ⟨w.heap.size + 2, 1, none⟩ (.int .i64 (0))).setCell ⟨w.heap.size + 2, 2, none⟩ (.int .i64 (0))).setCell ⟨w.heap.size + 2, 3, none⟩ (.int .i64 (0))) = w2 at *
 have bA3 := hid (bA2.out.st4o (k := w.heap.size + 3) (by first | omega | (have := RBox.lt bA2.out; omega)) (1) (0) (0) (0))
 have bB3 := hid (bB2.out.st4o (k := w.heap.size + 3) (by first | omega | (have := RBox.lt bB2.out; omega)) (1) (0) (0) (0))
 have bQ3 := hid (bQ2.out.st4o (k := w.heap.size + 3) (by first | omega | (have := RBox.lt bQ2.out; omega)) (1) (0) (0) (0))
 have bR3 := hid (bR2.out.st4 (x' := 1) (y' := 0) (z' := 0) (u' := 0))
 have bel3 := hid (st4_below (w.heap.size + 3) (1) (0) (0) (0) bel2.out (by omega))
 clear bA2 bB2 bQ2 bR2 bel2
 unfold Go.Proofs.Ytkaekiodjjhjkaa.H.st4 at bel3 bA3 bB3 bQ3 bR3
 generalize ((((w2.setCell ⟨w.heap.size + 3, 0, none⟩ (.int .i64 (1))).setCell ⟨w.heap.size + 3, 1, none⟩ (.int .i64 (0))).setCell ⟨w.heap.size + 3, 2, none⟩ (.int .i64 (0))).setCell ⟨w.heap.size + 3, 3, none⟩ (.int .i64 (0))) = w3 at *
 clear cQ0 cQ1 cQ2 cQ3 cR0 cR1 cR2 cR3
 clear frQ frR
 obtain ⟨p0, p1, p2, p3⟩ := RBox.box bQ3.out
 obtain ⟨q0, q1, q2, q3⟩ := RBox.box bR3.out
 refine bodyPost_ret (v := .tuple #[rv 1 0 0 0, rv 1 0 0 0, .bool false]) (by simp [results, Try.results67, go_sem, p0, p1, p2, p3, q0, q1, q2, q3]) rfl ⟨rfl, bel3.out⟩
theorem w_Low_1_n2 (a b c d e f g h k : Int) (w : World) (a0 : 0 ≤ a) (a1 : a ≤ 4294967295) (f0 : 0 ≤ f) (f1 : f ≤ 4294967295) (k0 : 0 ≤ k) (k1 : k ≤ 1) (h1 : (f - k < b)) (h2 : (e < a + k)) (h3 : a ≤ (f - k)) (h4 : (a + k) ≤ f) (tS : Hid (∀ w, Calls Try.prog 78 #[rv a (f - k) c d] w fun ee w' => ee = .returned (.bool true) ∧ Below w.heap.size w w')) (tU : Hid (∀ w, Calls Try.prog 78 #[rv (a + k) f g h] w fun ee w' => ee = .returned (.bool false) ∧ Below w.heap.size w w')) :
 Calls Try.prog 67 #[rv a b c d, rv e f g h, .int .i64 k] w fun ee w' => ee = .returned (.tuple #[rv 1 0 0 0, rv 1 0 0 0, .bool false]) ∧ Below w.heap.size w w' := by
 refine calls_begin Try.func67 rfl 61 rfl (Nat.le_of_ble_eq_true rfl) [(0, .agg (#[zI a, zI b, zI c, zI d])), (1, .agg (#[zI e, zI f, zI g, zI h])), (2, .int .i64 (k))] ⟨rfl, rfl, rfl, trivial⟩ (fun a0 e0 hm0 => ?_)
 refine wp_seqR ?_
 refine kx e0 hm0 1 (.agg (#[zI a, zI b, zI c, zI d])) (#[zI a, zI b, zI c, zI d]) 56 fun a1 w1 b1 e1 hm1 => ?_
 refine kx e1 hm1 2 (.agg (#[zI e, zI f, zI g, zI h])) (#[zI e, zI f, zI g, zI h]) 56 fun a2 w2 b2 e2 hm2 => ?_
 refine ka e2 hm2 3 56 (.agg #[.int .i64 0, .int .i64 0, .int .i64 0, .int .i64 0]) (#[zI 0, zI 0, zI 0, zI 0]) fun a3 w3 b3 e3 hm3 => ?_
 refine ka e3 hm3 4 56 (.agg #[.int .i64 0, .int .i64 0, .int .i64 0, .int .i64 0]) (#[zI 0, zI 0, zI 0, zI 0]) fun a4 w4 b4 e4 hm4 => ?_
 refine wb 1 e4 [(8, zF)] fun a5 e5 => ?_
 refine wl_end (wp_seq (wp_seqR ?_))
 refine wr [0, 3, 0, 4, 0, 1] e5 hm4 [(14, zI (f - k)), (13, zI k), (12, zI f), (11, zP b2 1), (10, zI b), (9, zP b1 1)] [b2, b1] (vs f k vl0) fun a6 w5 e6 hm5 => ?_
 have hf1 : decide (b > (f - k)) = true := decide_eq_true (by omega)
 refine wr [1] e6 hm5 [(15, zT)] [] (vb (hf1) vl0) fun a7 w6 e7 hm6 => ?_
 refine wl_end (wp_condT (he := e7) rfl (wp_region_lit ?_))
 refine wm [0, 4, 0, 1, 0, 3] e7 hm6 [(20, zP b1 1), (19, zI (f - k)), (18, zI k), (17, zI f), (16, zP b2 1)] [(1, zE b1 56 (#[zI a, zI (f - k), zI c, zI d]))] [b1, b2] (vs f k vl0) fun a8 w7 e8 hm7 => ?_
 refine wpList_nil (then_normal (wp_seq (wp_seqR ?_)))
 refine wr [0, 4, 0, 3, 0, 1] e8 hm7 [(26, zI (a + k)), (25, zI k), (24, zI a), (23, zP b1 0), (22, zI e), (21, zP b2 0)] [b1, b2] (va a k vl0) fun a9 w8 e9 hm8 => ?_
 have hf2 : decide (e < (a + k)) = true := decide_eq_true (by omega)
 refine wr [1] e9 hm8 [(27, zT)] [] (vb (hf2) vl0) fun a10 w9 e10 hm9 => ?_
 refine wl_end (wp_condT (he := e10) rfl (wp_region_lit ?_))
 refine wm [0, 3, 0, 1, 0, 4] e10 hm9 [(32, zP b2 0), (31, zI (a + k)), (30, zI k), (29, zI a), (28, zP b1 0)] [(2, zE b2 56 (#[zI (a + k), zI f, zI g, zI h]))] [b2, b1] (va a k vl0) fun a11 w10 e11 hm10 => ?_
 refine wpList_nil (then_normal (wp_seq (wp_seqR ?_)))
 refine wr [0, 3, 0, 3] e11 hm10 [(36, zI (f - k)), (35, zP b1 1), (34, zI a), (33, zP b1 0)] [b1, b1] vl0 fun a12 w11 e12 hm11 => ?_
 have hf3 : decide (a > (f - k)) = false := decide_eq_false (by omega)
 refine wr [1, 0, 0, 4, 0, 4] e12 hm11 [(42, zI f), (41, zP b2 1), (40, zI (a + k)), (39, zP b2 0), (38, zF), (37, zF)] [b2, b2] (vb (hf3) vl0) fun a13 w12 e13 hm12 => ?_
 have hf4 : decide ((a + k) > f) = false := decide_eq_false (by omega)
 refine wr [1, 0, 0, 3] e13 hm12 [(46, .agg (#[zI a, zI (f - k), zI c, zI d])), (45, zF), (44, zF), (43, zF)] [b1] (vb (hf4) vl0) fun a14 w13 e14 hm13 => ?_
 refine kc e14 hm13 (v := zT) (tS.out _) fun a15 w14 e15 hm14 => ?_
 refine wr [0, 0, 0, 4] e15 hm14 [(51, .agg (#[zI (a + k), zI f, zI g, zI h])), (50, zF), (49, zF), (48, zF)] [b2] vl0 fun a16 w15 e16 hm15 => ?_
 refine kc e16 hm15 (v := zF) (tU.out _) fun a17 w16 e17 hm16 => ?_
 refine wb 2 e17 [(54, zT), (53, zT)] fun a18 e18 => ?_
 refine wl_end (wp_condT (he := e18) rfl (wp_seqR ?_))
 refine kv e18 (.agg (#[zI 1, zI 0, zI 0, zI 0])) (rn_build _ _ rfl #[(0, .int .i64 (1))] (pmap1 rfl) _ (by kernel_rfl)) fun a19 e19 => ?_
 refine kv e19 (.agg (#[zI 1, zI 0, zI 0, zI 0])) (rn_build _ _ rfl #[(0, .int .i64 (1))] (pmap1 rfl) _ (by kernel_rfl)) fun a20 e20 => ?_
 refine wm [5, 6, 0] e20 hm16 [(8, zF)] [(4, zE b4 56 (#[zI 1, zI 0, zI 0, zI 0])), (3, zE b3 56 (#[zI 1, zI 0, zI 0, zI 0]))] [b4, b3] vl0 fun a21 w17 e21 hm17 => ?_
 refine wl_end (wp_ret (ret_then ?_))
 exact bodyPost_ret (results_cct e21 hm17 _ _ _ _ _ Try.results67 _ rfl 3 rfl 4 agg56 rfl _ rfl 4 rfl 4 agg56 rfl (.bool false) rfl) e21.defers ⟨rfl, hm17.below⟩
theorem w_Low_1_yes (a b c d e f g h k : Int) (x y z u x' y' z' u' : Int) (w : World) (a0 : 0 ≤ a) (a1 : a ≤ 4294967295) (f0 : 0 ≤ f) (f1 : f ≤ 4294967295) (k0 : 0 ≤ k) (k1 : k ≤ 1) (h1 : (f - k < b)) (h2 : (e < a + k)) (h3 : a ≤ (f - k)) (h4 : (a + k) ≤ f) (tS : Hid (∀ w, Calls Try.prog 78 #[rv a (f - k) c d] w fun ee w' => ee = .returned (.bool true) ∧ Below w.heap.size w w')) (tU : Hid (∀ w, Calls Try.prog 78 #[rv (a + k) f g h] w fun ee w' => ee = .returned (.bool true) ∧ Below w.heap.size w w')) (tA : Hid (∀ w, Calls Try.prog 45 #[rv a (f - k) c d] w fun ee w' => ee = .returned (rv x y z u) ∧ Below w.heap.size w w')) (tB : Hid (∀ w, Calls Try.prog 45 #[rv (a + k) f g h] w fun ee w' => ee = .returned (rv x' y' z' u') ∧ Below w.heap.size w w')) :
 Calls Try.prog 67 #[rv a b c d, rv e f g h, .int .i64 k] w fun ee w' => ee = .returned (.tuple #[rv x y z u, rv x' y' z' u', .bool true]) ∧ Below w.heap.size w w' := by
 refine calls_begin Try.func67 rfl 61 rfl (Nat.le_of_ble_eq_true rfl) [(0, .agg (#[zI a, zI b, zI c, zI d])), (1, .agg (#[zI e, zI f, zI g, zI h])), (2, .int .i64 (k))] ⟨rfl, rfl, rfl, trivial⟩ (fun a0 e0 hm0 => ?_)
 refine wp_seqR ?_
 refine kx e0 hm0 1 (.agg (#[zI a, zI b, zI c, zI d])) (#[zI a, zI b, zI c, zI d]) 56 fun a1 w1 b1 e1 hm1 => ?_
 refine kx e1 hm1 2 (.agg (#[zI e, zI f, zI g, zI h])) (#[zI e, zI f, zI g, zI h]) 56 fun a2 w2 b2 e2 hm2 => ?_
 refine ka e2 hm2 3 56 (.agg #[.int .i64 0, .int .i64 0, .int .i64 0, .int .i64 0]) (#[zI 0, zI 0, zI 0, zI 0]) fun a3 w3 b3 e3 hm3 => ?_
 refine ka e3 hm3 4 56 (.agg #[.int .i64 0, .int .i64 0, .int .i64 0, .int .i64 0]) (#[zI 0, zI 0, zI 0, zI 0]) fun a4 w4 b4 e4 hm4 => ?_
 refine wb 1 e4 [(8, zF)] fun a5 e5 => ?_
 refine wl_end (wp_seq (wp_seqR ?_))
 refine wr [0, 3, 0, 4, 0, 1] e5 hm4 [(14, zI (f - k)), (13, zI k), (12, zI f), (11, zP b2 1), (10, zI b), (9, zP b1 1)] [b2, b1] (vs f k vl0) fun a6 w5 e6 hm5 => ?_
 have hf1 : decide (b > (f - k)) = true := decide_eq_true (by omega)
 refine wr [1] e6 hm5 [(15, zT)] [] (vb (hf1) vl0) fun a7 w6 e7 hm6 => ?_
 refine wl_end (wp_condT (he := e7) rfl (wp_region_lit ?_))
 refine wm [0, 4, 0, 1, 0, 3] e7 hm6 [(20, zP b1 1), (19, zI (f - k)), (18, zI k), (17, zI f), (16, zP b2 1)] [(1, zE b1 56 (#[zI a, zI (f - k), zI c, zI d]))] [b1, b2] (vs f k vl0) fun a8 w7 e8 hm7 => ?_
 refine wpList_nil (then_normal (wp_seq (wp_seqR ?_)))
 refine wr [0, 4, 0, 3, 0, 1] e8 hm7 [(26, zI (a + k)), (25, zI k), (24, zI a), (23, zP b1 0), (22, zI e), (21, zP b2 0)] [b1, b2] (va a k vl0) fun a9 w8 e9 hm8 => ?_
 have hf2 : decide (e < (a + k)) = true := decide_eq_true (by omega)
 refine wr [1] e9 hm8 [(27, zT)] [] (vb (hf2) vl0) fun a10 w9 e10 hm9 => ?_
 refine wl_end (wp_condT (he := e10) rfl (wp_region_lit ?_))
 refine wm [0, 3, 0, 1, 0, 4] e10 hm9 [(32, zP b2 0), (31, zI (a + k)), (30, zI k), (29, zI a), (28, zP b1 0)] [(2, zE b2 56 (#[zI (a + k), zI f, zI g, zI h]))] [b2, b1] (va a k vl0) fun a11 w10 e11 hm10 => ?_
 refine wpList_nil (then_normal (wp_seq (wp_seqR ?_)))
 refine wr [0, 3, 0, 3] e11 hm10 [(36, zI (f - k)), (35, zP b1 1), (34, zI a), (33, zP b1 0)] [b1, b1] vl0 fun a12 w11 e12 hm11 => ?_
 have hf3 : decide (a > (f - k)) = false := decide_eq_false (by omega)
 refine wr [1, 0, 0, 4, 0, 4] e12 hm11 [(42, zI f), (41, zP b2 1), (40, zI (a + k)), (39, zP b2 0), (38, zF), (37, zF)] [b2, b2] (vb (hf3) vl0) fun a13 w12 e13 hm12 => ?_
 have hf4 : decide ((a + k) > f) = false := decide_eq_false (by omega)
 refine wr [1, 0, 0, 3] e13 hm12 [(46, .agg (#[zI a, zI (f - k), zI c, zI d])), (45, zF), (44, zF), (43, zF)] [b1] (vb (hf4) vl0) fun a14 w13 e14 hm13 => ?_
 refine kc e14 hm13 (v := zT) (tS.out _) fun a15 w14 e15 hm14 => ?_
 refine wr [0, 0, 0, 4] e15 hm14 [(51, .agg (#[zI (a + k), zI f, zI g, zI h])), (50, zF), (49, zF), (48, zF)] [b2] vl0 fun a16 w15 e16 hm15 => ?_
 refine kc e16 hm15 (v := zT) (tU.out _) fun a17 w16 e17 hm16 => ?_
 refine wb 2 e17 [(54, zF), (53, zF)] fun a18 e18 => ?_
 refine wl_end (wp_condF (he := e18) rfl (wp_skip (then_normal (wp_seq ?_))))
 refine wh_begin (by kernel_rfl) hm16 [(1, ⟨true, b1, 56, #[zI a, zI (f - k), zI c, zI d]⟩), (2, ⟨true, b2, 56, #[zI (a + k), zI f, zI g, zI h]⟩)] ⟨rfl, rfl, trivial⟩ (fun w17 hm17 => ?_)
 refine wtd (fuel := 5) [(0, 3), (2, 4)] e18 hm17 [(59, .agg (#[zI (a + k), zI f, zI g, zI h])), (57, .agg (#[zI a, zI (f - k), zI c, zI d]))] [b2, b1] vl0 fun a19 e19 => ?_
 refine tc (fuel := 4) 1 rfl e19 hm17 (v := .agg (#[zI x, zI y, zI z, zI u])) (tA.out _) fun a20 w18 e20 hm18 => ?_
 refine tc (fuel := 3) 3 rfl e20 hm18 (v := .agg (#[zI x', zI y', zI z', zI u'])) (tB.out _) fun a21 w19 e21 hm19 => ?_
 refine ts (fuel := 2) 4 rfl e21 hm19 3 agg56.sz (0) (.agg (#[zI x, zI y, zI z, zI u])) (#[zI x, zI y, zI z, zI u]) ⟨rfl, rfl, trivial⟩ (hin := (by simp)) (hA := (by kernel_rfl)) fun w20 hm20 => ?_
 refine ts (fuel := 1) 5 rfl e21 hm20 4 agg56.sz (0) (.agg (#[zI x', zI y', zI z', zI u'])) (#[zI x', zI y', zI z', zI u']) ⟨rfl, rfl, trivial⟩ (hin := (by simp)) (hA := (by kernel_rfl)) fun w21 hm21 => ?_
 refine wtb (fuel := 0) [6] e21 hm21 [(8, zT)] fun a22 e22 => ?_
 refine wpAnyH_done (by kernel_rfl) ?_ _
 refine then_normal (wp_ret ?_)
 exact bodyPost_ret (results_cct e22 hm21 _ _ _ _ _ Try.results67 _ rfl 3 rfl 4 agg56 rfl _ rfl 4 rfl 4 agg56 rfl (.bool true) rfl) e22.defers ⟨rfl, hm21.below⟩
end Go.Proofs.Ytkaekiodjjhjkaa.H
namespace Go.Proofs.Ytkaekiodjjhjkaa.H
open Go.RowKit
theorem w_Low_2_g1 (a b c d e f g h k : Int) (w : World) (a0 : 0 ≤ a) (a1 : a ≤ 4294967295) (f0 : 0 ≤ f) (f1 : f ≤ 4294967295) (k0 : 0 ≤ k) (k1 : k ≤ 1) (h1 : (f - k < b)) (h2 : ¬ (e < a + k)) (h3 : (f - k) < a) :
 Calls Try.prog 67 #[rv a b c d, rv e f g h, .int .i64 k] w fun ee w' => ee = .returned (.tuple #[rv 1 0 0 0, rv 1 0 0 0, .bool false]) ∧ Below w.heap.size w w' := by
 have P5 : Hid (RBox ((((w.alloc (cellsR4 a (f - k) c d)).alloc (cellsR4 e f g h)).alloc (cellsR4 1 0 0 0)).alloc (cellsR4 1 0 0 0)) (w.heap.size + 2) 1 0 0 0) := by
  have h0 := (RBox.new ((w.alloc (cellsR4 a (f - k) c d)).alloc (cellsR4 e f g h)) 1 0 0 0).alloc (cellsR4 1 0 0 0)
  simp only [World.size_alloc] at h0
  exact h0
 have P6 : Hid (RBox ((((w.alloc (cellsR4 a (f - k) c d)).alloc (cellsR4 e f g h)).alloc (cellsR4 1 0 0 0)).alloc (cellsR4 1 0 0 0)) (w.heap.size + 3) 1 0 0 0) := by
  have h0 := RBox.new (((w.alloc (cellsR4 a (f - k) c d)).alloc (cellsR4 e f g h)).alloc (cellsR4 1 0 0 0)) 1 0 0 0
  simp only [World.size_alloc] at h0
  exact h0
 have B5 : Hid (Below w.heap.size w ((((w.alloc (cellsR4 a (f - k) c d)).alloc (cellsR4 e f g h)).alloc (cellsR4 1 0 0 0)).alloc (cellsR4 1 0 0 0))) := ((newB w (cellsR4 a (f - k) c d) (cellsR4 e f g h)).alloc (by simp; omega) (cellsR4 1 0 0 0)).alloc (by simp; omega) (cellsR4 1 0 0 0)
 go_enter Try.func67, Try.ntmps67
 go_wp2_with fail
 obtain ⟨p0, p1, p2, p3⟩ := RBox.box P5.out
 obtain ⟨q0, q1, q2, q3⟩ := RBox.box P6.out
 refine bodyPost_ret (v := .tuple #[rv 1 0 0 0, rv 1 0 0 0, .bool false]) (by simp [results, Try.results67, go_sem, p0, p1, p2, p3, q0, q1, q2, q3]) rfl ⟨rfl, B5.out⟩
theorem w_Low_2_n1 (a b c d e f g h k : Int) (w : World) (a0 : 0 ≤ a) (a1 : a ≤ 4294967295) (f0 : 0 ≤ f) (f1 : f ≤ 4294967295) (k0 : 0 ≤ k) (k1 : k ≤ 1) (h1 : (f - k < b)) (h2 : ¬ (e < a + k)) (h3 : a ≤ (f - k)) (h4 : e ≤ f) (tS : Hid (∀ w, Calls Try.prog 78 #[rv a (f - k) c d] w fun ee w' => ee = .returned (.bool false) ∧ Below w.heap.size w w')) :
 Calls Try.prog 67 #[rv a b c d, rv e f g h, .int .i64 k] w fun ee w' => ee = .returned (.tuple #[rv 1 0 0 0, rv 1 0 0 0, .bool false]) ∧ Below w.heap.size w w' := by
 refine calls_begin Try.func67 rfl 61 rfl (Nat.le_of_ble_eq_true rfl) [(0, .agg (#[zI a, zI b, zI c, zI d])), (1, .agg (#[zI e, zI f, zI g, zI h])), (2, .int .i64 (k))] ⟨rfl, rfl, rfl, trivial⟩ (fun a0 e0 hm0 => ?_)
 refine wp_seqR ?_
 refine kx e0 hm0 1 (.agg (#[zI a, zI b, zI c, zI d])) (#[zI a, zI b, zI c, zI d]) 56 fun a1 w1 b1 e1 hm1 => ?_
 refine kx e1 hm1 2 (.agg (#[zI e, zI f, zI g, zI h])) (#[zI e, zI f, zI g, zI h]) 56 fun a2 w2 b2 e2 hm2 => ?_
 refine ka e2 hm2 3 56 (.agg #[.int .i64 0, .int .i64 0, .int .i64 0, .int .i64 0]) (#[zI 0, zI 0, zI 0, zI 0]) fun a3 w3 b3 e3 hm3 => ?_
 refine ka e3 hm3 4 56 (.agg #[.int .i64 0, .int .i64 0, .int .i64 0, .int .i64 0]) (#[zI 0, zI 0, zI 0, zI 0]) fun a4 w4 b4 e4 hm4 => ?_
 refine wb 1 e4 [(8, zF)] fun a5 e5 => ?_
 refine wl_end (wp_seq (wp_seqR ?_))
 refine wr [0, 3, 0, 4, 0, 1] e5 hm4 [(14, zI (f - k)), (13, zI k), (12, zI f), (11, zP b2 1), (10, zI b), (9, zP b1 1)] [b2, b1] (vs f k vl0) fun a6 w5 e6 hm5 => ?_
 have hf1 : decide (b > (f - k)) = true := decide_eq_true (by omega)
 refine wr [1] e6 hm5 [(15, zT)] [] (vb (hf1) vl0) fun a7 w6 e7 hm6 => ?_
 refine wl_end (wp_condT (he := e7) rfl (wp_region_lit ?_))
 refine wm [0, 4, 0, 1, 0, 3] e7 hm6 [(20, zP b1 1), (19, zI (f - k)), (18, zI k), (17, zI f), (16, zP b2 1)] [(1, zE b1 56 (#[zI a, zI (f - k), zI c, zI d]))] [b1, b2] (vs f k vl0) fun a8 w7 e8 hm7 => ?_
 refine wpList_nil (then_normal (wp_seq (wp_seqR ?_)))
 refine wr [0, 4, 0, 3, 0, 1] e8 hm7 [(26, zI (a + k)), (25, zI k), (24, zI a), (23, zP b1 0), (22, zI e), (21, zP b2 0)] [b1, b2] (va a k vl0) fun a9 w8 e9 hm8 => ?_
 have hf2 : decide (e < (a + k)) = false := decide_eq_false (by omega)
 refine wr [1] e9 hm8 [(27, zF)] [] (vb (hf2) vl0) fun a10 w9 e10 hm9 => ?_
 refine wl_end (wp_condF (he := e10) rfl (wp_skip (then_normal (wp_seq (wp_seqR ?_)))))
 refine wr [0, 3, 0, 3] e10 hm9 [(36, zI (f - k)), (35, zP b1 1), (34, zI a), (33, zP b1 0)] [b1, b1] vl0 fun a11 w10 e11 hm10 => ?_
 have hf3 : decide (a > (f - k)) = false := decide_eq_false (by omega)
 refine wr [1, 0, 0, 4, 0, 4] e11 hm10 [(42, zI f), (41, zP b2 1), (40, zI e), (39, zP b2 0), (38, zF), (37, zF)] [b2, b2] (vb (hf3) vl0) fun a12 w11 e12 hm11 => ?_
 have hf4 : decide (e > f) = false := decide_eq_false (by omega)
 refine wr [1, 0, 0, 3] e12 hm11 [(46, .agg (#[zI a, zI (f - k), zI c, zI d])), (45, zF), (44, zF), (43, zF)] [b1] (vb (hf4) vl0) fun a13 w12 e13 hm12 => ?_
 refine kc e13 hm12 (v := zF) (tS.out _) fun a14 w13 e14 hm13 => ?_
 refine wb 7 e14 [(54, zT), (53, zU), (52, zU), (51, zU), (50, zT), (49, zT), (48, zT)] fun a15 e15 => ?_
 refine wl_end (wp_condT (he := e15) rfl (wp_seqR ?_))
 refine kv e15 (.agg (#[zI 1, zI 0, zI 0, zI 0])) (rn_build _ _ rfl #[(0, .int .i64 (1))] (pmap1 rfl) _ (by kernel_rfl)) fun a16 e16 => ?_
 refine kv e16 (.agg (#[zI 1, zI 0, zI 0, zI 0])) (rn_build _ _ rfl #[(0, .int .i64 (1))] (pmap1 rfl) _ (by kernel_rfl)) fun a17 e17 => ?_
 refine wm [5, 6, 0] e17 hm13 [(8, zF)] [(4, zE b4 56 (#[zI 1, zI 0, zI 0, zI 0])), (3, zE b3 56 (#[zI 1, zI 0, zI 0, zI 0]))] [b4, b3] vl0 fun a18 w14 e18 hm14 => ?_
 refine wl_end (wp_ret (ret_then ?_))
 exact bodyPost_ret (results_cct e18 hm14 _ _ _ _ _ Try.results67 _ rfl 3 rfl 4 agg56 rfl _ rfl 4 rfl 4 agg56 rfl (.bool false) rfl) e18.defers ⟨rfl, hm14.below⟩
theorem w_Low_2_n2 (a b c d e f g h k : Int) (w : World) (a0 : 0 ≤ a) (a1 : a ≤ 4294967295) (f0 : 0 ≤ f) (f1 : f ≤ 4294967295) (k0 : 0 ≤ k) (k1 : k ≤ 1) (h1 : (f - k < b)) (h2 : ¬ (e < a + k)) (h3 : a ≤ (f - k)) (h4 : e ≤ f) (tS : Hid (∀ w, Calls Try.prog 78 #[rv a (f - k) c d] w fun ee w' => ee = .returned (.bool true) ∧ Below w.heap.size w w')) (tU : Hid (∀ w, Calls Try.prog 78 #[rv e f g h] w fun ee w' => ee = .returned (.bool false) ∧ Below w.heap.size w w')) :
 Calls Try.prog 67 #[rv a b c d, rv e f g h, .int .i64 k] w fun ee w' => ee = .returned (.tuple #[rv 1 0 0 0, rv 1 0 0 0, .bool false]) ∧ Below w.heap.size w w' := by
 refine calls_begin Try.func67 rfl 61 rfl (Nat.le_of_ble_eq_true rfl) [(0, .agg (#[zI a, zI b, zI c, zI d])), (1, .agg (#[zI e, zI f, zI g, zI h])), (2, .int .i64 (k))] ⟨rfl, rfl, rfl, trivial⟩ (fun a0 e0 hm0 => ?_)
 refine wp_seqR ?_
 refine kx e0 hm0 1 (.agg (#[zI a, zI b, zI c, zI d])) (#[zI a, zI b, zI c, zI d]) 56 fun a1 w1 b1 e1 hm1 => ?_
 refine kx e1 hm1 2 (.agg (#[zI e, zI f, zI g, zI h])) (#[zI e, zI f, zI g, zI h]) 56 fun a2 w2 b2 e2 hm2 => ?_
 refine ka e2 hm2 3 56 (.agg #[.int .i64 0, .int .i64 0, .int .i64 0, .int .i64 0]) (#[zI 0, zI 0, zI 0, zI 0]) fun a3 w3 b3 e3 hm3 => ?_
 refine ka e3 hm3 4 56 (.agg #[.int .i64 0, .int .i64 0, .int .i64 0, .int .i64 0]) (#[zI 0, zI 0, zI 0, zI 0]) fun a4 w4 b4 e4 hm4 => ?_
 refine wb 1 e4 [(8, zF)] fun a5 e5 => ?_
 refine wl_end (wp_seq (wp_seqR ?_))
 refine wr [0, 3, 0, 4, 0, 1] e5 hm4 [(14, zI (f - k)), (13, zI k), (12, zI f), (11, zP b2 1), (10, zI b), (9, zP b1 1)] [b2, b1] (vs f k vl0) fun a6 w5 e6 hm5 => ?_
 have hf1 : decide (b > (f - k)) = true := decide_eq_true (by omega)
 refine wr [1] e6 hm5 [(15, zT)] [] (vb (hf1) vl0) fun a7 w6 e7 hm6 => ?_
 refine wl_end (wp_condT (he := e7) rfl (wp_region_lit ?_))
 refine wm [0, 4, 0, 1, 0, 3] e7 hm6 [(20, zP b1 1), (19, zI (f - k)), (18, zI k), (17, zI f), (16, zP b2 1)] [(1, zE b1 56 (#[zI a, zI (f - k), zI c, zI d]))] [b1, b2] (vs f k vl0) fun a8 w7 e8 hm7 => ?_
 refine wpList_nil (then_normal (wp_seq (wp_seqR ?_)))
 refine wr [0, 4, 0, 3, 0, 1] e8 hm7 [(26, zI (a + k)), (25, zI k), (24, zI a), (23, zP b1 0), (22, zI e), (21, zP b2 0)] [b1, b2] (va a k vl0) fun a9 w8 e9 hm8 => ?_
 have hf2 : decide (e < (a + k)) = false := decide_eq_false (by omega)
 refine wr [1] e9 hm8 [(27, zF)] [] (vb (hf2) vl0) fun a10 w9 e10 hm9 => ?_
 refine wl_end (wp_condF (he := e10) rfl (wp_skip (then_normal (wp_seq (wp_seqR ?_)))))
 refine wr [0, 3, 0, 3] e10 hm9 [(36, zI (f - k)), (35, zP b1 1), (34, zI a), (33, zP b1 0)] [b1, b1] vl0 fun a11 w10 e11 hm10 => ?_
 have hf3 : decide (a > (f - k)) = false := decide_eq_false (by omega)
 refine wr [1, 0, 0, 4, 0, 4] e11 hm10 [(42, zI f), (41, zP b2 1), (40, zI e), (39, zP b2 0), (38, zF), (37, zF)] [b2, b2] (vb (hf3) vl0) fun a12 w11 e12 hm11 => ?_
 have hf4 : decide (e > f) = false := decide_eq_false (by omega)
 refine wr [1, 0, 0, 3] e12 hm11 [(46, .agg (#[zI a, zI (f - k), zI c, zI d])), (45, zF), (44, zF), (43, zF)] [b1] (vb (hf4) vl0) fun a13 w12 e13 hm12 => ?_
 refine kc e13 hm12 (v := zT) (tS.out _) fun a14 w13 e14 hm13 => ?_
 refine wr [0, 0, 0, 4] e14 hm13 [(51, .agg (#[zI e, zI f, zI g, zI h])), (50, zF), (49, zF), (48, zF)] [b2] vl0 fun a15 w14 e15 hm14 => ?_
 refine kc e15 hm14 (v := zF) (tU.out _) fun a16 w15 e16 hm15 => ?_
 refine wb 2 e16 [(54, zT), (53, zT)] fun a17 e17 => ?_
 refine wl_end (wp_condT (he := e17) rfl (wp_seqR ?_))
 refine kv e17 (.agg (#[zI 1, zI 0, zI 0, zI 0])) (rn_build _ _ rfl #[(0, .int .i64 (1))] (pmap1 rfl) _ (by kernel_rfl)) fun a18 e18 => ?_
 refine kv e18 (.agg (#[zI 1, zI 0, zI 0, zI 0])) (rn_build _ _ rfl #[(0, .int .i64 (1))] (pmap1 rfl) _ (by kernel_rfl)) fun a19 e19 => ?_
 refine wm [5, 6, 0] e19 hm15 [(8, zF)] [(4, zE b4 56 (#[zI 1, zI 0, zI 0, zI 0])), (3, zE b3 56 (#[zI 1, zI 0, zI 0, zI 0]))] [b4, b3] vl0 fun a20 w16 e20 hm16 => ?_
 refine wl_end (wp_ret (ret_then ?_))
 exact bodyPost_ret (results_cct e20 hm16 _ _ _ _ _ Try.results67 _ rfl 3 rfl 4 agg56 rfl _ rfl 4 rfl 4 agg56 rfl (.bool false) rfl) e20.defers ⟨rfl, hm16.below⟩
theorem w_Low_2_yes (a b c d e f g h k : Int) (x y z u x' y' z' u' : Int) (w : World) (a0 : 0 ≤ a) (a1 : a ≤ 4294967295) (f0 : 0 ≤ f) (f1 : f ≤ 4294967295) (k0 : 0 ≤ k) (k1 : k ≤ 1) (h1 : (f - k < b)) (h2 : ¬ (e < a + k)) (h3 : a ≤ (f - k)) (h4 : e ≤ f) (tS : Hid (∀ w, Calls Try.prog 78 #[rv a (f - k) c d] w fun ee w' => ee = .returned (.bool true) ∧ Below w.heap.size w w')) (tU : Hid (∀ w, Calls Try.prog 78 #[rv e f g h] w fun ee w' => ee = .returned (.bool true) ∧ Below w.heap.size w w')) (tA : Hid (∀ w, Calls Try.prog 45 #[rv a (f - k) c d] w fun ee w' => ee = .returned (rv x y z u) ∧ Below w.heap.size w w')) (tB : Hid (∀ w, Calls Try.prog 45 #[rv e f g h] w fun ee w' => ee = .returned (rv x' y' z' u') ∧ Below w.heap.size w w')) :
 Calls Try.prog 67 #[rv a b c d, rv e f g h, .int .i64 k] w fun ee w' => ee = .returned (.tuple #[rv x y z u, rv x' y' z' u', .bool true]) ∧ Below w.heap.size w w' := by
 refine calls_begin Try.func67 rfl 61 rfl (Nat.le_of_ble_eq_true rfl) [(0, .agg (#[zI a, zI b, zI c, zI d])), (1, .agg (#[zI e, zI f, zI g, zI h])), (2, .int .i64 (k))] ⟨rfl, rfl, rfl, trivial⟩ (fun a0 e0 hm0 => ?_)
 refine wp_seqR ?_
 refine kx e0 hm0 1 (.agg (#[zI a, zI b, zI c, zI d])) (#[zI a, zI b, zI c, zI d]) 56 fun a1 w1 b1 e1 hm1 => ?_
 refine kx e1 hm1 2 (.agg (#[zI e, zI f, zI g, zI h])) (#[zI e, zI f, zI g, zI h]) 56 fun a2 w2 b2 e2 hm2 => ?_
 refine ka e2 hm2 3 56 (.agg #[.int .i64 0, .int .i64 0, .int .i64 0, .int .i64 0]) (#[zI 0, zI 0, zI 0, zI 0]) fun a3 w3 b3 e3 hm3 => ?_
 refine ka e3 hm3 4 56 (.agg #[.int .i64 0, .int .i64 0, .int .i64 0, .int .i64 0]) (#[zI 0, zI 0, zI 0, zI 0]) fun a4 w4 b4 e4 hm4 => ?_
 refine wb 1 e4 [(8, zF)] fun a5 e5 => ?_
 refine wl_end (wp_seq (wp_seqR ?_))
 refine wr [0, 3, 0, 4, 0, 1] e5 hm4 [(14, zI (f - k)), (13, zI k), (12, zI f), (11, zP b2 1), (10, zI b), (9, zP b1 1)] [b2, b1] (vs f k vl0) fun a6 w5 e6 hm5 => ?_
 have hf1 : decide (b > (f - k)) = true := decide_eq_true (by omega)
 refine wr [1] e6 hm5 [(15, zT)] [] (vb (hf1) vl0) fun a7 w6 e7 hm6 => ?_
 refine wl_end (wp_condT (he := e7) rfl (wp_region_lit ?_))
 refine wm [0, 4, 0, 1, 0, 3] e7 hm6 [(20, zP b1 1), (19, zI (f - k)), (18, zI k), (17, zI f), (16, zP b2 1)] [(1, zE b1 56 (#[zI a, zI (f - k), zI c, zI d]))] [b1, b2] (vs f k vl0) fun a8 w7 e8 hm7 => ?_
 refine wpList_nil (then_normal (wp_seq (wp_seqR ?_)))
 refine wr [0, 4, 0, 3, 0, 1] e8 hm7 [(26, zI (a + k)), (25, zI k), (24, zI a), (23, zP b1 0), (22, zI e), (21, zP b2 0)] [b1, b2] (va a k vl0) fun a9 w8 e9 hm8 => ?_
 have hf2 : decide (e < (a + k)) = false := decide_eq_false (by omega)
 refine wr [1] e9 hm8 [(27, zF)] [] (vb (hf2) vl0) fun a10 w9 e10 hm9 => ?_
 refine wl_end (wp_condF (he := e10) rfl (wp_skip (then_normal (wp_seq (wp_seqR ?_)))))
 refine wr [0, 3, 0, 3] e10 hm9 [(36, zI (f - k)), (35, zP b1 1), (34, zI a), (33, zP b1 0)] [b1, b1] vl0 fun a11 w10 e11 hm10 => ?_
 have hf3 : decide (a > (f - k)) = false := decide_eq_false (by omega)
 refine wr [1, 0, 0, 4, 0, 4] e11 hm10 [(42, zI f), (41, zP b2 1), (40, zI e), (39, zP b2 0), (38, zF), (37, zF)] [b2, b2] (vb (hf3) vl0) fun a12 w11 e12 hm11 => ?_
 have hf4 : decide (e > f) = false := decide_eq_false (by omega)
 refine wr [1, 0, 0, 3] e12 hm11 [(46, .agg (#[zI a, zI (f - k), zI c, zI d])), (45, zF), (44, zF), (43, zF)] [b1] (vb (hf4) vl0) fun a13 w12 e13 hm12 => ?_
 refine kc e13 hm12 (v := zT) (tS.out _) fun a14 w13 e14 hm13 => ?_
 refine wr [0, 0, 0, 4] e14 hm13 [(51, .agg (#[zI e, zI f, zI g, zI h])), (50, zF), (49, zF), (48, zF)] [b2] vl0 fun a15 w14 e15 hm14 => ?_
 refine kc e15 hm14 (v := zT) (tU.out _) fun a16 w15 e16 hm15 => ?_
 refine wb 2 e16 [(54, zF), (53, zF)] fun a17 e17 => ?_
 refine wl_end (wp_condF (he := e17) rfl (wp_skip (then_normal (wp_seq ?_))))
 refine wh_begin (by kernel_rfl) hm15 [(1, ⟨true, b1, 56, #[zI a, zI (f - k), zI c, zI d]⟩), (2, ⟨true, b2, 56, #[zI e, zI f, zI g, zI h]⟩)] ⟨rfl, rfl, trivial⟩ (fun w16 hm16 => ?_)
 refine wtd (fuel := 5) [(0, 3), (2, 4)] e17 hm16 [(59, .agg (#[zI e, zI f, zI g, zI h])), (57, .agg (#[zI a, zI (f - k), zI c, zI d]))] [b2, b1] vl0 fun a18 e18 => ?_
 refine tc (fuel := 4) 1 rfl e18 hm16 (v := .agg (#[zI x, zI y, zI z, zI u])) (tA.out _) fun a19 w17 e19 hm17 => ?_
 refine tc (fuel := 3) 3 rfl e19 hm17 (v := .agg (#[zI x', zI y', zI z', zI u'])) (tB.out _) fun a20 w18 e20 hm18 => ?_
 refine ts (fuel := 2) 4 rfl e20 hm18 3 agg56.sz (0) (.agg (#[zI x, zI y, zI z, zI u])) (#[zI x, zI y, zI z, zI u]) ⟨rfl, rfl, trivial⟩ (hin := (by simp)) (hA := (by kernel_rfl)) fun w19 hm19 => ?_
 refine ts (fuel := 1) 5 rfl e20 hm19 4 agg56.sz (0) (.agg (#[zI x', zI y', zI z', zI u'])) (#[zI x', zI y', zI z', zI u']) ⟨rfl, rfl, trivial⟩ (hin := (by simp)) (hA := (by kernel_rfl)) fun w20 hm20 => ?_
 refine wtb (fuel := 0) [6] e20 hm20 [(8, zT)] fun a21 e21 => ?_
 refine wpAnyH_done (by kernel_rfl) ?_ _
 refine then_normal (wp_ret ?_)
 exact bodyPost_ret (results_cct e21 hm20 _ _ _ _ _ Try.results67 _ rfl 3 rfl 4 agg56 rfl _ rfl 4 rfl 4 agg56 rfl (.bool true) rfl) e21.defers ⟨rfl, hm20.below⟩
end Go.Proofs.Ytkaekiodjjhjkaa.H
namespace Go.Proofs.Ytkaekiodjjhjkaa.H
open Go.RowKit
theorem w_Low_3_n1 (a b c d e f g h k : Int) (w : World) (a0 : 0 ≤ a) (a1 : a ≤ 4294967295) (f0 : 0 ≤ f) (f1 : f ≤ 4294967295) (k0 : 0 ≤ k) (k1 : k ≤ 1) (h1 : ¬ (f - k < b)) (h2 : (e < a + k)) (h3 : a ≤ b) (h4 : (a + k) ≤ f) (tS : Hid (∀ w, Calls Try.prog 78 #[rv a b c d] w fun ee w' => ee = .returned (.bool false) ∧ Below w.heap.size w w')) :
 Calls Try.prog 67 #[rv a b c d, rv e f g h, .int .i64 k] w fun ee w' => ee = .returned (.tuple #[rv 1 0 0 0, rv 1 0 0 0, .bool false]) ∧ Below w.heap.size w w' := by
 refine calls_begin Try.func67 rfl 61 rfl (Nat.le_of_ble_eq_true rfl) [(0, .agg (#[zI a, zI b, zI c, zI d])), (1, .agg (#[zI e, zI f, zI g, zI h])), (2, .int .i64 (k))] ⟨rfl, rfl, rfl, trivial⟩ (fun a0 e0 hm0 => ?_)
 refine wp_seqR ?_
 refine kx e0 hm0 1 (.agg (#[zI a, zI b, zI c, zI d])) (#[zI a, zI b, zI c, zI d]) 56 fun a1 w1 b1 e1 hm1 => ?_
 refine kx e1 hm1 2 (.agg (#[zI e, zI f, zI g, zI h])) (#[zI e, zI f, zI g, zI h]) 56 fun a2 w2 b2 e2 hm2 => ?_
 refine ka e2 hm2 3 56 (.agg #[.int .i64 0, .int .i64 0, .int .i64 0, .int .i64 0]) (#[zI 0, zI 0, zI 0, zI 0]) fun a3 w3 b3 e3 hm3 => ?_
 refine ka e3 hm3 4 56 (.agg #[.int .i64 0, .int .i64 0, .int .i64 0, .int .i64 0]) (#[zI 0, zI 0, zI 0, zI 0]) fun a4 w4 b4 e4 hm4 => ?_
 refine wb 1 e4 [(8, zF)] fun a5 e5 => ?_
 refine wl_end (wp_seq (wp_seqR ?_))
 refine wr [0, 3, 0, 4, 0, 1] e5 hm4 [(14, zI (f - k)), (13, zI k), (12, zI f), (11, zP b2 1), (10, zI b), (9, zP b1 1)] [b2, b1] (vs f k vl0) fun a6 w5 e6 hm5 => ?_
 have hf1 : decide (b > (f - k)) = false := decide_eq_false (by omega)
 refine wr [1] e6 hm5 [(15, zF)] [] (vb (hf1) vl0) fun a7 w6 e7 hm6 => ?_
 refine wl_end (wp_condF (he := e7) rfl (wp_skip (then_normal (wp_seq (wp_seqR ?_)))))
 refine wr [0, 4, 0, 3, 0, 1] e7 hm6 [(26, zI (a + k)), (25, zI k), (24, zI a), (23, zP b1 0), (22, zI e), (21, zP b2 0)] [b1, b2] (va a k vl0) fun a8 w7 e8 hm7 => ?_
 have hf2 : decide (e < (a + k)) = true := decide_eq_true (by omega)
 refine wr [1] e8 hm7 [(27, zT)] [] (vb (hf2) vl0) fun a9 w8 e9 hm8 => ?_
 refine wl_end (wp_condT (he := e9) rfl (wp_region_lit ?_))
 refine wm [0, 3, 0, 1, 0, 4] e9 hm8 [(32, zP b2 0), (31, zI (a + k)), (30, zI k), (29, zI a), (28, zP b1 0)] [(2, zE b2 56 (#[zI (a + k), zI f, zI g, zI h]))] [b2, b1] (va a k vl0) fun a10 w9 e10 hm9 => ?_
 refine wpList_nil (then_normal (wp_seq (wp_seqR ?_)))
 refine wr [0, 3, 0, 3] e10 hm9 [(36, zI b), (35, zP b1 1), (34, zI a), (33, zP b1 0)] [b1, b1] vl0 fun a11 w10 e11 hm10 => ?_
 have hf3 : decide (a > b) = false := decide_eq_false (by omega)
 refine wr [1, 0, 0, 4, 0, 4] e11 hm10 [(42, zI f), (41, zP b2 1), (40, zI (a + k)), (39, zP b2 0), (38, zF), (37, zF)] [b2, b2] (vb (hf3) vl0) fun a12 w11 e12 hm11 => ?_
 have hf4 : decide ((a + k) > f) = false := decide_eq_false (by omega)
 refine wr [1, 0, 0, 3] e12 hm11 [(46, .agg (#[zI a, zI b, zI c, zI d])), (45, zF), (44, zF), (43, zF)] [b1] (vb (hf4) vl0) fun a13 w12 e13 hm12 => ?_
 refine kc e13 hm12 (v := zF) (tS.out _) fun a14 w13 e14 hm13 => ?_
 refine wb 7 e14 [(54, zT), (53, zU), (52, zU), (51, zU), (50, zT), (49, zT), (48, zT)] fun a15 e15 => ?_
 refine wl_end (wp_condT (he := e15) rfl (wp_seqR ?_))
 refine kv e15 (.agg (#[zI 1, zI 0, zI 0, zI 0])) (rn_build _ _ rfl #[(0, .int .i64 (1))] (pmap1 rfl) _ (by kernel_rfl)) fun a16 e16 => ?_
 refine kv e16 (.agg (#[zI 1, zI 0, zI 0, zI 0])) (rn_build _ _ rfl #[(0, .int .i64 (1))] (pmap1 rfl) _ (by kernel_rfl)) fun a17 e17 => ?_
 refine wm [5, 6, 0] e17 hm13 [(8, zF)] [(4, zE b4 56 (#[zI 1, zI 0, zI 0, zI 0])), (3, zE b3 56 (#[zI 1, zI 0, zI 0, zI 0]))] [b4, b3] vl0 fun a18 w14 e18 hm14 => ?_
 refine wl_end (wp_ret (ret_then ?_))
 exact bodyPost_ret (results_cct e18 hm14 _ _ _ _ _ Try.results67 _ rfl 3 rfl 4 agg56 rfl _ rfl 4 rfl 4 agg56 rfl (.bool false) rfl) e18.defers ⟨rfl, hm14.below⟩
theorem w_Low_3_n2 (a b c d e f g h k : Int) (w : World) (a0 : 0 ≤ a) (a1 : a ≤ 4294967295) (f0 : 0 ≤ f) (f1 : f ≤ 4294967295) (k0 : 0 ≤ k) (k1 : k ≤ 1) (h1 : ¬ (f - k < b)) (h2 : (e < a + k)) (h3 : a ≤ b) (h4 : (a + k) ≤ f) (tS : Hid (∀ w, Calls Try.prog 78 #[rv a b c d] w fun ee w' => ee = .returned (.bool true) ∧ Below w.heap.size w w')) (tU : Hid (∀ w, Calls Try.prog 78 #[rv (a + k) f g h] w fun ee w' => ee = .returned (.bool false) ∧ Below w.heap.size w w')) :
 Calls Try.prog 67 #[rv a b c d, rv e f g h, .int .i64 k] w fun ee w' => ee = .returned (.tuple #[rv 1 0 0 0, rv 1 0 0 0, .bool false]) ∧ Below w.heap.size w w' := by
 refine calls_begin Try.func67 rfl 61 rfl (Nat.le_of_ble_eq_true rfl) [(0, .agg (#[zI a, zI b, zI c, zI d])), (1, .agg (#[zI e, zI f, zI g, zI h])), (2, .int .i64 (k))] ⟨rfl, rfl, rfl, trivial⟩ (fun a0 e0 hm0 => ?_)
 refine wp_seqR ?_
 refine kx e0 hm0 1 (.agg (#[zI a, zI b, zI c, zI d])) (#[zI a, zI b, zI c, zI d]) 56 fun a1 w1 b1 e1 hm1 => ?_
 refine kx e1 hm1 2 (.agg (#[zI e, zI f, zI g, zI h])) (#[zI e, zI f, zI g, zI h]) 56 fun a2 w2 b2 e2 hm2 => ?_
 refine ka e2 hm2 3 56 (.agg #[.int .i64 0, .int .i64 0, .int .i64 0, .int .i64 0]) (#[zI 0, zI 0, zI 0, zI 0]) fun a3 w3 b3 e3 hm3 => ?_
 refine ka e3 hm3 4 56 (.agg #[.int .i64 0, .int .i64 0, .int .i64 0, .int .i64 0]) (#[zI 0, zI 0, zI 0, zI 0]) fun a4 w4 b4 e4 hm4 => ?_
 refine wb 1 e4 [(8, zF)] fun a5 e5 => ?_
 refine wl_end (wp_seq (wp_seqR ?_))
 refine wr [0, 3, 0, 4, 0, 1] e5 hm4 [(14, zI (f - k)), (13, zI k), (12, zI f), (11, zP b2 1), (10, zI b), (9, zP b1 1)] [b2, b1] (vs f k vl0) fun a6 w5 e6 hm5 => ?_
 have hf1 : decide (b > (f - k)) = false := decide_eq_false (by omega)
 refine wr [1] e6 hm5 [(15, zF)] [] (vb (hf1) vl0) fun a7 w6 e7 hm6 => ?_
 refine wl_end (wp_condF (he := e7) rfl (wp_skip (then_normal (wp_seq (wp_seqR ?_)))))
 refine wr [0, 4, 0, 3, 0, 1] e7 hm6 [(26, zI (a + k)), (25, zI k), (24, zI a), (23, zP b1 0), (22, zI e), (21, zP b2 0)] [b1, b2] (va a k vl0) fun a8 w7 e8 hm7 => ?_
 have hf2 : decide (e < (a + k)) = true := decide_eq_true (by omega)
 refine wr [1] e8 hm7 [(27, zT)] [] (vb (hf2) vl0) fun a9 w8 e9 hm8 => ?_
 refine wl_end (wp_condT (he := e9) rfl (wp_region_lit ?_))
 refine wm [0, 3, 0, 1, 0, 4] e9 hm8 [(32, zP b2 0), (31, zI (a + k)), (30, zI k), (29, zI a), (28, zP b1 0)] [(2, zE b2 56 (#[zI (a + k), zI f, zI g, zI h]))] [b2, b1] (va a k vl0) fun a10 w9 e10 hm9 => ?_
 refine wpList_nil (then_normal (wp_seq (wp_seqR ?_)))
 refine wr [0, 3, 0, 3] e10 hm9 [(36, zI b), (35, zP b1 1), (34, zI a), (33, zP b1 0)] [b1, b1] vl0 fun a11 w10 e11 hm10 => ?_
 have hf3 : decide (a > b) = false := decide_eq_false (by omega)
 refine wr [1, 0, 0, 4, 0, 4] e11 hm10 [(42, zI f), (41, zP b2 1), (40, zI (a + k)), (39, zP b2 0), (38, zF), (37, zF)] [b2, b2] (vb (hf3) vl0) fun a12 w11 e12 hm11 => ?_
 have hf4 : decide ((a + k) > f) = false := decide_eq_false (by omega)
 refine wr [1, 0, 0, 3] e12 hm11 [(46, .agg (#[zI a, zI b, zI c, zI d])), (45, zF), (44, zF), (43, zF)] [b1] (vb (hf4) vl0) fun a13 w12 e13 hm12 => ?_
 refine kc e13 hm12 (v := zT) (tS.out _) fun a14 w13 e14 hm13 => ?_
 refine wr [0, 0, 0, 4] e14 hm13 [(51, .agg (#[zI (a + k), zI f, zI g, zI h])), (50, zF), (49, zF), (48, zF)] [b2] vl0 fun a15 w14 e15 hm14 => ?_
 refine kc e15 hm14 (v := zF) (tU.out _) fun a16 w15 e16 hm15 => ?_
 refine wb 2 e16 [(54, zT), (53, zT)] fun a17 e17 => ?_
 refine wl_end (wp_condT (he := e17) rfl (wp_seqR ?_))
 refine kv e17 (.agg (#[zI 1, zI 0, zI 0, zI 0])) (rn_build _ _ rfl #[(0, .int .i64 (1))] (pmap1 rfl) _ (by kernel_rfl)) fun a18 e18 => ?_
 refine kv e18 (.agg (#[zI 1, zI 0, zI 0, zI 0])) (rn_build _ _ rfl #[(0, .int .i64 (1))] (pmap1 rfl) _ (by kernel_rfl)) fun a19 e19 => ?_
 refine wm [5, 6, 0] e19 hm15 [(8, zF)] [(4, zE b4 56 (#[zI 1, zI 0, zI 0, zI 0])), (3, zE b3 56 (#[zI 1, zI 0, zI 0, zI 0]))] [b4, b3] vl0 fun a20 w16 e20 hm16 => ?_
 refine wl_end (wp_ret (ret_then ?_))
 exact bodyPost_ret (results_cct e20 hm16 _ _ _ _ _ Try.results67 _ rfl 3 rfl 4 agg56 rfl _ rfl 4 rfl 4 agg56 rfl (.bool false) rfl) e20.defers ⟨rfl, hm16.below⟩
theorem w_Low_3_yes (a b c d e f g h k : Int) (x y z u x' y' z' u' : Int) (w : World) (a0 : 0 ≤ a) (a1 : a ≤ 4294967295) (f0 : 0 ≤ f) (f1 : f ≤ 4294967295) (k0 : 0 ≤ k) (k1 : k ≤ 1) (h1 : ¬ (f - k < b)) (h2 : (e < a + k)) (h3 : a ≤ b) (h4 : (a + k) ≤ f) (tS : Hid (∀ w, Calls Try.prog 78 #[rv a b c d] w fun ee w' => ee = .returned (.bool true) ∧ Below w.heap.size w w')) (tU : Hid (∀ w, Calls Try.prog 78 #[rv (a + k) f g h] w fun ee w' => ee = .returned (.bool true) ∧ Below w.heap.size w w')) (tA : Hid (∀ w, Calls Try.prog 45 #[rv a b c d] w fun ee w' => ee = .returned (rv x y z u) ∧ Below w.heap.size w w')) (tB : Hid (∀ w, Calls Try.prog 45 #[rv (a + k) f g h] w fun ee w' => ee = .returned (rv x' y' z' u') ∧ Below w.heap.size w w')) :
 Calls Try.prog 67 #[rv a b c d, rv e f g h, .int .i64 k] w fun ee w' => ee = .returned (.tuple #[rv x y z u, rv x' y' z' u', .bool true]) ∧ Below w.heap.size w w' := by
 refine calls_begin Try.func67 rfl 61 rfl (Nat.le_of_ble_eq_true rfl) [(0, .agg (#[zI a, zI b, zI c, zI d])), (1, .agg (#[zI e, zI f, zI g, zI h])), (2, .int .i64 (k))] ⟨rfl, rfl, rfl, trivial⟩ (fun a0 e0 hm0 => ?_)
 refine wp_seqR ?_
 refine kx e0 hm0 1 (.agg (#[zI a, zI b, zI c, zI d])) (#[zI a, zI b, zI c, zI d]) 56 fun a1 w1 b1 e1 hm1 => ?_
 refine kx e1 hm1 2 (.agg (#[zI e, zI f, zI g, zI h])) (#[zI e, zI f, zI g, zI h]) 56 fun a2 w2 b2 e2 hm2 => ?_
 refine ka e2 hm2 3 56 (.agg #[.int .i64 0, .int .i64 0, .int .i64 0, .int .i64 0]) (#[zI 0, zI 0, zI 0, zI 0]) fun a3 w3 b3 e3 hm3 => ?_
 refine ka e3 hm3 4 56 (.agg #[.int .i64 0, .int .i64 0, .int .i64 0, .int .i64 0]) (#[zI 0, zI 0, zI 0, zI 0]) fun a4 w4 b4 e4 hm4 => ?_
 refine wb 1 e4 [(8, zF)] fun a5 e5 => ?_
 refine wl_end (wp_seq (wp_seqR ?_))
 refine wr [0, 3, 0, 4, 0, 1] e5 hm4 [(14, zI (f - k)), (13, zI k), (12, zI f), (11, zP b2 1), (10, zI b), (9, zP b1 1)] [b2, b1] (vs f k vl0) fun a6 w5 e6 hm5 => ?_
 have hf1 : decide (b > (f - k)) = false := decide_eq_false (by omega)
 refine wr [1] e6 hm5 [(15, zF)] [] (vb (hf1) vl0) fun a7 w6 e7 hm6 => ?_
 refine wl_end (wp_condF (he := e7) rfl (wp_skip (then_normal (wp_seq (wp_seqR ?_)))))
 refine wr [0, 4, 0, 3, 0, 1] e7 hm6 [(26, zI (a + k)), (25, zI k), (24, zI a), (23, zP b1 0), (22, zI e), (21, zP b2 0)] [b1, b2] (va a k vl0) fun a8 w7 e8 hm7 => ?_
 have hf2 : decide (e < (a + k)) = true := decide_eq_true (by omega)
 refine wr [1] e8 hm7 [(27, zT)] [] (vb (hf2) vl0) fun a9 w8 e9 hm8 => ?_
 refine wl_end (wp_condT (he := e9) rfl (wp_region_lit ?_))
 refine wm [0, 3, 0, 1, 0, 4] e9 hm8 [(32, zP b2 0), (31, zI (a + k)), (30, zI k), (29, zI a), (28, zP b1 0)] [(2, zE b2 56 (#[zI (a + k), zI f, zI g, zI h]))] [b2, b1] (va a k vl0) fun a10 w9 e10 hm9 => ?_
 refine wpList_nil (then_normal (wp_seq (wp_seqR ?_)))
 refine wr [0, 3, 0, 3] e10 hm9 [(36, zI b), (35, zP b1 1), (34, zI a), (33, zP b1 0)] [b1, b1] vl0 fun a11 w10 e11 hm10 => ?_
 have hf3 : decide (a > b) = false := decide_eq_false (by omega)
 refine wr [1, 0, 0, 4, 0, 4] e11 hm10 [(42, zI f), (41, zP b2 1), (40, zI (a + k)), (39, zP b2 0), (38, zF), (37, zF)] [b2, b2] (vb (hf3) vl0) fun a12 w11 e12 hm11 => ?_
 have hf4 : decide ((a + k) > f) = false := decide_eq_false (by omega)
 refine wr [1, 0, 0, 3] e12 hm11 [(46, .agg (#[zI a, zI b, zI c, zI d])), (45, zF), (44, zF), (43, zF)] [b1] (vb (hf4) vl0) fun a13 w12 e13 hm12 => ?_
 refine kc e13 hm12 (v := zT) (tS.out _) fun a14 w13 e14 hm13 => ?_
 refine wr [0, 0, 0, 4] e14 hm13 [(51, .agg (#[zI (a + k), zI f, zI g, zI h])), (50, zF), (49, zF), (48, zF)] [b2] vl0 fun a15 w14 e15 hm14 => ?_
 refine kc e15 hm14 (v := zT) (tU.out _) fun a16 w15 e16 hm15 => ?_
 refine wb 2 e16 [(54, zF), (53, zF)] fun a17 e17 => ?_
 refine wl_end (wp_condF (he := e17) rfl (wp_skip (then_normal (wp_seq ?_))))
 refine wh_begin (by kernel_rfl) hm15 [(1, ⟨true, b1, 56, #[zI a, zI b, zI c, zI d]⟩), (2, ⟨true, b2, 56, #[zI (a + k), zI f, zI g, zI h]⟩)] ⟨rfl, rfl, trivial⟩ (fun w16 hm16 => ?_)
 refine wtd (fuel := 5) [(0, 3), (2, 4)] e17 hm16 [(59, .agg (#[zI (a + k), zI f, zI g, zI h])), (57, .agg (#[zI a, zI b, zI c, zI d]))] [b2, b1] vl0 fun a18 e18 => ?_
 refine tc (fuel := 4) 1 rfl e18 hm16 (v := .agg (#[zI x, zI y, zI z, zI u])) (tA.out _) fun a19 w17 e19 hm17 => ?_
 refine tc (fuel := 3) 3 rfl e19 hm17 (v := .agg (#[zI x', zI y', zI z', zI u'])) (tB.out _) fun a20 w18 e20 hm18 => ?_
 refine ts (fuel := 2) 4 rfl e20 hm18 3 agg56.sz (0) (.agg (#[zI x, zI y, zI z, zI u])) (#[zI x, zI y, zI z, zI u]) ⟨rfl, rfl, trivial⟩ (hin := (by simp)) (hA := (by kernel_rfl)) fun w19 hm19 => ?_
 refine ts (fuel := 1) 5 rfl e20 hm19 4 agg56.sz (0) (.agg (#[zI x', zI y', zI z', zI u'])) (#[zI x', zI y', zI z', zI u']) ⟨rfl, rfl, trivial⟩ (hin := (by simp)) (hA := (by kernel_rfl)) fun w20 hm20 => ?_
 refine wtb (fuel := 0) [6] e20 hm20 [(8, zT)] fun a21 e21 => ?_
 refine wpAnyH_done (by kernel_rfl) ?_ _
 refine then_normal (wp_ret ?_)
 exact bodyPost_ret (results_cct e21 hm20 _ _ _ _ _ Try.results67 _ rfl 3 rfl 4 agg56 rfl _ rfl 4 rfl 4 agg56 rfl (.bool true) rfl) e21.defers ⟨rfl, hm20.below⟩
end Go.Proofs.Ytkaekiodjjhjkaa.H
