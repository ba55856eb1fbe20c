/- Contracts for branches: the specification's l2Below. -/
import Derived.Test.YtkaekiodjjhjkaaJGrp3
import Derived.Test.YtkaekiodjjhjkaaJGrp6
set_option maxRecDepth 100000
set_option maxHeartbeats 2000000
set_option linter.unusedSimpArgs false
set_option linter.unusedVariables false
namespace Go.Proofs.Ytkaekiodjjhjkaa.H
open Go.RowKit
theorem w_Low_4_n1 (a b c d e f g h k : Int) (w : World) (a0 : 0 ≤ a) (a1 : a ≤ 4294967295) (f0 : 0 ≤ f) (f1 : f ≤ 4294967295) (k0 : 0 ≤ k) (k1 : k ≤ 1) (h1 : ¬ (f - k < b)) (h2 : ¬ (e < a + k)) (h3 : a ≤ b) (h4 : e ≤ f) (tS : Hid (∀ w, Calls Try.prog 78 #[rv a b c d] w fun ee w' => ee = .returned (.bool false) ∧ Below w.heap.size w w')) :
 Calls Try.prog 67 #[rv a b c d, rv e f g h, .int .i64 k] w fun ee w' => ee = .returned (.tuple #[rv 1 0 0 0, rv 1 0 0 0, .bool false]) ∧ Below w.heap.size w w' := by
 refine calls_begin Try.func67 rfl 61 rfl (Nat.le_of_ble_eq_true rfl) [(0, .agg (#[zI a, zI b, zI c, zI d])), (1, .agg (#[zI e, zI f, zI g, zI h])), (2, .int .i64 (k))] ⟨rfl, rfl, rfl, trivial⟩ (fun a0 he0 m0 => ?_)
 refine wp_seqR ?_
 refine kx he0 m0 1 (.agg (#[zI a, zI b, zI c, zI d])) (#[zI a, zI b, zI c, zI d]) 56 fun a1 w1 b1 he1 m1 => ?_
 refine kx he1 m1 2 (.agg (#[zI e, zI f, zI g, zI h])) (#[zI e, zI f, zI g, zI h]) 56 fun a2 w2 b2 he2 m2 => ?_
 refine ka he2 m2 3 56 (.agg #[.int .i64 0, .int .i64 0, .int .i64 0, .int .i64 0]) (#[zI 0, zI 0, zI 0, zI 0]) fun a3 w3 b3 he3 m3 => ?_
 refine ka he3 m3 4 56 (.agg #[.int .i64 0, .int .i64 0, .int .i64 0, .int .i64 0]) (#[zI 0, zI 0, zI 0, zI 0]) fun a4 w4 b4 he4 m4 => ?_
 refine wb 1 he4 [(8, zF)] fun a5 he5 => ?_
 refine wl_end (wp_seq (wp_seqR ?_))
 refine wr [0, 3, 0, 4, 0, 1] he5 m4 [(14, zI (f - k)), (13, zI k), (12, zI f), (11, zP b2 1), (10, zI b), (9, zP b1 1)] [b2, b1] (vs f k vl0) fun a6 w5 he6 m5 => ?_
 have hf1 : decide (b > (f - k)) = false := decide_eq_false (by omega)
 refine wr [1] he6 m5 [(15, zF)] [] (vb (hf1) vl0) fun a7 w6 he7 m6 => ?_
 refine wl_end (wp_condF (he := he7) rfl (wp_skip (then_normal (wp_seq (wp_seqR ?_)))))
 refine wr [0, 4, 0, 3, 0, 1] he7 m6 [(26, zI (a + k)), (25, zI k), (24, zI a), (23, zP b1 0), (22, zI e), (21, zP b2 0)] [b1, b2] (va a k vl0) fun a8 w7 he8 m7 => ?_
 have hf2 : decide (e < (a + k)) = false := decide_eq_false (by omega)
 refine wr [1] he8 m7 [(27, zF)] [] (vb (hf2) vl0) fun a9 w8 he9 m8 => ?_
 refine wl_end (wp_condF (he := he9) rfl (wp_skip (then_normal (wp_seq (wp_seqR ?_)))))
 refine wr [0, 3, 0, 3] he9 m8 [(36, zI b), (35, zP b1 1), (34, zI a), (33, zP b1 0)] [b1, b1] vl0 fun a10 w9 he10 m9 => ?_
 have hf3 : decide (a > b) = false := decide_eq_false (by omega)
 refine wr [1, 0, 0, 4, 0, 4] he10 m9 [(42, zI f), (41, zP b2 1), (40, zI e), (39, zP b2 0), (38, zF), (37, zF)] [b2, b2] (vb (hf3) vl0) fun a11 w10 he11 m10 => ?_
 have hf4 : decide (e > f) = false := decide_eq_false (by omega)
 refine wr [1, 0, 0, 3] he11 m10 [(46, .agg (#[zI a, zI b, zI c, zI d])), (45, zF), (44, zF), (43, zF)] [b1] (vb (hf4) vl0) fun a12 w11 he12 m11 => ?_
 refine kc he12 m11 (v := zF) (tS.out _) fun a13 w12 he13 m12 => ?_
 refine wb 7 he13 [(54, zT), (53, zU), (52, zU), (51, zU), (50, zT), (49, zT), (48, zT)] fun a14 he14 => ?_
 refine wl_end (wp_condT (he := he14) rfl (wp_seqR ?_))
 refine kv he14 (.agg (#[zI 1, zI 0, zI 0, zI 0])) (rn_build _ _ rfl #[(0, .int .i64 (1))] (pmap1 rfl) _ (by kernel_rfl)) fun a15 he15 => ?_
 refine kv he15 (.agg (#[zI 1, zI 0, zI 0, zI 0])) (rn_build _ _ rfl #[(0, .int .i64 (1))] (pmap1 rfl) _ (by kernel_rfl)) fun a16 he16 => ?_
 refine wm [5, 6, 0] he16 m12 [(8, zF)] [(4, zE b4 56 (#[zI 1, zI 0, zI 0, zI 0])), (3, zE b3 56 (#[zI 1, zI 0, zI 0, zI 0]))] [b4, b3] vl0 fun a17 w13 he17 m13 => ?_
 refine wl_end (wp_ret (ret_then ?_))
 exact bodyPost_ret (results_cct he17 m13 _ _ _ _ _ Try.results67 _ rfl 3 rfl 4 agg56 rfl _ rfl 4 rfl 4 agg56 rfl (.bool false) rfl) he17.defers ⟨rfl, m13.below⟩
theorem w_Low_4_n2 (a b c d e f g h k : Int) (w : World) (a0 : 0 ≤ a) (a1 : a ≤ 4294967295) (f0 : 0 ≤ f) (f1 : f ≤ 4294967295) (k0 : 0 ≤ k) (k1 : k ≤ 1) (h1 : ¬ (f - k < b)) (h2 : ¬ (e < a + k)) (h3 : a ≤ b) (h4 : e ≤ f) (tS : Hid (∀ w, Calls Try.prog 78 #[rv a b c d] w fun ee w' => ee = .returned (.bool true) ∧ Below w.heap.size w w')) (tU : Hid (∀ w, Calls Try.prog 78 #[rv e f g h] w fun ee w' => ee = .returned (.bool false) ∧ Below w.heap.size w w')) :
 Calls Try.prog 67 #[rv a b c d, rv e f g h, .int .i64 k] w fun ee w' => ee = .returned (.tuple #[rv 1 0 0 0, rv 1 0 0 0, .bool false]) ∧ Below w.heap.size w w' := by
 refine calls_begin Try.func67 rfl 61 rfl (Nat.le_of_ble_eq_true rfl) [(0, .agg (#[zI a, zI b, zI c, zI d])), (1, .agg (#[zI e, zI f, zI g, zI h])), (2, .int .i64 (k))] ⟨rfl, rfl, rfl, trivial⟩ (fun a0 he0 m0 => ?_)
 refine wp_seqR ?_
 refine kx he0 m0 1 (.agg (#[zI a, zI b, zI c, zI d])) (#[zI a, zI b, zI c, zI d]) 56 fun a1 w1 b1 he1 m1 => ?_
 refine kx he1 m1 2 (.agg (#[zI e, zI f, zI g, zI h])) (#[zI e, zI f, zI g, zI h]) 56 fun a2 w2 b2 he2 m2 => ?_
 refine ka he2 m2 3 56 (.agg #[.int .i64 0, .int .i64 0, .int .i64 0, .int .i64 0]) (#[zI 0, zI 0, zI 0, zI 0]) fun a3 w3 b3 he3 m3 => ?_
 refine ka he3 m3 4 56 (.agg #[.int .i64 0, .int .i64 0, .int .i64 0, .int .i64 0]) (#[zI 0, zI 0, zI 0, zI 0]) fun a4 w4 b4 he4 m4 => ?_
 refine wb 1 he4 [(8, zF)] fun a5 he5 => ?_
 refine wl_end (wp_seq (wp_seqR ?_))
 refine wr [0, 3, 0, 4, 0, 1] he5 m4 [(14, zI (f - k)), (13, zI k), (12, zI f), (11, zP b2 1), (10, zI b), (9, zP b1 1)] [b2, b1] (vs f k vl0) fun a6 w5 he6 m5 => ?_
 have hf1 : decide (b > (f - k)) = false := decide_eq_false (by omega)
 refine wr [1] he6 m5 [(15, zF)] [] (vb (hf1) vl0) fun a7 w6 he7 m6 => ?_
 refine wl_end (wp_condF (he := he7) rfl (wp_skip (then_normal (wp_seq (wp_seqR ?_)))))
 refine wr [0, 4, 0, 3, 0, 1] he7 m6 [(26, zI (a + k)), (25, zI k), (24, zI a), (23, zP b1 0), (22, zI e), (21, zP b2 0)] [b1, b2] (va a k vl0) fun a8 w7 he8 m7 => ?_
 have hf2 : decide (e < (a + k)) = false := decide_eq_false (by omega)
 refine wr [1] he8 m7 [(27, zF)] [] (vb (hf2) vl0) fun a9 w8 he9 m8 => ?_
 refine wl_end (wp_condF (he := he9) rfl (wp_skip (then_normal (wp_seq (wp_seqR ?_)))))
 refine wr [0, 3, 0, 3] he9 m8 [(36, zI b), (35, zP b1 1), (34, zI a), (33, zP b1 0)] [b1, b1] vl0 fun a10 w9 he10 m9 => ?_
 have hf3 : decide (a > b) = false := decide_eq_false (by omega)
 refine wr [1, 0, 0, 4, 0, 4] he10 m9 [(42, zI f), (41, zP b2 1), (40, zI e), (39, zP b2 0), (38, zF), (37, zF)] [b2, b2] (vb (hf3) vl0) fun a11 w10 he11 m10 => ?_
 have hf4 : decide (e > f) = false := decide_eq_false (by omega)
 refine wr [1, 0, 0, 3] he11 m10 [(46, .agg (#[zI a, zI b, zI c, zI d])), (45, zF), (44, zF), (43, zF)] [b1] (vb (hf4) vl0) fun a12 w11 he12 m11 => ?_
 refine kc he12 m11 (v := zT) (tS.out _) fun a13 w12 he13 m12 => ?_
 refine wr [0, 0, 0, 4] he13 m12 [(51, .agg (#[zI e, zI f, zI g, zI h])), (50, zF), (49, zF), (48, zF)] [b2] vl0 fun a14 w13 he14 m13 => ?_
 refine kc he14 m13 (v := zF) (tU.out _) fun a15 w14 he15 m14 => ?_
 refine wb 2 he15 [(54, zT), (53, zT)] fun a16 he16 => ?_
 refine wl_end (wp_condT (he := he16) rfl (wp_seqR ?_))
 refine kv he16 (.agg (#[zI 1, zI 0, zI 0, zI 0])) (rn_build _ _ rfl #[(0, .int .i64 (1))] (pmap1 rfl) _ (by kernel_rfl)) fun a17 he17 => ?_
 refine kv he17 (.agg (#[zI 1, zI 0, zI 0, zI 0])) (rn_build _ _ rfl #[(0, .int .i64 (1))] (pmap1 rfl) _ (by kernel_rfl)) fun a18 he18 => ?_
 refine wm [5, 6, 0] he18 m14 [(8, zF)] [(4, zE b4 56 (#[zI 1, zI 0, zI 0, zI 0])), (3, zE b3 56 (#[zI 1, zI 0, zI 0, zI 0]))] [b4, b3] vl0 fun a19 w15 he19 m15 => ?_
 refine wl_end (wp_ret (ret_then ?_))
 exact bodyPost_ret (results_cct he19 m15 _ _ _ _ _ Try.results67 _ rfl 3 rfl 4 agg56 rfl _ rfl 4 rfl 4 agg56 rfl (.bool false) rfl) he19.defers ⟨rfl, m15.below⟩
theorem w_Low_4_yes (a b c d e f g h k : Int) (x y z u x' y' z' u' : Int) (w : World) (a0 : 0 ≤ a) (a1 : a ≤ 4294967295) (f0 : 0 ≤ f) (f1 : f ≤ 4294967295) (k0 : 0 ≤ k) (k1 : k ≤ 1) (h1 : ¬ (f - k < b)) (h2 : ¬ (e < a + k)) (h3 : a ≤ b) (h4 : e ≤ f) (tS : Hid (∀ w, Calls Try.prog 78 #[rv a b c d] w fun ee w' => ee = .returned (.bool true) ∧ Below w.heap.size w w')) (tU : Hid (∀ w, Calls Try.prog 78 #[rv e f g h] w fun ee w' => ee = .returned (.bool true) ∧ Below w.heap.size w w')) (tA : Hid (∀ w, Calls Try.prog 45 #[rv a b c d] w fun ee w' => ee = .returned (rv x y z u) ∧ Below w.heap.size w w')) (tB : Hid (∀ w, Calls Try.prog 45 #[rv e f g h] w fun ee w' => ee = .returned (rv x' y' z' u') ∧ Below w.heap.size w w')) :
 Calls Try.prog 67 #[rv a b c d, rv e f g h, .int .i64 k] w fun ee w' => ee = .returned (.tuple #[rv x y z u, rv x' y' z' u', .bool true]) ∧ Below w.heap.size w w' := by
 refine calls_begin Try.func67 rfl 61 rfl (Nat.le_of_ble_eq_true rfl) [(0, .agg (#[zI a, zI b, zI c, zI d])), (1, .agg (#[zI e, zI f, zI g, zI h])), (2, .int .i64 (k))] ⟨rfl, rfl, rfl, trivial⟩ (fun a0 he0 m0 => ?_)
 refine wp_seqR ?_
 refine kx he0 m0 1 (.agg (#[zI a, zI b, zI c, zI d])) (#[zI a, zI b, zI c, zI d]) 56 fun a1 w1 b1 he1 m1 => ?_
 refine kx he1 m1 2 (.agg (#[zI e, zI f, zI g, zI h])) (#[zI e, zI f, zI g, zI h]) 56 fun a2 w2 b2 he2 m2 => ?_
 refine ka he2 m2 3 56 (.agg #[.int .i64 0, .int .i64 0, .int .i64 0, .int .i64 0]) (#[zI 0, zI 0, zI 0, zI 0]) fun a3 w3 b3 he3 m3 => ?_
 refine ka he3 m3 4 56 (.agg #[.int .i64 0, .int .i64 0, .int .i64 0, .int .i64 0]) (#[zI 0, zI 0, zI 0, zI 0]) fun a4 w4 b4 he4 m4 => ?_
 refine wb 1 he4 [(8, zF)] fun a5 he5 => ?_
 refine wl_end (wp_seq (wp_seqR ?_))
 refine wr [0, 3, 0, 4, 0, 1] he5 m4 [(14, zI (f - k)), (13, zI k), (12, zI f), (11, zP b2 1), (10, zI b), (9, zP b1 1)] [b2, b1] (vs f k vl0) fun a6 w5 he6 m5 => ?_
 have hf1 : decide (b > (f - k)) = false := decide_eq_false (by omega)
 refine wr [1] he6 m5 [(15, zF)] [] (vb (hf1) vl0) fun a7 w6 he7 m6 => ?_
 refine wl_end (wp_condF (he := he7) rfl (wp_skip (then_normal (wp_seq (wp_seqR ?_)))))
 refine wr [0, 4, 0, 3, 0, 1] he7 m6 [(26, zI (a + k)), (25, zI k), (24, zI a), (23, zP b1 0), (22, zI e), (21, zP b2 0)] [b1, b2] (va a k vl0) fun a8 w7 he8 m7 => ?_
 have hf2 : decide (e < (a + k)) = false := decide_eq_false (by omega)
 refine wr [1] he8 m7 [(27, zF)] [] (vb (hf2) vl0) fun a9 w8 he9 m8 => ?_
 refine wl_end (wp_condF (he := he9) rfl (wp_skip (then_normal (wp_seq (wp_seqR ?_)))))
 refine wr [0, 3, 0, 3] he9 m8 [(36, zI b), (35, zP b1 1), (34, zI a), (33, zP b1 0)] [b1, b1] vl0 fun a10 w9 he10 m9 => ?_
 have hf3 : decide (a > b) = false := decide_eq_false (by omega)
 refine wr [1, 0, 0, 4, 0, 4] he10 m9 [(42, zI f), (41, zP b2 1), (40, zI e), (39, zP b2 0), (38, zF), (37, zF)] [b2, b2] (vb (hf3) vl0) fun a11 w10 he11 m10 => ?_
 have hf4 : decide (e > f) = false := decide_eq_false (by omega)
 refine wr [1, 0, 0, 3] he11 m10 [(46, .agg (#[zI a, zI b, zI c, zI d])), (45, zF), (44, zF), (43, zF)] [b1] (vb (hf4) vl0) fun a12 w11 he12 m11 => ?_
 refine kc he12 m11 (v := zT) (tS.out _) fun a13 w12 he13 m12 => ?_
 refine wr [0, 0, 0, 4] he13 m12 [(51, .agg (#[zI e, zI f, zI g, zI h])), (50, zF), (49, zF), (48, zF)] [b2] vl0 fun a14 w13 he14 m13 => ?_
 refine kc he14 m13 (v := zT) (tU.out _) fun a15 w14 he15 m14 => ?_
 refine wb 2 he15 [(54, zF), (53, zF)] fun a16 he16 => ?_
 refine wl_end (wp_condF (he := he16) rfl (wp_skip (then_normal (wp_seq ?_))))
 refine wh_begin (by kernel_rfl) m14 [(1, ⟨true, b1, 56, #[zI a, zI b, zI c, zI d]⟩), (2, ⟨true, b2, 56, #[zI e, zI f, zI g, zI h]⟩)] ⟨rfl, rfl, trivial⟩ (fun w15 m15 => ?_)
 refine wtd (fuel := 5) [(0, 3), (2, 4)] he16 m15 [(59, .agg (#[zI e, zI f, zI g, zI h])), (57, .agg (#[zI a, zI b, zI c, zI d]))] [b2, b1] vl0 fun a17 he17 => ?_
 refine tc (fuel := 4) 1 rfl he17 m15 (v := .agg (#[zI x, zI y, zI z, zI u])) (tA.out _) fun a18 w16 he18 m16 => ?_
 refine tc (fuel := 3) 3 rfl he18 m16 (v := .agg (#[zI x', zI y', zI z', zI u'])) (tB.out _) fun a19 w17 he19 m17 => ?_
 refine ts (fuel := 2) 4 rfl he19 m17 3 agg56.sz (0) (.agg (#[zI x, zI y, zI z, zI u])) (#[zI x, zI y, zI z, zI u]) ⟨rfl, rfl, trivial⟩ (hin := (by simp)) (hA := (by kernel_rfl)) fun w18 m18 => ?_
 refine ts (fuel := 1) 5 rfl he19 m18 4 agg56.sz (0) (.agg (#[zI x', zI y', zI z', zI u'])) (#[zI x', zI y', zI z', zI u']) ⟨rfl, rfl, trivial⟩ (hin := (by simp)) (hA := (by kernel_rfl)) fun w19 m19 => ?_
 refine wtb (fuel := 0) [6] he19 m19 [(8, zT)] fun a20 he20 => ?_
 refine wpAnyH_done (by kernel_rfl) ?_ _
 refine then_normal (wp_ret ?_)
 exact bodyPost_ret (results_cct he20 m19 _ _ _ _ _ Try.results67 _ rfl 3 rfl 4 agg56 rfl _ rfl 4 rfl 4 agg56 rfl (.bool true) rfl) he20.defers ⟨rfl, m19.below⟩
end Go.Proofs.Ytkaekiodjjhjkaa.H
namespace Go.Proofs.Ytkaekiodjjhjkaa.H
open Go.RowKit
theorem w_SB_same (a b c d e f g h : Int) (x y z u : Int) (q : Bool) (w : World) (tP : Hid (∀ w, Calls Try.prog 65 #[rv a b c d, rv e f g h] w fun ee w' => ee = .returned (.tuple #[rv x y z u, .bool q]) ∧ Below w.heap.size w w')) :
 Calls Try.prog 47 #[.int .i64 12, rv a b c d, rv e f g h, .bool true] w fun ee w' => ee = .returned (.tuple #[rv x y z u, rv x y z u, .bool q]) ∧ Below w.heap.size w w' := by
 refine calls_begin Try.func47 rfl 114 rfl (Nat.le_of_ble_eq_true rfl) [(0, .int .i64 (12)), (1, .agg (#[zI a, zI b, zI c, zI d])), (2, .agg (#[zI e, zI f, zI g, zI h])), (3, .bool true)] ⟨rfl, rfl, rfl, rfl, trivial⟩ (fun a0 he0 m0 => ?_)
 refine wp_seqR ?_
 refine kx he0 m0 1 (.agg (#[zI a, zI b, zI c, zI d])) (#[zI a, zI b, zI c, zI d]) 56 fun a1 w1 b1 he1 m1 => ?_
 refine kx he1 m1 2 (.agg (#[zI e, zI f, zI g, zI h])) (#[zI e, zI f, zI g, zI h]) 56 fun a2 w2 b2 he2 m2 => ?_
 refine ka he2 m2 3 56 (.agg #[.int .i64 0, .int .i64 0, .int .i64 0, .int .i64 0]) (#[zI 0, zI 0, zI 0, zI 0]) fun a3 w3 b3 he3 m3 => ?_
 refine ka he3 m3 4 56 (.agg #[.int .i64 0, .int .i64 0, .int .i64 0, .int .i64 0]) (#[zI 0, zI 0, zI 0, zI 0]) fun a4 w4 b4 he4 m4 => ?_
 refine wb 1 he4 [(10, zF)] fun a5 he5 => ?_
 refine wl_end (wp_seq (wp_block (wp_seqR ?_)))
 refine wr [0, 1, 0] he5 m4 [(26, zT), (25, zT), (24, zI 12)] [] (vlc (u := .bool ((12 == 12))) (v := .bool true) rfl vl0) fun a6 w5 he6 m5 => ?_
 refine kv he6 (zT) (rn_binG _ _ _ _ _ rfl _ _ (he6.tmp 25 _ rfl) (he6.tmp 26 _ rfl) _ rfl (by first | kernel_rfl | (rw [← rfl (a := ())]; kernel_rfl))) fun a7 he7 => ?_
 refine wr [0, 0, 1, 0, 0] he7 m5 [(23, zT), (31, zT), (30, zT), (29, zI 12), (28, zT)] [] (vlc (u := .bool (decide (12 ≤ 13))) (v := .bool true) rfl vl0) fun a8 w6 he8 m6 => ?_
 refine wl_end (wp_condT (he := he8) rfl (wp_seqR ?_))
 refine wr [3, 4] he8 m6 [(34, .agg (#[zI e, zI f, zI g, zI h])), (33, .agg (#[zI a, zI b, zI c, zI d]))] [b2, b1] vl0 fun a9 w7 he9 m7 => ?_
 refine kc he9 m7 (v := .tuple #[.agg (#[zI x, zI y, zI z, zI u]), .bool (q)]) (tP.out _) fun a10 w8 he10 m8 => ?_
 refine wb 3 he10 [(37, .bool (q)), (36, .agg (#[zI x, zI y, zI z, zI u])), (32, .tuple #[.agg (#[zI x, zI y, zI z, zI u]), .bool (q)])] fun a11 he11 => ?_
 refine ka he11 m8 5 56 (.agg #[.int .i64 0, .int .i64 0, .int .i64 0, .int .i64 0]) (#[zI 0, zI 0, zI 0, zI 0]) fun a12 w9 b5 he12 m9 => ?_
 refine wm [7, 0] he12 m9 [(12, .bool (q))] [(5, zE b5 56 (#[zI x, zI y, zI z, zI u]))] [b5] vl0 fun a13 w10 he13 m10 => ?_
 refine wl_end (wp_seq ?_)
 refine wh_begin (by kernel_rfl) m10 [(1, ⟨true, b1, 56, #[zI a, zI b, zI c, zI d]⟩), (2, ⟨true, b2, 56, #[zI e, zI f, zI g, zI h]⟩), (5, ⟨true, b5, 56, #[zI x, zI y, zI z, zI u]⟩)] ⟨rfl, rfl, rfl, trivial⟩ (fun w11 m11 => ?_)
 refine wtd (fuel := 3) [(0, 7), (1, 7), (2, 0)] he13 m11 [(40, .bool (q)), (39, .agg (#[zI x, zI y, zI z, zI u])), (38, .agg (#[zI x, zI y, zI z, zI u]))] [b5, b5] vl0 fun a14 he14 => ?_
 refine ts (fuel := 2) 3 rfl he14 m11 3 agg56.sz (0) (.agg (#[zI x, zI y, zI z, zI u])) (#[zI x, zI y, zI z, zI u]) ⟨rfl, rfl, rfl, trivial⟩ (hin := (by simp)) (hA := (by kernel_rfl)) fun w12 m12 => ?_
 refine ts (fuel := 1) 4 rfl he14 m12 4 agg56.sz (0) (.agg (#[zI x, zI y, zI z, zI u])) (#[zI x, zI y, zI z, zI u]) ⟨rfl, rfl, rfl, trivial⟩ (hin := (by simp)) (hA := (by kernel_rfl)) fun w13 m13 => ?_
 refine wtb (fuel := 0) [5] he14 m13 [(10, .bool (q))] fun a15 he15 => ?_
 refine wpAnyH_done (by kernel_rfl) ?_ _
 refine then_normal (wp_ret (ret_in (ret_then ?_)))
 exact bodyPost_ret (results_cct he15 m13 _ _ _ _ _ Try.results47 _ rfl 3 rfl 4 agg56 rfl _ rfl 4 rfl 4 agg56 rfl (.bool (q)) rfl) he15.defers ⟨rfl, m13.below⟩
theorem w_SB_same2 (a b c d e f g h : Int) (x y z u : Int) (q : Bool) (w : World) (tP : Hid (∀ w, Calls Try.prog 65 #[rv a b c d, rv e f g h] w fun ee w' => ee = .returned (.tuple #[rv x y z u, .bool q]) ∧ Below w.heap.size w w')) :
 Calls Try.prog 47 #[.int .i64 13, rv a b c d, rv e f g h, .bool false] w fun ee w' => ee = .returned (.tuple #[rv x y z u, rv x y z u, .bool q]) ∧ Below w.heap.size w w' := by
 refine calls_begin Try.func47 rfl 114 rfl (Nat.le_of_ble_eq_true rfl) [(0, .int .i64 (13)), (1, .agg (#[zI a, zI b, zI c, zI d])), (2, .agg (#[zI e, zI f, zI g, zI h])), (3, .bool false)] ⟨rfl, rfl, rfl, rfl, trivial⟩ (fun a0 he0 m0 => ?_)
 refine wp_seqR ?_
 refine kx he0 m0 1 (.agg (#[zI a, zI b, zI c, zI d])) (#[zI a, zI b, zI c, zI d]) 56 fun a1 w1 b1 he1 m1 => ?_
 refine kx he1 m1 2 (.agg (#[zI e, zI f, zI g, zI h])) (#[zI e, zI f, zI g, zI h]) 56 fun a2 w2 b2 he2 m2 => ?_
 refine ka he2 m2 3 56 (.agg #[.int .i64 0, .int .i64 0, .int .i64 0, .int .i64 0]) (#[zI 0, zI 0, zI 0, zI 0]) fun a3 w3 b3 he3 m3 => ?_
 refine ka he3 m3 4 56 (.agg #[.int .i64 0, .int .i64 0, .int .i64 0, .int .i64 0]) (#[zI 0, zI 0, zI 0, zI 0]) fun a4 w4 b4 he4 m4 => ?_
 refine wb 1 he4 [(10, zF)] fun a5 he5 => ?_
 refine wl_end (wp_seq (wp_block (wp_seqR ?_)))
 refine wr [0, 1, 0] he5 m4 [(26, zF), (25, zF), (24, zI 13)] [] (vlc (u := .bool ((13 == 12))) (v := .bool false) rfl vl0) fun a6 w5 he6 m5 => ?_
 refine kv he6 (zT) (rn_binG _ _ _ _ _ rfl _ _ (he6.tmp 25 _ rfl) (he6.tmp 26 _ rfl) _ rfl (by first | kernel_rfl | (rw [← rfl (a := ())]; kernel_rfl))) fun a7 he7 => ?_
 refine wr [0, 0, 1, 0, 0] he7 m5 [(23, zT), (31, zT), (30, zT), (29, zI 13), (28, zT)] [] (vlc (u := .bool (decide (13 ≤ 13))) (v := .bool true) rfl vl0) fun a8 w6 he8 m6 => ?_
 refine wl_end (wp_condT (he := he8) rfl (wp_seqR ?_))
 refine wr [3, 4] he8 m6 [(34, .agg (#[zI e, zI f, zI g, zI h])), (33, .agg (#[zI a, zI b, zI c, zI d]))] [b2, b1] vl0 fun a9 w7 he9 m7 => ?_
 refine kc he9 m7 (v := .tuple #[.agg (#[zI x, zI y, zI z, zI u]), .bool (q)]) (tP.out _) fun a10 w8 he10 m8 => ?_
 refine wb 3 he10 [(37, .bool (q)), (36, .agg (#[zI x, zI y, zI z, zI u])), (32, .tuple #[.agg (#[zI x, zI y, zI z, zI u]), .bool (q)])] fun a11 he11 => ?_
 refine ka he11 m8 5 56 (.agg #[.int .i64 0, .int .i64 0, .int .i64 0, .int .i64 0]) (#[zI 0, zI 0, zI 0, zI 0]) fun a12 w9 b5 he12 m9 => ?_
 refine wm [7, 0] he12 m9 [(12, .bool (q))] [(5, zE b5 56 (#[zI x, zI y, zI z, zI u]))] [b5] vl0 fun a13 w10 he13 m10 => ?_
 refine wl_end (wp_seq ?_)
 refine wh_begin (by kernel_rfl) m10 [(1, ⟨true, b1, 56, #[zI a, zI b, zI c, zI d]⟩), (2, ⟨true, b2, 56, #[zI e, zI f, zI g, zI h]⟩), (5, ⟨true, b5, 56, #[zI x, zI y, zI z, zI u]⟩)] ⟨rfl, rfl, rfl, trivial⟩ (fun w11 m11 => ?_)
 refine wtd (fuel := 3) [(0, 7), (1, 7), (2, 0)] he13 m11 [(40, .bool (q)), (39, .agg (#[zI x, zI y, zI z, zI u])), (38, .agg (#[zI x, zI y, zI z, zI u]))] [b5, b5] vl0 fun a14 he14 => ?_
 refine ts (fuel := 2) 3 rfl he14 m11 3 agg56.sz (0) (.agg (#[zI x, zI y, zI z, zI u])) (#[zI x, zI y, zI z, zI u]) ⟨rfl, rfl, rfl, trivial⟩ (hin := (by simp)) (hA := (by kernel_rfl)) fun w12 m12 => ?_
 refine ts (fuel := 1) 4 rfl he14 m12 4 agg56.sz (0) (.agg (#[zI x, zI y, zI z, zI u])) (#[zI x, zI y, zI z, zI u]) ⟨rfl, rfl, rfl, trivial⟩ (hin := (by simp)) (hA := (by kernel_rfl)) fun w13 m13 => ?_
 refine wtb (fuel := 0) [5] he14 m13 [(10, .bool (q))] fun a15 he15 => ?_
 refine wpAnyH_done (by kernel_rfl) ?_ _
 refine then_normal (wp_ret (ret_in (ret_then ?_)))
 exact bodyPost_ret (results_cct he15 m13 _ _ _ _ _ Try.results47 _ rfl 3 rfl 4 agg56 rfl _ rfl 4 rfl 4 agg56 rfl (.bool (q)) rfl) he15.defers ⟨rfl, m13.below⟩
theorem w_SB_other_no1 (a b c d e f g h : Int) (x y z u x' y' z' u' : Int) (q' : Bool) (w : World) (tP : Hid (∀ w, Calls Try.prog 66 #[rv a b c d, rv e f g h] w fun ee w' => ee = .returned (.tuple #[rv x y z u, .bool false]) ∧ Below w.heap.size w w')) (tQ : Hid (∀ w, Calls Try.prog 66 #[rv e f g h, rv a b c d] w fun ee w' => ee = .returned (.tuple #[rv x' y' z' u', .bool q']) ∧ Below w.heap.size w w')) :
 Calls Try.prog 47 #[.int .i64 12, rv a b c d, rv e f g h, .bool false] w fun ee w' => ee = .returned (.tuple #[rv 1 0 0 0, rv 1 0 0 0, .bool false]) ∧ Below w.heap.size w w' := by
 refine calls_begin Try.func47 rfl 114 rfl (Nat.le_of_ble_eq_true rfl) [(0, .int .i64 (12)), (1, .agg (#[zI a, zI b, zI c, zI d])), (2, .agg (#[zI e, zI f, zI g, zI h])), (3, .bool false)] ⟨rfl, rfl, rfl, rfl, trivial⟩ (fun a0 he0 m0 => ?_)
 refine wp_seqR ?_
 refine kx he0 m0 1 (.agg (#[zI a, zI b, zI c, zI d])) (#[zI a, zI b, zI c, zI d]) 56 fun a1 w1 b1 he1 m1 => ?_
 refine kx he1 m1 2 (.agg (#[zI e, zI f, zI g, zI h])) (#[zI e, zI f, zI g, zI h]) 56 fun a2 w2 b2 he2 m2 => ?_
 refine ka he2 m2 3 56 (.agg #[.int .i64 0, .int .i64 0, .int .i64 0, .int .i64 0]) (#[zI 0, zI 0, zI 0, zI 0]) fun a3 w3 b3 he3 m3 => ?_
 refine ka he3 m3 4 56 (.agg #[.int .i64 0, .int .i64 0, .int .i64 0, .int .i64 0]) (#[zI 0, zI 0, zI 0, zI 0]) fun a4 w4 b4 he4 m4 => ?_
 refine wb 1 he4 [(10, zF)] fun a5 he5 => ?_
 refine wl_end (wp_seq (wp_block (wp_seqR ?_)))
 refine wr [0, 1, 0] he5 m4 [(26, zF), (25, zT), (24, zI 12)] [] (vlc (u := .bool ((12 == 12))) (v := .bool true) rfl vl0) fun a6 w5 he6 m5 => ?_
 refine kv he6 (zF) (rn_binG _ _ _ _ _ rfl _ _ (he6.tmp 25 _ rfl) (he6.tmp 26 _ rfl) _ rfl (by first | kernel_rfl | (rw [← rfl (a := ())]; kernel_rfl))) fun a7 he7 => ?_
 refine wb 5 he7 [(23, zF), (31, zF), (30, zU), (29, zU), (28, zF)] fun a8 he8 => ?_
 refine wl_end (wp_condF (he := he8) rfl (wp_seqR ?_))
 refine wr [0, 1, 0] he8 m5 [(41, zT), (43, zT), (42, zI 12)] [] (vlc (u := .bool (decide (12 ≤ 13))) (v := .bool true) rfl vl0) fun a9 w6 he9 m6 => ?_
 refine wl_end (wp_condT (he := he9) rfl (wp_seqR ?_))
 refine wr [3, 4] he9 m6 [(46, .agg (#[zI e, zI f, zI g, zI h])), (45, .agg (#[zI a, zI b, zI c, zI d]))] [b2, b1] vl0 fun a10 w7 he10 m7 => ?_
 refine kc he10 m7 (v := .tuple #[.agg (#[zI x, zI y, zI z, zI u]), .bool false]) (tP.out _) fun a11 w8 he11 m8 => ?_
 refine wb 3 he11 [(49, zF), (48, .agg (#[zI x, zI y, zI z, zI u])), (44, .tuple #[.agg (#[zI x, zI y, zI z, zI u]), .bool false])] fun a12 he12 => ?_
 refine ka he12 m8 5 56 (.agg #[.int .i64 0, .int .i64 0, .int .i64 0, .int .i64 0]) (#[zI 0, zI 0, zI 0, zI 0]) fun a13 w9 b5 he13 m9 => ?_
 refine wm [7, 0] he13 m9 [(14, zF)] [(5, zE b5 56 (#[zI x, zI y, zI z, zI u]))] [b5] vl0 fun a14 w10 he14 m10 => ?_
 refine wl_end (wp_seqR ?_)
 refine wr [4, 3] he14 m10 [(52, .agg (#[zI a, zI b, zI c, zI d])), (51, .agg (#[zI e, zI f, zI g, zI h]))] [b1, b2] vl0 fun a15 w11 he15 m11 => ?_
 refine kc he15 m11 (v := .tuple #[.agg (#[zI x', zI y', zI z', zI u']), .bool (q')]) (tQ.out _) fun a16 w12 he16 m12 => ?_
 refine wb 3 he16 [(55, .bool (q')), (54, .agg (#[zI x', zI y', zI z', zI u'])), (50, .tuple #[.agg (#[zI x', zI y', zI z', zI u']), .bool (q')])] fun a17 he17 => ?_
 refine ka he17 m12 6 56 (.agg #[.int .i64 0, .int .i64 0, .int .i64 0, .int .i64 0]) (#[zI 0, zI 0, zI 0, zI 0]) fun a18 w13 b6 he18 m13 => ?_
 refine wm [8, 0] he18 m13 [(16, .bool (q'))] [(6, zE b6 56 (#[zI x', zI y', zI z', zI u']))] [b6] vl0 fun a19 w14 he19 m14 => ?_
 refine wl_end (wp_seq (wp_seqR ?_))
 refine wb 6 he19 [(61, zT), (60, zU), (59, zU), (58, zT), (57, zT), (56, zF)] fun a20 he20 => ?_
 refine wl_end (wp_condT (he := he20) rfl (wp_seqR ?_))
 refine kv he20 (.agg (#[zI 1, zI 0, zI 0, zI 0])) (rn_build _ _ rfl #[(0, .int .i64 (1))] (pmap1 rfl) _ (by kernel_rfl)) fun a21 he21 => ?_
 refine kv he21 (.agg (#[zI 1, zI 0, zI 0, zI 0])) (rn_build _ _ rfl #[(0, .int .i64 (1))] (pmap1 rfl) _ (by kernel_rfl)) fun a22 he22 => ?_
 refine wm [5, 6, 0] he22 m14 [(10, zF)] [(4, zE b4 56 (#[zI 1, zI 0, zI 0, zI 0])), (3, zE b3 56 (#[zI 1, zI 0, zI 0, zI 0]))] [b4, b3] vl0 fun a23 w15 he23 m15 => ?_
 refine wl_end (wp_ret (ret_then (ret_in (ret_then ?_))))
 exact bodyPost_ret (results_cct he23 m15 _ _ _ _ _ Try.results47 _ rfl 3 rfl 4 agg56 rfl _ rfl 4 rfl 4 agg56 rfl (.bool false) rfl) he23.defers ⟨rfl, m15.below⟩
theorem w_SB_other_no2 (a b c d e f g h : Int) (x y z u x' y' z' u' : Int) (w : World) (tP : Hid (∀ w, Calls Try.prog 66 #[rv a b c d, rv e f g h] w fun ee w' => ee = .returned (.tuple #[rv x y z u, .bool true]) ∧ Below w.heap.size w w')) (tQ : Hid (∀ w, Calls Try.prog 66 #[rv e f g h, rv a b c d] w fun ee w' => ee = .returned (.tuple #[rv x' y' z' u', .bool false]) ∧ Below w.heap.size w w')) :
 Calls Try.prog 47 #[.int .i64 12, rv a b c d, rv e f g h, .bool false] w fun ee w' => ee = .returned (.tuple #[rv 1 0 0 0, rv 1 0 0 0, .bool false]) ∧ Below w.heap.size w w' := by
 refine calls_begin Try.func47 rfl 114 rfl (Nat.le_of_ble_eq_true rfl) [(0, .int .i64 (12)), (1, .agg (#[zI a, zI b, zI c, zI d])), (2, .agg (#[zI e, zI f, zI g, zI h])), (3, .bool false)] ⟨rfl, rfl, rfl, rfl, trivial⟩ (fun a0 he0 m0 => ?_)
 refine wp_seqR ?_
 refine kx he0 m0 1 (.agg (#[zI a, zI b, zI c, zI d])) (#[zI a, zI b, zI c, zI d]) 56 fun a1 w1 b1 he1 m1 => ?_
 refine kx he1 m1 2 (.agg (#[zI e, zI f, zI g, zI h])) (#[zI e, zI f, zI g, zI h]) 56 fun a2 w2 b2 he2 m2 => ?_
 refine ka he2 m2 3 56 (.agg #[.int .i64 0, .int .i64 0, .int .i64 0, .int .i64 0]) (#[zI 0, zI 0, zI 0, zI 0]) fun a3 w3 b3 he3 m3 => ?_
 refine ka he3 m3 4 56 (.agg #[.int .i64 0, .int .i64 0, .int .i64 0, .int .i64 0]) (#[zI 0, zI 0, zI 0, zI 0]) fun a4 w4 b4 he4 m4 => ?_
 refine wb 1 he4 [(10, zF)] fun a5 he5 => ?_
 refine wl_end (wp_seq (wp_block (wp_seqR ?_)))
 refine wr [0, 1, 0] he5 m4 [(26, zF), (25, zT), (24, zI 12)] [] (vlc (u := .bool ((12 == 12))) (v := .bool true) rfl vl0) fun a6 w5 he6 m5 => ?_
 refine kv he6 (zF) (rn_binG _ _ _ _ _ rfl _ _ (he6.tmp 25 _ rfl) (he6.tmp 26 _ rfl) _ rfl (by first | kernel_rfl | (rw [← rfl (a := ())]; kernel_rfl))) fun a7 he7 => ?_
 refine wb 5 he7 [(23, zF), (31, zF), (30, zU), (29, zU), (28, zF)] fun a8 he8 => ?_
 refine wl_end (wp_condF (he := he8) rfl (wp_seqR ?_))
 refine wr [0, 1, 0] he8 m5 [(41, zT), (43, zT), (42, zI 12)] [] (vlc (u := .bool (decide (12 ≤ 13))) (v := .bool true) rfl vl0) fun a9 w6 he9 m6 => ?_
 refine wl_end (wp_condT (he := he9) rfl (wp_seqR ?_))
 refine wr [3, 4] he9 m6 [(46, .agg (#[zI e, zI f, zI g, zI h])), (45, .agg (#[zI a, zI b, zI c, zI d]))] [b2, b1] vl0 fun a10 w7 he10 m7 => ?_
 refine kc he10 m7 (v := .tuple #[.agg (#[zI x, zI y, zI z, zI u]), .bool true]) (tP.out _) fun a11 w8 he11 m8 => ?_
 refine wb 3 he11 [(49, zT), (48, .agg (#[zI x, zI y, zI z, zI u])), (44, .tuple #[.agg (#[zI x, zI y, zI z, zI u]), .bool true])] fun a12 he12 => ?_
 refine ka he12 m8 5 56 (.agg #[.int .i64 0, .int .i64 0, .int .i64 0, .int .i64 0]) (#[zI 0, zI 0, zI 0, zI 0]) fun a13 w9 b5 he13 m9 => ?_
 refine wm [7, 0] he13 m9 [(14, zT)] [(5, zE b5 56 (#[zI x, zI y, zI z, zI u]))] [b5] vl0 fun a14 w10 he14 m10 => ?_
 refine wl_end (wp_seqR ?_)
 refine wr [4, 3] he14 m10 [(52, .agg (#[zI a, zI b, zI c, zI d])), (51, .agg (#[zI e, zI f, zI g, zI h]))] [b1, b2] vl0 fun a15 w11 he15 m11 => ?_
 refine kc he15 m11 (v := .tuple #[.agg (#[zI x', zI y', zI z', zI u']), .bool false]) (tQ.out _) fun a16 w12 he16 m12 => ?_
 refine wb 3 he16 [(55, zF), (54, .agg (#[zI x', zI y', zI z', zI u'])), (50, .tuple #[.agg (#[zI x', zI y', zI z', zI u']), .bool false])] fun a17 he17 => ?_
 refine ka he17 m12 6 56 (.agg #[.int .i64 0, .int .i64 0, .int .i64 0, .int .i64 0]) (#[zI 0, zI 0, zI 0, zI 0]) fun a18 w13 b6 he18 m13 => ?_
 refine wm [8, 0] he18 m13 [(16, zF)] [(6, zE b6 56 (#[zI x', zI y', zI z', zI u']))] [b6] vl0 fun a19 w14 he19 m14 => ?_
 refine wl_end (wp_seq (wp_seqR ?_))
 refine wb 6 he19 [(61, zT), (60, zT), (59, zF), (58, zF), (57, zF), (56, zT)] fun a20 he20 => ?_
 refine wl_end (wp_condT (he := he20) rfl (wp_seqR ?_))
 refine kv he20 (.agg (#[zI 1, zI 0, zI 0, zI 0])) (rn_build _ _ rfl #[(0, .int .i64 (1))] (pmap1 rfl) _ (by kernel_rfl)) fun a21 he21 => ?_
 refine kv he21 (.agg (#[zI 1, zI 0, zI 0, zI 0])) (rn_build _ _ rfl #[(0, .int .i64 (1))] (pmap1 rfl) _ (by kernel_rfl)) fun a22 he22 => ?_
 refine wm [5, 6, 0] he22 m14 [(10, zF)] [(4, zE b4 56 (#[zI 1, zI 0, zI 0, zI 0])), (3, zE b3 56 (#[zI 1, zI 0, zI 0, zI 0]))] [b4, b3] vl0 fun a23 w15 he23 m15 => ?_
 refine wl_end (wp_ret (ret_then (ret_in (ret_then ?_))))
 exact bodyPost_ret (results_cct he23 m15 _ _ _ _ _ Try.results47 _ rfl 3 rfl 4 agg56 rfl _ rfl 4 rfl 4 agg56 rfl (.bool false) rfl) he23.defers ⟨rfl, m15.below⟩
theorem w_SB_other_yes (a b c d e f g h : Int) (x y z u x' y' z' u' : Int) (w : World) (tP : Hid (∀ w, Calls Try.prog 66 #[rv a b c d, rv e f g h] w fun ee w' => ee = .returned (.tuple #[rv x y z u, .bool true]) ∧ Below w.heap.size w w')) (tQ : Hid (∀ w, Calls Try.prog 66 #[rv e f g h, rv a b c d] w fun ee w' => ee = .returned (.tuple #[rv x' y' z' u', .bool true]) ∧ Below w.heap.size w w')) :
 Calls Try.prog 47 #[.int .i64 12, rv a b c d, rv e f g h, .bool false] w fun ee w' => ee = .returned (.tuple #[rv x y z u, rv x' y' z' u', .bool true]) ∧ Below w.heap.size w w' := by
 refine calls_begin Try.func47 rfl 114 rfl (Nat.le_of_ble_eq_true rfl) [(0, .int .i64 (12)), (1, .agg (#[zI a, zI b, zI c, zI d])), (2, .agg (#[zI e, zI f, zI g, zI h])), (3, .bool false)] ⟨rfl, rfl, rfl, rfl, trivial⟩ (fun a0 he0 m0 => ?_)
 refine wp_seqR ?_
 refine kx he0 m0 1 (.agg (#[zI a, zI b, zI c, zI d])) (#[zI a, zI b, zI c, zI d]) 56 fun a1 w1 b1 he1 m1 => ?_
 refine kx he1 m1 2 (.agg (#[zI e, zI f, zI g, zI h])) (#[zI e, zI f, zI g, zI h]) 56 fun a2 w2 b2 he2 m2 => ?_
 refine ka he2 m2 3 56 (.agg #[.int .i64 0, .int .i64 0, .int .i64 0, .int .i64 0]) (#[zI 0, zI 0, zI 0, zI 0]) fun a3 w3 b3 he3 m3 => ?_
 refine ka he3 m3 4 56 (.agg #[.int .i64 0, .int .i64 0, .int .i64 0, .int .i64 0]) (#[zI 0, zI 0, zI 0, zI 0]) fun a4 w4 b4 he4 m4 => ?_
 refine wb 1 he4 [(10, zF)] fun a5 he5 => ?_
 refine wl_end (wp_seq (wp_block (wp_seqR ?_)))
 refine wr [0, 1, 0] he5 m4 [(26, zF), (25, zT), (24, zI 12)] [] (vlc (u := .bool ((12 == 12))) (v := .bool true) rfl vl0) fun a6 w5 he6 m5 => ?_
 refine kv he6 (zF) (rn_binG _ _ _ _ _ rfl _ _ (he6.tmp 25 _ rfl) (he6.tmp 26 _ rfl) _ rfl (by first | kernel_rfl | (rw [← rfl (a := ())]; kernel_rfl))) fun a7 he7 => ?_
 refine wb 5 he7 [(23, zF), (31, zF), (30, zU), (29, zU), (28, zF)] fun a8 he8 => ?_
 refine wl_end (wp_condF (he := he8) rfl (wp_seqR ?_))
 refine wr [0, 1, 0] he8 m5 [(41, zT), (43, zT), (42, zI 12)] [] (vlc (u := .bool (decide (12 ≤ 13))) (v := .bool true) rfl vl0) fun a9 w6 he9 m6 => ?_
 refine wl_end (wp_condT (he := he9) rfl (wp_seqR ?_))
 refine wr [3, 4] he9 m6 [(46, .agg (#[zI e, zI f, zI g, zI h])), (45, .agg (#[zI a, zI b, zI c, zI d]))] [b2, b1] vl0 fun a10 w7 he10 m7 => ?_
 refine kc he10 m7 (v := .tuple #[.agg (#[zI x, zI y, zI z, zI u]), .bool true]) (tP.out _) fun a11 w8 he11 m8 => ?_
 refine wb 3 he11 [(49, zT), (48, .agg (#[zI x, zI y, zI z, zI u])), (44, .tuple #[.agg (#[zI x, zI y, zI z, zI u]), .bool true])] fun a12 he12 => ?_
 refine ka he12 m8 5 56 (.agg #[.int .i64 0, .int .i64 0, .int .i64 0, .int .i64 0]) (#[zI 0, zI 0, zI 0, zI 0]) fun a13 w9 b5 he13 m9 => ?_
 refine wm [7, 0] he13 m9 [(14, zT)] [(5, zE b5 56 (#[zI x, zI y, zI z, zI u]))] [b5] vl0 fun a14 w10 he14 m10 => ?_
 refine wl_end (wp_seqR ?_)
 refine wr [4, 3] he14 m10 [(52, .agg (#[zI a, zI b, zI c, zI d])), (51, .agg (#[zI e, zI f, zI g, zI h]))] [b1, b2] vl0 fun a15 w11 he15 m11 => ?_
 refine kc he15 m11 (v := .tuple #[.agg (#[zI x', zI y', zI z', zI u']), .bool true]) (tQ.out _) fun a16 w12 he16 m12 => ?_
 refine wb 3 he16 [(55, zT), (54, .agg (#[zI x', zI y', zI z', zI u'])), (50, .tuple #[.agg (#[zI x', zI y', zI z', zI u']), .bool true])] fun a17 he17 => ?_
 refine ka he17 m12 6 56 (.agg #[.int .i64 0, .int .i64 0, .int .i64 0, .int .i64 0]) (#[zI 0, zI 0, zI 0, zI 0]) fun a18 w13 b6 he18 m13 => ?_
 refine wm [8, 0] he18 m13 [(16, zT)] [(6, zE b6 56 (#[zI x', zI y', zI z', zI u']))] [b6] vl0 fun a19 w14 he19 m14 => ?_
 refine wl_end (wp_seq (wp_seqR ?_))
 refine wb 6 he19 [(61, zF), (60, zF), (59, zT), (58, zF), (57, zF), (56, zT)] fun a20 he20 => ?_
 refine wl_end (wp_condF (he := he20) rfl (wp_skip (then_normal (wp_seq ?_))))
 refine wh_begin (by kernel_rfl) m14 [(1, ⟨true, b1, 56, #[zI a, zI b, zI c, zI d]⟩), (2, ⟨true, b2, 56, #[zI e, zI f, zI g, zI h]⟩), (5, ⟨true, b5, 56, #[zI x, zI y, zI z, zI u]⟩), (6, ⟨true, b6, 56, #[zI x', zI y', zI z', zI u']⟩)] ⟨rfl, rfl, rfl, rfl, trivial⟩ (fun w15 m15 => ?_)
 refine wtd (fuel := 3) [(0, 7), (1, 8)] he20 m15 [(65, .agg (#[zI x', zI y', zI z', zI u'])), (64, .agg (#[zI x, zI y, zI z, zI u]))] [b6, b5] vl0 fun a21 he21 => ?_
 refine ts (fuel := 2) 2 rfl he21 m15 3 agg56.sz (0) (.agg (#[zI x, zI y, zI z, zI u])) (#[zI x, zI y, zI z, zI u]) ⟨rfl, rfl, rfl, rfl, trivial⟩ (hin := (by simp)) (hA := (by kernel_rfl)) fun w16 m16 => ?_
 refine ts (fuel := 1) 3 rfl he21 m16 4 agg56.sz (0) (.agg (#[zI x', zI y', zI z', zI u'])) (#[zI x', zI y', zI z', zI u']) ⟨rfl, rfl, rfl, rfl, trivial⟩ (hin := (by simp)) (hA := (by kernel_rfl)) fun w17 m17 => ?_
 refine wtb (fuel := 0) [4] he21 m17 [(10, zT)] fun a22 he22 => ?_
 refine wpAnyH_done (by kernel_rfl) ?_ _
 refine then_normal (wp_ret (ret_in (ret_then ?_)))
 exact bodyPost_ret (results_cct he22 m17 _ _ _ _ _ Try.results47 _ rfl 3 rfl 4 agg56 rfl _ rfl 4 rfl 4 agg56 rfl (.bool true) rfl) he22.defers ⟨rfl, m17.below⟩
theorem w_SB_other2_no1 (a b c d e f g h : Int) (x y z u x' y' z' u' : Int) (q' : Bool) (w : World) (tP : Hid (∀ w, Calls Try.prog 66 #[rv a b c d, rv e f g h] w fun ee w' => ee = .returned (.tuple #[rv x y z u, .bool false]) ∧ Below w.heap.size w w')) (tQ : Hid (∀ w, Calls Try.prog 66 #[rv e f g h, rv a b c d] w fun ee w' => ee = .returned (.tuple #[rv x' y' z' u', .bool q']) ∧ Below w.heap.size w w')) :
 Calls Try.prog 47 #[.int .i64 13, rv a b c d, rv e f g h, .bool true] w fun ee w' => ee = .returned (.tuple #[rv 1 0 0 0, rv 1 0 0 0, .bool false]) ∧ Below w.heap.size w w' := by
 refine calls_begin Try.func47 rfl 114 rfl (Nat.le_of_ble_eq_true rfl) [(0, .int .i64 (13)), (1, .agg (#[zI a, zI b, zI c, zI d])), (2, .agg (#[zI e, zI f, zI g, zI h])), (3, .bool true)] ⟨rfl, rfl, rfl, rfl, trivial⟩ (fun a0 he0 m0 => ?_)
 refine wp_seqR ?_
 refine kx he0 m0 1 (.agg (#[zI a, zI b, zI c, zI d])) (#[zI a, zI b, zI c, zI d]) 56 fun a1 w1 b1 he1 m1 => ?_
 refine kx he1 m1 2 (.agg (#[zI e, zI f, zI g, zI h])) (#[zI e, zI f, zI g, zI h]) 56 fun a2 w2 b2 he2 m2 => ?_
 refine ka he2 m2 3 56 (.agg #[.int .i64 0, .int .i64 0, .int .i64 0, .int .i64 0]) (#[zI 0, zI 0, zI 0, zI 0]) fun a3 w3 b3 he3 m3 => ?_
 refine ka he3 m3 4 56 (.agg #[.int .i64 0, .int .i64 0, .int .i64 0, .int .i64 0]) (#[zI 0, zI 0, zI 0, zI 0]) fun a4 w4 b4 he4 m4 => ?_
 refine wb 1 he4 [(10, zF)] fun a5 he5 => ?_
 refine wl_end (wp_seq (wp_block (wp_seqR ?_)))
 refine wr [0, 1, 0] he5 m4 [(26, zT), (25, zF), (24, zI 13)] [] (vlc (u := .bool ((13 == 12))) (v := .bool false) rfl vl0) fun a6 w5 he6 m5 => ?_
 refine kv he6 (zF) (rn_binG _ _ _ _ _ rfl _ _ (he6.tmp 25 _ rfl) (he6.tmp 26 _ rfl) _ rfl (by first | kernel_rfl | (rw [← rfl (a := ())]; kernel_rfl))) fun a7 he7 => ?_
 refine wb 5 he7 [(23, zF), (31, zF), (30, zU), (29, zU), (28, zF)] fun a8 he8 => ?_
 refine wl_end (wp_condF (he := he8) rfl (wp_seqR ?_))
 refine wr [0, 1, 0] he8 m5 [(41, zT), (43, zT), (42, zI 13)] [] (vlc (u := .bool (decide (13 ≤ 13))) (v := .bool true) rfl vl0) fun a9 w6 he9 m6 => ?_
 refine wl_end (wp_condT (he := he9) rfl (wp_seqR ?_))
 refine wr [3, 4] he9 m6 [(46, .agg (#[zI e, zI f, zI g, zI h])), (45, .agg (#[zI a, zI b, zI c, zI d]))] [b2, b1] vl0 fun a10 w7 he10 m7 => ?_
 refine kc he10 m7 (v := .tuple #[.agg (#[zI x, zI y, zI z, zI u]), .bool false]) (tP.out _) fun a11 w8 he11 m8 => ?_
 refine wb 3 he11 [(49, zF), (48, .agg (#[zI x, zI y, zI z, zI u])), (44, .tuple #[.agg (#[zI x, zI y, zI z, zI u]), .bool false])] fun a12 he12 => ?_
 refine ka he12 m8 5 56 (.agg #[.int .i64 0, .int .i64 0, .int .i64 0, .int .i64 0]) (#[zI 0, zI 0, zI 0, zI 0]) fun a13 w9 b5 he13 m9 => ?_
 refine wm [7, 0] he13 m9 [(14, zF)] [(5, zE b5 56 (#[zI x, zI y, zI z, zI u]))] [b5] vl0 fun a14 w10 he14 m10 => ?_
 refine wl_end (wp_seqR ?_)
 refine wr [4, 3] he14 m10 [(52, .agg (#[zI a, zI b, zI c, zI d])), (51, .agg (#[zI e, zI f, zI g, zI h]))] [b1, b2] vl0 fun a15 w11 he15 m11 => ?_
 refine kc he15 m11 (v := .tuple #[.agg (#[zI x', zI y', zI z', zI u']), .bool (q')]) (tQ.out _) fun a16 w12 he16 m12 => ?_
 refine wb 3 he16 [(55, .bool (q')), (54, .agg (#[zI x', zI y', zI z', zI u'])), (50, .tuple #[.agg (#[zI x', zI y', zI z', zI u']), .bool (q')])] fun a17 he17 => ?_
 refine ka he17 m12 6 56 (.agg #[.int .i64 0, .int .i64 0, .int .i64 0, .int .i64 0]) (#[zI 0, zI 0, zI 0, zI 0]) fun a18 w13 b6 he18 m13 => ?_
 refine wm [8, 0] he18 m13 [(16, .bool (q'))] [(6, zE b6 56 (#[zI x', zI y', zI z', zI u']))] [b6] vl0 fun a19 w14 he19 m14 => ?_
 refine wl_end (wp_seq (wp_seqR ?_))
 refine wb 6 he19 [(61, zT), (60, zU), (59, zU), (58, zT), (57, zT), (56, zF)] fun a20 he20 => ?_
 refine wl_end (wp_condT (he := he20) rfl (wp_seqR ?_))
 refine kv he20 (.agg (#[zI 1, zI 0, zI 0, zI 0])) (rn_build _ _ rfl #[(0, .int .i64 (1))] (pmap1 rfl) _ (by kernel_rfl)) fun a21 he21 => ?_
 refine kv he21 (.agg (#[zI 1, zI 0, zI 0, zI 0])) (rn_build _ _ rfl #[(0, .int .i64 (1))] (pmap1 rfl) _ (by kernel_rfl)) fun a22 he22 => ?_
 refine wm [5, 6, 0] he22 m14 [(10, zF)] [(4, zE b4 56 (#[zI 1, zI 0, zI 0, zI 0])), (3, zE b3 56 (#[zI 1, zI 0, zI 0, zI 0]))] [b4, b3] vl0 fun a23 w15 he23 m15 => ?_
 refine wl_end (wp_ret (ret_then (ret_in (ret_then ?_))))
 exact bodyPost_ret (results_cct he23 m15 _ _ _ _ _ Try.results47 _ rfl 3 rfl 4 agg56 rfl _ rfl 4 rfl 4 agg56 rfl (.bool false) rfl) he23.defers ⟨rfl, m15.below⟩
theorem w_SB_other2_no2 (a b c d e f g h : Int) (x y z u x' y' z' u' : Int) (w : World) (tP : Hid (∀ w, Calls Try.prog 66 #[rv a b c d, rv e f g h] w fun ee w' => ee = .returned (.tuple #[rv x y z u, .bool true]) ∧ Below w.heap.size w w')) (tQ : Hid (∀ w, Calls Try.prog 66 #[rv e f g h, rv a b c d] w fun ee w' => ee = .returned (.tuple #[rv x' y' z' u', .bool false]) ∧ Below w.heap.size w w')) :
 Calls Try.prog 47 #[.int .i64 13, rv a b c d, rv e f g h, .bool true] w fun ee w' => ee = .returned (.tuple #[rv 1 0 0 0, rv 1 0 0 0, .bool false]) ∧ Below w.heap.size w w' := by
 refine calls_begin Try.func47 rfl 114 rfl (Nat.le_of_ble_eq_true rfl) [(0, .int .i64 (13)), (1, .agg (#[zI a, zI b, zI c, zI d])), (2, .agg (#[zI e, zI f, zI g, zI h])), (3, .bool true)] ⟨rfl, rfl, rfl, rfl, trivial⟩ (fun a0 he0 m0 => ?_)
 refine wp_seqR ?_
 refine kx he0 m0 1 (.agg (#[zI a, zI b, zI c, zI d])) (#[zI a, zI b, zI c, zI d]) 56 fun a1 w1 b1 he1 m1 => ?_
 refine kx he1 m1 2 (.agg (#[zI e, zI f, zI g, zI h])) (#[zI e, zI f, zI g, zI h]) 56 fun a2 w2 b2 he2 m2 => ?_
 refine ka he2 m2 3 56 (.agg #[.int .i64 0, .int .i64 0, .int .i64 0, .int .i64 0]) (#[zI 0, zI 0, zI 0, zI 0]) fun a3 w3 b3 he3 m3 => ?_
 refine ka he3 m3 4 56 (.agg #[.int .i64 0, .int .i64 0, .int .i64 0, .int .i64 0]) (#[zI 0, zI 0, zI 0, zI 0]) fun a4 w4 b4 he4 m4 => ?_
 refine wb 1 he4 [(10, zF)] fun a5 he5 => ?_
 refine wl_end (wp_seq (wp_block (wp_seqR ?_)))
 refine wr [0, 1, 0] he5 m4 [(26, zT), (25, zF), (24, zI 13)] [] (vlc (u := .bool ((13 == 12))) (v := .bool false) rfl vl0) fun a6 w5 he6 m5 => ?_
 refine kv he6 (zF) (rn_binG _ _ _ _ _ rfl _ _ (he6.tmp 25 _ rfl) (he6.tmp 26 _ rfl) _ rfl (by first | kernel_rfl | (rw [← rfl (a := ())]; kernel_rfl))) fun a7 he7 => ?_
 refine wb 5 he7 [(23, zF), (31, zF), (30, zU), (29, zU), (28, zF)] fun a8 he8 => ?_
 refine wl_end (wp_condF (he := he8) rfl (wp_seqR ?_))
 refine wr [0, 1, 0] he8 m5 [(41, zT), (43, zT), (42, zI 13)] [] (vlc (u := .bool (decide (13 ≤ 13))) (v := .bool true) rfl vl0) fun a9 w6 he9 m6 => ?_
 refine wl_end (wp_condT (he := he9) rfl (wp_seqR ?_))
 refine wr [3, 4] he9 m6 [(46, .agg (#[zI e, zI f, zI g, zI h])), (45, .agg (#[zI a, zI b, zI c, zI d]))] [b2, b1] vl0 fun a10 w7 he10 m7 => ?_
 refine kc he10 m7 (v := .tuple #[.agg (#[zI x, zI y, zI z, zI u]), .bool true]) (tP.out _) fun a11 w8 he11 m8 => ?_
 refine wb 3 he11 [(49, zT), (48, .agg (#[zI x, zI y, zI z, zI u])), (44, .tuple #[.agg (#[zI x, zI y, zI z, zI u]), .bool true])] fun a12 he12 => ?_
 refine ka he12 m8 5 56 (.agg #[.int .i64 0, .int .i64 0, .int .i64 0, .int .i64 0]) (#[zI 0, zI 0, zI 0, zI 0]) fun a13 w9 b5 he13 m9 => ?_
 refine wm [7, 0] he13 m9 [(14, zT)] [(5, zE b5 56 (#[zI x, zI y, zI z, zI u]))] [b5] vl0 fun a14 w10 he14 m10 => ?_
 refine wl_end (wp_seqR ?_)
 refine wr [4, 3] he14 m10 [(52, .agg (#[zI a, zI b, zI c, zI d])), (51, .agg (#[zI e, zI f, zI g, zI h]))] [b1, b2] vl0 fun a15 w11 he15 m11 => ?_
 refine kc he15 m11 (v := .tuple #[.agg (#[zI x', zI y', zI z', zI u']), .bool false]) (tQ.out _) fun a16 w12 he16 m12 => ?_
 refine wb 3 he16 [(55, zF), (54, .agg (#[zI x', zI y', zI z', zI u'])), (50, .tuple #[.agg (#[zI x', zI y', zI z', zI u']), .bool false])] fun a17 he17 => ?_
 refine ka he17 m12 6 56 (.agg #[.int .i64 0, .int .i64 0, .int .i64 0, .int .i64 0]) (#[zI 0, zI 0, zI 0, zI 0]) fun a18 w13 b6 he18 m13 => ?_
 refine wm [8, 0] he18 m13 [(16, zF)] [(6, zE b6 56 (#[zI x', zI y', zI z', zI u']))] [b6] vl0 fun a19 w14 he19 m14 => ?_
 refine wl_end (wp_seq (wp_seqR ?_))
 refine wb 6 he19 [(61, zT), (60, zT), (59, zF), (58, zF), (57, zF), (56, zT)] fun a20 he20 => ?_
 refine wl_end (wp_condT (he := he20) rfl (wp_seqR ?_))
 refine kv he20 (.agg (#[zI 1, zI 0, zI 0, zI 0])) (rn_build _ _ rfl #[(0, .int .i64 (1))] (pmap1 rfl) _ (by kernel_rfl)) fun a21 he21 => ?_
 refine kv he21 (.agg (#[zI 1, zI 0, zI 0, zI 0])) (rn_build _ _ rfl #[(0, .int .i64 (1))] (pmap1 rfl) _ (by kernel_rfl)) fun a22 he22 => ?_
 refine wm [5, 6, 0] he22 m14 [(10, zF)] [(4, zE b4 56 (#[zI 1, zI 0, zI 0, zI 0])), (3, zE b3 56 (#[zI 1, zI 0, zI 0, zI 0]))] [b4, b3] vl0 fun a23 w15 he23 m15 => ?_
 refine wl_end (wp_ret (ret_then (ret_in (ret_then ?_))))
 exact bodyPost_ret (results_cct he23 m15 _ _ _ _ _ Try.results47 _ rfl 3 rfl 4 agg56 rfl _ rfl 4 rfl 4 agg56 rfl (.bool false) rfl) he23.defers ⟨rfl, m15.below⟩
theorem w_SB_other2_yes (a b c d e f g h : Int) (x y z u x' y' z' u' : Int) (w : World) (tP : Hid (∀ w, Calls Try.prog 66 #[rv a b c d, rv e f g h] w fun ee w' => ee = .returned (.tuple #[rv x y z u, .bool true]) ∧ Below w.heap.size w w')) (tQ : Hid (∀ w, Calls Try.prog 66 #[rv e f g h, rv a b c d] w fun ee w' => ee = .returned (.tuple #[rv x' y' z' u', .bool true]) ∧ Below w.heap.size w w')) :
 Calls Try.prog 47 #[.int .i64 13, rv a b c d, rv e f g h, .bool true] w fun ee w' => ee = .returned (.tuple #[rv x y z u, rv x' y' z' u', .bool true]) ∧ Below w.heap.size w w' := by
 refine calls_begin Try.func47 rfl 114 rfl (Nat.le_of_ble_eq_true rfl) [(0, .int .i64 (13)), (1, .agg (#[zI a, zI b, zI c, zI d])), (2, .agg (#[zI e, zI f, zI g, zI h])), (3, .bool true)] ⟨rfl, rfl, rfl, rfl, trivial⟩ (fun a0 he0 m0 => ?_)
 refine wp_seqR ?_
 refine kx he0 m0 1 (.agg (#[zI a, zI b, zI c, zI d])) (#[zI a, zI b, zI c, zI d]) 56 fun a1 w1 b1 he1 m1 => ?_
 refine kx he1 m1 2 (.agg (#[zI e, zI f, zI g, zI h])) (#[zI e, zI f, zI g, zI h]) 56 fun a2 w2 b2 he2 m2 => ?_
 refine ka he2 m2 3 56 (.agg #[.int .i64 0, .int .i64 0, .int .i64 0, .int .i64 0]) (#[zI 0, zI 0, zI 0, zI 0]) fun a3 w3 b3 he3 m3 => ?_
 refine ka he3 m3 4 56 (.agg #[.int .i64 0, .int .i64 0, .int .i64 0, .int .i64 0]) (#[zI 0, zI 0, zI 0, zI 0]) fun a4 w4 b4 he4 m4 => ?_
 refine wb 1 he4 [(10, zF)] fun a5 he5 => ?_
 refine wl_end (wp_seq (wp_block (wp_seqR ?_)))
 refine wr [0, 1, 0] he5 m4 [(26, zT), (25, zF), (24, zI 13)] [] (vlc (u := .bool ((13 == 12))) (v := .bool false) rfl vl0) fun a6 w5 he6 m5 => ?_
 refine kv he6 (zF) (rn_binG _ _ _ _ _ rfl _ _ (he6.tmp 25 _ rfl) (he6.tmp 26 _ rfl) _ rfl (by first | kernel_rfl | (rw [← rfl (a := ())]; kernel_rfl))) fun a7 he7 => ?_
 refine wb 5 he7 [(23, zF), (31, zF), (30, zU), (29, zU), (28, zF)] fun a8 he8 => ?_
 refine wl_end (wp_condF (he := he8) rfl (wp_seqR ?_))
 refine wr [0, 1, 0] he8 m5 [(41, zT), (43, zT), (42, zI 13)] [] (vlc (u := .bool (decide (13 ≤ 13))) (v := .bool true) rfl vl0) fun a9 w6 he9 m6 => ?_
 refine wl_end (wp_condT (he := he9) rfl (wp_seqR ?_))
 refine wr [3, 4] he9 m6 [(46, .agg (#[zI e, zI f, zI g, zI h])), (45, .agg (#[zI a, zI b, zI c, zI d]))] [b2, b1] vl0 fun a10 w7 he10 m7 => ?_
 refine kc he10 m7 (v := .tuple #[.agg (#[zI x, zI y, zI z, zI u]), .bool true]) (tP.out _) fun a11 w8 he11 m8 => ?_
 refine wb 3 he11 [(49, zT), (48, .agg (#[zI x, zI y, zI z, zI u])), (44, .tuple #[.agg (#[zI x, zI y, zI z, zI u]), .bool true])] fun a12 he12 => ?_
 refine ka he12 m8 5 56 (.agg #[.int .i64 0, .int .i64 0, .int .i64 0, .int .i64 0]) (#[zI 0, zI 0, zI 0, zI 0]) fun a13 w9 b5 he13 m9 => ?_
 refine wm [7, 0] he13 m9 [(14, zT)] [(5, zE b5 56 (#[zI x, zI y, zI z, zI u]))] [b5] vl0 fun a14 w10 he14 m10 => ?_
 refine wl_end (wp_seqR ?_)
 refine wr [4, 3] he14 m10 [(52, .agg (#[zI a, zI b, zI c, zI d])), (51, .agg (#[zI e, zI f, zI g, zI h]))] [b1, b2] vl0 fun a15 w11 he15 m11 => ?_
 refine kc he15 m11 (v := .tuple #[.agg (#[zI x', zI y', zI z', zI u']), .bool true]) (tQ.out _) fun a16 w12 he16 m12 => ?_
 refine wb 3 he16 [(55, zT), (54, .agg (#[zI x', zI y', zI z', zI u'])), (50, .tuple #[.agg (#[zI x', zI y', zI z', zI u']), .bool true])] fun a17 he17 => ?_
 refine ka he17 m12 6 56 (.agg #[.int .i64 0, .int .i64 0, .int .i64 0, .int .i64 0]) (#[zI 0, zI 0, zI 0, zI 0]) fun a18 w13 b6 he18 m13 => ?_
 refine wm [8, 0] he18 m13 [(16, zT)] [(6, zE b6 56 (#[zI x', zI y', zI z', zI u']))] [b6] vl0 fun a19 w14 he19 m14 => ?_
 refine wl_end (wp_seq (wp_seqR ?_))
 refine wb 6 he19 [(61, zF), (60, zF), (59, zT), (58, zF), (57, zF), (56, zT)] fun a20 he20 => ?_
 refine wl_end (wp_condF (he := he20) rfl (wp_skip (then_normal (wp_seq ?_))))
 refine wh_begin (by kernel_rfl) m14 [(1, ⟨true, b1, 56, #[zI a, zI b, zI c, zI d]⟩), (2, ⟨true, b2, 56, #[zI e, zI f, zI g, zI h]⟩), (5, ⟨true, b5, 56, #[zI x, zI y, zI z, zI u]⟩), (6, ⟨true, b6, 56, #[zI x', zI y', zI z', zI u']⟩)] ⟨rfl, rfl, rfl, rfl, trivial⟩ (fun w15 m15 => ?_)
 refine wtd (fuel := 3) [(0, 7), (1, 8)] he20 m15 [(65, .agg (#[zI x', zI y', zI z', zI u'])), (64, .agg (#[zI x, zI y, zI z, zI u]))] [b6, b5] vl0 fun a21 he21 => ?_
 refine ts (fuel := 2) 2 rfl he21 m15 3 agg56.sz (0) (.agg (#[zI x, zI y, zI z, zI u])) (#[zI x, zI y, zI z, zI u]) ⟨rfl, rfl, rfl, rfl, trivial⟩ (hin := (by simp)) (hA := (by kernel_rfl)) fun w16 m16 => ?_
 refine ts (fuel := 1) 3 rfl he21 m16 4 agg56.sz (0) (.agg (#[zI x', zI y', zI z', zI u'])) (#[zI x', zI y', zI z', zI u']) ⟨rfl, rfl, rfl, rfl, trivial⟩ (hin := (by simp)) (hA := (by kernel_rfl)) fun w17 m17 => ?_
 refine wtb (fuel := 0) [4] he21 m17 [(10, zT)] fun a22 he22 => ?_
 refine wpAnyH_done (by kernel_rfl) ?_ _
 refine then_normal (wp_ret (ret_in (ret_then ?_)))
 exact bodyPost_ret (results_cct he22 m17 _ _ _ _ _ Try.results47 _ rfl 3 rfl 4 agg56 rfl _ rfl 4 rfl 4 agg56 rfl (.bool true) rfl) he22.defers ⟨rfl, m17.below⟩
theorem w_SB_less (a b c d e f g h : Int) (x y z u x' y' z' u' : Int) (q : Bool) (w : World) (tP : Hid (∀ w, Calls Try.prog 67 #[rv a b c d, rv e f g h, .int .i64 1] w fun ee w' => ee = .returned (.tuple #[rv x y z u, rv x' y' z' u', .bool q]) ∧ Below w.heap.size w w')) :
 Calls Try.prog 47 #[.int .i64 14, rv a b c d, rv e f g h, .bool true] w fun ee w' => ee = .returned (.tuple #[rv x y z u, rv x' y' z' u', .bool q]) ∧ Below w.heap.size w w' := by
 refine calls_begin Try.func47 rfl 114 rfl (Nat.le_of_ble_eq_true rfl) [(0, .int .i64 (14)), (1, .agg (#[zI a, zI b, zI c, zI d])), (2, .agg (#[zI e, zI f, zI g, zI h])), (3, .bool true)] ⟨rfl, rfl, rfl, rfl, trivial⟩ (fun a0 he0 m0 => ?_)
 refine wp_seqR ?_
 refine kx he0 m0 1 (.agg (#[zI a, zI b, zI c, zI d])) (#[zI a, zI b, zI c, zI d]) 56 fun a1 w1 b1 he1 m1 => ?_
 refine kx he1 m1 2 (.agg (#[zI e, zI f, zI g, zI h])) (#[zI e, zI f, zI g, zI h]) 56 fun a2 w2 b2 he2 m2 => ?_
 refine ka he2 m2 3 56 (.agg #[.int .i64 0, .int .i64 0, .int .i64 0, .int .i64 0]) (#[zI 0, zI 0, zI 0, zI 0]) fun a3 w3 b3 he3 m3 => ?_
 refine ka he3 m3 4 56 (.agg #[.int .i64 0, .int .i64 0, .int .i64 0, .int .i64 0]) (#[zI 0, zI 0, zI 0, zI 0]) fun a4 w4 b4 he4 m4 => ?_
 refine wb 1 he4 [(10, zF)] fun a5 he5 => ?_
 refine wl_end (wp_seq (wp_block (wp_seqR ?_)))
 refine wr [0, 1, 0] he5 m4 [(26, zT), (25, zF), (24, zI 14)] [] (vlc (u := .bool ((14 == 12))) (v := .bool false) rfl vl0) fun a6 w5 he6 m5 => ?_
 refine kv he6 (zF) (rn_binG _ _ _ _ _ rfl _ _ (he6.tmp 25 _ rfl) (he6.tmp 26 _ rfl) _ rfl (by first | kernel_rfl | (rw [← rfl (a := ())]; kernel_rfl))) fun a7 he7 => ?_
 refine wb 5 he7 [(23, zF), (31, zF), (30, zU), (29, zU), (28, zF)] fun a8 he8 => ?_
 refine wl_end (wp_condF (he := he8) rfl (wp_seqR ?_))
 refine wr [0, 1, 0] he8 m5 [(41, zF), (43, zF), (42, zI 14)] [] (vlc (u := .bool (decide (14 ≤ 13))) (v := .bool false) rfl vl0) fun a9 w6 he9 m6 => ?_
 refine wl_end (wp_condF (he := he9) rfl (wp_seqR ?_))
 refine wr [0, 1, 0, 0, 0, 0] he9 m6 [(66, zT), (71, zT), (70, zT), (69, zT), (68, zT), (67, zI 14)] [] (vlc (u := .bool ((14 == 14))) (v := .bool true) rfl vl0) fun a10 w7 he10 m7 => ?_
 refine wl_end (wp_condT (he := he10) rfl (wp_seqR ?_))
 refine wr [3, 4] he10 m7 [(73, .agg (#[zI e, zI f, zI g, zI h])), (72, .agg (#[zI a, zI b, zI c, zI d]))] [b2, b1] vl0 fun a11 w8 he11 m8 => ?_
 refine kc he11 m8 (v := .tuple #[.agg (#[zI x, zI y, zI z, zI u]), .agg (#[zI x', zI y', zI z', zI u']), .bool (q)]) (tP.out _) fun a12 w9 he12 m9 => ?_
 refine wm [0, 0, 0, 5, 6, 0] he12 m9 [(10, .bool (q)), (77, .bool (q)), (76, .agg (#[zI x', zI y', zI z', zI u'])), (75, .agg (#[zI x, zI y, zI z, zI u]))] [(4, zE b4 56 (#[zI x', zI y', zI z', zI u'])), (3, zE b3 56 (#[zI x, zI y, zI z, zI u]))] [b4, b3] vl0 fun a13 w10 he13 m10 => ?_
 refine wl_end (wp_ret (ret_in (ret_then ?_)))
 exact bodyPost_ret (results_cct he13 m10 _ _ _ _ _ Try.results47 _ rfl 3 rfl 4 agg56 rfl _ rfl 4 rfl 4 agg56 rfl (.bool (q)) rfl) he13.defers ⟨rfl, m10.below⟩
theorem w_SB_notmore (a b c d e f g h : Int) (x y z u x' y' z' u' : Int) (q : Bool) (w : World) (tP : Hid (∀ w, Calls Try.prog 67 #[rv a b c d, rv e f g h, .int .i64 0] w fun ee w' => ee = .returned (.tuple #[rv x y z u, rv x' y' z' u', .bool q]) ∧ Below w.heap.size w w')) :
 Calls Try.prog 47 #[.int .i64 15, rv a b c d, rv e f g h, .bool false] w fun ee w' => ee = .returned (.tuple #[rv x y z u, rv x' y' z' u', .bool q]) ∧ Below w.heap.size w w' := by
 refine calls_begin Try.func47 rfl 114 rfl (Nat.le_of_ble_eq_true rfl) [(0, .int .i64 (15)), (1, .agg (#[zI a, zI b, zI c, zI d])), (2, .agg (#[zI e, zI f, zI g, zI h])), (3, .bool false)] ⟨rfl, rfl, rfl, rfl, trivial⟩ (fun a0 he0 m0 => ?_)
 refine wp_seqR ?_
 refine kx he0 m0 1 (.agg (#[zI a, zI b, zI c, zI d])) (#[zI a, zI b, zI c, zI d]) 56 fun a1 w1 b1 he1 m1 => ?_
 refine kx he1 m1 2 (.agg (#[zI e, zI f, zI g, zI h])) (#[zI e, zI f, zI g, zI h]) 56 fun a2 w2 b2 he2 m2 => ?_
 refine ka he2 m2 3 56 (.agg #[.int .i64 0, .int .i64 0, .int .i64 0, .int .i64 0]) (#[zI 0, zI 0, zI 0, zI 0]) fun a3 w3 b3 he3 m3 => ?_
 refine ka he3 m3 4 56 (.agg #[.int .i64 0, .int .i64 0, .int .i64 0, .int .i64 0]) (#[zI 0, zI 0, zI 0, zI 0]) fun a4 w4 b4 he4 m4 => ?_
 refine wb 1 he4 [(10, zF)] fun a5 he5 => ?_
 refine wl_end (wp_seq (wp_block (wp_seqR ?_)))
 refine wr [0, 1, 0] he5 m4 [(26, zF), (25, zF), (24, zI 15)] [] (vlc (u := .bool ((15 == 12))) (v := .bool false) rfl vl0) fun a6 w5 he6 m5 => ?_
 refine kv he6 (zT) (rn_binG _ _ _ _ _ rfl _ _ (he6.tmp 25 _ rfl) (he6.tmp 26 _ rfl) _ rfl (by first | kernel_rfl | (rw [← rfl (a := ())]; kernel_rfl))) fun a7 he7 => ?_
 refine wr [0, 0, 1, 0, 0] he7 m5 [(23, zF), (31, zF), (30, zF), (29, zI 15), (28, zT)] [] (vlc (u := .bool (decide (15 ≤ 13))) (v := .bool false) rfl vl0) fun a8 w6 he8 m6 => ?_
 refine wl_end (wp_condF (he := he8) rfl (wp_seqR ?_))
 refine wr [0, 1, 0] he8 m6 [(41, zF), (43, zF), (42, zI 15)] [] (vlc (u := .bool (decide (15 ≤ 13))) (v := .bool false) rfl vl0) fun a9 w7 he9 m7 => ?_
 refine wl_end (wp_condF (he := he9) rfl (wp_seqR ?_))
 refine wr [0, 1, 0, 0, 0, 0] he9 m7 [(66, zF), (71, zF), (70, zU), (69, zF), (68, zF), (67, zI 15)] [] (vlc (u := .bool ((15 == 14))) (v := .bool false) rfl vl0) fun a10 w8 he10 m8 => ?_
 refine wl_end (wp_condF (he := he10) rfl (wp_seqR ?_))
 refine wr [0, 1, 0, 0, 0, 0, 0] he10 m8 [(78, zT), (84, zT), (83, zT), (82, zF), (81, zT), (80, zT), (79, zI 15)] [] (vlc (u := .bool ((15 == 15))) (v := .bool true) rfl vl0) fun a11 w9 he11 m9 => ?_
 refine wl_end (wp_condT (he := he11) rfl (wp_seqR ?_))
 refine wr [3, 4] he11 m9 [(86, .agg (#[zI e, zI f, zI g, zI h])), (85, .agg (#[zI a, zI b, zI c, zI d]))] [b2, b1] vl0 fun a12 w10 he12 m10 => ?_
 refine kc he12 m10 (v := .tuple #[.agg (#[zI x, zI y, zI z, zI u]), .agg (#[zI x', zI y', zI z', zI u']), .bool (q)]) (tP.out _) fun a13 w11 he13 m11 => ?_
 refine wm [0, 0, 0, 5, 6, 0] he13 m11 [(10, .bool (q)), (90, .bool (q)), (89, .agg (#[zI x', zI y', zI z', zI u'])), (88, .agg (#[zI x, zI y, zI z, zI u]))] [(4, zE b4 56 (#[zI x', zI y', zI z', zI u'])), (3, zE b3 56 (#[zI x, zI y, zI z, zI u]))] [b4, b3] vl0 fun a14 w12 he14 m12 => ?_
 refine wl_end (wp_ret (ret_in (ret_then ?_)))
 exact bodyPost_ret (results_cct he14 m12 _ _ _ _ _ Try.results47 _ rfl 3 rfl 4 agg56 rfl _ rfl 4 rfl 4 agg56 rfl (.bool (q)) rfl) he14.defers ⟨rfl, m12.below⟩
theorem w_SB_notless (a b c d e f g h : Int) (x y z u x' y' z' u' : Int) (q : Bool) (w : World) (tP : Hid (∀ w, Calls Try.prog 67 #[rv e f g h, rv a b c d, .int .i64 0] w fun ee w' => ee = .returned (.tuple #[rv x y z u, rv x' y' z' u', .bool q]) ∧ Below w.heap.size w w')) :
 Calls Try.prog 47 #[.int .i64 14, rv a b c d, rv e f g h, .bool false] w fun ee w' => ee = .returned (.tuple #[rv x' y' z' u', rv x y z u, .bool q]) ∧ Below w.heap.size w w' := by
 refine calls_begin Try.func47 rfl 114 rfl (Nat.le_of_ble_eq_true rfl) [(0, .int .i64 (14)), (1, .agg (#[zI a, zI b, zI c, zI d])), (2, .agg (#[zI e, zI f, zI g, zI h])), (3, .bool false)] ⟨rfl, rfl, rfl, rfl, trivial⟩ (fun a0 he0 m0 => ?_)
 refine wp_seqR ?_
 refine kx he0 m0 1 (.agg (#[zI a, zI b, zI c, zI d])) (#[zI a, zI b, zI c, zI d]) 56 fun a1 w1 b1 he1 m1 => ?_
 refine kx he1 m1 2 (.agg (#[zI e, zI f, zI g, zI h])) (#[zI e, zI f, zI g, zI h]) 56 fun a2 w2 b2 he2 m2 => ?_
 refine ka he2 m2 3 56 (.agg #[.int .i64 0, .int .i64 0, .int .i64 0, .int .i64 0]) (#[zI 0, zI 0, zI 0, zI 0]) fun a3 w3 b3 he3 m3 => ?_
 refine ka he3 m3 4 56 (.agg #[.int .i64 0, .int .i64 0, .int .i64 0, .int .i64 0]) (#[zI 0, zI 0, zI 0, zI 0]) fun a4 w4 b4 he4 m4 => ?_
 refine wb 1 he4 [(10, zF)] fun a5 he5 => ?_
 refine wl_end (wp_seq (wp_block (wp_seqR ?_)))
 refine wr [0, 1, 0] he5 m4 [(26, zF), (25, zF), (24, zI 14)] [] (vlc (u := .bool ((14 == 12))) (v := .bool false) rfl vl0) fun a6 w5 he6 m5 => ?_
 refine kv he6 (zT) (rn_binG _ _ _ _ _ rfl _ _ (he6.tmp 25 _ rfl) (he6.tmp 26 _ rfl) _ rfl (by first | kernel_rfl | (rw [← rfl (a := ())]; kernel_rfl))) fun a7 he7 => ?_
 refine wr [0, 0, 1, 0, 0] he7 m5 [(23, zF), (31, zF), (30, zF), (29, zI 14), (28, zT)] [] (vlc (u := .bool (decide (14 ≤ 13))) (v := .bool false) rfl vl0) fun a8 w6 he8 m6 => ?_
 refine wl_end (wp_condF (he := he8) rfl (wp_seqR ?_))
 refine wr [0, 1, 0] he8 m6 [(41, zF), (43, zF), (42, zI 14)] [] (vlc (u := .bool (decide (14 ≤ 13))) (v := .bool false) rfl vl0) fun a9 w7 he9 m7 => ?_
 refine wl_end (wp_condF (he := he9) rfl (wp_seqR ?_))
 refine wr [0, 1, 0, 0, 0, 0] he9 m7 [(66, zF), (71, zF), (70, zF), (69, zT), (68, zT), (67, zI 14)] [] (vlc (u := .bool ((14 == 14))) (v := .bool true) rfl vl0) fun a10 w8 he10 m8 => ?_
 refine wl_end (wp_condF (he := he10) rfl (wp_seqR ?_))
 refine wr [0, 1, 0, 0, 0, 0, 0] he10 m8 [(78, zF), (84, zF), (83, zU), (82, zU), (81, zF), (80, zF), (79, zI 14)] [] (vlc (u := .bool ((14 == 15))) (v := .bool false) rfl vl0) fun a11 w9 he11 m9 => ?_
 refine wl_end (wp_condF (he := he11) rfl (wp_seqR ?_))
 refine wr [0, 1, 0] he11 m9 [(91, zT), (93, zT), (92, zI 14)] [] (vlc (u := .bool ((14 == 14))) (v := .bool true) rfl vl0) fun a12 w10 he12 m10 => ?_
 refine wl_end (wp_condT (he := he12) rfl (wp_seqR ?_))
 refine wr [4, 3] he12 m10 [(96, .agg (#[zI a, zI b, zI c, zI d])), (95, .agg (#[zI e, zI f, zI g, zI h]))] [b1, b2] vl0 fun a13 w11 he13 m11 => ?_
 refine kc he13 m11 (v := .tuple #[.agg (#[zI x, zI y, zI z, zI u]), .agg (#[zI x', zI y', zI z', zI u']), .bool (q)]) (tP.out _) fun a14 w12 he14 m12 => ?_
 refine wb 4 he14 [(100, .bool (q)), (99, .agg (#[zI x', zI y', zI z', zI u'])), (98, .agg (#[zI x, zI y, zI z, zI u])), (94, .tuple #[.agg (#[zI x, zI y, zI z, zI u]), .agg (#[zI x', zI y', zI z', zI u']), .bool (q)])] fun a15 he15 => ?_
 refine ka he15 m12 5 56 (.agg #[.int .i64 0, .int .i64 0, .int .i64 0, .int .i64 0]) (#[zI 0, zI 0, zI 0, zI 0]) fun a16 w13 b5 he16 m13 => ?_
 refine ka he16 m13 6 56 (.agg #[.int .i64 0, .int .i64 0, .int .i64 0, .int .i64 0]) (#[zI 0, zI 0, zI 0, zI 0]) fun a17 w14 b6 he17 m14 => ?_
 refine wm [7, 8, 0] he17 m14 [(19, .bool (q))] [(6, zE b6 56 (#[zI x', zI y', zI z', zI u'])), (5, zE b5 56 (#[zI x, zI y, zI z, zI u]))] [b6, b5] vl0 fun a18 w15 he18 m15 => ?_
 refine wl_end (wp_seq ?_)
 refine wh_begin (by kernel_rfl) m15 [(1, ⟨true, b1, 56, #[zI a, zI b, zI c, zI d]⟩), (2, ⟨true, b2, 56, #[zI e, zI f, zI g, zI h]⟩), (5, ⟨true, b5, 56, #[zI x, zI y, zI z, zI u]⟩), (6, ⟨true, b6, 56, #[zI x', zI y', zI z', zI u']⟩)] ⟨rfl, rfl, rfl, rfl, trivial⟩ (fun w16 m16 => ?_)
 refine wtd (fuel := 3) [(0, 8), (1, 7), (2, 0)] he18 m16 [(103, .bool (q)), (102, .agg (#[zI x, zI y, zI z, zI u])), (101, .agg (#[zI x', zI y', zI z', zI u']))] [b5, b6] vl0 fun a19 he19 => ?_
 refine ts (fuel := 2) 3 rfl he19 m16 3 agg56.sz (0) (.agg (#[zI x', zI y', zI z', zI u'])) (#[zI x', zI y', zI z', zI u']) ⟨rfl, rfl, rfl, rfl, trivial⟩ (hin := (by simp)) (hA := (by kernel_rfl)) fun w17 m17 => ?_
 refine ts (fuel := 1) 4 rfl he19 m17 4 agg56.sz (0) (.agg (#[zI x, zI y, zI z, zI u])) (#[zI x, zI y, zI z, zI u]) ⟨rfl, rfl, rfl, rfl, trivial⟩ (hin := (by simp)) (hA := (by kernel_rfl)) fun w18 m18 => ?_
 refine wtb (fuel := 0) [5] he19 m18 [(10, .bool (q))] fun a20 he20 => ?_
 refine wpAnyH_done (by kernel_rfl) ?_ _
 refine then_normal (wp_ret (ret_in (ret_then ?_)))
 exact bodyPost_ret (results_cct he20 m18 _ _ _ _ _ Try.results47 _ rfl 3 rfl 4 agg56 rfl _ rfl 4 rfl 4 agg56 rfl (.bool (q)) rfl) he20.defers ⟨rfl, m18.below⟩
theorem w_SB_more (a b c d e f g h : Int) (x y z u x' y' z' u' : Int) (q : Bool) (w : World) (tP : Hid (∀ w, Calls Try.prog 67 #[rv e f g h, rv a b c d, .int .i64 1] w fun ee w' => ee = .returned (.tuple #[rv x y z u, rv x' y' z' u', .bool q]) ∧ Below w.heap.size w w')) :
 Calls Try.prog 47 #[.int .i64 15, rv a b c d, rv e f g h, .bool true] w fun ee w' => ee = .returned (.tuple #[rv x' y' z' u', rv x y z u, .bool q]) ∧ Below w.heap.size w w' := by
 refine calls_begin Try.func47 rfl 114 rfl (Nat.le_of_ble_eq_true rfl) [(0, .int .i64 (15)), (1, .agg (#[zI a, zI b, zI c, zI d])), (2, .agg (#[zI e, zI f, zI g, zI h])), (3, .bool true)] ⟨rfl, rfl, rfl, rfl, trivial⟩ (fun a0 he0 m0 => ?_)
 refine wp_seqR ?_
 refine kx he0 m0 1 (.agg (#[zI a, zI b, zI c, zI d])) (#[zI a, zI b, zI c, zI d]) 56 fun a1 w1 b1 he1 m1 => ?_
 refine kx he1 m1 2 (.agg (#[zI e, zI f, zI g, zI h])) (#[zI e, zI f, zI g, zI h]) 56 fun a2 w2 b2 he2 m2 => ?_
 refine ka he2 m2 3 56 (.agg #[.int .i64 0, .int .i64 0, .int .i64 0, .int .i64 0]) (#[zI 0, zI 0, zI 0, zI 0]) fun a3 w3 b3 he3 m3 => ?_
 refine ka he3 m3 4 56 (.agg #[.int .i64 0, .int .i64 0, .int .i64 0, .int .i64 0]) (#[zI 0, zI 0, zI 0, zI 0]) fun a4 w4 b4 he4 m4 => ?_
 refine wb 1 he4 [(10, zF)] fun a5 he5 => ?_
 refine wl_end (wp_seq (wp_block (wp_seqR ?_)))
 refine wr [0, 1, 0] he5 m4 [(26, zT), (25, zF), (24, zI 15)] [] (vlc (u := .bool ((15 == 12))) (v := .bool false) rfl vl0) fun a6 w5 he6 m5 => ?_
 refine kv he6 (zF) (rn_binG _ _ _ _ _ rfl _ _ (he6.tmp 25 _ rfl) (he6.tmp 26 _ rfl) _ rfl (by first | kernel_rfl | (rw [← rfl (a := ())]; kernel_rfl))) fun a7 he7 => ?_
 refine wb 5 he7 [(23, zF), (31, zF), (30, zU), (29, zU), (28, zF)] fun a8 he8 => ?_
 refine wl_end (wp_condF (he := he8) rfl (wp_seqR ?_))
 refine wr [0, 1, 0] he8 m5 [(41, zF), (43, zF), (42, zI 15)] [] (vlc (u := .bool (decide (15 ≤ 13))) (v := .bool false) rfl vl0) fun a9 w6 he9 m6 => ?_
 refine wl_end (wp_condF (he := he9) rfl (wp_seqR ?_))
 refine wr [0, 1, 0, 0, 0, 0] he9 m6 [(66, zF), (71, zF), (70, zU), (69, zF), (68, zF), (67, zI 15)] [] (vlc (u := .bool ((15 == 14))) (v := .bool false) rfl vl0) fun a10 w7 he10 m7 => ?_
 refine wl_end (wp_condF (he := he10) rfl (wp_seqR ?_))
 refine wr [0, 1, 0, 0, 0, 0, 0] he10 m7 [(78, zF), (84, zF), (83, zF), (82, zT), (81, zT), (80, zT), (79, zI 15)] [] (vlc (u := .bool ((15 == 15))) (v := .bool true) rfl vl0) fun a11 w8 he11 m8 => ?_
 refine wl_end (wp_condF (he := he11) rfl (wp_seqR ?_))
 refine wr [0, 1, 0] he11 m8 [(91, zF), (93, zF), (92, zI 15)] [] (vlc (u := .bool ((15 == 14))) (v := .bool false) rfl vl0) fun a12 w9 he12 m9 => ?_
 refine wl_end (wp_condF (he := he12) rfl (wp_skip (in_normal (then_normal (wp_seqR ?_)))))
 refine wr [4, 3] he12 m9 [(106, .agg (#[zI a, zI b, zI c, zI d])), (105, .agg (#[zI e, zI f, zI g, zI h]))] [b1, b2] vl0 fun a13 w10 he13 m10 => ?_
 refine kc he13 m10 (v := .tuple #[.agg (#[zI x, zI y, zI z, zI u]), .agg (#[zI x', zI y', zI z', zI u']), .bool (q)]) (tP.out _) fun a14 w11 he14 m11 => ?_
 refine wb 4 he14 [(110, .bool (q)), (109, .agg (#[zI x', zI y', zI z', zI u'])), (108, .agg (#[zI x, zI y, zI z, zI u])), (104, .tuple #[.agg (#[zI x, zI y, zI z, zI u]), .agg (#[zI x', zI y', zI z', zI u']), .bool (q)])] fun a15 he15 => ?_
 refine ka he15 m11 5 56 (.agg #[.int .i64 0, .int .i64 0, .int .i64 0, .int .i64 0]) (#[zI 0, zI 0, zI 0, zI 0]) fun a16 w12 b5 he16 m12 => ?_
 refine ka he16 m12 6 56 (.agg #[.int .i64 0, .int .i64 0, .int .i64 0, .int .i64 0]) (#[zI 0, zI 0, zI 0, zI 0]) fun a17 w13 b6 he17 m13 => ?_
 refine wm [7, 8, 0] he17 m13 [(22, .bool (q))] [(6, zE b6 56 (#[zI x', zI y', zI z', zI u'])), (5, zE b5 56 (#[zI x, zI y, zI z, zI u]))] [b6, b5] vl0 fun a18 w14 he18 m14 => ?_
 refine wl_end (wp_seq ?_)
 refine wh_begin (by kernel_rfl) m14 [(1, ⟨true, b1, 56, #[zI a, zI b, zI c, zI d]⟩), (2, ⟨true, b2, 56, #[zI e, zI f, zI g, zI h]⟩), (5, ⟨true, b5, 56, #[zI x, zI y, zI z, zI u]⟩), (6, ⟨true, b6, 56, #[zI x', zI y', zI z', zI u']⟩)] ⟨rfl, rfl, rfl, rfl, trivial⟩ (fun w15 m15 => ?_)
 refine wtd (fuel := 3) [(0, 8), (1, 7), (2, 0)] he18 m15 [(113, .bool (q)), (112, .agg (#[zI x, zI y, zI z, zI u])), (111, .agg (#[zI x', zI y', zI z', zI u']))] [b5, b6] vl0 fun a19 he19 => ?_
 refine ts (fuel := 2) 3 rfl he19 m15 3 agg56.sz (0) (.agg (#[zI x', zI y', zI z', zI u'])) (#[zI x', zI y', zI z', zI u']) ⟨rfl, rfl, rfl, rfl, trivial⟩ (hin := (by simp)) (hA := (by kernel_rfl)) fun w16 m16 => ?_
 refine ts (fuel := 1) 4 rfl he19 m16 4 agg56.sz (0) (.agg (#[zI x, zI y, zI z, zI u])) (#[zI x, zI y, zI z, zI u]) ⟨rfl, rfl, rfl, rfl, trivial⟩ (hin := (by simp)) (hA := (by kernel_rfl)) fun w17 m17 => ?_
 refine wtb (fuel := 0) [5] he19 m17 [(10, .bool (q))] fun a20 he20 => ?_
 refine wpAnyH_done (by kernel_rfl) ?_ _
 refine then_normal (wp_ret ?_)
 exact bodyPost_ret (results_cct he20 m17 _ _ _ _ _ Try.results47 _ rfl 3 rfl 4 agg56 rfl _ rfl 4 rfl 4 agg56 rfl (.bool (q)) rfl) he20.defers ⟨rfl, m17.below⟩
end Go.Proofs.Ytkaekiodjjhjkaa.H
namespace Go.Proofs.Ytkaekiodjjhjkaa.H
open Go.RowKit
end Go.Proofs.Ytkaekiodjjhjkaa.H
namespace Go.Proofs.Ytkaekiodjjhjkaa.H
open Go.RowKit
abbrev rvP (p : Int × Int × Int × Int) : Value := rv p.1 p.2.1 p.2.2.1 p.2.2.2
theorem okB_mod {a b c d : Nat} (A : OkN a b c d) {X Y : Int} (h0 : 0 ≤ X) (h1 : X ≤ Y) (h2 : Y ≤ 4294967295) : okB X Y c d = true := by
 obtain ⟨X, rfl⟩ := Int.eq_ofNat_of_zero_le h0
 obtain ⟨Y, rfl⟩ := Int.eq_ofNat_of_zero_le (show 0 ≤ Y by omega)
 exact okB_of ⟨by omega, by omega, A.b, A.o, A.d⟩
theorem someI_gt {X Y c d : Int} (h : Y < X) : someI X Y c d = false := someI_bad (by simp [okB, inB]; omega)
theorem c_l2SomeI {X Y c d : Int} (h : okB X Y c d = true) (w : World) :
 Calls Try.prog 78 #[rv X Y c d] w fun e w' => e = .returned (.bool (someI X Y c d)) ∧ Below w.heap.size w w' := by
 obtain ⟨L, H, B, O, rfl, rfl, rfl, rfl, k⟩ := ok_nat h
 rw [someI_nat k]
 exact c_l2Some L H B O w k
theorem c_l2TidyI {X Y c d : Int} (h : someI X Y c d = true) (w : World) :
 Calls Try.prog 45 #[rv X Y c d] w fun e w' => e = .returned (rvP (tidyP X Y c d)) ∧ Below w.heap.size w w' := by
 obtain ⟨L, H, B, O, rfl, rfl, rfl, rfl, k, hs⟩ := someI_yes h
 rw [tidyP_yes k hs]
 exact c_l2Tidy L H B O w k
theorem someI_tidy (X Y c d : Int) : someI (tidyP X Y c d).1 (tidyP X Y c d).2.1 (tidyP X Y c d).2.2.1 (tidyP X Y c d).2.2.2 = someI X Y c d := by
 cases h : someI X Y c d
 ·rw [tidyP_no h]; exact someI_gt (by decide)
 ·obtain ⟨L, H, B, O, rfl, rfl, rfl, rfl, k, hs⟩ := someI_yes h
  rw [tidyP_yes k hs]
  obtain ⟨n, _, hn⟩ := of_some k hs
  show someI (tLo L H B : Nat) (tHi L H B O : Nat) (tB L H B : Nat) (tO L H O : Nat) = true
  rw [someI_nat (tidy_ok k hn)]
  exact some_of (tidy_ok k hn) (tidy_of k hn)
def butX (a n : Int) : Int := if a = n then a + 1 else a
def butY (b n : Int) : Int := if b = n then b - 1 else b
theorem but_c (a b c d n : Nat) (A : OkN a b c d) (hn : n ≤ 4294967295) (w : World) :
 Calls Try.prog 79 #[rv a b c d, .int .i64 n] w fun e w' => e = .returned (.tuple #[rvP (tidyP (butX a n) (butY b n) c d), .bool (someI (butX a n) (butY b n) c d)]) ∧ Below w.heap.size w w' := by
 have hle := A.le
 have hhi := A.hi
 by_cases k1 : a = n
 ·have e1 : butX a n = (n : Int) + 1 := by rw [butX, if_pos (by omega), k1]
  have g1 : ((a : Int) == (n : Int)) = true := by simp; omega
  by_cases k2 : b = n
  ·have e2 : butY b n = (n : Int) - 1 := by rw [butY, if_pos (by omega), k2]
   have g2 : ((b : Int) == (n : Int)) = true := by simp; omega
   have hs : someI ((n : Int) + 1) ((n : Int) - 1) c d = false := someI_gt (by omega)
   rw [e1, e2, hs, tidyP_no hs]
   exact w_But_1_gt a b c d n w (by omega) (by omega) g1 g2 (by omega)
  ·have e2 : butY b n = b := by rw [butY, if_neg (by omega)]
   have g2 : ((b : Int) == (n : Int)) = false := by simp; omega
   have hok : okB ((n : Int) + 1) b c d = true := okB_mod A (by omega) (by omega) (by omega)
   rw [e1, e2]
   cases hs : someI ((n : Int) + 1) b c d
   ·rw [tidyP_no hs]
    exact w_But_2_none a b c d n w (by omega) (by omega) g1 g2 (by omega) (fun w => by have := c_l2SomeI hok w; rw [hs] at this; exact this)
   ·exact w_But_2_yes a b c d n _ _ _ _ w (by omega) (by omega) g1 g2 (by omega) (fun w => by have := c_l2SomeI hok w; rw [hs] at this; exact this) (fun w => c_l2TidyI hs w)
 ·have e1 : butX a n = a := by rw [butX, if_neg (by omega)]
  have g1 : ((a : Int) == (n : Int)) = false := by simp; omega
  by_cases k2 : b = n
  ·have e2 : butY b n = (n : Int) - 1 := by rw [butY, if_pos (by omega), k2]
   have g2 : ((b : Int) == (n : Int)) = true := by simp; omega
   have hok : okB a ((n : Int) - 1) c d = true := okB_mod A (by omega) (by omega) (by omega)
   rw [e1, e2]
   cases hs : someI a ((n : Int) - 1) c d
   ·rw [tidyP_no hs]
    exact w_But_3_none a b c d n w (by omega) (by omega) g1 g2 (by omega) (fun w => by have := c_l2SomeI hok w; rw [hs] at this; exact this)
   ·exact w_But_3_yes a b c d n _ _ _ _ w (by omega) (by omega) g1 g2 (by omega) (fun w => by have := c_l2SomeI hok w; rw [hs] at this; exact this) (fun w => c_l2TidyI hs w)
  ·have e2 : butY b n = b := by rw [butY, if_neg (by omega)]
   have g2 : ((b : Int) == (n : Int)) = false := by simp; omega
   have hok : okB a b c d = true := okB_of A
   rw [e1, e2]
   cases hs : someI a b c d
   ·rw [tidyP_no hs]
    exact w_But_4_none a b c d n w (by omega) (by omega) g1 g2 (by omega) (fun w => by have := c_l2SomeI hok w; rw [hs] at this; exact this)
   ·exact w_But_4_yes a b c d n _ _ _ _ w (by omega) (by omega) g1 g2 (by omega) (fun w => by have := c_l2SomeI hok w; rw [hs] at this; exact this) (fun w => c_l2TidyI hs w)
def apartP (a b c d e f : Int) : Int × Int × Int × Int := if e = f then tidyP (butX a e) (butY b e) c d else (a, b, c, d)
def apartB (a b c d e f : Int) : Bool := someI (apartP a b c d e f).1 (apartP a b c d e f).2.1 (apartP a b c d e f).2.2.1 (apartP a b c d e f).2.2.2
theorem apart_spec (a b c d e f g h : Nat) (A : OkN a b c d) (B : OkN e f g h) (hA : someN a b c d = true) (w : World) :
 Calls Try.prog 66 #[rv a b c d, rv e f g h] w fun ee w' => ee = .returned (.tuple #[rvP (apartP a b c d e f), .bool (apartB a b c d e f)]) ∧ Below w.heap.size w w' := by
 have hle := B.le
 have hhi := B.hi
 by_cases k : e = f
 ·have e1 : apartP a b c d e f = tidyP (butX a e) (butY b e) c d := by rw [apartP, if_pos (by omega)]
  rw [apartB, e1, someI_tidy]
  exact w_Apart a b c d e f g h _ _ _ _ _ w (by simp; omega) (fun w => but_c a b c d e A (by omega) w)
 ·have e1 : apartP a b c d e f = ((a : Int), (b : Int), (c : Int), (d : Int)) := by rw [apartP, if_neg (by omega)]
  rw [apartB, e1]
  show Calls _ _ _ _ fun ee w' => ee = .returned (.tuple #[rv a b c d, .bool (someI a b c d)]) ∧ _
  rw [someI_nat A, hA]
  exact w_Apart_un a b c d e f g h w (by simp; omega)
theorem without_c (a b c d e f g h : Nat) (A : OkN a b c d) (B : OkN e f g h) (w : World) :
 Calls Try.prog 63 #[rv a b c d, rv e f g h] w fun ee w' => ee = .returned (rvP (apartP a b c d e f)) ∧ Below w.heap.size w w' := by
 have hle := A.le
 have hhi := A.hi
 by_cases k : e = f
 ·have e1 : apartP a b c d e f = tidyP (butX a e) (butY b e) c d := by rw [apartP, if_pos (by omega)]
  have g0 : ((e : Int) == (f : Int)) = true := by simp; omega
  rw [e1]
  by_cases k1 : a = e
  ·have x1 : butX a e = (a : Int) + 1 := by rw [butX, if_pos (by omega)]
   have g1 : ((a : Int) == (e : Int)) = true := by simp; omega
   by_cases k2 : b = e
   ·have x2 : butY b e = (b : Int) - 1 := by rw [butY, if_pos (by omega)]
    rw [x1, x2]
    exact w_without_1 a b c d e f g h _ _ _ _ w (by omega) (by omega) (by omega) (by omega) g0 g1 (by simp; omega) (fun w => c_RangeTidyI _ _ _ _ w)
   ·have x2 : butY b e = b := by rw [butY, if_neg (by omega)]
    rw [x1, x2]
    exact w_without_2 a b c d e f g h _ _ _ _ w (by omega) (by omega) (by omega) (by omega) g0 g1 (by simp; omega) (fun w => c_RangeTidyI _ _ _ _ w)
  ·have x1 : butX a e = a := by rw [butX, if_neg (by omega)]
   have g1 : ((a : Int) == (e : Int)) = false := by simp; omega
   by_cases k2 : b = e
   ·have x2 : butY b e = (b : Int) - 1 := by rw [butY, if_pos (by omega)]
    rw [x1, x2]
    exact w_without_3 a b c d e f g h _ _ _ _ w (by omega) (by omega) (by omega) (by omega) g0 g1 (by simp; omega) (fun w => c_RangeTidyI _ _ _ _ w)
   ·have x2 : butY b e = b := by rw [butY, if_neg (by omega)]
    rw [x1, x2]
    exact w_without_4 a b c d e f g h _ _ _ _ w (by omega) (by omega) (by omega) (by omega) g0 g1 (by simp; omega) (fun w => c_RangeTidyI _ _ _ _ w)
 ·have e1 : apartP a b c d e f = ((a : Int), (b : Int), (c : Int), (d : Int)) := by rw [apartP, if_neg (by omega)]
  rw [e1]
  exact w_without_un a b c d e f g h w (by simp; omega)
def lowQ (a b c d e f g h k : Int) : Bool := someI a (min b (f - k)) c d && someI (max e (a + k)) f g h
theorem low_no (a b c d e f g h : Nat) (k : Int) (k0 : 0 ≤ k) (k1 : k ≤ 1) (A : OkN a b c d) (B : OkN e f g h) (hq : lowQ a b c d e f g h k = false) (w : World) :
 Calls Try.prog 67 #[rv a b c d, rv e f g h, .int .i64 k] w fun ee w' => ee = .returned (.tuple #[rv 1 0 0 0, rv 1 0 0 0, .bool false]) ∧ Below w.heap.size w w' := by
 have hA := A.le; have hA2 := A.hi; have hB := B.le; have hB2 := B.hi
 unfold lowQ at hq
 by_cases h1 : (f : Int) - k < b
 ·rw [show min (b : Int) (f - k) = f - k by omega] at hq
  by_cases h2 : (e : Int) < a + k
  ·rw [show max (e : Int) (a + k) = a + k by omega] at hq
   by_cases h3 : (a : Int) ≤ f - k
   ·have o1 := okB_mod A (X := (a : Int)) (Y := f - k) (by omega) h3 (by omega)
    have o2 := okB_mod B (X := (a : Int) + k) (Y := f) (by omega) (by omega) (by omega)
    cases hs : someI (a : Int) (f - k) c d
    ·exact w_Low_1_n1 a b c d e f g h k w (by omega) (by omega) (by omega) (by omega) k0 k1 h1 h2 h3 (by omega) (fun w => by have := c_l2SomeI o1 w; rw [hs] at this; exact this)
    ·rw [hs, Bool.true_and] at hq
     exact w_Low_1_n2 a b c d e f g h k w (by omega) (by omega) (by omega) (by omega) k0 k1 h1 h2 h3 (by omega) (fun w => by have := c_l2SomeI o1 w; rw [hs] at this; exact this) (fun w => by have := c_l2SomeI o2 w; rw [hq] at this; exact this)
   ·exact w_Low_1_g1 a b c d e f g h k w (by omega) (by omega) (by omega) (by omega) k0 k1 h1 h2 (by omega)
  ·rw [show max (e : Int) (a + k) = e by omega] at hq
   by_cases h3 : (a : Int) ≤ f - k
   ·have o1 := okB_mod A (X := (a : Int)) (Y := f - k) (by omega) h3 (by omega)
    have o2 := okB_of B
    cases hs : someI (a : Int) (f - k) c d
    ·exact w_Low_2_n1 a b c d e f g h k w (by omega) (by omega) (by omega) (by omega) k0 k1 h1 h2 h3 (by omega) (fun w => by have := c_l2SomeI o1 w; rw [hs] at this; exact this)
    ·rw [hs, Bool.true_and] at hq
     exact w_Low_2_n2 a b c d e f g h k w (by omega) (by omega) (by omega) (by omega) k0 k1 h1 h2 h3 (by omega) (fun w => by have := c_l2SomeI o1 w; rw [hs] at this; exact this) (fun w => by have := c_l2SomeI o2 w; rw [hq] at this; exact this)
   ·exact w_Low_2_g1 a b c d e f g h k w (by omega) (by omega) (by omega) (by omega) k0 k1 h1 h2 (by omega)
 ·rw [show min (b : Int) (f - k) = b by omega] at hq
  have o1 := okB_of A
  by_cases h2 : (e : Int) < a + k
  ·rw [show max (e : Int) (a + k) = a + k by omega] at hq
   have o2 := okB_mod B (X := (a : Int) + k) (Y := f) (by omega) (by omega) (by omega)
   cases hs : someI (a : Int) b c d
   ·exact w_Low_3_n1 a b c d e f g h k w (by omega) (by omega) (by omega) (by omega) k0 k1 h1 h2 (by omega) (by omega) (fun w => by have := c_l2SomeI o1 w; rw [hs] at this; exact this)
   ·rw [hs, Bool.true_and] at hq
    exact w_Low_3_n2 a b c d e f g h k w (by omega) (by omega) (by omega) (by omega) k0 k1 h1 h2 (by omega) (by omega) (fun w => by have := c_l2SomeI o1 w; rw [hs] at this; exact this) (fun w => by have := c_l2SomeI o2 w; rw [hq] at this; exact this)
  ·rw [show max (e : Int) (a + k) = e by omega] at hq
   have o2 := okB_of B
   cases hs : someI (a : Int) b c d
   ·exact w_Low_4_n1 a b c d e f g h k w (by omega) (by omega) (by omega) (by omega) k0 k1 h1 h2 (by omega) (by omega) (fun w => by have := c_l2SomeI o1 w; rw [hs] at this; exact this)
   ·rw [hs, Bool.true_and] at hq
    exact w_Low_4_n2 a b c d e f g h k w (by omega) (by omega) (by omega) (by omega) k0 k1 h1 h2 (by omega) (by omega) (fun w => by have := c_l2SomeI o1 w; rw [hs] at this; exact this) (fun w => by have := c_l2SomeI o2 w; rw [hq] at this; exact this)
theorem someI_ok {X Y c d : Int} (h : someI X Y c d = true) : okB X Y c d = true := by simp [someI] at h; exact h.1
theorem someI_le {X Y c d : Int} (h : someI X Y c d = true) : X ≤ Y := by
 have := someI_ok h; simp [okB, inB] at this; omega
theorem low_yes (a b c d e f g h : Nat) (k : Int) (k0 : 0 ≤ k) (k1 : k ≤ 1) (A : OkN a b c d) (B : OkN e f g h) (hq : lowQ a b c d e f g h k = true) (w : World) :
 Calls Try.prog 67 #[rv a b c d, rv e f g h, .int .i64 k] w fun ee w' => ee = .returned (.tuple #[rvP (tidyP a (min b (f - k)) c d), rvP (tidyP (max e (a + k)) f g h), .bool true]) ∧ Below w.heap.size w w' := by
 have hA := A.le; have hA2 := A.hi; have hB := B.le; have hB2 := B.hi
 unfold lowQ at hq
 simp only [Bool.and_eq_true] at hq
 obtain ⟨s1, s2⟩ := hq
 have l1 := someI_le s1
 have l2 := someI_le s2
 have S1 : ∀ w, Calls Try.prog 78 #[rv a (min (b : Int) (f - k)) c d] w fun e w' => e = .returned (.bool true) ∧ Below w.heap.size w w' := fun w => by have := c_l2SomeI (someI_ok s1) w; rw [s1] at this; exact this
 have S2 : ∀ w, Calls Try.prog 78 #[rv (max (e : Int) (a + k)) f g h] w fun e w' => e = .returned (.bool true) ∧ Below w.heap.size w w' := fun w => by have := c_l2SomeI (someI_ok s2) w; rw [s2] at this; exact this
 have T1 := fun w => c_l2TidyI s1 w
 have T2 := fun w => c_l2TidyI s2 w
 by_cases h1 : (f : Int) - k < b
 ·rw [show min (b : Int) (f - k) = f - k by omega] at *
  by_cases h2 : (e : Int) < a + k
  ·rw [show max (e : Int) (a + k) = a + k by omega] at *
   exact w_Low_1_yes a b c d e f g h k _ _ _ _ _ _ _ _ w (by omega) (by omega) (by omega) (by omega) k0 k1 h1 h2 (by omega) (by omega) S1 S2 T1 T2
  ·rw [show max (e : Int) (a + k) = e by omega] at *
   exact w_Low_2_yes a b c d e f g h k _ _ _ _ _ _ _ _ w (by omega) (by omega) (by omega) (by omega) k0 k1 h1 h2 (by omega) (by omega) S1 S2 T1 T2
 ·rw [show min (b : Int) (f - k) = b by omega] at *
  by_cases h2 : (e : Int) < a + k
  ·rw [show max (e : Int) (a + k) = a + k by omega] at *
   exact w_Low_3_yes a b c d e f g h k _ _ _ _ _ _ _ _ w (by omega) (by omega) (by omega) (by omega) k0 k1 h1 h2 (by omega) (by omega) S1 S2 T1 T2
  ·rw [show max (e : Int) (a + k) = e by omega] at *
   exact w_Low_4_yes a b c d e f g h k _ _ _ _ _ _ _ _ w (by omega) (by omega) (by omega) (by omega) k0 k1 h1 h2 (by omega) (by omega) S1 S2 T1 T2
end Go.Proofs.Ytkaekiodjjhjkaa.H
namespace Go.Proofs.Ytkaekiodjjhjkaa.H
open Go.RowKit
abbrev someP (p : Int × Int × Int × Int) : Bool := someI p.1 p.2.1 p.2.2.1 p.2.2.2
abbrev noP : Int × Int × Int × Int := (1, 0, 0, 0)
def Alike (P P' R R' : Int × Int × Int × Int) (q : Bool) : Prop :=
 (q = true ∧ P = R ∧ P' = R' ∧ someP R = true ∧ someP R' = true) ∨ (q = false ∧ P = noP ∧ P' = noP ∧ (someP R && someP R') = false)
def Both (op : Int) (hl : Bool) (a b c d e f g h : Int) : Prop :=
 ∃ (P P' R R' : Int × Int × Int × Int) (q : Bool),
   (∀ w, Calls Try.prog 47 #[.int .i64 op, rv a b c d, rv e f g h, .bool hl] w fun ee w' => ee = .returned (.tuple #[rvP P, rvP P', .bool q]) ∧ Below w.heap.size w w') ∧
   (∀ w, Calls Try.prog 44 #[.int .i64 op, rv a b c d, rv e f g h, .bool hl] w fun ee w' => ee = .returned (.tuple #[rvP R, rvP R']) ∧ Below w.heap.size w w') ∧ Alike P P' R R' q
theorem low0 (a b c d e f g h : Int) : lowQ a b c d e f g h 0 = (someI a (min b f) c d && someI (max e a) f g h) := by
 rw [lowQ, Int.sub_zero, Int.add_zero]
def meetP (a b c d e f g h : Nat) : Int × Int × Int × Int := (((tLo (max a e) (min b f) (c ||| g) : Nat) : Int), ((tHi (max a e) (min b f) (c ||| g) (d &&& h) : Nat) : Int), ((tB (max a e) (min b f) (c ||| g) : Nat) : Int), ((tO (max a e) (min b f) (d &&& h) : Nat) : Int))
theorem someP_meet {a b c d e f g h : Nat} (A : OkN a b c d) (B : OkN e f g h) (hm : meetB a b c d e f g h = true) : someP (meetP a b c d e f g h) = true := by
 obtain ⟨hc, J, hs⟩ := meet_yes A B hm
 obtain ⟨n, _, hn⟩ := of_some J hs
 show someI _ _ _ _ = true
 rw [meetP]
 dsimp only
 rw [someI_nat (tidy_ok J hn)]
 exact some_of (tidy_ok J hn) (tidy_of J hn)
theorem impl_meet_no (a b c d e f g h : Nat) (A : OkN a b c d) (B : OkN e f g h) (hm : meetB a b c d e f g h = false) (w : World) :
 Calls Try.prog 62 #[rv a b c d, rv e f g h] w fun ee w' => ee = .returned (.tuple #[rv 1 0 0 0, .bool false]) ∧ Below w.heap.size w w' := by
 by_cases hc : clashN c d g h = 0
 ·refine c_Meet_no4 a b c d e f g h w A B hc (fun w => ?_)
  by_cases hle : max a e ≤ min b f
  ·have J := meet_ok A B hle
   have e1 : decide (max a e ≤ min b f) = true := by simpa using hle
   have e2 : (clashN c d g h == 0) = true := by simpa using hc
   rw [meetB, e2, e1] at hm
   have := c_RangeSome (max a e) (min b f) (c ||| g) (d &&& h) w J
   rw [show someN (max a e) (min b f) (c ||| g) (d &&& h) = false by simpa using hm, show ((max a e : Nat) : Int) = max (a : Int) e by omega, show ((min b f : Nat) : Int) = min (b : Int) f by omega] at this
   exact this
  ·exact c_RangeSome_bad _ _ _ _ w (by simp [okB, inB]; omega)
 ·exact c_Meet_no3 a b c d e f g h w A B hc
theorem impl_meet_yes (a b c d e f g h : Nat) (A : OkN a b c d) (B : OkN e f g h) (hm : meetB a b c d e f g h = true) (w : World) :
 Calls Try.prog 62 #[rv a b c d, rv e f g h] w fun ee w' => ee = .returned (.tuple #[rvP (meetP a b c d e f g h), .bool true]) ∧ Below w.heap.size w w' := by
 obtain ⟨hc, J, hs⟩ := meet_yes A B hm
 exact c_Meet_yes a b c d e f g h w A B hc J hs
end Go.Proofs.Ytkaekiodjjhjkaa.H
namespace Go.Proofs.Ytkaekiodjjhjkaa.H
open Go.RowKit
def Alike2 (V R R' : Int × Int × Int × Int) (q : Bool) : Prop :=
 (q = true ∧ R = V ∧ someP V = true ∧ someP R' = true) ∨ (q = false ∧ (someP R && someP R') = false)
def BothV (op : Int) (hl : Bool) (a b c d e f g h : Int) (V : Int × Int × Int × Int) (q : Bool) : Prop :=
 ∃ (P' R R' : Int × Int × Int × Int),
   (∀ w, Calls Try.prog 47 #[.int .i64 op, rv a b c d, rv e f g h, .bool hl] w fun ee w' => ee = .returned (.tuple #[rvP (if q then V else noP), rvP P', .bool q]) ∧ Below w.heap.size w w') ∧
   (∀ w, Calls Try.prog 44 #[.int .i64 op, rv a b c d, rv e f g h, .bool hl] w fun ee w' => ee = .returned (.tuple #[rvP R, rvP R']) ∧ Below w.heap.size w w') ∧ Alike2 V R R' q
theorem vboth_less (a b c d e f g h : Nat) (A : OkN a b c d) (B : OkN e f g h) : BothV 14 true a b c d e f g h (tidyP a (min b ((f : Int) - 1)) c d) (lowQ a b c d e f g h 1) := by
 have hA := A.le; have hA2 := A.hi; have hB := B.hi
 have I : ∀ w, Calls Try.prog 44 #[.int .i64 14, rv a b c d, rv e f g h, .bool true] w fun ee w' => ee = .returned (.tuple #[rvP (tidyP a (min b (f - 1)) c d), rvP (tidyP (max e (a + 1)) f g h)]) ∧ Below w.heap.size w w' := fun w =>
  w_part_less a b c d e f g h _ _ _ _ _ _ _ _ w (fun w => w_below a b c d e f g h _ _ _ _ _ _ _ _ w (by omega) (by omega) (by omega) (by omega) (fun w => c_RangeTidyI _ _ _ _ w) (fun w => c_RangeTidyI _ _ _ _ w))
 cases hq : lowQ a b c d e f g h 1
 ·refine ⟨noP, _, _, fun w => w_SB_less a b c d e f g h 1 0 0 0 1 0 0 0 false w (fun w => low_no a b c d e f g h 1 (by omega) (by omega) A B hq w), I, .inr ⟨rfl, ?_⟩⟩
  rw [someP, someP, someI_tidy, someI_tidy]; exact hq
 ·refine ⟨_, _, _, fun w => w_SB_less a b c d e f g h _ _ _ _ _ _ _ _ true w (fun w => low_yes a b c d e f g h 1 (by omega) (by omega) A B hq w), I, .inl ⟨rfl, rfl, ?_, ?_⟩⟩
  ·rw [someP, someI_tidy]; unfold lowQ at hq; simp at hq; exact hq.1
  ·rw [someP, someI_tidy]; unfold lowQ at hq; simp at hq; exact hq.2
theorem vboth_more (a b c d e f g h : Nat) (A : OkN a b c d) (B : OkN e f g h) : BothV 15 true a b c d e f g h (tidyP (max a ((e : Int) + 1)) b c d) (lowQ e f g h a b c d 1) := by
 have hA := A.le; have hA2 := A.hi; have hB := B.hi; have hB2 := B.le
 have I : ∀ w, Calls Try.prog 44 #[.int .i64 15, rv a b c d, rv e f g h, .bool true] w fun ee w' => ee = .returned (.tuple #[rvP (tidyP (max a (e + 1)) b c d), rvP (tidyP e (min f (b - 1)) g h)]) ∧ Below w.heap.size w w' := fun w =>
  w_part_more a b c d e f g h true _ _ _ _ _ _ _ _ w (fun w => w_part_less e f g h a b c d _ _ _ _ _ _ _ _ w (fun w => w_below e f g h a b c d _ _ _ _ _ _ _ _ w (by omega) (by omega) (by omega) (by omega) (fun w => c_RangeTidyI _ _ _ _ w) (fun w => c_RangeTidyI _ _ _ _ w)))
 cases hq : lowQ e f g h a b c d 1
 ·refine ⟨noP, _, _, fun w => w_SB_more a b c d e f g h 1 0 0 0 1 0 0 0 false w (fun w => low_no e f g h a b c d 1 (by omega) (by omega) B A hq w), I, .inr ⟨rfl, ?_⟩⟩
  rw [someP, someP, someI_tidy, someI_tidy, Bool.and_comm]; exact hq
 ·refine ⟨_, _, _, fun w => w_SB_more a b c d e f g h _ _ _ _ _ _ _ _ true w (fun w => low_yes e f g h a b c d 1 (by omega) (by omega) B A hq w), I, .inl ⟨rfl, rfl, ?_, ?_⟩⟩
  ·rw [someP, someI_tidy]; unfold lowQ at hq; simp at hq; exact hq.2
  ·rw [someP, someI_tidy]; unfold lowQ at hq; simp at hq; exact hq.1
theorem vboth_notless (a b c d e f g h : Nat) (A : OkN a b c d) (B : OkN e f g h) : BothV 14 false a b c d e f g h (tidyP (max a (e : Int)) b c d) (lowQ e f g h a b c d 0) := by
 have I : ∀ w, Calls Try.prog 44 #[.int .i64 14, rv a b c d, rv e f g h, .bool false] w fun ee w' => ee = .returned (.tuple #[rvP (tidyP (max a e) b c d), rvP (tidyP e (min f b) g h)]) ∧ Below w.heap.size w w' := fun w =>
  w_part_notless a b c d e f g h _ _ _ _ _ _ _ _ w (fun w => w_notBelow a b c d e f g h _ _ _ _ _ _ _ _ w (fun w => c_RangeTidyI _ _ _ _ w) (fun w => c_RangeTidyI _ _ _ _ w))
 cases hq : lowQ e f g h a b c d 0
 ·refine ⟨noP, _, _, fun w => w_SB_notless a b c d e f g h 1 0 0 0 1 0 0 0 false w (fun w => low_no e f g h a b c d 0 (by omega) (by omega) B A hq w), I, .inr ⟨rfl, ?_⟩⟩
  rw [low0] at hq
  rw [someP, someP, someI_tidy, someI_tidy, Bool.and_comm]; exact hq
 ·have L := fun w => low_yes e f g h a b c d 0 (by omega) (by omega) B A hq w
  rw [Int.sub_zero, Int.add_zero] at L
  rw [low0] at hq
  refine ⟨_, _, _, fun w => w_SB_notless a b c d e f g h _ _ _ _ _ _ _ _ true w L, I, .inl ⟨rfl, rfl, ?_, ?_⟩⟩
  ·rw [someP, someI_tidy]; simp at hq; exact hq.2
  ·rw [someP, someI_tidy]; simp at hq; exact hq.1
theorem vboth_notmore (a b c d e f g h : Nat) (A : OkN a b c d) (B : OkN e f g h) : BothV 15 false a b c d e f g h (tidyP a (min b (f : Int)) c d) (lowQ a b c d e f g h 0) := by
 have I : ∀ w, Calls Try.prog 44 #[.int .i64 15, rv a b c d, rv e f g h, .bool false] w fun ee w' => ee = .returned (.tuple #[rvP (tidyP a (min b f) c d), rvP (tidyP (max e a) f g h)]) ∧ Below w.heap.size w w' := fun w =>
  w_part_more a b c d e f g h false _ _ _ _ _ _ _ _ w (fun w => w_part_notless e f g h a b c d _ _ _ _ _ _ _ _ w (fun w => w_notBelow e f g h a b c d _ _ _ _ _ _ _ _ w (fun w => c_RangeTidyI _ _ _ _ w) (fun w => c_RangeTidyI _ _ _ _ w)))
 cases hq : lowQ a b c d e f g h 0
 ·refine ⟨noP, _, _, fun w => w_SB_notmore a b c d e f g h 1 0 0 0 1 0 0 0 false w (fun w => low_no a b c d e f g h 0 (by omega) (by omega) A B hq w), I, .inr ⟨rfl, ?_⟩⟩
  rw [low0] at hq
  rw [someP, someP, someI_tidy, someI_tidy]; exact hq
 ·have L := fun w => low_yes a b c d e f g h 0 (by omega) (by omega) A B hq w
  rw [Int.sub_zero, Int.add_zero] at L
  rw [low0] at hq
  refine ⟨_, _, _, fun w => w_SB_notmore a b c d e f g h _ _ _ _ _ _ _ _ true w L, I, .inl ⟨rfl, rfl, ?_, ?_⟩⟩
  ·rw [someP, someI_tidy]; simp at hq; exact hq.1
  ·rw [someP, someI_tidy]; simp at hq; exact hq.2
theorem vboth_same (a b c d e f g h : Nat) (A : OkN a b c d) (B : OkN e f g h) : BothV 12 true a b c d e f g h (meetP a b c d e f g h) (meetB a b c d e f g h) := by
 cases hm : meetB a b c d e f g h
 ·exact ⟨noP, noP, noP, fun w => w_SB_same a b c d e f g h 1 0 0 0 false w (fun w => c_l2Meet_no a b c d e f g h w A B hm), fun w => w_part_same a b c d e f g h 1 0 0 0 false w (fun w => impl_meet_no a b c d e f g h A B hm w), .inr ⟨rfl, by rw [show someP noP = false from someI_gt (by decide)]; rfl⟩⟩
 ·exact ⟨meetP a b c d e f g h, meetP a b c d e f g h, meetP a b c d e f g h, fun w => w_SB_same a b c d e f g h _ _ _ _ true w (fun w => c_l2Meet_yes a b c d e f g h w A B hm), fun w => w_part_same a b c d e f g h _ _ _ _ true w (fun w => impl_meet_yes a b c d e f g h A B hm w), .inl ⟨rfl, rfl, someP_meet A B hm, someP_meet A B hm⟩⟩
theorem vboth_same2 (a b c d e f g h : Nat) (A : OkN a b c d) (B : OkN e f g h) : BothV 13 false a b c d e f g h (meetP a b c d e f g h) (meetB a b c d e f g h) := by
 cases hm : meetB a b c d e f g h
 ·exact ⟨noP, noP, noP, fun w => w_SB_same2 a b c d e f g h 1 0 0 0 false w (fun w => c_l2Meet_no a b c d e f g h w A B hm), fun w => w_part_same2 a b c d e f g h 1 0 0 0 false w (fun w => impl_meet_no a b c d e f g h A B hm w), .inr ⟨rfl, by rw [show someP noP = false from someI_gt (by decide)]; rfl⟩⟩
 ·exact ⟨meetP a b c d e f g h, meetP a b c d e f g h, meetP a b c d e f g h, fun w => w_SB_same2 a b c d e f g h _ _ _ _ true w (fun w => c_l2Meet_yes a b c d e f g h w A B hm), fun w => w_part_same2 a b c d e f g h _ _ _ _ true w (fun w => impl_meet_yes a b c d e f g h A B hm w), .inl ⟨rfl, rfl, someP_meet A B hm, someP_meet A B hm⟩⟩
theorem vboth_other (a b c d e f g h : Nat) (A : OkN a b c d) (B : OkN e f g h) (hA : someN a b c d = true) (hB : someN e f g h = true) : BothV 12 false a b c d e f g h (apartP a b c d e f) ((apartB a b c d e f && apartB e f g h a b)) := by
 have S1 := fun w => apart_spec a b c d e f g h A B hA w
 have S2 := fun w => apart_spec e f g h a b c d B A hB w
 have I := fun w => w_part_other a b c d e f g h _ _ _ _ _ _ _ _ w (fun w => without_c a b c d e f g h A B w) (fun w => without_c e f g h a b c d B A w)
 cases q1 : apartB a b c d e f
 ·rw [q1] at S1
  exact ⟨noP, _, _, fun w => w_SB_other_no1 a b c d e f g h _ _ _ _ _ _ _ _ _ w S1 S2, I, .inr ⟨rfl, by rw [show someP (apartP a b c d e f) = false from q1]; rfl⟩⟩
 ·rw [q1] at S1
  cases q2 : apartB e f g h a b
  ·rw [q2] at S2
   exact ⟨noP, _, _, fun w => w_SB_other_no2 a b c d e f g h _ _ _ _ _ _ _ _ w S1 S2, I, .inr ⟨rfl, by rw [show someP (apartP e f g h a b) = false from q2]; simp⟩⟩
  ·rw [q2] at S2
   exact ⟨_, _, _, fun w => w_SB_other_yes a b c d e f g h _ _ _ _ _ _ _ _ w S1 S2, I, .inl ⟨rfl, rfl, q1, q2⟩⟩
theorem vboth_other2 (a b c d e f g h : Nat) (A : OkN a b c d) (B : OkN e f g h) (hA : someN a b c d = true) (hB : someN e f g h = true) : BothV 13 true a b c d e f g h (apartP a b c d e f) ((apartB a b c d e f && apartB e f g h a b)) := by
 have S1 := fun w => apart_spec a b c d e f g h A B hA w
 have S2 := fun w => apart_spec e f g h a b c d B A hB w
 have I := fun w => w_part_other2 a b c d e f g h _ _ _ _ _ _ _ _ w (fun w => without_c a b c d e f g h A B w) (fun w => without_c e f g h a b c d B A w)
 cases q1 : apartB a b c d e f
 ·rw [q1] at S1
  exact ⟨noP, _, _, fun w => w_SB_other2_no1 a b c d e f g h _ _ _ _ _ _ _ _ _ w S1 S2, I, .inr ⟨rfl, by rw [show someP (apartP a b c d e f) = false from q1]; rfl⟩⟩
 ·rw [q1] at S1
  cases q2 : apartB e f g h a b
  ·rw [q2] at S2
   exact ⟨noP, _, _, fun w => w_SB_other2_no2 a b c d e f g h _ _ _ _ _ _ _ _ w S1 S2, I, .inr ⟨rfl, by rw [show someP (apartP e f g h a b) = false from q2]; simp⟩⟩
  ·rw [q2] at S2
   exact ⟨_, _, _, fun w => w_SB_other2_yes a b c d e f g h _ _ _ _ _ _ _ _ w S1 S2, I, .inl ⟨rfl, rfl, q1, q2⟩⟩
end Go.Proofs.Ytkaekiodjjhjkaa.H
