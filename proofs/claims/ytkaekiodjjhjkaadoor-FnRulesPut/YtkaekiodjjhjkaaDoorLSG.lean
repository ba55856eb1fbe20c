/- Rules compared, by the laws. -/
import Derived.Test.YtkaekiodjjhjkaaDoorRLW
namespace Go.Proofs.YtkaekiodjjhjkaaDoor
open Go.RowKit
set_option linter.unusedVariables false
set_option linter.unusedSimpArgs false
theorem neqRu (r : Ru) (w : World) : (binOp .neq 36 (.agg r.arr) (.agg r.arr)).run Tryd.prog w = .ok (.bool false) w := by
  obtain ⟨a, b, c, d, e⟩ := r
  show (binOp .neq 36 (.agg #[.int .i64 a, .int .i64 b, .int .i64 c, .int .i64 d, .int .i64 e]) (.agg #[.int .i64 a, .int .i64 b, .int .i64 c, .int .i64 d, .int .i64 e])).run Tryd.prog w = _
  go_simp
theorem gdRu (x y : Operand) (a b : Array Value) (w : World) : (eqGuard .neq 36 x y (.agg a) (.agg b)).run Tryd.prog w = .ok () w := run_eqGuard_agg w .neq _ x y a b Tryd.eqGuardType36
theorem neqBo (x : Bool) (w : World) : (binOp .neq 4 (.bool x) (.bool x)).run Tryd.prog w = .ok (.bool false) w := by cases x <;> kernel_rfl
theorem eqlBo (x : Bool) (w : World) : (binOp .eql 4 (.bool x) (.bool x)).run Tryd.prog w = .ok (.bool true) w := by cases x <;> kernel_rfl
theorem c_sg (f : Nat → Ru) (b p n c b2 p2 c2 : Nat) (w : World) (hR : RowAt w b p n 5 fun i => (f i).arr) (hQ : RowAt w b2 p2 n 5 fun i => (f i).arr) (hn : n ≤ 1048576) :
    Calls Tryd.prog 11 #[.slice (some ⟨b, p, none⟩) (n) (c), .slice (some ⟨b2, p2, none⟩) (n) (c2)] w fun e w' => e = .returned (.bool true) ∧ Below w.heap.size w w' := by
  refine calls_begin Tryd.func11 rfl 26 rfl (Nat.le_of_ble_eq_true rfl) [(0, .slice (some ⟨b, p, none⟩) (n) (c)), (1, .slice (some ⟨b2, p2, none⟩) (n) (c2))] ⟨rfl, rfl, trivial⟩ (fun a0 he0 hm0 => ?_)
  have hnn : (((n : Nat) : Int) != ((n : Nat) : Int)) = false := by simp
  refine wp_seqR ?_
  refine wl_val he0 rfl rfl (.bool false) (rn_move _ (Or.inr rfl) _ rfl) (fun a1 he1 => ?_)
  clear he0
  refine wl_end ?_
  refine wp_seq ?_
  refine wp_seqR ?_
  refine wl_val he1 rfl rfl (.slice (some ⟨b, p, none⟩) (n) (c)) (rn_move _ (Or.inl rfl) _ (he1.tmp 0 _ rfl)) (fun a2 he2 => ?_)
  clear he1
  refine wl_val he2 rfl rfl (.int .i64 (((n : Nat) : Int))) (rn_builtin _ _ _ rfl #[.slice (some ⟨b, p, none⟩) (n) (c)] (map1 (he2.tmp 6 _ rfl)) (.int .i64 (((n : Nat) : Int))) (by kernel_rfl)) (fun a3 he3 => ?_)
  clear he2
  refine wl_val he3 rfl rfl (.slice (some ⟨b2, p2, none⟩) (n) (c2)) (rn_move _ (Or.inl rfl) _ (he3.tmp 1 _ rfl)) (fun a4 he4 => ?_)
  clear he3
  refine wl_val he4 rfl rfl (.int .i64 (((n : Nat) : Int))) (rn_builtin _ _ _ rfl #[.slice (some ⟨b2, p2, none⟩) (n) (c2)] (map1 (he4.tmp 8 _ rfl)) (.int .i64 (((n : Nat) : Int))) (by kernel_rfl)) (fun a5 he5 => ?_)
  clear he4
  refine wl_val he5 rfl rfl (.bool false) (rn_bin _ _ _ _ _ rfl .i64 _ _ (he5.tmp 7 _ rfl) (he5.tmp 9 _ rfl) (.bool ((((n : Nat) : Int) != ((n : Nat) : Int)))) _ rfl (congrArg Value.bool (hnn))) (fun a6 he6 => ?_)
  clear he5
  refine wl_end ?_
  refine wp_condF (he := he6) rfl ?_
  refine wp_skip ?_
  refine then_normal ?_
  refine wp_seq ?_
  refine wp_seqR ?_
  refine wl_val he6 rfl rfl (.int .i64 (0)) (rn_move _ (Or.inr rfl) _ rfl) (fun a7 he7 => ?_)
  clear he6
  refine wl_end ?_
  refine wp_block ?_
  refine wp_loopN (fun mz az wz => ∃ (i : Nat), mz = n - (i) ∧ (i ≤ n) ∧ EV az 26 [] [(0, .slice (some ⟨b, p, none⟩) (n) (c)), (1, .slice (some ⟨b2, p2, none⟩) (n) (c2)), (6, .slice (some ⟨b, p, none⟩) (n) (c)), (7, .int .i64 (((n : Nat) : Int))), (8, .slice (some ⟨b2, p2, none⟩) (n) (c2)), (9, .int .i64 (((n : Nat) : Int))), (10, .bool false), (5, .int .i64 (((i : Nat) : Int)))] ∧ MM [] w wz []) ⟨_, 0, rfl, (Nat.zero_le _), he7.sub _ ⟨rfl, rfl, rfl, rfl, rfl, rfl, rfl, rfl, trivial⟩, hm0.sub _ trivial⟩ ?_
  rintro mz1 a8 w1 ⟨i, rfl, hrel1, he8, hm1⟩
  clear he7 hm0
  refine wp_seq ?_
  refine wp_seqR ?_
  refine wl_val he8 rfl rfl (.int .i64 (((i : Nat) : Int))) (rn_move _ (Or.inl rfl) _ (he8.tmp 5 _ rfl)) (fun a9 he9 => ?_)
  clear he8
  refine wl_val he9 rfl rfl (.slice (some ⟨b, p, none⟩) (n) (c)) (rn_move _ (Or.inl rfl) _ (he9.tmp 0 _ rfl)) (fun a10 he10 => ?_)
  clear he9
  refine wl_val he10 rfl rfl (.int .i64 (((n : Nat) : Int))) (rn_builtin _ _ _ rfl #[.slice (some ⟨b, p, none⟩) (n) (c)] (map1 (he10.tmp 12 _ rfl)) (.int .i64 (((n : Nat) : Int))) (by kernel_rfl)) (fun a11 he11 => ?_)
  clear he10
  cases hd1 : (decide (((i : Nat) : Int) < ((n : Nat) : Int)))
  ·
   have hd1p := of_decide_eq_false hd1
   refine wl_val he11 rfl rfl (.bool false) (rn_bin _ _ _ _ _ rfl .i64 _ _ (he11.tmp 11 _ rfl) (he11.tmp 13 _ rfl) (.bool (decide (((i : Nat) : Int) < ((n : Nat) : Int)))) _ rfl (congrArg Value.bool (hd1))) (fun a12 he12 => ?_)
   clear he11
   refine wl_end ?_
   refine wp_condF (he := he12) rfl ?_
   refine wp_exit ?_
   refine exit_then ?_
   refine exit_then ?_
   refine exit_here ?_
   refine then_normal ?_
   refine wp_seqR ?_
   refine wl_val he12 rfl rfl (.bool true) (rn_move _ (Or.inr rfl) _ rfl) (fun a13 he13 => ?_)
   clear he12
   refine wl_end ?_
   refine wp_ret ?_
   exact bodyPost_ret (results_tmp he13 _ Tryd.results11 _ rfl) he13.defers ⟨rfl, hm1.below⟩
  ·
   have hd1p := of_decide_eq_true hd1
   refine wl_val he11 rfl rfl (.bool true) (rn_bin _ _ _ _ _ rfl .i64 _ _ (he11.tmp 11 _ rfl) (he11.tmp 13 _ rfl) (.bool (decide (((i : Nat) : Int) < ((n : Nat) : Int)))) _ rfl (congrArg Value.bool (hd1))) (fun a12 he12 => ?_)
   clear he11
   refine wl_end ?_
   refine wp_condT (he := he12) rfl ?_
   refine wp_skip ?_
   refine then_normal ?_
   refine wp_seq ?_
   refine wp_block ?_
   refine wp_seq ?_
   refine wh_begin (by kernel_rfl) hm1 [] trivial (fun w2 hm2 => ?_)
   clear hm1
   refine tk (fuel := 8) (i := 0) ?_ he12 hm2 trivial (.slice (some ⟨b, p, none⟩) (n) (c)) ?_ ?_ ?_ ?_ fun a13 he13 => ?_
   rotate_left
   rw [List.getElem?_toArray]; rfl
   exact ⟨by kernel_rfl, by kernel_rfl, by kernel_rfl⟩
   exact ⟨fun _ _ _ _ h => h, rfl, rfl⟩
   exact fun wS hmS => rn_move _ (Or.inl rfl) _ (he12.tmp 0 _ rfl)
   clear he12
   refine tk (fuel := 7) (i := 1) ?_ he13 hm2 trivial (.int .i64 (((i : Nat) : Int))) ?_ ?_ ?_ ?_ fun a14 he14 => ?_
   rotate_left
   rw [List.getElem?_toArray]; rfl
   exact ⟨by kernel_rfl, by kernel_rfl, by kernel_rfl⟩
   exact ⟨fun _ _ _ _ h => h, rfl, rfl⟩
   exact fun wS hmS => rn_move _ (Or.inl rfl) _ (he13.tmp 5 _ rfl)
   clear he13
   refine tk (fuel := 6) (i := 2) ?_ he14 hm2 trivial (.pointer (some ⟨b, p + i * 5, none⟩)) ?_ ?_ ?_ ?_ fun a15 he15 => ?_
   rotate_left
   rw [List.getElem?_toArray]; rfl
   exact ⟨by kernel_rfl, by kernel_rfl, by kernel_rfl⟩
   exact ⟨fun _ _ _ _ h => h, rfl, rfl⟩
   exact fun wS hmS => rn_indexA _ _ _ rfl _ _ (.pointer (some ⟨b, p + i * 5, none⟩)) (he14.tmp 17 _ rfl) (he14.tmp 18 _ rfl) (ixS 36 5 (by kernel_rfl) (fun w => by kernel_rfl) (b) (p) (n) (c) (i) (by omega) _)
   clear he14
   refine tk (fuel := 5) (i := 3) ?_ he15 hm2 trivial (.agg (Ru.arr (f i))) ?_ ?_ ?_ ?_ fun a16 he16 => ?_
   rotate_left
   rw [List.getElem?_toArray]; rfl
   exact ⟨by kernel_rfl, by kernel_rfl, by kernel_rfl⟩
   exact ⟨fun _ _ _ _ h => h, rfl, rfl⟩
   exact fun wS hmS => rn_rowA hmS hR (by simp) (i) (by omega) _ _ rfl (he15.tmp 19 _ rfl) agg36 (by kernel_rfl)
   clear he15
   refine tk (fuel := 4) (i := 4) ?_ he16 hm2 trivial (.slice (some ⟨b2, p2, none⟩) (n) (c2)) ?_ ?_ ?_ ?_ fun a17 he17 => ?_
   rotate_left
   rw [List.getElem?_toArray]; rfl
   exact ⟨by kernel_rfl, by kernel_rfl, by kernel_rfl⟩
   exact ⟨fun _ _ _ _ h => h, rfl, rfl⟩
   exact fun wS hmS => rn_move _ (Or.inl rfl) _ (he16.tmp 1 _ rfl)
   clear he16
   refine tk (fuel := 3) (i := 5) ?_ he17 hm2 trivial (.int .i64 (((i : Nat) : Int))) ?_ ?_ ?_ ?_ fun a18 he18 => ?_
   rotate_left
   rw [List.getElem?_toArray]; rfl
   exact ⟨by kernel_rfl, by kernel_rfl, by kernel_rfl⟩
   exact ⟨fun _ _ _ _ h => h, rfl, rfl⟩
   exact fun wS hmS => rn_move _ (Or.inl rfl) _ (he17.tmp 5 _ rfl)
   clear he17
   refine tk (fuel := 2) (i := 6) ?_ he18 hm2 trivial (.pointer (some ⟨b2, p2 + i * 5, none⟩)) ?_ ?_ ?_ ?_ fun a19 he19 => ?_
   rotate_left
   rw [List.getElem?_toArray]; rfl
   exact ⟨by kernel_rfl, by kernel_rfl, by kernel_rfl⟩
   exact ⟨fun _ _ _ _ h => h, rfl, rfl⟩
   exact fun wS hmS => rn_indexA _ _ _ rfl _ _ (.pointer (some ⟨b2, p2 + i * 5, none⟩)) (he18.tmp 21 _ rfl) (he18.tmp 22 _ rfl) (ixS 36 5 (by kernel_rfl) (fun w => by kernel_rfl) (b2) (p2) (n) (c2) (i) (by omega) _)
   clear he18
   refine tk (fuel := 1) (i := 7) ?_ he19 hm2 trivial (.agg (Ru.arr (f i))) ?_ ?_ ?_ ?_ fun a20 he20 => ?_
   rotate_left
   rw [List.getElem?_toArray]; rfl
   exact ⟨by kernel_rfl, by kernel_rfl, by kernel_rfl⟩
   exact ⟨fun _ _ _ _ h => h, rfl, rfl⟩
   exact fun wS hmS => rn_rowA hmS hQ (by simp) (i) (by omega) _ _ rfl (he19.tmp 23 _ rfl) agg36 (by kernel_rfl)
   clear he19
   refine tk (fuel := 0) (i := 8) ?_ he20 hm2 trivial (.bool false) ?_ ?_ ?_ ?_ fun a21 he21 => ?_
   rotate_left
   rw [List.getElem?_toArray]; rfl
   exact ⟨by kernel_rfl, by kernel_rfl, by kernel_rfl⟩
   exact ⟨fun _ _ _ _ h => h, rfl, rfl⟩
   exact fun wS hmS => rn_binG _ _ _ _ _ rfl _ _ (he20.tmp 20 _ rfl) (he20.tmp 24 _ rfl) _ (gdRu _ _ _ _ _) (neqRu (f i) _)
   clear he20
   refine wpAnyH_done (by kernel_rfl) ?_ _
   refine then_normal ?_
   refine wp_condF (he := he21) rfl ?_
   refine wp_skip ?_
   refine in_normal ?_
   refine then_normal ?_
   refine wp_region_lit ?_
   refine wl_val he21 rfl rfl (.int .i64 (((i : Nat) : Int))) (rn_move _ (Or.inl rfl) _ (he21.tmp 5 _ rfl)) (fun a22 he22 => ?_)
   clear he21
   refine wl_val he22 rfl rfl (.int .i64 (((i + 1 : Nat) : Int))) (rn_bin _ _ _ _ _ rfl .i64 _ _ (he22.tmp 15 _ rfl) rfl (.int .i64 (IntKind.wrap .i64 (((i : Nat) : Int) + 1))) _ rfl (addN (i := i) (c := 1) (by omega))) (fun a23 he23 => ?_)
   clear he22
   refine wl_val he23 rfl rfl (.int .i64 (((i + 1 : Nat) : Int))) (rn_move _ (Or.inr rfl) _ (he23.tmp 16 _ rfl)) (fun a24 he24 => ?_)
   clear he23
   refine wpList_nil ?_
   exact ⟨n - (i + 1), by omega, i + 1, rfl, (by omega), he24.sub _ ⟨rfl, rfl, rfl, rfl, rfl, rfl, rfl, rfl, trivial⟩, hm2.sub _ trivial⟩
theorem c_sg0 (a aq : Option Addr) (c cq : Nat) (w : World)  :
    Calls Tryd.prog 11 #[.slice (a) (0) (c), .slice (aq) (0) (cq)] w fun e w' => e = .returned (.bool true) ∧ Below w.heap.size w w' := by
  refine calls_begin Tryd.func11 rfl 26 rfl (Nat.le_of_ble_eq_true rfl) [(0, .slice (a) (0) (c)), (1, .slice (aq) (0) (cq))] ⟨rfl, rfl, trivial⟩ (fun a0 he0 hm0 => ?_)
  have hnn : ((0 : Int) != 0) = false := rfl
  refine wp_seqR ?_
  refine wl_val he0 rfl rfl (.bool false) (rn_move _ (Or.inr rfl) _ rfl) (fun a1 he1 => ?_)
  clear he0
  refine wl_end ?_
  refine wp_seq ?_
  refine wp_seqR ?_
  refine wl_val he1 rfl rfl (.slice (a) (0) (c)) (rn_move _ (Or.inl rfl) _ (he1.tmp 0 _ rfl)) (fun a2 he2 => ?_)
  clear he1
  refine wl_val he2 rfl rfl (.int .i64 (0)) (rn_builtin _ _ _ rfl #[.slice (a) (0) (c)] (map1 (he2.tmp 6 _ rfl)) (.int .i64 (0)) (by kernel_rfl)) (fun a3 he3 => ?_)
  clear he2
  refine wl_val he3 rfl rfl (.slice (aq) (0) (cq)) (rn_move _ (Or.inl rfl) _ (he3.tmp 1 _ rfl)) (fun a4 he4 => ?_)
  clear he3
  refine wl_val he4 rfl rfl (.int .i64 (0)) (rn_builtin _ _ _ rfl #[.slice (aq) (0) (cq)] (map1 (he4.tmp 8 _ rfl)) (.int .i64 (0)) (by kernel_rfl)) (fun a5 he5 => ?_)
  clear he4
  refine wl_val he5 rfl rfl (.bool false) (rn_bin _ _ _ _ _ rfl .i64 _ _ (he5.tmp 7 _ rfl) (he5.tmp 9 _ rfl) (.bool ((0 != 0))) _ rfl (congrArg Value.bool (rfl))) (fun a6 he6 => ?_)
  clear he5
  refine wl_end ?_
  refine wp_condF (he := he6) rfl ?_
  refine wp_skip ?_
  refine then_normal ?_
  refine wp_seq ?_
  refine wp_seqR ?_
  refine wl_val he6 rfl rfl (.int .i64 (0)) (rn_move _ (Or.inr rfl) _ rfl) (fun a7 he7 => ?_)
  clear he6
  refine wl_end ?_
  refine wp_block ?_
  refine wp_loop_rounds 1 ?_
  rw [rounds_succ]
  refine wp_seq ?_
  refine wp_seqR ?_
  refine wl_val he7 rfl rfl (.int .i64 (0)) (rn_move _ (Or.inl rfl) _ (he7.tmp 5 _ rfl)) (fun a8 he8 => ?_)
  clear he7
  refine wl_val he8 rfl rfl (.slice (a) (0) (c)) (rn_move _ (Or.inl rfl) _ (he8.tmp 0 _ rfl)) (fun a9 he9 => ?_)
  clear he8
  refine wl_val he9 rfl rfl (.int .i64 (0)) (rn_builtin _ _ _ rfl #[.slice (a) (0) (c)] (map1 (he9.tmp 12 _ rfl)) (.int .i64 (0)) (by kernel_rfl)) (fun a10 he10 => ?_)
  clear he9
  refine wl_val he10 rfl rfl (.bool false) (rn_bin _ _ _ _ _ rfl .i64 _ _ (he10.tmp 11 _ rfl) (he10.tmp 13 _ rfl) (.bool (decide (0 < 0))) _ rfl (congrArg Value.bool (rfl))) (fun a11 he11 => ?_)
  clear he10
  refine wl_end ?_
  refine wp_condF (he := he11) rfl ?_
  refine wp_exit ?_
  refine exit_then ?_
  refine exit_then ?_
  refine exit_here ?_
  refine then_normal ?_
  refine wp_seqR ?_
  refine wl_val he11 rfl rfl (.bool true) (rn_move _ (Or.inr rfl) _ rfl) (fun a12 he12 => ?_)
  clear he11
  refine wl_end ?_
  refine wp_ret ?_
  exact bodyPost_ret (results_tmp he12 _ Tryd.results11 _ rfl) he12.defers ⟨rfl, hm0.below⟩
end Go.Proofs.YtkaekiodjjhjkaaDoor
