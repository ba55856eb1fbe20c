/- Rules, none of them, by the program: ok, and written. -/
import Derived.Test.YtkaekiodjjhjkaaDoorPU
import Derived.Test.YtkaekiodjjhjkaaDoorRLW
namespace Go.Proofs.YtkaekiodjjhjkaaDoor
open Go.RowKit
set_option linter.unusedVariables false
set_option linter.unusedSimpArgs false
theorem c_Oks0 (a : Option Addr) (c : Nat) (w : World)  :
    Calls Tryd.prog 8 #[.slice (a) (0) (c)] w fun e w' => e = .returned (.bool true) ∧ Below w.heap.size w w' := by
  refine calls_begin Tryd.func8 rfl 18 rfl (Nat.le_of_ble_eq_true rfl) [(0, .slice (a) (0) (c))] ⟨rfl, trivial⟩ (fun a0 he0 hm0 => ?_)
  refine wp_seqR ?_
  refine wl_val he0 rfl rfl (.bool false) (rn_move _ (Or.inr rfl) _ rfl) (fun a1 he1 => ?_)
  clear he0
  refine wl_end ?_
  refine wp_seq ?_
  refine wp_seqR ?_
  refine wl_val he1 rfl rfl (.slice (a) (0) (c)) (rn_move _ (Or.inl rfl) _ (he1.tmp 0 _ rfl)) (fun a2 he2 => ?_)
  clear he1
  refine wl_val he2 rfl rfl (.int .i64 (0)) (rn_builtin _ _ _ rfl #[.slice (a) (0) (c)] (map1 (he2.tmp 5 _ rfl)) (.int .i64 (0)) (by kernel_rfl)) (fun a3 he3 => ?_)
  clear he2
  refine wl_val he3 rfl rfl (.int .i64 (0)) (rn_move _ (Or.inl rfl) _ rfl) (fun a4 he4 => ?_)
  clear he3
  refine wl_end ?_
  refine wp_block ?_
  refine wp_loop_rounds 1 ?_
  rw [rounds_succ]
  refine wp_seqR ?_
  refine wl_val he4 rfl rfl (.bool false) (rn_bin _ _ _ _ _ rfl .i64 _ _ (he4.tmp 7 _ rfl) (he4.tmp 6 _ rfl) (.bool (decide (0 < 0))) _ rfl (congrArg Value.bool (rfl))) (fun a5 he5 => ?_)
  clear he4
  refine wl_end ?_
  refine wp_seq ?_
  refine wp_condF (he := he5) rfl ?_
  refine wp_exit ?_
  refine exit_then ?_
  refine exit_then ?_
  refine exit_here ?_
  refine then_normal ?_
  refine wp_seqR ?_
  refine wl_val he5 rfl rfl (.slice (a) (0) (c)) (rn_move _ (Or.inl rfl) _ (he5.tmp 0 _ rfl)) (fun a6 he6 => ?_)
  clear he5
  refine wl_val he6 rfl rfl (.int .i64 (0)) (rn_builtin _ _ _ rfl #[.slice (a) (0) (c)] (map1 (he6.tmp 15 _ rfl)) (.int .i64 (0)) (by kernel_rfl)) (fun a7 he7 => ?_)
  clear he6
  refine wl_val he7 rfl rfl (.bool true) (rn_bin _ _ _ _ _ rfl .i64 _ _ (he7.tmp 16 _ rfl) rfl (.bool (decide (0 ≤ 6))) _ rfl (congrArg Value.bool (rfl))) (fun a8 he8 => ?_)
  clear he7
  refine wl_val he8 rfl rfl (.bool true) (rn_move _ (Or.inr rfl) _ (he8.tmp 17 _ rfl)) (fun a9 he9 => ?_)
  clear he8
  refine wl_end ?_
  refine wp_ret ?_
  exact bodyPost_ret (results_tmp he9 _ Tryd.results8 _ rfl) he9.defers ⟨rfl, hm0.below⟩
theorem c_iput0 (a : Option Addr) (c : Nat) (w : World)  :
    Calls Tryd.prog 6 #[.slice (a) (0) (c)] w fun e w' => e = .returned (.string ⟨#[]⟩) ∧ Below w.heap.size w w' := by
  refine calls_begin Tryd.func6 rfl 22 rfl (Nat.le_of_ble_eq_true rfl) [(0, .slice (a) (0) (c))] ⟨rfl, trivial⟩ (fun a0 he0 hm0 => ?_)
  refine wp_seqR ?_
  refine wl_val he0 rfl rfl (.string (⟨#[]⟩)) (rn_move _ (Or.inr rfl) _ rfl) (fun a1 he1 => ?_)
  clear he0
  refine wl_end ?_
  refine wp_seq ?_
  refine wp_seqR ?_
  refine wl_val he1 rfl rfl (.slice (a) (0) (c)) (rn_move _ (Or.inl rfl) _ (he1.tmp 0 _ rfl)) (fun a2 he2 => ?_)
  clear he1
  refine wl_call he2 hm0 rfl rfl _ #[.slice (a) (0) (c)] (enter_call _ _ _ rfl 8 #[] #[] rfl #[.slice (a) (0) (c)] (map1 (he2.tmp 6 _ rfl)) #[.slice (a) (0) (c)] rfl (fun _ _ => by kernel_rfl)) (.bool true) (c_Oks0 a c _) (fun a3 w1 he3 hm1 => ?_)
  clear he2 hm0
  refine wl_val he3 rfl rfl (.bool false) (rn_un _ _ _ rfl _ (.bool (!true)) _ (he3.tmp 7 _ rfl) rfl rfl) (fun a4 he4 => ?_)
  clear he3
  refine wl_end ?_
  refine wp_condF (he := he4) rfl ?_
  refine wp_skip ?_
  refine then_normal ?_
  refine wp_seqR ?_
  refine wl_val he4 rfl rfl (.string (⟨#[]⟩)) (rn_move _ (Or.inr rfl) _ rfl) (fun a5 he5 => ?_)
  clear he4
  refine wl_end ?_
  refine wp_seq ?_
  refine wp_seqR ?_
  refine wl_val he5 rfl rfl (.slice (a) (0) (c)) (rn_move _ (Or.inl rfl) _ (he5.tmp 0 _ rfl)) (fun a6 he6 => ?_)
  clear he5
  refine wl_val he6 rfl rfl (.int .i64 (0)) (rn_builtin _ _ _ rfl #[.slice (a) (0) (c)] (map1 (he6.tmp 9 _ rfl)) (.int .i64 (0)) (by kernel_rfl)) (fun a7 he7 => ?_)
  clear he6
  refine wl_val he7 rfl rfl (.int .i64 (0)) (rn_move _ (Or.inl rfl) _ rfl) (fun a8 he8 => ?_)
  clear he7
  refine wl_end ?_
  refine wp_block ?_
  refine wp_loop_rounds 1 ?_
  rw [rounds_succ]
  refine wp_seqR ?_
  refine wl_val he8 rfl rfl (.bool false) (rn_bin _ _ _ _ _ rfl .i64 _ _ (he8.tmp 11 _ rfl) (he8.tmp 10 _ rfl) (.bool (decide (0 < 0))) _ rfl (congrArg Value.bool (rfl))) (fun a9 he9 => ?_)
  clear he8
  refine wl_end ?_
  refine wp_seq ?_
  refine wp_condF (he := he9) rfl ?_
  refine wp_exit ?_
  refine exit_then ?_
  refine exit_then ?_
  refine exit_here ?_
  refine then_normal ?_
  refine wp_seqR ?_
  refine wl_val he9 rfl rfl (.string (⟨#[]⟩)) (rn_move _ (Or.inl rfl) _ (he9.tmp 3 _ rfl)) (fun a10 he10 => ?_)
  clear he9
  refine wl_val he10 rfl rfl (.string (⟨#[]⟩)) (rn_move _ (Or.inr rfl) _ (he10.tmp 21 _ rfl)) (fun a11 he11 => ?_)
  clear he10
  refine wl_end ?_
  refine wp_ret ?_
  exact bodyPost_ret (results_tmp he11 _ Tryd.results6 _ rfl) he11.defers ⟨rfl, hm1.below⟩
end Go.Proofs.YtkaekiodjjhjkaaDoor
