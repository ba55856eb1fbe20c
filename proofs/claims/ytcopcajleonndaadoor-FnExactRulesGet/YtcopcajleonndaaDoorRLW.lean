/- What the laws of rules share. -/
import Derived.Test.YtcopcajleonndaaDoorWJ
import Derived.Test.YtcopcajleonndaaDoorWO
namespace Go.Proofs.YtcopcajleonndaaDoor
open Go.RowKit
set_option linter.unusedVariables false
set_option linter.unusedSimpArgs false
def szN (n : Nat) : Int := if decide ((1048576 - ((n : Nat) : Int)) < 0) then -1 else (1048576 - ((n : Nat) : Int))
theorem szN_ge {n : Nat} (h : ¬ szN n < 0) : n ≤ 1048576 := by
  unfold szN at h; split at h <;> simp at h <;> omega
theorem eqRus_same (f : Nat → Ru) (n : Nat) : eqRus f f n n = true := eqRus_yes rfl fun i hi => eqRu_iff.2 rfl
theorem c_sz (a : Option Addr) (n c : Nat) (w : World) (hn : n ≤ 9223372036854775807) :
    Calls Tryd.prog 5 #[.slice (a) (n) (c), .int .i64 (1048576)] w fun e w' => e = .returned (.int .i64 (szN n)) ∧ Below w.heap.size w w' := by
  refine calls_begin Tryd.func5 rfl 12 rfl (Nat.le_of_ble_eq_true rfl) [(0, .slice (a) (n) (c)), (1, .int .i64 (1048576))] ⟨rfl, rfl, trivial⟩ (fun a0 he0 hm0 => ?_)
  refine wp_seqR ?_
  refine wl_val he0 rfl rfl (.int .i64 (0)) (rn_move _ (Or.inr rfl) _ rfl) (fun a1 he1 => ?_)
  clear he0
  refine wl_end ?_
  refine wp_seqR ?_
  refine wl_val he1 rfl rfl (.int .i64 (1048576)) (rn_move _ (Or.inl rfl) _ (he1.tmp 1 _ rfl)) (fun a2 he2 => ?_)
  clear he1
  refine wl_val he2 rfl rfl (.slice (a) (n) (c)) (rn_move _ (Or.inl rfl) _ (he2.tmp 0 _ rfl)) (fun a3 he3 => ?_)
  clear he2
  refine wl_val he3 rfl rfl (.int .i64 (((n : Nat) : Int))) (rn_builtin _ _ _ rfl #[.slice (a) (n) (c)] (map1 (he3.tmp 6 _ rfl)) (.int .i64 (((n : Nat) : Int))) (by kernel_rfl)) (fun a4 he4 => ?_)
  clear he3
  refine wl_val he4 rfl rfl (.int .i64 ((1048576 - ((n : Nat) : Int)))) (rn_bin _ _ _ _ _ rfl .i64 _ _ (he4.tmp 5 _ rfl) (he4.tmp 7 _ rfl) (.int .i64 (IntKind.wrap .i64 (1048576 - ((n : Nat) : Int)))) _ rfl (subw (by omega) (by omega))) (fun a5 he5 => ?_)
  clear he4
  refine wl_val he5 rfl rfl (.int .i64 ((1048576 - ((n : Nat) : Int)))) (rn_move _ (Or.inr rfl) _ (he5.tmp 8 _ rfl)) (fun a6 he6 => ?_)
  clear he5
  refine wl_end ?_
  refine wp_seq ?_
  refine wp_seqR ?_
  refine wl_val he6 rfl rfl (.int .i64 ((1048576 - ((n : Nat) : Int)))) (rn_move _ (Or.inl rfl) _ (he6.tmp 1 _ rfl)) (fun a7 he7 => ?_)
  clear he6
  cases hd1 : (decide ((1048576 - ((n : Nat) : Int)) < 0))
  · have hd1p := of_decide_eq_false hd1
    refine wl_val he7 rfl rfl (.bool false) (rn_bin _ _ _ _ _ rfl .i64 _ _ (he7.tmp 9 _ rfl) rfl (.bool (decide ((1048576 - ((n : Nat) : Int)) < 0))) _ rfl (congrArg Value.bool (hd1))) (fun a8 he8 => ?_)
    clear he7
    refine wl_end ?_
    refine wp_condF (he := he8) rfl ?_
    refine wp_skip ?_
    refine then_normal ?_
    refine wp_seqR ?_
    refine wl_val he8 rfl rfl (.int .i64 ((1048576 - ((n : Nat) : Int)))) (rn_move _ (Or.inl rfl) _ (he8.tmp 1 _ rfl)) (fun a9 he9 => ?_)
    clear he8
    refine wl_val he9 rfl rfl (.int .i64 ((1048576 - ((n : Nat) : Int)))) (rn_move _ (Or.inr rfl) _ (he9.tmp 11 _ rfl)) (fun a10 he10 => ?_)
    clear he9
    refine wl_end ?_
    refine wp_ret ?_
    exact bodyPost_ret (results_tmp he10 _ Tryd.results5 _ rfl) he10.defers ⟨(by simp only [szN, hd1, Bool.false_eq_true, if_false, if_true]), hm0.below⟩
  · have hd1p := of_decide_eq_true hd1
    refine wl_val he7 rfl rfl (.bool true) (rn_bin _ _ _ _ _ rfl .i64 _ _ (he7.tmp 9 _ rfl) rfl (.bool (decide ((1048576 - ((n : Nat) : Int)) < 0))) _ rfl (congrArg Value.bool (hd1))) (fun a8 he8 => ?_)
    clear he7
    refine wl_end ?_
    refine wp_condT (he := he8) rfl ?_
    refine wp_seqR ?_
    refine wl_val he8 rfl rfl (.int .i64 ((-1))) (rn_move _ (Or.inr rfl) _ rfl) (fun a9 he9 => ?_)
    clear he8
    refine wl_end ?_
    refine wp_ret ?_
    refine ret_then ?_
    exact bodyPost_ret (results_tmp he9 _ Tryd.results5 _ rfl) he9.defers ⟨(by simp only [szN, hd1, Bool.false_eq_true, if_false, if_true]), hm0.below⟩
theorem c_toRuleS0 (f : Nat → Ru) (a : Option Addr) (c : Nat) (w : World)  :
    Calls Tryd.prog 7 #[.slice (a) (0) (c)] w fun e w' => NewRow w (fun (_ : Array Value) b => .slice (some ⟨b, 0, none⟩) 0 0) 36 (fun cur => cur) (fun cur => RuRow cur f 0) e w' := by
  refine calls_begin Tryd.func7 rfl 23 rfl (Nat.le_of_ble_eq_true rfl) [(0, .slice (a) (0) (c))] ⟨rfl, trivial⟩ (fun a0 he0 hm0 => ?_)
  refine wp_seqR ?_
  refine wl_val he0 rfl rfl (.slice none 0 0) (rn_move _ (Or.inr rfl) _ rfl) (fun a1 he1 => ?_)
  clear he0
  refine wl_end ?_
  refine wp_seqR ?_
  refine wl_val he1 rfl rfl (.slice (a) (0) (c)) (rn_move _ (Or.inl rfl) _ (he1.tmp 0 _ rfl)) (fun a2 he2 => ?_)
  clear he1
  refine wl_val he2 rfl rfl (.int .i64 (0)) (rn_builtin _ _ _ rfl #[.slice (a) (0) (c)] (map1 (he2.tmp 5 _ rfl)) (.int .i64 (0)) (by kernel_rfl)) (fun a3 he3 => ?_)
  clear he2
  refine wl_make he3 hm0 1 rfl rfl rfl _ _ _ rfl el36 (0) (he3.tmp 6 _ rfl) (he3.tmp 6 _ rfl) (by omega) (by simp only [maxLen]; omega) (fun a4 w1 b1 he4 hm1 => ?_)
  clear he3 hm0
  refine wl_val he4 rfl rfl (.slice (some ⟨b1, 0, none⟩) (0) (0)) (rn_move _ (Or.inr rfl) _ (he4.tmp 7 _ rfl)) (fun a5 he5 => ?_)
  clear he4
  refine wl_end ?_
  refine wp_seq ?_
  refine wp_seqR ?_
  refine wl_val he5 rfl rfl (.int .i64 (0)) (rn_move _ (Or.inr rfl) _ rfl) (fun a6 he6 => ?_)
  clear he5
  refine wl_end ?_
  refine wp_block ?_
  refine wp_loop_rounds 1 ?_
  rw [rounds_succ]
  refine wp_seq ?_
  refine wp_seqR ?_
  refine wl_val he6 rfl rfl (.int .i64 (0)) (rn_move _ (Or.inl rfl) _ (he6.tmp 4 _ rfl)) (fun a7 he7 => ?_)
  clear he6
  refine wl_val he7 rfl rfl (.slice (a) (0) (c)) (rn_move _ (Or.inl rfl) _ (he7.tmp 0 _ rfl)) (fun a8 he8 => ?_)
  clear he7
  refine wl_val he8 rfl rfl (.int .i64 (0)) (rn_builtin _ _ _ rfl #[.slice (a) (0) (c)] (map1 (he8.tmp 9 _ rfl)) (.int .i64 (0)) (by kernel_rfl)) (fun a9 he9 => ?_)
  clear he8
  refine wl_val he9 rfl rfl (.bool false) (rn_bin _ _ _ _ _ rfl .i64 _ _ (he9.tmp 8 _ rfl) (he9.tmp 10 _ rfl) (.bool (decide (0 < 0))) _ rfl (congrArg Value.bool (rfl))) (fun a10 he10 => ?_)
  clear he9
  refine wl_end ?_
  refine wp_condF (he := he10) rfl ?_
  refine wp_exit ?_
  refine exit_then ?_
  refine exit_then ?_
  refine exit_here ?_
  refine then_normal ?_
  refine wp_seqR ?_
  refine wl_val he10 rfl rfl (.slice (some ⟨b1, 0, none⟩) (0) (0)) (rn_move _ (Or.inl rfl) _ (he10.tmp 3 _ rfl)) (fun a11 he11 => ?_)
  clear he10
  refine wl_val he11 rfl rfl (.slice (some ⟨b1, 0, none⟩) (0) (0)) (rn_move _ (Or.inr rfl) _ (he11.tmp 22 _ rfl)) (fun a12 he12 => ?_)
  clear he11
  refine wl_end ?_
  refine wp_ret ?_
  exact bodyPost_ret (results_tmp he12 _ Tryd.results7 _ rfl) he12.defers ⟨madeCells (Value.cells (.agg #[.int .i64 0, .int .i64 0, .int .i64 0, .int .i64 0, .int .i64 0])) (0 * 5), _, rfl, hm1.bx 1 _ _ _ _ rfl, fun i hi => absurd hi (Nat.not_lt_zero _), by have := hm1.own 1 _ rfl rfl; simpa using this, hm1.below⟩
end Go.Proofs.YtcopcajleonndaaDoor
