/- A text looked for among others, by the specification, exactly. -/
import Derived.Test.YtkaekiodjjhjkaaDoorSM
import Derived.Test.YtkaekiodjjhjkaaDoorWF0
namespace Go.Proofs.YtkaekiodjjhjkaaDoor
open Go.RowKit
set_option linter.unusedVariables false
set_option linter.unusedSimpArgs false
theorem c_find (f : Nat → ByteArray) (b p n c : Nat) (s : ByteArray) (w : World) (hR : RowAt w b p n 1 fun i => #[.string (f i)]) (hn : n ≤ 1048576) :
    Calls Tryd.prog 46 #[.slice (some ⟨b, p, none⟩) (n) (c), .string (s)] w fun e w' => e = .returned (.int .i64 (findM f n s)) ∧ Below w.heap.size w w' := by
  refine calls_begin Tryd.func46 rfl 19 rfl (Nat.le_of_ble_eq_true rfl) [(0, .slice (some ⟨b, p, none⟩) (n) (c)), (1, .string (s))] ⟨rfl, rfl, trivial⟩ (fun a0 he0 hm0 => ?_)
  refine wp_seqR ?_
  refine wl_val he0 rfl rfl (.int .i64 (0)) (rn_move _ (Or.inr rfl) _ rfl) (fun a1 he1 => ?_)
  clear he0
  refine wl_end ?_
  refine wp_seq ?_
  refine wp_seqR ?_
  refine wl_val he1 rfl rfl (.int .i64 (0)) (rn_move _ (Or.inr rfl) _ rfl) (fun a2 he2 => ?_)
  clear he1
  refine wl_end ?_
  refine wp_block ?_
  refine wp_loopN (fun mz az wz => ∃ (i : Nat), mz = n - (i) ∧ (i ≤ n ∧ ∀ j, j < i → ((f j).toList == s.toList) = false) ∧ EV az 19 [] [(0, .slice (some ⟨b, p, none⟩) (n) (c)), (1, .string (s)), (5, .int .i64 (((i : Nat) : Int)))] ∧ MM [] w wz []) ⟨_, 0, rfl, ⟨by omega, fun j hj => by omega⟩, he2.sub _ ⟨rfl, rfl, rfl, trivial⟩, hm0.sub _ trivial⟩ ?_
  rintro mz1 a3 w1 ⟨i, rfl, hrel1, he3, hm1⟩
  clear he2 hm0
  have hrel1a := hrel1.1
  refine wp_seq ?_
  refine wp_seqR ?_
  refine wl_val he3 rfl rfl (.int .i64 (((i : Nat) : Int))) (rn_move _ (Or.inl rfl) _ (he3.tmp 5 _ rfl)) (fun a4 he4 => ?_)
  clear he3
  refine wl_val he4 rfl rfl (.slice (some ⟨b, p, none⟩) (n) (c)) (rn_move _ (Or.inl rfl) _ (he4.tmp 0 _ rfl)) (fun a5 he5 => ?_)
  clear he4
  refine wl_val he5 rfl rfl (.int .i64 (((n : Nat) : Int))) (rn_builtin _ _ _ rfl #[.slice (some ⟨b, p, none⟩) (n) (c)] (map1 (he5.tmp 7 _ rfl)) (.int .i64 (((n : Nat) : Int))) (by kernel_rfl)) (fun a6 he6 => ?_)
  clear he5
  cases hd1 : (decide (((i : Nat) : Int) < ((n : Nat) : Int)))
  ·
   have hd1p := of_decide_eq_false hd1
   refine wl_val he6 rfl rfl (.bool false) (rn_bin _ _ _ _ _ rfl .i64 _ _ (he6.tmp 6 _ rfl) (he6.tmp 8 _ rfl) (.bool (decide (((i : Nat) : Int) < ((n : Nat) : Int)))) _ rfl (congrArg Value.bool (hd1))) (fun a7 he7 => ?_)
   clear he6
   refine wl_end ?_
   refine wp_condF (he := he7) rfl ?_
   refine wp_exit ?_
   refine exit_then ?_
   refine exit_then ?_
   refine exit_here ?_
   refine then_normal ?_
   refine wp_seqR ?_
   refine wl_val he7 rfl rfl (.int .i64 ((-1))) (rn_move _ (Or.inr rfl) _ rfl) (fun a8 he8 => ?_)
   clear he7
   refine wl_end ?_
   refine wp_ret ?_
   exact bodyPost_ret (results_tmp he8 _ Tryd.results46 _ rfl) he8.defers ⟨(by first | rw [findM_hit (i := i) (by omega) (by assumption) hrel1.2] | rw [findM_none fun j hj => hrel1.2 j (by omega)]), hm1.below⟩
  ·
   have hd1p := of_decide_eq_true hd1
   refine wl_val he6 rfl rfl (.bool true) (rn_bin _ _ _ _ _ rfl .i64 _ _ (he6.tmp 6 _ rfl) (he6.tmp 8 _ rfl) (.bool (decide (((i : Nat) : Int) < ((n : Nat) : Int)))) _ rfl (congrArg Value.bool (hd1))) (fun a7 he7 => ?_)
   clear he6
   refine wl_end ?_
   refine wp_condT (he := he7) rfl ?_
   refine wp_skip ?_
   refine then_normal ?_
   refine wp_seq ?_
   refine wp_block ?_
   refine wp_seqR ?_
   refine wl_val he7 rfl rfl (.slice (some ⟨b, p, none⟩) (n) (c)) (rn_move _ (Or.inl rfl) _ (he7.tmp 0 _ rfl)) (fun a8 he8 => ?_)
   clear he7
   refine wl_val he8 rfl rfl (.int .i64 (((i : Nat) : Int))) (rn_move _ (Or.inl rfl) _ (he8.tmp 5 _ rfl)) (fun a9 he9 => ?_)
   clear he8
   refine wl_val he9 rfl rfl (.pointer (some ⟨b, p + i * 1, none⟩)) (rn_indexA _ _ _ rfl _ _ (.pointer (some ⟨b, p + i * 1, none⟩)) (he9.tmp 12 _ rfl) (he9.tmp 13 _ rfl) (ixS 9 1 (by kernel_rfl) (fun w => by kernel_rfl) (b) (p) (n) (c) (i) (by omega) _)) (fun a10 he10 => ?_)
   clear he9
   refine wl_val he10 rfl rfl (.string (f i)) (rn_row1 hm1 hR (by simp) (i) (by omega) 0 (by omega) _ _ rfl (he10.tmp 14 _ rfl) one9 _ rfl) (fun a11 he11 => ?_)
   clear he10
   refine wl_val he11 rfl rfl (.string (s)) (rn_move _ (Or.inl rfl) _ (he11.tmp 1 _ rfl)) (fun a12 he12 => ?_)
   clear he11
   cases hd2 : (((f i).toList == (s).toList))
   ·
    have hd2p : (f i).toList ≠ (s).toList := by simpa using hd2
    refine wl_val he12 rfl rfl (.bool false) (rn_seq _ (by simp) _ _ _ _ rfl _ _ (he12.tmp 15 _ rfl) (he12.tmp 16 _ rfl) _ (by simp [hd2])) (fun a13 he13 => ?_)
    clear he12
    refine wl_end ?_
    refine wp_condF (he := he13) rfl ?_
    refine wp_skip ?_
    refine in_normal ?_
    refine then_normal ?_
    refine wp_region_lit ?_
    refine wl_val he13 rfl rfl (.int .i64 (((i : Nat) : Int))) (rn_move _ (Or.inl rfl) _ (he13.tmp 5 _ rfl)) (fun a14 he14 => ?_)
    clear he13
    refine wl_val he14 rfl rfl (.int .i64 (((i + 1 : Nat) : Int))) (rn_bin _ _ _ _ _ rfl .i64 _ _ (he14.tmp 10 _ rfl) rfl (.int .i64 (IntKind.wrap .i64 (((i : Nat) : Int) + 1))) _ rfl (addN (i := i) (c := 1) (by omega))) (fun a15 he15 => ?_)
    clear he14
    refine wl_val he15 rfl rfl (.int .i64 (((i + 1 : Nat) : Int))) (rn_move _ (Or.inr rfl) _ (he15.tmp 11 _ rfl)) (fun a16 he16 => ?_)
    clear he15
    refine wpList_nil ?_
    exact ⟨n - (i + 1), by omega, i + 1, rfl, ⟨by omega, fun j hj => by rcases Nat.lt_or_ge j i with hh | hh; exact hrel1.2 j hh; rw [show j = i by omega]; assumption⟩, he16.sub _ ⟨rfl, rfl, rfl, trivial⟩, hm1.sub _ trivial⟩
   ·
    have hd2p : (f i).toList = (s).toList := by simpa using hd2
    refine wl_val he12 rfl rfl (.bool true) (rn_seq _ (by simp) _ _ _ _ rfl _ _ (he12.tmp 15 _ rfl) (he12.tmp 16 _ rfl) _ (by simp [hd2])) (fun a13 he13 => ?_)
    clear he12
    refine wl_end ?_
    refine wp_condT (he := he13) rfl ?_
    refine wp_seqR ?_
    refine wl_val he13 rfl rfl (.int .i64 (((i : Nat) : Int))) (rn_move _ (Or.inl rfl) _ (he13.tmp 5 _ rfl)) (fun a14 he14 => ?_)
    clear he13
    refine wl_val he14 rfl rfl (.int .i64 (((i : Nat) : Int))) (rn_move _ (Or.inr rfl) _ (he14.tmp 18 _ rfl)) (fun a15 he15 => ?_)
    clear he14
    refine wl_end ?_
    refine wp_ret ?_
    refine ret_in ?_
    refine ret_then ?_
    refine ret_then ?_
    refine ret_in ?_
    refine ret_then ?_
    exact bodyPost_ret (results_tmp he15 _ Tryd.results46 _ rfl) he15.defers ⟨(by first | rw [findM_hit (i := i) (by omega) (by assumption) hrel1.2] | rw [findM_none fun j hj => hrel1.2 j (by omega)]), hm1.below⟩
end Go.Proofs.YtkaekiodjjhjkaaDoor
