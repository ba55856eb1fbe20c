/- Contracts: a number of figures, by the specification (a try of strings). -/
import Derived.Test.YtkaekiodjjhjkaaDoorMX0
namespace Go.Proofs.YtkaekiodjjhjkaaDoor
open Go.RowKit
set_option linter.unusedVariables false
set_option linter.unusedSimpArgs false
theorem c_l1Num (s : ByteArray) (w : World) (hs : s.size ≤ 1048576) :
    Calls Tryd.prog 45 #[.string (s)] w fun e w' => e = .returned (.int .i64 (numM s)) ∧ Below w.heap.size w w' := by
  refine calls_begin Tryd.func45 rfl 47 rfl (Nat.le_of_ble_eq_true rfl) [(0, .string (s))] ⟨rfl, trivial⟩ (fun a0 he0 hm0 => ?_)
  refine wp_seqR ?_
  refine wl_val he0 rfl rfl (.int .i64 (0)) (rn_move _ (Or.inr rfl) _ rfl) (fun a1 he1 => ?_)
  clear he0
  refine wl_end ?_
  refine wp_seqR ?_
  refine wl_val he1 rfl rfl (.int .i64 (0)) (rn_move _ (Or.inr rfl) _ rfl) (fun a2 he2 => ?_)
  clear he1
  refine wl_end ?_
  refine wp_seq ?_
  refine wp_seqR ?_
  refine wl_val he2 rfl rfl (.int .i64 (0)) (rn_move _ (Or.inr rfl) _ rfl) (fun a3 he3 => ?_)
  clear he2
  refine wl_end ?_
  refine wp_block ?_
  refine wp_loopN (fun mz az wz => ∃ (i : Nat), mz = s.size - (i) ∧ (i ≤ s.size ∧ i ≤ 10 ∧ figs s (i)) ∧ EV az 47 [] [(0, .string (s)), (4, .int .i64 (((i : Nat) : Int))), (3, .int .i64 (((numV s (i) : Nat) : Int)))] ∧ MM [] w wz []) ⟨_, 0, rfl, ⟨by omega, by omega, fun j hj => by omega⟩, he3.sub _ ⟨rfl, rfl, rfl, trivial⟩, hm0.sub _ trivial⟩ ?_
  rintro mz1 a4 w1 ⟨i, rfl, hrel1, he4, hm1⟩
  clear he3 hm0
  obtain ⟨hra, hrb, hrc⟩ := hrel1
  have hnv := numV_le hrc hrb
  have hrel1 := And.intro hra (And.intro hrb hrc)
  refine wp_seq ?_
  refine wp_seqR ?_
  refine wl_val he4 rfl rfl (.int .i64 (((i : Nat) : Int))) (rn_move _ (Or.inl rfl) _ (he4.tmp 4 _ rfl)) (fun a5 he5 => ?_)
  clear he4
  refine wl_val he5 rfl rfl (.string (s)) (rn_move _ (Or.inl rfl) _ (he5.tmp 0 _ rfl)) (fun a6 he6 => ?_)
  clear he5
  refine wl_val he6 rfl rfl (.int .i64 ((((s).size : Nat) : Int))) (rn_builtin _ _ _ rfl #[.string (s)] (map1 (he6.tmp 6 _ rfl)) (.int .i64 ((((s).size : Nat) : Int))) (by kernel_rfl)) (fun a7 he7 => ?_)
  clear he6
  cases hd1 : (decide (((i : Nat) : Int) < (((s).size : Nat) : Int)))
  ·
   have hd1p := of_decide_eq_false hd1
   refine wl_val he7 rfl rfl (.bool false) (rn_bin _ _ _ _ _ rfl .i64 _ _ (he7.tmp 5 _ rfl) (he7.tmp 7 _ rfl) (.bool (decide (((i : Nat) : Int) < (((s).size : Nat) : Int)))) _ rfl (congrArg Value.bool (hd1))) (fun a8 he8 => ?_)
   clear he7
   refine wl_end ?_
   refine wp_condF (he := he8) rfl ?_
   refine wp_exit ?_
   refine exit_then ?_
   refine exit_then ?_
   refine exit_here ?_
   refine then_normal ?_
   refine wp_seq ?_
   refine wp_seqR ?_
   refine wl_val he8 rfl rfl (.string (s)) (rn_move _ (Or.inl rfl) _ (he8.tmp 0 _ rfl)) (fun a9 he9 => ?_)
   clear he8
   refine wl_val he9 rfl rfl (.int .i64 ((((s).size : Nat) : Int))) (rn_builtin _ _ _ rfl #[.string (s)] (map1 (he9.tmp 33 _ rfl)) (.int .i64 ((((s).size : Nat) : Int))) (by kernel_rfl)) (fun a10 he10 => ?_)
   clear he9
   cases hd2 : (((((s).size : Nat) : Int) == 0))
   ·
    have hd2p : (((s).size : Nat) : Int) ≠ 0 := by simpa using hd2
    refine wl_val he10 rfl rfl (.bool false) (rn_bin _ _ _ _ _ rfl .i64 _ _ (he10.tmp 34 _ rfl) rfl (.bool (((((s).size : Nat) : Int) == 0))) _ rfl (congrArg Value.bool (hd2))) (fun a11 he11 => ?_)
    clear he10
    refine wl_val he11 rfl rfl (.bool false) (rn_move _ (Or.inl rfl) _ (he11.tmp 35 _ rfl)) (fun a12 he12 => ?_)
    clear he11
    refine wl_val he12 rfl (wanted_slot he12 3 false rfl 36 rfl false rfl true rfl) (.string (s)) (rn_move _ (Or.inl rfl) _ (he12.tmp 0 _ rfl)) (fun a13 he13 => ?_)
    clear he12
    refine wl_val he13 rfl (wanted_slot he13 3 false rfl 36 rfl false rfl true rfl) (.int .i64 ((((s).size : Nat) : Int))) (rn_builtin _ _ _ rfl #[.string (s)] (map1 (he13.tmp 37 _ rfl)) (.int .i64 ((((s).size : Nat) : Int))) (by kernel_rfl)) (fun a14 he14 => ?_)
    clear he13
    cases hd3 : (decide ((((s).size : Nat) : Int) > 1))
    ·
     have hd3p := of_decide_eq_false hd3
     refine wl_val he14 rfl (wanted_slot he14 3 false rfl 36 rfl false rfl true rfl) (.bool false) (rn_bin _ _ _ _ _ rfl .i64 _ _ (he14.tmp 38 _ rfl) rfl (.bool (decide ((((s).size : Nat) : Int) > 1))) _ rfl (congrArg Value.bool (hd3))) (fun a15 he15 => ?_)
     clear he14
     refine wl_val he15 rfl (wanted_slot he15 3 false rfl 36 rfl false rfl true rfl) (.bool false) (rn_move _ (Or.inl rfl) _ (he15.tmp 39 _ rfl)) (fun a16 he16 => ?_)
     clear he15
     refine wl_not he16 rfl (wanted_slot he16 7 true rfl 40 rfl false rfl false rfl) (fun a17 he17 => ?_)
     clear he16
     refine wl_not he17 rfl (wanted_slot he17 7 true rfl 40 rfl false rfl false rfl) (fun a18 he18 => ?_)
     clear he17
     refine wl_not he18 rfl (wanted_slot he18 7 true rfl 40 rfl false rfl false rfl) (fun a19 he19 => ?_)
     clear he18
     refine wl_val he19 rfl (wanted_slot he19 3 false rfl 36 rfl false rfl true rfl) (.bool false) (rn_pickF _ _ _ rfl (he19.tmp 40 _ rfl) _ rfl) (fun a20 he20 => ?_)
     clear he19
     refine wl_val he20 rfl rfl (.bool false) (rn_pickF _ _ _ rfl (he20.tmp 36 _ rfl) _ (he20.tmp 44 _ rfl)) (fun a21 he21 => ?_)
     clear he20
     refine wl_end ?_
     refine wp_condF (he := he21) rfl ?_
     refine wp_skip ?_
     refine then_normal ?_
     refine wp_seqR ?_
     refine wl_val he21 rfl rfl (.int .i64 (((numV s (i) : Nat) : Int))) (rn_move _ (Or.inl rfl) _ (he21.tmp 3 _ rfl)) (fun a22 he22 => ?_)
     clear he21
     refine wl_val he22 rfl rfl (.int .i64 (((numV s (i) : Nat) : Int))) (rn_move _ (Or.inr rfl) _ (he22.tmp 46 _ rfl)) (fun a23 he23 => ?_)
     clear he22
     refine wl_end ?_
     refine wp_ret ?_
     exact bodyPost_ret (results_tmp he23 _ Tryd.results45 _ rfl) he23.defers ⟨(by first | rw [numM_bad (i := i) (by omega) (by omega)] | rw [numM_long (by omega)] | rw [numM_none (by omega)] | rw [numM_nought (by omega) (by omega)] | (rw [numM_yes (by rw [show s.size = i by omega]; exact hrc) (by omega) (by omega) (by omega), show s.size = i by omega])), hm1.below⟩
    ·
     have hd3p := of_decide_eq_true hd3
     refine wl_val he14 rfl (wanted_slot he14 3 false rfl 36 rfl false rfl true rfl) (.bool true) (rn_bin _ _ _ _ _ rfl .i64 _ _ (he14.tmp 38 _ rfl) rfl (.bool (decide ((((s).size : Nat) : Int) > 1))) _ rfl (congrArg Value.bool (hd3))) (fun a15 he15 => ?_)
     clear he14
     refine wl_val he15 rfl (wanted_slot he15 3 false rfl 36 rfl false rfl true rfl) (.bool true) (rn_move _ (Or.inl rfl) _ (he15.tmp 39 _ rfl)) (fun a16 he16 => ?_)
     clear he15
     refine wl_val he16 rfl (wanted_slot he16 7 true rfl 40 rfl true rfl true rfl) (.string (s)) (rn_move _ (Or.inl rfl) _ (he16.tmp 0 _ rfl)) (fun a17 he17 => ?_)
     clear he16
     refine wl_val he17 rfl (wanted_slot he17 7 true rfl 40 rfl true rfl true rfl) (.int .u8 (((byteAt (s) (0) : Nat) : Int))) (rn_sbyte _ (by kernel_rfl) _ _ rfl _ (0) (he17.tmp 41 _ rfl) rfl (by omega)) (fun a18 he18 => ?_)
     clear he17
     cases hd4 : ((((byteAt (s) (0) : Nat) : Int) == 48))
     ·
      have hd4p : ((byteAt (s) (0) : Nat) : Int) ≠ 48 := by simpa using hd4
      refine wl_val he18 rfl (wanted_slot he18 7 true rfl 40 rfl true rfl true rfl) (.bool false) (rn_bin _ _ _ _ _ rfl .u8 _ _ (he18.tmp 42 _ rfl) rfl (.bool ((((byteAt (s) (0) : Nat) : Int) == 48))) _ rfl (congrArg Value.bool (hd4))) (fun a19 he19 => ?_)
      clear he18
      refine wl_val he19 rfl (wanted_slot he19 3 false rfl 36 rfl false rfl true rfl) (.bool false) (rn_pickT _ _ _ rfl (he19.tmp 40 _ rfl) _ (he19.tmp 43 _ rfl)) (fun a20 he20 => ?_)
      clear he19
      refine wl_val he20 rfl rfl (.bool false) (rn_pickF _ _ _ rfl (he20.tmp 36 _ rfl) _ (he20.tmp 44 _ rfl)) (fun a21 he21 => ?_)
      clear he20
      refine wl_end ?_
      refine wp_condF (he := he21) rfl ?_
      refine wp_skip ?_
      refine then_normal ?_
      refine wp_seqR ?_
      refine wl_val he21 rfl rfl (.int .i64 (((numV s (i) : Nat) : Int))) (rn_move _ (Or.inl rfl) _ (he21.tmp 3 _ rfl)) (fun a22 he22 => ?_)
      clear he21
      refine wl_val he22 rfl rfl (.int .i64 (((numV s (i) : Nat) : Int))) (rn_move _ (Or.inr rfl) _ (he22.tmp 46 _ rfl)) (fun a23 he23 => ?_)
      clear he22
      refine wl_end ?_
      refine wp_ret ?_
      exact bodyPost_ret (results_tmp he23 _ Tryd.results45 _ rfl) he23.defers ⟨(by first | rw [numM_bad (i := i) (by omega) (by omega)] | rw [numM_long (by omega)] | rw [numM_none (by omega)] | rw [numM_nought (by omega) (by omega)] | (rw [numM_yes (by rw [show s.size = i by omega]; exact hrc) (by omega) (by omega) (by omega), show s.size = i by omega])), hm1.below⟩
     ·
      have hd4p : ((byteAt (s) (0) : Nat) : Int) = 48 := by simpa using hd4
      refine wl_val he18 rfl (wanted_slot he18 7 true rfl 40 rfl true rfl true rfl) (.bool true) (rn_bin _ _ _ _ _ rfl .u8 _ _ (he18.tmp 42 _ rfl) rfl (.bool ((((byteAt (s) (0) : Nat) : Int) == 48))) _ rfl (congrArg Value.bool (hd4))) (fun a19 he19 => ?_)
      clear he18
      refine wl_val he19 rfl (wanted_slot he19 3 false rfl 36 rfl false rfl true rfl) (.bool true) (rn_pickT _ _ _ rfl (he19.tmp 40 _ rfl) _ (he19.tmp 43 _ rfl)) (fun a20 he20 => ?_)
      clear he19
      refine wl_val he20 rfl rfl (.bool true) (rn_pickF _ _ _ rfl (he20.tmp 36 _ rfl) _ (he20.tmp 44 _ rfl)) (fun a21 he21 => ?_)
      clear he20
      refine wl_end ?_
      refine wp_condT (he := he21) rfl ?_
      refine wp_seqR ?_
      refine wl_val he21 rfl rfl (.int .i64 ((-1))) (rn_move _ (Or.inr rfl) _ rfl) (fun a22 he22 => ?_)
      clear he21
      refine wl_end ?_
      refine wp_ret ?_
      refine ret_then ?_
      exact bodyPost_ret (results_tmp he22 _ Tryd.results45 _ rfl) he22.defers ⟨(by first | rw [numM_bad (i := i) (by omega) (by omega)] | rw [numM_long (by omega)] | rw [numM_none (by omega)] | rw [numM_nought (by omega) (by omega)] | (rw [numM_yes (by rw [show s.size = i by omega]; exact hrc) (by omega) (by omega) (by omega), show s.size = i by omega])), hm1.below⟩
   ·
    have hd2p : (((s).size : Nat) : Int) = 0 := by simpa using hd2
    refine wl_val he10 rfl rfl (.bool true) (rn_bin _ _ _ _ _ rfl .i64 _ _ (he10.tmp 34 _ rfl) rfl (.bool (((((s).size : Nat) : Int) == 0))) _ rfl (congrArg Value.bool (hd2))) (fun a11 he11 => ?_)
    clear he10
    refine wl_val he11 rfl rfl (.bool true) (rn_move _ (Or.inl rfl) _ (he11.tmp 35 _ rfl)) (fun a12 he12 => ?_)
    clear he11
    refine wl_not he12 rfl (wanted_slot he12 3 false rfl 36 rfl true rfl false rfl) (fun a13 he13 => ?_)
    clear he12
    refine wl_not he13 rfl (wanted_slot he13 3 false rfl 36 rfl true rfl false rfl) (fun a14 he14 => ?_)
    clear he13
    refine wl_not he14 rfl (wanted_slot he14 3 false rfl 36 rfl true rfl false rfl) (fun a15 he15 => ?_)
    clear he14
    refine wl_not he15 rfl (wanted_slot he15 3 false rfl 36 rfl true rfl false rfl) (fun a16 he16 => ?_)
    clear he15
    refine wl_not he16 rfl (wanted_undef he16 7 true rfl 40 rfl rfl) (fun a17 he17 => ?_)
    clear he16
    refine wl_not he17 rfl (wanted_undef he17 7 true rfl 40 rfl rfl) (fun a18 he18 => ?_)
    clear he17
    refine wl_not he18 rfl (wanted_undef he18 7 true rfl 40 rfl rfl) (fun a19 he19 => ?_)
    clear he18
    refine wl_not he19 rfl (wanted_slot he19 3 false rfl 36 rfl true rfl false rfl) (fun a20 he20 => ?_)
    clear he19
    refine wl_val he20 rfl rfl (.bool true) (rn_pickT _ _ _ rfl (he20.tmp 36 _ rfl) _ rfl) (fun a21 he21 => ?_)
    clear he20
    refine wl_end ?_
    refine wp_condT (he := he21) rfl ?_
    refine wp_seqR ?_
    refine wl_val he21 rfl rfl (.int .i64 ((-1))) (rn_move _ (Or.inr rfl) _ rfl) (fun a22 he22 => ?_)
    clear he21
    refine wl_end ?_
    refine wp_ret ?_
    refine ret_then ?_
    exact bodyPost_ret (results_tmp he22 _ Tryd.results45 _ rfl) he22.defers ⟨(by first | rw [numM_bad (i := i) (by omega) (by omega)] | rw [numM_long (by omega)] | rw [numM_none (by omega)] | rw [numM_nought (by omega) (by omega)] | (rw [numM_yes (by rw [show s.size = i by omega]; exact hrc) (by omega) (by omega) (by omega), show s.size = i by omega])), hm1.below⟩
  ·
   have hd1p := of_decide_eq_true hd1
   refine wl_val he7 rfl rfl (.bool true) (rn_bin _ _ _ _ _ rfl .i64 _ _ (he7.tmp 5 _ rfl) (he7.tmp 7 _ rfl) (.bool (decide (((i : Nat) : Int) < (((s).size : Nat) : Int)))) _ rfl (congrArg Value.bool (hd1))) (fun a8 he8 => ?_)
   clear he7
   refine wl_end ?_
   refine wp_condT (he := he8) rfl ?_
   refine wp_skip ?_
   refine then_normal ?_
   refine wp_seq ?_
   refine wp_block ?_
   refine wp_seq ?_
   refine wp_seqR ?_
   refine wl_val he8 rfl rfl (.string (s)) (rn_move _ (Or.inl rfl) _ (he8.tmp 0 _ rfl)) (fun a9 he9 => ?_)
   clear he8
   refine wl_val he9 rfl rfl (.int .i64 (((i : Nat) : Int))) (rn_move _ (Or.inl rfl) _ (he9.tmp 4 _ rfl)) (fun a10 he10 => ?_)
   clear he9
   refine wl_val he10 rfl rfl (.int .u8 (((byteAt (s) (i) : Nat) : Int))) (rn_sbyte _ (by kernel_rfl) _ _ rfl _ (i) (he10.tmp 11 _ rfl) (he10.tmp 12 _ rfl) (by omega)) (fun a11 he11 => ?_)
   clear he10
   cases hd2 : (decide (((byteAt (s) (i) : Nat) : Int) < 48))
   ·
    have hd2p := of_decide_eq_false hd2
    refine wl_val he11 rfl rfl (.bool false) (rn_bin _ _ _ _ _ rfl .u8 _ _ (he11.tmp 13 _ rfl) rfl (.bool (decide (((byteAt (s) (i) : Nat) : Int) < 48))) _ rfl (congrArg Value.bool (hd2))) (fun a12 he12 => ?_)
    clear he11
    refine wl_val he12 rfl rfl (.bool false) (rn_move _ (Or.inl rfl) _ (he12.tmp 14 _ rfl)) (fun a13 he13 => ?_)
    clear he12
    refine wl_val he13 rfl (wanted_slot he13 4 false rfl 15 rfl false rfl true rfl) (.string (s)) (rn_move _ (Or.inl rfl) _ (he13.tmp 0 _ rfl)) (fun a14 he14 => ?_)
    clear he13
    refine wl_val he14 rfl (wanted_slot he14 4 false rfl 15 rfl false rfl true rfl) (.int .i64 (((i : Nat) : Int))) (rn_move _ (Or.inl rfl) _ (he14.tmp 4 _ rfl)) (fun a15 he15 => ?_)
    clear he14
    refine wl_val he15 rfl (wanted_slot he15 4 false rfl 15 rfl false rfl true rfl) (.int .u8 (((byteAt (s) (i) : Nat) : Int))) (rn_sbyte _ (by kernel_rfl) _ _ rfl _ (i) (he15.tmp 16 _ rfl) (he15.tmp 17 _ rfl) (by omega)) (fun a16 he16 => ?_)
    clear he15
    cases hd3 : (decide (((byteAt (s) (i) : Nat) : Int) > 57))
    ·
     have hd3p := of_decide_eq_false hd3
     refine wl_val he16 rfl (wanted_slot he16 4 false rfl 15 rfl false rfl true rfl) (.bool false) (rn_bin _ _ _ _ _ rfl .u8 _ _ (he16.tmp 18 _ rfl) rfl (.bool (decide (((byteAt (s) (i) : Nat) : Int) > 57))) _ rfl (congrArg Value.bool (hd3))) (fun a17 he17 => ?_)
     clear he16
     refine wl_val he17 rfl rfl (.bool false) (rn_pickF _ _ _ rfl (he17.tmp 15 _ rfl) _ (he17.tmp 19 _ rfl)) (fun a18 he18 => ?_)
     clear he17
     refine wl_val he18 rfl rfl (.bool false) (rn_move _ (Or.inl rfl) _ (he18.tmp 20 _ rfl)) (fun a19 he19 => ?_)
     clear he18
     refine wl_val he19 rfl (wanted_slot he19 10 false rfl 21 rfl false rfl true rfl) (.int .i64 (((i : Nat) : Int))) (rn_move _ (Or.inl rfl) _ (he19.tmp 4 _ rfl)) (fun a20 he20 => ?_)
     clear he19
     cases hd4 : (decide (((i : Nat) : Int) ≥ 10))
     ·
      have hd4p := of_decide_eq_false hd4
      refine wl_val he20 rfl (wanted_slot he20 10 false rfl 21 rfl false rfl true rfl) (.bool false) (rn_bin _ _ _ _ _ rfl .i64 _ _ (he20.tmp 22 _ rfl) rfl (.bool (decide (((i : Nat) : Int) ≥ 10))) _ rfl (congrArg Value.bool (hd4))) (fun a21 he21 => ?_)
      clear he20
      refine wl_val he21 rfl rfl (.bool false) (rn_pickF _ _ _ rfl (he21.tmp 21 _ rfl) _ (he21.tmp 23 _ rfl)) (fun a22 he22 => ?_)
      clear he21
      refine wl_end ?_
      refine wp_condF (he := he22) rfl ?_
      refine wp_skip ?_
      refine then_normal ?_
      refine wp_region_lit ?_
      refine wl_val he22 rfl rfl (.int .i64 (((numV s (i) : Nat) : Int))) (rn_move _ (Or.inl rfl) _ (he22.tmp 3 _ rfl)) (fun a23 he23 => ?_)
      clear he22
      refine wl_val he23 rfl rfl (.int .i64 ((((numV s (i)) * 10 : Nat) : Int))) (rn_bin _ _ _ _ _ rfl .i64 _ _ (he23.tmp 25 _ rfl) rfl (.int .i64 (IntKind.wrap .i64 (((numV s (i) : Nat) : Int) * 10))) _ rfl (mulN (i := numV s (i)) (c := 10) (by omega))) (fun a24 he24 => ?_)
      clear he23
      refine wl_val he24 rfl rfl (.string (s)) (rn_move _ (Or.inl rfl) _ (he24.tmp 0 _ rfl)) (fun a25 he25 => ?_)
      clear he24
      refine wl_val he25 rfl rfl (.int .i64 (((i : Nat) : Int))) (rn_move _ (Or.inl rfl) _ (he25.tmp 4 _ rfl)) (fun a26 he26 => ?_)
      clear he25
      refine wl_val he26 rfl rfl (.int .u8 (((byteAt (s) (i) : Nat) : Int))) (rn_sbyte _ (by kernel_rfl) _ _ rfl _ (i) (he26.tmp 27 _ rfl) (he26.tmp 28 _ rfl) (by omega)) (fun a27 he27 => ?_)
      clear he26
      refine wl_val he27 rfl rfl (.int .u8 ((((byteAt (s) (i)) - 48 : Nat) : Int))) (rn_bin _ _ _ _ _ rfl .u8 _ _ (he27.tmp 29 _ rfl) rfl (.int .u8 (IntKind.wrap .u8 (((byteAt (s) (i) : Nat) : Int) - 48))) _ rfl (subN (i := byteAt (s) (i)) (c := 48) .u8 (by omega) (wrap_u8 (Nat.lt_of_le_of_lt (Nat.sub_le _ _) (byteAt_lt _ _))))) (fun a28 he28 => ?_)
      clear he27
      refine wl_val he28 rfl rfl (.int .i64 ((((byteAt (s) (i)) - 48 : Nat) : Int))) (rn_conv _ _ _ rfl _ (.int .i64 (IntKind.i64.wrap ((((byteAt (s) (i)) - 48 : Nat) : Int)))) _ (he28.tmp 30 _ rfl) (by kernel_rfl) (cvn (n := (byteAt (s) (i)) - 48) (by first | omega | exact Nat.le_trans (Nat.le_of_lt (byteAt_lt _ _)) (by decide)))) (fun a29 he29 => ?_)
      clear he28
      refine wl_val he29 rfl rfl (.int .i64 (((((numV s (i)) * 10) + ((byteAt (s) (i)) - 48) : Nat) : Int))) (rn_bin _ _ _ _ _ rfl .i64 _ _ (he29.tmp 26 _ rfl) (he29.tmp 31 _ rfl) (.int .i64 (IntKind.wrap .i64 ((((numV s (i)) * 10 : Nat) : Int) + (((byteAt (s) (i)) - 48 : Nat) : Int)))) _ rfl (addN (i := (numV s (i)) * 10) (c := (byteAt (s) (i)) - 48) (by omega))) (fun a30 he30 => ?_)
      clear he29
      refine wl_val he30 rfl rfl (.int .i64 (((((numV s (i)) * 10) + ((byteAt (s) (i)) - 48) : Nat) : Int))) (rn_move _ (Or.inr rfl) _ (he30.tmp 32 _ rfl)) (fun a31 he31 => ?_)
      clear he30
      refine wpList_nil ?_
      refine in_normal ?_
      refine then_normal ?_
      refine wp_region_lit ?_
      refine wl_val he31 rfl rfl (.int .i64 (((i : Nat) : Int))) (rn_move _ (Or.inl rfl) _ (he31.tmp 4 _ rfl)) (fun a32 he32 => ?_)
      clear he31
      refine wl_val he32 rfl rfl (.int .i64 (((i + 1 : Nat) : Int))) (rn_bin _ _ _ _ _ rfl .i64 _ _ (he32.tmp 9 _ rfl) rfl (.int .i64 (IntKind.wrap .i64 (((i : Nat) : Int) + 1))) _ rfl (addN (i := i) (c := 1) (by omega))) (fun a33 he33 => ?_)
      clear he32
      refine wl_val he33 rfl rfl (.int .i64 (((i + 1 : Nat) : Int))) (rn_move _ (Or.inr rfl) _ (he33.tmp 10 _ rfl)) (fun a34 he34 => ?_)
      clear he33
      refine wpList_nil ?_
      exact ⟨s.size - (i + 1), by omega, i + 1, rfl, ⟨by omega, by omega, fun j hj => by rcases Nat.lt_or_ge j i with hh | hh; exact hrel1.2.2 j hh; rw [show j = i by omega]; omega⟩, he34.sub _ ⟨rfl, rfl, rfl, trivial⟩, hm1.sub _ trivial⟩
     ·
      have hd4p := of_decide_eq_true hd4
      refine wl_val he20 rfl (wanted_slot he20 10 false rfl 21 rfl false rfl true rfl) (.bool true) (rn_bin _ _ _ _ _ rfl .i64 _ _ (he20.tmp 22 _ rfl) rfl (.bool (decide (((i : Nat) : Int) ≥ 10))) _ rfl (congrArg Value.bool (hd4))) (fun a21 he21 => ?_)
      clear he20
      refine wl_val he21 rfl rfl (.bool true) (rn_pickF _ _ _ rfl (he21.tmp 21 _ rfl) _ (he21.tmp 23 _ rfl)) (fun a22 he22 => ?_)
      clear he21
      refine wl_end ?_
      refine wp_condT (he := he22) rfl ?_
      refine wp_seqR ?_
      refine wl_val he22 rfl rfl (.int .i64 ((-1))) (rn_move _ (Or.inr rfl) _ rfl) (fun a23 he23 => ?_)
      clear he22
      refine wl_end ?_
      refine wp_ret ?_
      refine ret_then ?_
      refine ret_in ?_
      refine ret_then ?_
      refine ret_then ?_
      refine ret_in ?_
      refine ret_then ?_
      exact bodyPost_ret (results_tmp he23 _ Tryd.results45 _ rfl) he23.defers ⟨(by first | rw [numM_bad (i := i) (by omega) (by omega)] | rw [numM_long (by omega)] | rw [numM_none (by omega)] | rw [numM_nought (by omega) (by omega)] | (rw [numM_yes (by rw [show s.size = i by omega]; exact hrc) (by omega) (by omega) (by omega), show s.size = i by omega])), hm1.below⟩
    ·
     have hd3p := of_decide_eq_true hd3
     refine wl_val he16 rfl (wanted_slot he16 4 false rfl 15 rfl false rfl true rfl) (.bool true) (rn_bin _ _ _ _ _ rfl .u8 _ _ (he16.tmp 18 _ rfl) rfl (.bool (decide (((byteAt (s) (i) : Nat) : Int) > 57))) _ rfl (congrArg Value.bool (hd3))) (fun a17 he17 => ?_)
     clear he16
     refine wl_val he17 rfl rfl (.bool true) (rn_pickF _ _ _ rfl (he17.tmp 15 _ rfl) _ (he17.tmp 19 _ rfl)) (fun a18 he18 => ?_)
     clear he17
     refine wl_val he18 rfl rfl (.bool true) (rn_move _ (Or.inl rfl) _ (he18.tmp 20 _ rfl)) (fun a19 he19 => ?_)
     clear he18
     refine wl_not he19 rfl (wanted_slot he19 10 false rfl 21 rfl true rfl false rfl) (fun a20 he20 => ?_)
     clear he19
     refine wl_not he20 rfl (wanted_slot he20 10 false rfl 21 rfl true rfl false rfl) (fun a21 he21 => ?_)
     clear he20
     refine wl_val he21 rfl rfl (.bool true) (rn_pickT _ _ _ rfl (he21.tmp 21 _ rfl) _ rfl) (fun a22 he22 => ?_)
     clear he21
     refine wl_end ?_
     refine wp_condT (he := he22) rfl ?_
     refine wp_seqR ?_
     refine wl_val he22 rfl rfl (.int .i64 ((-1))) (rn_move _ (Or.inr rfl) _ rfl) (fun a23 he23 => ?_)
     clear he22
     refine wl_end ?_
     refine wp_ret ?_
     refine ret_then ?_
     refine ret_in ?_
     refine ret_then ?_
     refine ret_then ?_
     refine ret_in ?_
     refine ret_then ?_
     exact bodyPost_ret (results_tmp he23 _ Tryd.results45 _ rfl) he23.defers ⟨(by first | rw [numM_bad (i := i) (by omega) (by omega)] | rw [numM_long (by omega)] | rw [numM_none (by omega)] | rw [numM_nought (by omega) (by omega)] | (rw [numM_yes (by rw [show s.size = i by omega]; exact hrc) (by omega) (by omega) (by omega), show s.size = i by omega])), hm1.below⟩
   ·
    have hd2p := of_decide_eq_true hd2
    refine wl_val he11 rfl rfl (.bool true) (rn_bin _ _ _ _ _ rfl .u8 _ _ (he11.tmp 13 _ rfl) rfl (.bool (decide (((byteAt (s) (i) : Nat) : Int) < 48))) _ rfl (congrArg Value.bool (hd2))) (fun a12 he12 => ?_)
    clear he11
    refine wl_val he12 rfl rfl (.bool true) (rn_move _ (Or.inl rfl) _ (he12.tmp 14 _ rfl)) (fun a13 he13 => ?_)
    clear he12
    refine wl_not he13 rfl (wanted_slot he13 4 false rfl 15 rfl true rfl false rfl) (fun a14 he14 => ?_)
    clear he13
    refine wl_not he14 rfl (wanted_slot he14 4 false rfl 15 rfl true rfl false rfl) (fun a15 he15 => ?_)
    clear he14
    refine wl_not he15 rfl (wanted_slot he15 4 false rfl 15 rfl true rfl false rfl) (fun a16 he16 => ?_)
    clear he15
    refine wl_not he16 rfl (wanted_slot he16 4 false rfl 15 rfl true rfl false rfl) (fun a17 he17 => ?_)
    clear he16
    refine wl_val he17 rfl rfl (.bool true) (rn_pickT _ _ _ rfl (he17.tmp 15 _ rfl) _ rfl) (fun a18 he18 => ?_)
    clear he17
    refine wl_val he18 rfl rfl (.bool true) (rn_move _ (Or.inl rfl) _ (he18.tmp 20 _ rfl)) (fun a19 he19 => ?_)
    clear he18
    refine wl_not he19 rfl (wanted_slot he19 10 false rfl 21 rfl true rfl false rfl) (fun a20 he20 => ?_)
    clear he19
    refine wl_not he20 rfl (wanted_slot he20 10 false rfl 21 rfl true rfl false rfl) (fun a21 he21 => ?_)
    clear he20
    refine wl_val he21 rfl rfl (.bool true) (rn_pickT _ _ _ rfl (he21.tmp 21 _ rfl) _ rfl) (fun a22 he22 => ?_)
    clear he21
    refine wl_end ?_
    refine wp_condT (he := he22) rfl ?_
    refine wp_seqR ?_
    refine wl_val he22 rfl rfl (.int .i64 ((-1))) (rn_move _ (Or.inr rfl) _ rfl) (fun a23 he23 => ?_)
    clear he22
    refine wl_end ?_
    refine wp_ret ?_
    refine ret_then ?_
    refine ret_in ?_
    refine ret_then ?_
    refine ret_then ?_
    refine ret_in ?_
    refine ret_then ?_
    exact bodyPost_ret (results_tmp he23 _ Tryd.results45 _ rfl) he23.defers ⟨(by first | rw [numM_bad (i := i) (by omega) (by omega)] | rw [numM_long (by omega)] | rw [numM_none (by omega)] | rw [numM_nought (by omega) (by omega)] | (rw [numM_yes (by rw [show s.size = i by omega]; exact hrc) (by omega) (by omega) (by omega), show s.size = i by omega])), hm1.below⟩
end Go.Proofs.YtkaekiodjjhjkaaDoor
