/- Rules: when they are ok, by the program. -/
import Derived.Test.YtkaekiodjjhjkaaDoorWJ
namespace Go.Proofs.YtkaekiodjjhjkaaDoor
open Go.RowKit
set_option linter.unusedVariables false
set_option linter.unusedSimpArgs false
theorem inR_place {a n : Int} {x y : Bool} (h1 : decide (a ≥ 0) = x) (h2 : x = true → decide (a < n) = y) (h3 : x = false → y = false) : y = inR a 0 (n - 1) := by
  subst h1
  unfold inR
  cases h : decide (a ≥ 0)
  · rw [h3 h]; rfl
  · rw [← h2 h, Bool.true_and]
    by_cases hq : a < n
    · rw [decide_eq_true hq, decide_eq_true (by omega)]
    · rw [decide_eq_false hq, decide_eq_false (by omega)]
theorem c_place (a n : Int) (w : World)  :
    Calls Tryd.prog 34 #[.int .i64 (a), .int .i64 (n)] w fun e w' => e = .returned (.bool (inR a 0 (n - 1))) ∧ Below w.heap.size w w' := by
  refine calls_begin Tryd.func34 rfl 12 rfl (Nat.le_of_ble_eq_true rfl) [(0, .int .i64 (a)), (1, .int .i64 (n))] ⟨rfl, rfl, trivial⟩ (fun a0 he0 hm0 => ?_)
  refine wp_seqR ?_
  refine wl_val he0 rfl rfl (.bool false) (rn_move _ (Or.inr rfl) _ rfl) (fun a1 he1 => ?_)
  clear he0
  refine wl_end ?_
  refine wp_seqR ?_
  refine wl_val he1 rfl rfl (.int .i64 (a)) (rn_move _ (Or.inl rfl) _ (he1.tmp 0 _ rfl)) (fun a2 he2 => ?_)
  clear he1
  cases hd1 : (decide (a ≥ 0))
  ·
   have hd1p := of_decide_eq_false hd1
   refine wl_val he2 rfl rfl (.bool false) (rn_bin _ _ _ _ _ rfl .i64 _ _ (he2.tmp 5 _ rfl) rfl (.bool (decide (a ≥ 0))) _ rfl (congrArg Value.bool (hd1))) (fun a3 he3 => ?_)
   clear he2
   refine wl_val he3 rfl rfl (.bool false) (rn_move _ (Or.inl rfl) _ (he3.tmp 6 _ rfl)) (fun a4 he4 => ?_)
   clear he3
   refine wl_not he4 rfl (wanted_slot he4 2 true rfl 7 rfl false rfl false rfl) (fun a5 he5 => ?_)
   clear he4
   refine wl_not he5 rfl (wanted_slot he5 2 true rfl 7 rfl false rfl false rfl) (fun a6 he6 => ?_)
   clear he5
   refine wl_not he6 rfl (wanted_slot he6 2 true rfl 7 rfl false rfl false rfl) (fun a7 he7 => ?_)
   clear he6
   refine wl_val he7 rfl rfl (.bool false) (rn_pickF _ _ _ rfl (he7.tmp 7 _ rfl) _ rfl) (fun a8 he8 => ?_)
   clear he7
   refine wl_val he8 rfl rfl (.bool false) (rn_move _ (Or.inr rfl) _ (he8.tmp 11 _ rfl)) (fun a9 he9 => ?_)
   clear he8
   refine wl_end ?_
   refine wp_ret ?_
   exact bodyPost_ret (results_tmp he9 _ Tryd.results34 _ rfl) he9.defers ⟨(by congr 2; exact inR_place hd1 (fun h => by first | exact hd2 | cases h) (fun h => by first | rfl | cases h)), hm0.below⟩
  ·
   have hd1p := of_decide_eq_true hd1
   refine wl_val he2 rfl rfl (.bool true) (rn_bin _ _ _ _ _ rfl .i64 _ _ (he2.tmp 5 _ rfl) rfl (.bool (decide (a ≥ 0))) _ rfl (congrArg Value.bool (hd1))) (fun a3 he3 => ?_)
   clear he2
   refine wl_val he3 rfl rfl (.bool true) (rn_move _ (Or.inl rfl) _ (he3.tmp 6 _ rfl)) (fun a4 he4 => ?_)
   clear he3
   refine wl_val he4 rfl (wanted_slot he4 2 true rfl 7 rfl true rfl true rfl) (.int .i64 (a)) (rn_move _ (Or.inl rfl) _ (he4.tmp 0 _ rfl)) (fun a5 he5 => ?_)
   clear he4
   refine wl_val he5 rfl (wanted_slot he5 2 true rfl 7 rfl true rfl true rfl) (.int .i64 (n)) (rn_move _ (Or.inl rfl) _ (he5.tmp 1 _ rfl)) (fun a6 he6 => ?_)
   clear he5
   cases hd2 : (decide (a < n))
   ·
    have hd2p := of_decide_eq_false hd2
    refine wl_val he6 rfl (wanted_slot he6 2 true rfl 7 rfl true rfl true rfl) (.bool false) (rn_bin _ _ _ _ _ rfl .i64 _ _ (he6.tmp 8 _ rfl) (he6.tmp 9 _ rfl) (.bool (decide (a < n))) _ rfl (congrArg Value.bool (hd2))) (fun a7 he7 => ?_)
    clear he6
    refine wl_val he7 rfl rfl (.bool false) (rn_pickT _ _ _ rfl (he7.tmp 7 _ rfl) _ (he7.tmp 10 _ rfl)) (fun a8 he8 => ?_)
    clear he7
    refine wl_val he8 rfl rfl (.bool false) (rn_move _ (Or.inr rfl) _ (he8.tmp 11 _ rfl)) (fun a9 he9 => ?_)
    clear he8
    refine wl_end ?_
    refine wp_ret ?_
    exact bodyPost_ret (results_tmp he9 _ Tryd.results34 _ rfl) he9.defers ⟨(by congr 2; exact inR_place hd1 (fun h => by first | exact hd2 | cases h) (fun h => by first | rfl | cases h)), hm0.below⟩
   ·
    have hd2p := of_decide_eq_true hd2
    refine wl_val he6 rfl (wanted_slot he6 2 true rfl 7 rfl true rfl true rfl) (.bool true) (rn_bin _ _ _ _ _ rfl .i64 _ _ (he6.tmp 8 _ rfl) (he6.tmp 9 _ rfl) (.bool (decide (a < n))) _ rfl (congrArg Value.bool (hd2))) (fun a7 he7 => ?_)
    clear he6
    refine wl_val he7 rfl rfl (.bool true) (rn_pickT _ _ _ rfl (he7.tmp 7 _ rfl) _ (he7.tmp 10 _ rfl)) (fun a8 he8 => ?_)
    clear he7
    refine wl_val he8 rfl rfl (.bool true) (rn_move _ (Or.inr rfl) _ (he8.tmp 11 _ rfl)) (fun a9 he9 => ?_)
    clear he8
    refine wl_end ?_
    refine wp_ret ?_
    exact bodyPost_ret (results_tmp he9 _ Tryd.results34 _ rfl) he9.defers ⟨(by congr 2; exact inR_place hd1 (fun h => by first | exact hd2 | cases h) (fun h => by first | rfl | cases h)), hm0.below⟩
theorem c_asks (a : Int) (w : World)  :
    Calls Tryd.prog 35 #[.int .i64 (a)] w fun e w' => e = .returned (.bool (inR a 12 15)) ∧ Below w.heap.size w w' := by
  refine calls_begin Tryd.func35 rfl 9 rfl (Nat.le_of_ble_eq_true rfl) [(0, .int .i64 (a))] ⟨rfl, trivial⟩ (fun a0 he0 hm0 => ?_)
  refine wp_seqR ?_
  refine wl_val he0 rfl rfl (.bool false) (rn_move _ (Or.inr rfl) _ rfl) (fun a1 he1 => ?_)
  clear he0
  refine wl_end ?_
  refine wp_seqR ?_
  refine wl_val he1 rfl rfl (.int .i64 (a)) (rn_move _ (Or.inl rfl) _ (he1.tmp 0 _ rfl)) (fun a2 he2 => ?_)
  clear he1
  cases hd1 : (decide (a ≥ 12))
  ·
   have hd1p := of_decide_eq_false hd1
   refine wl_val he2 rfl rfl (.bool false) (rn_bin _ _ _ _ _ rfl .i64 _ _ (he2.tmp 3 _ rfl) rfl (.bool (decide (a ≥ 12))) _ rfl (congrArg Value.bool (hd1))) (fun a3 he3 => ?_)
   clear he2
   refine wl_val he3 rfl rfl (.bool false) (rn_move _ (Or.inl rfl) _ (he3.tmp 4 _ rfl)) (fun a4 he4 => ?_)
   clear he3
   refine wl_not he4 rfl (wanted_slot he4 2 true rfl 5 rfl false rfl false rfl) (fun a5 he5 => ?_)
   clear he4
   refine wl_not he5 rfl (wanted_slot he5 2 true rfl 5 rfl false rfl false rfl) (fun a6 he6 => ?_)
   clear he5
   refine wl_val he6 rfl rfl (.bool false) (rn_pickF _ _ _ rfl (he6.tmp 5 _ rfl) _ rfl) (fun a7 he7 => ?_)
   clear he6
   refine wl_val he7 rfl rfl (.bool false) (rn_move _ (Or.inr rfl) _ (he7.tmp 8 _ rfl)) (fun a8 he8 => ?_)
   clear he7
   refine wl_end ?_
   refine wp_ret ?_
   exact bodyPost_ret (results_tmp he8 _ Tryd.results35 _ rfl) he8.defers ⟨(by simp only [inR, hd1, Bool.false_and, Bool.true_and]), hm0.below⟩
  ·
   have hd1p := of_decide_eq_true hd1
   refine wl_val he2 rfl rfl (.bool true) (rn_bin _ _ _ _ _ rfl .i64 _ _ (he2.tmp 3 _ rfl) rfl (.bool (decide (a ≥ 12))) _ rfl (congrArg Value.bool (hd1))) (fun a3 he3 => ?_)
   clear he2
   refine wl_val he3 rfl rfl (.bool true) (rn_move _ (Or.inl rfl) _ (he3.tmp 4 _ rfl)) (fun a4 he4 => ?_)
   clear he3
   refine wl_val he4 rfl (wanted_slot he4 2 true rfl 5 rfl true rfl true rfl) (.int .i64 (a)) (rn_move _ (Or.inl rfl) _ (he4.tmp 0 _ rfl)) (fun a5 he5 => ?_)
   clear he4
   cases hd2 : (decide (a ≤ 15))
   ·
    have hd2p := of_decide_eq_false hd2
    refine wl_val he5 rfl (wanted_slot he5 2 true rfl 5 rfl true rfl true rfl) (.bool false) (rn_bin _ _ _ _ _ rfl .i64 _ _ (he5.tmp 6 _ rfl) rfl (.bool (decide (a ≤ 15))) _ rfl (congrArg Value.bool (hd2))) (fun a6 he6 => ?_)
    clear he5
    refine wl_val he6 rfl rfl (.bool false) (rn_pickT _ _ _ rfl (he6.tmp 5 _ rfl) _ (he6.tmp 7 _ rfl)) (fun a7 he7 => ?_)
    clear he6
    refine wl_val he7 rfl rfl (.bool false) (rn_move _ (Or.inr rfl) _ (he7.tmp 8 _ rfl)) (fun a8 he8 => ?_)
    clear he7
    refine wl_end ?_
    refine wp_ret ?_
    exact bodyPost_ret (results_tmp he8 _ Tryd.results35 _ rfl) he8.defers ⟨(by simp only [inR, hd1, hd2, Bool.false_and, Bool.true_and]), hm0.below⟩
   ·
    have hd2p := of_decide_eq_true hd2
    refine wl_val he5 rfl (wanted_slot he5 2 true rfl 5 rfl true rfl true rfl) (.bool true) (rn_bin _ _ _ _ _ rfl .i64 _ _ (he5.tmp 6 _ rfl) rfl (.bool (decide (a ≤ 15))) _ rfl (congrArg Value.bool (hd2))) (fun a6 he6 => ?_)
    clear he5
    refine wl_val he6 rfl rfl (.bool true) (rn_pickT _ _ _ rfl (he6.tmp 5 _ rfl) _ (he6.tmp 7 _ rfl)) (fun a7 he7 => ?_)
    clear he6
    refine wl_val he7 rfl rfl (.bool true) (rn_move _ (Or.inr rfl) _ (he7.tmp 8 _ rfl)) (fun a8 he8 => ?_)
    clear he7
    refine wl_end ?_
    refine wp_ret ?_
    exact bodyPost_ret (results_tmp he8 _ Tryd.results35 _ rfl) he8.defers ⟨(by simp only [inR, hd1, hd2, Bool.false_and, Bool.true_and]), hm0.below⟩
theorem c_isnum (a : Int) (w : World)  :
    Calls Tryd.prog 36 #[.int .i64 (a)] w fun e w' => e = .returned (.bool (inR a 0 4294967295)) ∧ Below w.heap.size w w' := by
  refine calls_begin Tryd.func36 rfl 9 rfl (Nat.le_of_ble_eq_true rfl) [(0, .int .i64 (a))] ⟨rfl, trivial⟩ (fun a0 he0 hm0 => ?_)
  refine wp_seqR ?_
  refine wl_val he0 rfl rfl (.bool false) (rn_move _ (Or.inr rfl) _ rfl) (fun a1 he1 => ?_)
  clear he0
  refine wl_end ?_
  refine wp_seqR ?_
  refine wl_val he1 rfl rfl (.int .i64 (a)) (rn_move _ (Or.inl rfl) _ (he1.tmp 0 _ rfl)) (fun a2 he2 => ?_)
  clear he1
  cases hd1 : (decide (a ≥ 0))
  ·
   have hd1p := of_decide_eq_false hd1
   refine wl_val he2 rfl rfl (.bool false) (rn_bin _ _ _ _ _ rfl .i64 _ _ (he2.tmp 3 _ rfl) rfl (.bool (decide (a ≥ 0))) _ rfl (congrArg Value.bool (hd1))) (fun a3 he3 => ?_)
   clear he2
   refine wl_val he3 rfl rfl (.bool false) (rn_move _ (Or.inl rfl) _ (he3.tmp 4 _ rfl)) (fun a4 he4 => ?_)
   clear he3
   refine wl_not he4 rfl (wanted_slot he4 2 true rfl 5 rfl false rfl false rfl) (fun a5 he5 => ?_)
   clear he4
   refine wl_not he5 rfl (wanted_slot he5 2 true rfl 5 rfl false rfl false rfl) (fun a6 he6 => ?_)
   clear he5
   refine wl_val he6 rfl rfl (.bool false) (rn_pickF _ _ _ rfl (he6.tmp 5 _ rfl) _ rfl) (fun a7 he7 => ?_)
   clear he6
   refine wl_val he7 rfl rfl (.bool false) (rn_move _ (Or.inr rfl) _ (he7.tmp 8 _ rfl)) (fun a8 he8 => ?_)
   clear he7
   refine wl_end ?_
   refine wp_ret ?_
   exact bodyPost_ret (results_tmp he8 _ Tryd.results36 _ rfl) he8.defers ⟨(by simp only [inR, hd1, Bool.false_and, Bool.true_and]), hm0.below⟩
  ·
   have hd1p := of_decide_eq_true hd1
   refine wl_val he2 rfl rfl (.bool true) (rn_bin _ _ _ _ _ rfl .i64 _ _ (he2.tmp 3 _ rfl) rfl (.bool (decide (a ≥ 0))) _ rfl (congrArg Value.bool (hd1))) (fun a3 he3 => ?_)
   clear he2
   refine wl_val he3 rfl rfl (.bool true) (rn_move _ (Or.inl rfl) _ (he3.tmp 4 _ rfl)) (fun a4 he4 => ?_)
   clear he3
   refine wl_val he4 rfl (wanted_slot he4 2 true rfl 5 rfl true rfl true rfl) (.int .i64 (a)) (rn_move _ (Or.inl rfl) _ (he4.tmp 0 _ rfl)) (fun a5 he5 => ?_)
   clear he4
   cases hd2 : (decide (a ≤ 4294967295))
   ·
    have hd2p := of_decide_eq_false hd2
    refine wl_val he5 rfl (wanted_slot he5 2 true rfl 5 rfl true rfl true rfl) (.bool false) (rn_bin _ _ _ _ _ rfl .i64 _ _ (he5.tmp 6 _ rfl) rfl (.bool (decide (a ≤ 4294967295))) _ rfl (congrArg Value.bool (hd2))) (fun a6 he6 => ?_)
    clear he5
    refine wl_val he6 rfl rfl (.bool false) (rn_pickT _ _ _ rfl (he6.tmp 5 _ rfl) _ (he6.tmp 7 _ rfl)) (fun a7 he7 => ?_)
    clear he6
    refine wl_val he7 rfl rfl (.bool false) (rn_move _ (Or.inr rfl) _ (he7.tmp 8 _ rfl)) (fun a8 he8 => ?_)
    clear he7
    refine wl_end ?_
    refine wp_ret ?_
    exact bodyPost_ret (results_tmp he8 _ Tryd.results36 _ rfl) he8.defers ⟨(by simp only [inR, hd1, hd2, Bool.false_and, Bool.true_and]), hm0.below⟩
   ·
    have hd2p := of_decide_eq_true hd2
    refine wl_val he5 rfl (wanted_slot he5 2 true rfl 5 rfl true rfl true rfl) (.bool true) (rn_bin _ _ _ _ _ rfl .i64 _ _ (he5.tmp 6 _ rfl) rfl (.bool (decide (a ≤ 4294967295))) _ rfl (congrArg Value.bool (hd2))) (fun a6 he6 => ?_)
    clear he5
    refine wl_val he6 rfl rfl (.bool true) (rn_pickT _ _ _ rfl (he6.tmp 5 _ rfl) _ (he6.tmp 7 _ rfl)) (fun a7 he7 => ?_)
    clear he6
    refine wl_val he7 rfl rfl (.bool true) (rn_move _ (Or.inr rfl) _ (he7.tmp 8 _ rfl)) (fun a8 he8 => ?_)
    clear he7
    refine wl_end ?_
    refine wp_ret ?_
    exact bodyPost_ret (results_tmp he8 _ Tryd.results36 _ rfl) he8.defers ⟨(by simp only [inR, hd1, hd2, Bool.false_and, Bool.true_and]), hm0.below⟩
theorem c_rOk (r : Ru) (w : World)  :
    Calls Tryd.prog 19 #[.agg (Ru.arr (r))] w fun e w' => e = .returned (.bool (ruOk r)) ∧ Below w.heap.size w w' := by
  refine calls_begin Tryd.func19 rfl 41 rfl (Nat.le_of_ble_eq_true rfl) [(0, .agg (Ru.arr (r)))] ⟨rfl, trivial⟩ (fun a0 he0 hm0 => ?_)
  have hnum : inR r.num 0 255 = (decide (r.num ≥ 0) && decide (r.num ≤ 255)) := rfl
  refine wp_seqR ?_
  refine wl_box he0 hm0 1 rfl rfl rfl _ _ rfl _ (he0.tmp 0 _ rfl) (Ru.arr (r)) rfl (fun a1 w1 b1 he1 hm1 => ?_)
  clear he0 hm0
  refine wl_val he1 rfl rfl (.bool false) (rn_move _ (Or.inr rfl) _ rfl) (fun a2 he2 => ?_)
  clear he1
  refine wl_end ?_
  refine wp_seqR ?_
  refine wl_val he2 rfl rfl (.pointer (some ⟨b1, 0, none⟩)) (rn_field _ _ _ rfl _ (.pointer (some ⟨b1, 0, none⟩)) (he2.tmp 1 _ rfl) (by kernel_rfl)) (fun a3 he3 => ?_)
  clear he2
  refine wl_val he3 rfl rfl (.int .i64 ((r).at_)) (rn_load1 hm1 1 rfl _ _ rfl (0) (he3.tmp 3 _ rfl) one3 _ rfl) (fun a4 he4 => ?_)
  clear he3
  cases hd1 : (inR ((r).at_) 0 11)
  ·
   refine wl_call he4 hm1 rfl rfl _ #[.int .i64 ((r).at_), .int .i64 (12)] (enter_call _ _ _ rfl 34 #[] #[] rfl #[.int .i64 ((r).at_), .int .i64 (12)] (map2 (he4.tmp 4 _ rfl) rfl) #[.int .i64 ((r).at_), .int .i64 (12)] rfl (fun _ _ => by kernel_rfl)) (.bool false) (callsV (congrArg Value.bool (hd1)) (c_place ((r).at_) 12 _)) (fun a5 w2 he5 hm2 => ?_)
   clear he4 hm1
   refine wl_val he5 rfl rfl (.bool false) (rn_move _ (Or.inl rfl) _ (he5.tmp 5 _ rfl)) (fun a6 he6 => ?_)
   clear he5
   refine wl_not he6 rfl (wanted_slot he6 3 true rfl 6 rfl false rfl false rfl) (fun a7 he7 => ?_)
   clear he6
   refine wl_not he7 rfl (wanted_slot he7 3 true rfl 6 rfl false rfl false rfl) (fun a8 he8 => ?_)
   clear he7
   refine wl_not he8 rfl (wanted_slot he8 3 true rfl 6 rfl false rfl false rfl) (fun a9 he9 => ?_)
   clear he8
   refine wl_val he9 rfl rfl (.bool false) (rn_pickF _ _ _ rfl (he9.tmp 6 _ rfl) _ rfl) (fun a10 he10 => ?_)
   clear he9
   refine wl_val he10 rfl rfl (.bool false) (rn_move _ (Or.inl rfl) _ (he10.tmp 10 _ rfl)) (fun a11 he11 => ?_)
   clear he10
   refine wl_not he11 rfl (wanted_slot he11 8 true rfl 11 rfl false rfl false rfl) (fun a12 he12 => ?_)
   clear he11
   refine wl_not he12 rfl (wanted_slot he12 8 true rfl 11 rfl false rfl false rfl) (fun a13 he13 => ?_)
   clear he12
   refine wl_not he13 rfl (wanted_slot he13 8 true rfl 11 rfl false rfl false rfl) (fun a14 he14 => ?_)
   clear he13
   refine wl_val he14 rfl rfl (.bool false) (rn_pickF _ _ _ rfl (he14.tmp 11 _ rfl) _ rfl) (fun a15 he15 => ?_)
   clear he14
   refine wl_val he15 rfl rfl (.bool false) (rn_move _ (Or.inl rfl) _ (he15.tmp 15 _ rfl)) (fun a16 he16 => ?_)
   clear he15
   refine wl_not he16 rfl (wanted_slot he16 13 true rfl 16 rfl false rfl false rfl) (fun a17 he17 => ?_)
   clear he16
   refine wl_not he17 rfl (wanted_slot he17 13 true rfl 16 rfl false rfl false rfl) (fun a18 he18 => ?_)
   clear he17
   refine wl_not he18 rfl (wanted_slot he18 13 true rfl 16 rfl false rfl false rfl) (fun a19 he19 => ?_)
   clear he18
   refine wl_val he19 rfl rfl (.bool false) (rn_pickF _ _ _ rfl (he19.tmp 16 _ rfl) _ rfl) (fun a20 he20 => ?_)
   clear he19
   refine wl_val he20 rfl rfl (.bool false) (rn_move _ (Or.inl rfl) _ (he20.tmp 20 _ rfl)) (fun a21 he21 => ?_)
   clear he20
   refine wl_not he21 rfl (wanted_slot he21 18 true rfl 21 rfl false rfl false rfl) (fun a22 he22 => ?_)
   clear he21
   refine wl_not he22 rfl (wanted_slot he22 18 true rfl 21 rfl false rfl false rfl) (fun a23 he23 => ?_)
   clear he22
   refine wl_not he23 rfl (wanted_slot he23 18 true rfl 21 rfl false rfl false rfl) (fun a24 he24 => ?_)
   clear he23
   refine wl_val he24 rfl rfl (.bool false) (rn_pickF _ _ _ rfl (he24.tmp 21 _ rfl) _ rfl) (fun a25 he25 => ?_)
   clear he24
   refine wl_val he25 rfl rfl (.bool false) (rn_move _ (Or.inl rfl) _ (he25.tmp 25 _ rfl)) (fun a26 he26 => ?_)
   clear he25
   refine wl_not he26 rfl (wanted_slot he26 23 true rfl 26 rfl false rfl false rfl) (fun a27 he27 => ?_)
   clear he26
   refine wl_not he27 rfl (wanted_slot he27 23 true rfl 26 rfl false rfl false rfl) (fun a28 he28 => ?_)
   clear he27
   refine wl_not he28 rfl (wanted_slot he28 23 true rfl 26 rfl false rfl false rfl) (fun a29 he29 => ?_)
   clear he28
   refine wl_val he29 rfl rfl (.bool false) (rn_pickF _ _ _ rfl (he29.tmp 26 _ rfl) _ rfl) (fun a30 he30 => ?_)
   clear he29
   refine wl_val he30 rfl rfl (.bool false) (rn_move _ (Or.inl rfl) _ (he30.tmp 30 _ rfl)) (fun a31 he31 => ?_)
   clear he30
   refine wl_not he31 rfl (wanted_slot he31 28 true rfl 31 rfl false rfl false rfl) (fun a32 he32 => ?_)
   clear he31
   refine wl_not he32 rfl (wanted_slot he32 28 true rfl 31 rfl false rfl false rfl) (fun a33 he33 => ?_)
   clear he32
   refine wl_not he33 rfl (wanted_slot he33 28 true rfl 31 rfl false rfl false rfl) (fun a34 he34 => ?_)
   clear he33
   refine wl_not he34 rfl (wanted_slot he34 28 true rfl 31 rfl false rfl false rfl) (fun a35 he35 => ?_)
   clear he34
   refine wl_not he35 rfl (wanted_undef he35 32 false rfl 35 rfl rfl) (fun a36 he36 => ?_)
   clear he35
   refine wl_not he36 rfl (wanted_undef he36 32 false rfl 35 rfl rfl) (fun a37 he37 => ?_)
   clear he36
   refine wl_not he37 rfl (wanted_undef he37 32 false rfl 35 rfl rfl) (fun a38 he38 => ?_)
   clear he37
   refine wl_not he38 rfl (wanted_slot he38 28 true rfl 31 rfl false rfl false rfl) (fun a39 he39 => ?_)
   clear he38
   refine wl_val he39 rfl rfl (.bool false) (rn_pickF _ _ _ rfl (he39.tmp 31 _ rfl) _ rfl) (fun a40 he40 => ?_)
   clear he39
   refine wl_val he40 rfl rfl (.bool false) (rn_move _ (Or.inr rfl) _ (he40.tmp 40 _ rfl)) (fun a41 he41 => ?_)
   clear he40
   refine wl_end ?_
   refine wp_ret ?_
   exact bodyPost_ret (results_tmp he41 _ Tryd.results19 _ rfl) he41.defers ⟨(by simp [ruOk, hnum, hd1]), hm2.below⟩
  ·
   refine wl_call he4 hm1 rfl rfl _ #[.int .i64 ((r).at_), .int .i64 (12)] (enter_call _ _ _ rfl 34 #[] #[] rfl #[.int .i64 ((r).at_), .int .i64 (12)] (map2 (he4.tmp 4 _ rfl) rfl) #[.int .i64 ((r).at_), .int .i64 (12)] rfl (fun _ _ => by kernel_rfl)) (.bool true) (callsV (congrArg Value.bool (hd1)) (c_place ((r).at_) 12 _)) (fun a5 w2 he5 hm2 => ?_)
   clear he4 hm1
   refine wl_val he5 rfl rfl (.bool true) (rn_move _ (Or.inl rfl) _ (he5.tmp 5 _ rfl)) (fun a6 he6 => ?_)
   clear he5
   refine wl_val he6 rfl (wanted_slot he6 3 true rfl 6 rfl true rfl true rfl) (.pointer (some ⟨b1, 1, none⟩)) (rn_field _ _ _ rfl _ (.pointer (some ⟨b1, 1, none⟩)) (he6.tmp 1 _ rfl) (by kernel_rfl)) (fun a7 he7 => ?_)
   clear he6
   refine wl_val he7 rfl (wanted_slot he7 3 true rfl 6 rfl true rfl true rfl) (.int .i64 ((r).op)) (rn_load1 hm2 1 rfl _ _ rfl (1) (he7.tmp 7 _ rfl) one3 _ rfl) (fun a8 he8 => ?_)
   clear he7
   cases hd2 : (inR ((r).op) 12 15)
   ·
    refine wl_call he8 hm2 rfl (wanted_slot he8 3 true rfl 6 rfl true rfl true rfl) _ #[.int .i64 ((r).op)] (enter_call _ _ _ rfl 35 #[] #[] rfl #[.int .i64 ((r).op)] (map1 (he8.tmp 8 _ rfl)) #[.int .i64 ((r).op)] rfl (fun _ _ => by kernel_rfl)) (.bool false) (callsV (congrArg Value.bool (hd2)) (c_asks _ _)) (fun a9 w3 he9 hm3 => ?_)
    clear he8 hm2
    refine wl_val he9 rfl rfl (.bool false) (rn_pickT _ _ _ rfl (he9.tmp 6 _ rfl) _ (he9.tmp 9 _ rfl)) (fun a10 he10 => ?_)
    clear he9
    refine wl_val he10 rfl rfl (.bool false) (rn_move _ (Or.inl rfl) _ (he10.tmp 10 _ rfl)) (fun a11 he11 => ?_)
    clear he10
    refine wl_not he11 rfl (wanted_slot he11 8 true rfl 11 rfl false rfl false rfl) (fun a12 he12 => ?_)
    clear he11
    refine wl_not he12 rfl (wanted_slot he12 8 true rfl 11 rfl false rfl false rfl) (fun a13 he13 => ?_)
    clear he12
    refine wl_not he13 rfl (wanted_slot he13 8 true rfl 11 rfl false rfl false rfl) (fun a14 he14 => ?_)
    clear he13
    refine wl_val he14 rfl rfl (.bool false) (rn_pickF _ _ _ rfl (he14.tmp 11 _ rfl) _ rfl) (fun a15 he15 => ?_)
    clear he14
    refine wl_val he15 rfl rfl (.bool false) (rn_move _ (Or.inl rfl) _ (he15.tmp 15 _ rfl)) (fun a16 he16 => ?_)
    clear he15
    refine wl_not he16 rfl (wanted_slot he16 13 true rfl 16 rfl false rfl false rfl) (fun a17 he17 => ?_)
    clear he16
    refine wl_not he17 rfl (wanted_slot he17 13 true rfl 16 rfl false rfl false rfl) (fun a18 he18 => ?_)
    clear he17
    refine wl_not he18 rfl (wanted_slot he18 13 true rfl 16 rfl false rfl false rfl) (fun a19 he19 => ?_)
    clear he18
    refine wl_val he19 rfl rfl (.bool false) (rn_pickF _ _ _ rfl (he19.tmp 16 _ rfl) _ rfl) (fun a20 he20 => ?_)
    clear he19
    refine wl_val he20 rfl rfl (.bool false) (rn_move _ (Or.inl rfl) _ (he20.tmp 20 _ rfl)) (fun a21 he21 => ?_)
    clear he20
    refine wl_not he21 rfl (wanted_slot he21 18 true rfl 21 rfl false rfl false rfl) (fun a22 he22 => ?_)
    clear he21
    refine wl_not he22 rfl (wanted_slot he22 18 true rfl 21 rfl false rfl false rfl) (fun a23 he23 => ?_)
    clear he22
    refine wl_not he23 rfl (wanted_slot he23 18 true rfl 21 rfl false rfl false rfl) (fun a24 he24 => ?_)
    clear he23
    refine wl_val he24 rfl rfl (.bool false) (rn_pickF _ _ _ rfl (he24.tmp 21 _ rfl) _ rfl) (fun a25 he25 => ?_)
    clear he24
    refine wl_val he25 rfl rfl (.bool false) (rn_move _ (Or.inl rfl) _ (he25.tmp 25 _ rfl)) (fun a26 he26 => ?_)
    clear he25
    refine wl_not he26 rfl (wanted_slot he26 23 true rfl 26 rfl false rfl false rfl) (fun a27 he27 => ?_)
    clear he26
    refine wl_not he27 rfl (wanted_slot he27 23 true rfl 26 rfl false rfl false rfl) (fun a28 he28 => ?_)
    clear he27
    refine wl_not he28 rfl (wanted_slot he28 23 true rfl 26 rfl false rfl false rfl) (fun a29 he29 => ?_)
    clear he28
    refine wl_val he29 rfl rfl (.bool false) (rn_pickF _ _ _ rfl (he29.tmp 26 _ rfl) _ rfl) (fun a30 he30 => ?_)
    clear he29
    refine wl_val he30 rfl rfl (.bool false) (rn_move _ (Or.inl rfl) _ (he30.tmp 30 _ rfl)) (fun a31 he31 => ?_)
    clear he30
    refine wl_not he31 rfl (wanted_slot he31 28 true rfl 31 rfl false rfl false rfl) (fun a32 he32 => ?_)
    clear he31
    refine wl_not he32 rfl (wanted_slot he32 28 true rfl 31 rfl false rfl false rfl) (fun a33 he33 => ?_)
    clear he32
    refine wl_not he33 rfl (wanted_slot he33 28 true rfl 31 rfl false rfl false rfl) (fun a34 he34 => ?_)
    clear he33
    refine wl_not he34 rfl (wanted_slot he34 28 true rfl 31 rfl false rfl false rfl) (fun a35 he35 => ?_)
    clear he34
    refine wl_not he35 rfl (wanted_undef he35 32 false rfl 35 rfl rfl) (fun a36 he36 => ?_)
    clear he35
    refine wl_not he36 rfl (wanted_undef he36 32 false rfl 35 rfl rfl) (fun a37 he37 => ?_)
    clear he36
    refine wl_not he37 rfl (wanted_undef he37 32 false rfl 35 rfl rfl) (fun a38 he38 => ?_)
    clear he37
    refine wl_not he38 rfl (wanted_slot he38 28 true rfl 31 rfl false rfl false rfl) (fun a39 he39 => ?_)
    clear he38
    refine wl_val he39 rfl rfl (.bool false) (rn_pickF _ _ _ rfl (he39.tmp 31 _ rfl) _ rfl) (fun a40 he40 => ?_)
    clear he39
    refine wl_val he40 rfl rfl (.bool false) (rn_move _ (Or.inr rfl) _ (he40.tmp 40 _ rfl)) (fun a41 he41 => ?_)
    clear he40
    refine wl_end ?_
    refine wp_ret ?_
    exact bodyPost_ret (results_tmp he41 _ Tryd.results19 _ rfl) he41.defers ⟨(by simp [ruOk, hnum, hd1, hd2]), hm3.below⟩
   ·
    refine wl_call he8 hm2 rfl (wanted_slot he8 3 true rfl 6 rfl true rfl true rfl) _ #[.int .i64 ((r).op)] (enter_call _ _ _ rfl 35 #[] #[] rfl #[.int .i64 ((r).op)] (map1 (he8.tmp 8 _ rfl)) #[.int .i64 ((r).op)] rfl (fun _ _ => by kernel_rfl)) (.bool true) (callsV (congrArg Value.bool (hd2)) (c_asks _ _)) (fun a9 w3 he9 hm3 => ?_)
    clear he8 hm2
    refine wl_val he9 rfl rfl (.bool true) (rn_pickT _ _ _ rfl (he9.tmp 6 _ rfl) _ (he9.tmp 9 _ rfl)) (fun a10 he10 => ?_)
    clear he9
    refine wl_val he10 rfl rfl (.bool true) (rn_move _ (Or.inl rfl) _ (he10.tmp 10 _ rfl)) (fun a11 he11 => ?_)
    clear he10
    refine wl_val he11 rfl (wanted_slot he11 8 true rfl 11 rfl true rfl true rfl) (.pointer (some ⟨b1, 2, none⟩)) (rn_field _ _ _ rfl _ (.pointer (some ⟨b1, 2, none⟩)) (he11.tmp 1 _ rfl) (by kernel_rfl)) (fun a12 he12 => ?_)
    clear he11
    refine wl_val he12 rfl (wanted_slot he12 8 true rfl 11 rfl true rfl true rfl) (.int .i64 ((r).num)) (rn_load1 hm3 1 rfl _ _ rfl (2) (he12.tmp 12 _ rfl) one3 _ rfl) (fun a13 he13 => ?_)
    clear he12
    cases hd3 : (decide ((r).num ≥ 0))
    ·
     have hd3p := of_decide_eq_false hd3
     refine wl_val he13 rfl (wanted_slot he13 8 true rfl 11 rfl true rfl true rfl) (.bool false) (rn_bin _ _ _ _ _ rfl .i64 _ _ (he13.tmp 13 _ rfl) rfl (.bool (decide ((r).num ≥ 0))) _ rfl (congrArg Value.bool (hd3))) (fun a14 he14 => ?_)
     clear he13
     refine wl_val he14 rfl rfl (.bool false) (rn_pickT _ _ _ rfl (he14.tmp 11 _ rfl) _ (he14.tmp 14 _ rfl)) (fun a15 he15 => ?_)
     clear he14
     refine wl_val he15 rfl rfl (.bool false) (rn_move _ (Or.inl rfl) _ (he15.tmp 15 _ rfl)) (fun a16 he16 => ?_)
     clear he15
     refine wl_not he16 rfl (wanted_slot he16 13 true rfl 16 rfl false rfl false rfl) (fun a17 he17 => ?_)
     clear he16
     refine wl_not he17 rfl (wanted_slot he17 13 true rfl 16 rfl false rfl false rfl) (fun a18 he18 => ?_)
     clear he17
     refine wl_not he18 rfl (wanted_slot he18 13 true rfl 16 rfl false rfl false rfl) (fun a19 he19 => ?_)
     clear he18
     refine wl_val he19 rfl rfl (.bool false) (rn_pickF _ _ _ rfl (he19.tmp 16 _ rfl) _ rfl) (fun a20 he20 => ?_)
     clear he19
     refine wl_val he20 rfl rfl (.bool false) (rn_move _ (Or.inl rfl) _ (he20.tmp 20 _ rfl)) (fun a21 he21 => ?_)
     clear he20
     refine wl_not he21 rfl (wanted_slot he21 18 true rfl 21 rfl false rfl false rfl) (fun a22 he22 => ?_)
     clear he21
     refine wl_not he22 rfl (wanted_slot he22 18 true rfl 21 rfl false rfl false rfl) (fun a23 he23 => ?_)
     clear he22
     refine wl_not he23 rfl (wanted_slot he23 18 true rfl 21 rfl false rfl false rfl) (fun a24 he24 => ?_)
     clear he23
     refine wl_val he24 rfl rfl (.bool false) (rn_pickF _ _ _ rfl (he24.tmp 21 _ rfl) _ rfl) (fun a25 he25 => ?_)
     clear he24
     refine wl_val he25 rfl rfl (.bool false) (rn_move _ (Or.inl rfl) _ (he25.tmp 25 _ rfl)) (fun a26 he26 => ?_)
     clear he25
     refine wl_not he26 rfl (wanted_slot he26 23 true rfl 26 rfl false rfl false rfl) (fun a27 he27 => ?_)
     clear he26
     refine wl_not he27 rfl (wanted_slot he27 23 true rfl 26 rfl false rfl false rfl) (fun a28 he28 => ?_)
     clear he27
     refine wl_not he28 rfl (wanted_slot he28 23 true rfl 26 rfl false rfl false rfl) (fun a29 he29 => ?_)
     clear he28
     refine wl_val he29 rfl rfl (.bool false) (rn_pickF _ _ _ rfl (he29.tmp 26 _ rfl) _ rfl) (fun a30 he30 => ?_)
     clear he29
     refine wl_val he30 rfl rfl (.bool false) (rn_move _ (Or.inl rfl) _ (he30.tmp 30 _ rfl)) (fun a31 he31 => ?_)
     clear he30
     refine wl_not he31 rfl (wanted_slot he31 28 true rfl 31 rfl false rfl false rfl) (fun a32 he32 => ?_)
     clear he31
     refine wl_not he32 rfl (wanted_slot he32 28 true rfl 31 rfl false rfl false rfl) (fun a33 he33 => ?_)
     clear he32
     refine wl_not he33 rfl (wanted_slot he33 28 true rfl 31 rfl false rfl false rfl) (fun a34 he34 => ?_)
     clear he33
     refine wl_not he34 rfl (wanted_slot he34 28 true rfl 31 rfl false rfl false rfl) (fun a35 he35 => ?_)
     clear he34
     refine wl_not he35 rfl (wanted_undef he35 32 false rfl 35 rfl rfl) (fun a36 he36 => ?_)
     clear he35
     refine wl_not he36 rfl (wanted_undef he36 32 false rfl 35 rfl rfl) (fun a37 he37 => ?_)
     clear he36
     refine wl_not he37 rfl (wanted_undef he37 32 false rfl 35 rfl rfl) (fun a38 he38 => ?_)
     clear he37
     refine wl_not he38 rfl (wanted_slot he38 28 true rfl 31 rfl false rfl false rfl) (fun a39 he39 => ?_)
     clear he38
     refine wl_val he39 rfl rfl (.bool false) (rn_pickF _ _ _ rfl (he39.tmp 31 _ rfl) _ rfl) (fun a40 he40 => ?_)
     clear he39
     refine wl_val he40 rfl rfl (.bool false) (rn_move _ (Or.inr rfl) _ (he40.tmp 40 _ rfl)) (fun a41 he41 => ?_)
     clear he40
     refine wl_end ?_
     refine wp_ret ?_
     exact bodyPost_ret (results_tmp he41 _ Tryd.results19 _ rfl) he41.defers ⟨(by simp [ruOk, hnum, hd1, hd2, hd3]), hm3.below⟩
    ·
     have hd3p := of_decide_eq_true hd3
     refine wl_val he13 rfl (wanted_slot he13 8 true rfl 11 rfl true rfl true rfl) (.bool true) (rn_bin _ _ _ _ _ rfl .i64 _ _ (he13.tmp 13 _ rfl) rfl (.bool (decide ((r).num ≥ 0))) _ rfl (congrArg Value.bool (hd3))) (fun a14 he14 => ?_)
     clear he13
     refine wl_val he14 rfl rfl (.bool true) (rn_pickT _ _ _ rfl (he14.tmp 11 _ rfl) _ (he14.tmp 14 _ rfl)) (fun a15 he15 => ?_)
     clear he14
     refine wl_val he15 rfl rfl (.bool true) (rn_move _ (Or.inl rfl) _ (he15.tmp 15 _ rfl)) (fun a16 he16 => ?_)
     clear he15
     refine wl_val he16 rfl (wanted_slot he16 13 true rfl 16 rfl true rfl true rfl) (.pointer (some ⟨b1, 2, none⟩)) (rn_field _ _ _ rfl _ (.pointer (some ⟨b1, 2, none⟩)) (he16.tmp 1 _ rfl) (by kernel_rfl)) (fun a17 he17 => ?_)
     clear he16
     refine wl_val he17 rfl (wanted_slot he17 13 true rfl 16 rfl true rfl true rfl) (.int .i64 ((r).num)) (rn_load1 hm3 1 rfl _ _ rfl (2) (he17.tmp 17 _ rfl) one3 _ rfl) (fun a18 he18 => ?_)
     clear he17
     cases hd4 : (decide ((r).num ≤ 255))
     ·
      have hd4p := of_decide_eq_false hd4
      refine wl_val he18 rfl (wanted_slot he18 13 true rfl 16 rfl true rfl true rfl) (.bool false) (rn_bin _ _ _ _ _ rfl .i64 _ _ (he18.tmp 18 _ rfl) rfl (.bool (decide ((r).num ≤ 255))) _ rfl (congrArg Value.bool (hd4))) (fun a19 he19 => ?_)
      clear he18
      refine wl_val he19 rfl rfl (.bool false) (rn_pickT _ _ _ rfl (he19.tmp 16 _ rfl) _ (he19.tmp 19 _ rfl)) (fun a20 he20 => ?_)
      clear he19
      refine wl_val he20 rfl rfl (.bool false) (rn_move _ (Or.inl rfl) _ (he20.tmp 20 _ rfl)) (fun a21 he21 => ?_)
      clear he20
      refine wl_not he21 rfl (wanted_slot he21 18 true rfl 21 rfl false rfl false rfl) (fun a22 he22 => ?_)
      clear he21
      refine wl_not he22 rfl (wanted_slot he22 18 true rfl 21 rfl false rfl false rfl) (fun a23 he23 => ?_)
      clear he22
      refine wl_not he23 rfl (wanted_slot he23 18 true rfl 21 rfl false rfl false rfl) (fun a24 he24 => ?_)
      clear he23
      refine wl_val he24 rfl rfl (.bool false) (rn_pickF _ _ _ rfl (he24.tmp 21 _ rfl) _ rfl) (fun a25 he25 => ?_)
      clear he24
      refine wl_val he25 rfl rfl (.bool false) (rn_move _ (Or.inl rfl) _ (he25.tmp 25 _ rfl)) (fun a26 he26 => ?_)
      clear he25
      refine wl_not he26 rfl (wanted_slot he26 23 true rfl 26 rfl false rfl false rfl) (fun a27 he27 => ?_)
      clear he26
      refine wl_not he27 rfl (wanted_slot he27 23 true rfl 26 rfl false rfl false rfl) (fun a28 he28 => ?_)
      clear he27
      refine wl_not he28 rfl (wanted_slot he28 23 true rfl 26 rfl false rfl false rfl) (fun a29 he29 => ?_)
      clear he28
      refine wl_val he29 rfl rfl (.bool false) (rn_pickF _ _ _ rfl (he29.tmp 26 _ rfl) _ rfl) (fun a30 he30 => ?_)
      clear he29
      refine wl_val he30 rfl rfl (.bool false) (rn_move _ (Or.inl rfl) _ (he30.tmp 30 _ rfl)) (fun a31 he31 => ?_)
      clear he30
      refine wl_not he31 rfl (wanted_slot he31 28 true rfl 31 rfl false rfl false rfl) (fun a32 he32 => ?_)
      clear he31
      refine wl_not he32 rfl (wanted_slot he32 28 true rfl 31 rfl false rfl false rfl) (fun a33 he33 => ?_)
      clear he32
      refine wl_not he33 rfl (wanted_slot he33 28 true rfl 31 rfl false rfl false rfl) (fun a34 he34 => ?_)
      clear he33
      refine wl_not he34 rfl (wanted_slot he34 28 true rfl 31 rfl false rfl false rfl) (fun a35 he35 => ?_)
      clear he34
      refine wl_not he35 rfl (wanted_undef he35 32 false rfl 35 rfl rfl) (fun a36 he36 => ?_)
      clear he35
      refine wl_not he36 rfl (wanted_undef he36 32 false rfl 35 rfl rfl) (fun a37 he37 => ?_)
      clear he36
      refine wl_not he37 rfl (wanted_undef he37 32 false rfl 35 rfl rfl) (fun a38 he38 => ?_)
      clear he37
      refine wl_not he38 rfl (wanted_slot he38 28 true rfl 31 rfl false rfl false rfl) (fun a39 he39 => ?_)
      clear he38
      refine wl_val he39 rfl rfl (.bool false) (rn_pickF _ _ _ rfl (he39.tmp 31 _ rfl) _ rfl) (fun a40 he40 => ?_)
      clear he39
      refine wl_val he40 rfl rfl (.bool false) (rn_move _ (Or.inr rfl) _ (he40.tmp 40 _ rfl)) (fun a41 he41 => ?_)
      clear he40
      refine wl_end ?_
      refine wp_ret ?_
      exact bodyPost_ret (results_tmp he41 _ Tryd.results19 _ rfl) he41.defers ⟨(by simp [ruOk, hnum, hd1, hd2, hd3, hd4]), hm3.below⟩
     ·
      have hd4p := of_decide_eq_true hd4
      refine wl_val he18 rfl (wanted_slot he18 13 true rfl 16 rfl true rfl true rfl) (.bool true) (rn_bin _ _ _ _ _ rfl .i64 _ _ (he18.tmp 18 _ rfl) rfl (.bool (decide ((r).num ≤ 255))) _ rfl (congrArg Value.bool (hd4))) (fun a19 he19 => ?_)
      clear he18
      refine wl_val he19 rfl rfl (.bool true) (rn_pickT _ _ _ rfl (he19.tmp 16 _ rfl) _ (he19.tmp 19 _ rfl)) (fun a20 he20 => ?_)
      clear he19
      refine wl_val he20 rfl rfl (.bool true) (rn_move _ (Or.inl rfl) _ (he20.tmp 20 _ rfl)) (fun a21 he21 => ?_)
      clear he20
      refine wl_val he21 rfl (wanted_slot he21 18 true rfl 21 rfl true rfl true rfl) (.pointer (some ⟨b1, 3, none⟩)) (rn_field _ _ _ rfl _ (.pointer (some ⟨b1, 3, none⟩)) (he21.tmp 1 _ rfl) (by kernel_rfl)) (fun a22 he22 => ?_)
      clear he21
      refine wl_val he22 rfl (wanted_slot he22 18 true rfl 21 rfl true rfl true rfl) (.int .i64 ((r).ver)) (rn_load1 hm3 1 rfl _ _ rfl (3) (he22.tmp 22 _ rfl) one3 _ rfl) (fun a23 he23 => ?_)
      clear he22
      cases hd5 : (inR ((r).ver) 0 2)
      ·
       refine wl_call he23 hm3 rfl (wanted_slot he23 18 true rfl 21 rfl true rfl true rfl) _ #[.int .i64 ((r).ver), .int .i64 (3)] (enter_call _ _ _ rfl 34 #[] #[] rfl #[.int .i64 ((r).ver), .int .i64 (3)] (map2 (he23.tmp 23 _ rfl) rfl) #[.int .i64 ((r).ver), .int .i64 (3)] rfl (fun _ _ => by kernel_rfl)) (.bool false) (callsV (congrArg Value.bool (hd5)) (c_place ((r).ver) 3 _)) (fun a24 w4 he24 hm4 => ?_)
       clear he23 hm3
       refine wl_val he24 rfl rfl (.bool false) (rn_pickT _ _ _ rfl (he24.tmp 21 _ rfl) _ (he24.tmp 24 _ rfl)) (fun a25 he25 => ?_)
       clear he24
       refine wl_val he25 rfl rfl (.bool false) (rn_move _ (Or.inl rfl) _ (he25.tmp 25 _ rfl)) (fun a26 he26 => ?_)
       clear he25
       refine wl_not he26 rfl (wanted_slot he26 23 true rfl 26 rfl false rfl false rfl) (fun a27 he27 => ?_)
       clear he26
       refine wl_not he27 rfl (wanted_slot he27 23 true rfl 26 rfl false rfl false rfl) (fun a28 he28 => ?_)
       clear he27
       refine wl_not he28 rfl (wanted_slot he28 23 true rfl 26 rfl false rfl false rfl) (fun a29 he29 => ?_)
       clear he28
       refine wl_val he29 rfl rfl (.bool false) (rn_pickF _ _ _ rfl (he29.tmp 26 _ rfl) _ rfl) (fun a30 he30 => ?_)
       clear he29
       refine wl_val he30 rfl rfl (.bool false) (rn_move _ (Or.inl rfl) _ (he30.tmp 30 _ rfl)) (fun a31 he31 => ?_)
       clear he30
       refine wl_not he31 rfl (wanted_slot he31 28 true rfl 31 rfl false rfl false rfl) (fun a32 he32 => ?_)
       clear he31
       refine wl_not he32 rfl (wanted_slot he32 28 true rfl 31 rfl false rfl false rfl) (fun a33 he33 => ?_)
       clear he32
       refine wl_not he33 rfl (wanted_slot he33 28 true rfl 31 rfl false rfl false rfl) (fun a34 he34 => ?_)
       clear he33
       refine wl_not he34 rfl (wanted_slot he34 28 true rfl 31 rfl false rfl false rfl) (fun a35 he35 => ?_)
       clear he34
       refine wl_not he35 rfl (wanted_undef he35 32 false rfl 35 rfl rfl) (fun a36 he36 => ?_)
       clear he35
       refine wl_not he36 rfl (wanted_undef he36 32 false rfl 35 rfl rfl) (fun a37 he37 => ?_)
       clear he36
       refine wl_not he37 rfl (wanted_undef he37 32 false rfl 35 rfl rfl) (fun a38 he38 => ?_)
       clear he37
       refine wl_not he38 rfl (wanted_slot he38 28 true rfl 31 rfl false rfl false rfl) (fun a39 he39 => ?_)
       clear he38
       refine wl_val he39 rfl rfl (.bool false) (rn_pickF _ _ _ rfl (he39.tmp 31 _ rfl) _ rfl) (fun a40 he40 => ?_)
       clear he39
       refine wl_val he40 rfl rfl (.bool false) (rn_move _ (Or.inr rfl) _ (he40.tmp 40 _ rfl)) (fun a41 he41 => ?_)
       clear he40
       refine wl_end ?_
       refine wp_ret ?_
       exact bodyPost_ret (results_tmp he41 _ Tryd.results19 _ rfl) he41.defers ⟨(by simp [ruOk, hnum, hd1, hd2, hd3, hd4, hd5]), hm4.below⟩
      ·
       refine wl_call he23 hm3 rfl (wanted_slot he23 18 true rfl 21 rfl true rfl true rfl) _ #[.int .i64 ((r).ver), .int .i64 (3)] (enter_call _ _ _ rfl 34 #[] #[] rfl #[.int .i64 ((r).ver), .int .i64 (3)] (map2 (he23.tmp 23 _ rfl) rfl) #[.int .i64 ((r).ver), .int .i64 (3)] rfl (fun _ _ => by kernel_rfl)) (.bool true) (callsV (congrArg Value.bool (hd5)) (c_place ((r).ver) 3 _)) (fun a24 w4 he24 hm4 => ?_)
       clear he23 hm3
       refine wl_val he24 rfl rfl (.bool true) (rn_pickT _ _ _ rfl (he24.tmp 21 _ rfl) _ (he24.tmp 24 _ rfl)) (fun a25 he25 => ?_)
       clear he24
       refine wl_val he25 rfl rfl (.bool true) (rn_move _ (Or.inl rfl) _ (he25.tmp 25 _ rfl)) (fun a26 he26 => ?_)
       clear he25
       refine wl_val he26 rfl (wanted_slot he26 23 true rfl 26 rfl true rfl true rfl) (.pointer (some ⟨b1, 4, none⟩)) (rn_field _ _ _ rfl _ (.pointer (some ⟨b1, 4, none⟩)) (he26.tmp 1 _ rfl) (by kernel_rfl)) (fun a27 he27 => ?_)
       clear he26
       refine wl_val he27 rfl (wanted_slot he27 23 true rfl 26 rfl true rfl true rfl) (.int .i64 ((r).key)) (rn_load1 hm4 1 rfl _ _ rfl (4) (he27.tmp 27 _ rfl) one3 _ rfl) (fun a28 he28 => ?_)
       clear he27
       cases hd6 : (inR ((r).key) 0 4294967295)
       ·
        refine wl_call he28 hm4 rfl (wanted_slot he28 23 true rfl 26 rfl true rfl true rfl) _ #[.int .i64 ((r).key)] (enter_call _ _ _ rfl 36 #[] #[] rfl #[.int .i64 ((r).key)] (map1 (he28.tmp 28 _ rfl)) #[.int .i64 ((r).key)] rfl (fun _ _ => by kernel_rfl)) (.bool false) (callsV (congrArg Value.bool (hd6)) (c_isnum _ _)) (fun a29 w5 he29 hm5 => ?_)
        clear he28 hm4
        refine wl_val he29 rfl rfl (.bool false) (rn_pickT _ _ _ rfl (he29.tmp 26 _ rfl) _ (he29.tmp 29 _ rfl)) (fun a30 he30 => ?_)
        clear he29
        refine wl_val he30 rfl rfl (.bool false) (rn_move _ (Or.inl rfl) _ (he30.tmp 30 _ rfl)) (fun a31 he31 => ?_)
        clear he30
        refine wl_not he31 rfl (wanted_slot he31 28 true rfl 31 rfl false rfl false rfl) (fun a32 he32 => ?_)
        clear he31
        refine wl_not he32 rfl (wanted_slot he32 28 true rfl 31 rfl false rfl false rfl) (fun a33 he33 => ?_)
        clear he32
        refine wl_not he33 rfl (wanted_slot he33 28 true rfl 31 rfl false rfl false rfl) (fun a34 he34 => ?_)
        clear he33
        refine wl_not he34 rfl (wanted_slot he34 28 true rfl 31 rfl false rfl false rfl) (fun a35 he35 => ?_)
        clear he34
        refine wl_not he35 rfl (wanted_undef he35 32 false rfl 35 rfl rfl) (fun a36 he36 => ?_)
        clear he35
        refine wl_not he36 rfl (wanted_undef he36 32 false rfl 35 rfl rfl) (fun a37 he37 => ?_)
        clear he36
        refine wl_not he37 rfl (wanted_undef he37 32 false rfl 35 rfl rfl) (fun a38 he38 => ?_)
        clear he37
        refine wl_not he38 rfl (wanted_slot he38 28 true rfl 31 rfl false rfl false rfl) (fun a39 he39 => ?_)
        clear he38
        refine wl_val he39 rfl rfl (.bool false) (rn_pickF _ _ _ rfl (he39.tmp 31 _ rfl) _ rfl) (fun a40 he40 => ?_)
        clear he39
        refine wl_val he40 rfl rfl (.bool false) (rn_move _ (Or.inr rfl) _ (he40.tmp 40 _ rfl)) (fun a41 he41 => ?_)
        clear he40
        refine wl_end ?_
        refine wp_ret ?_
        exact bodyPost_ret (results_tmp he41 _ Tryd.results19 _ rfl) he41.defers ⟨(by simp [ruOk, hnum, hd1, hd2, hd3, hd4, hd5, hd6]), hm5.below⟩
       ·
        refine wl_call he28 hm4 rfl (wanted_slot he28 23 true rfl 26 rfl true rfl true rfl) _ #[.int .i64 ((r).key)] (enter_call _ _ _ rfl 36 #[] #[] rfl #[.int .i64 ((r).key)] (map1 (he28.tmp 28 _ rfl)) #[.int .i64 ((r).key)] rfl (fun _ _ => by kernel_rfl)) (.bool true) (callsV (congrArg Value.bool (hd6)) (c_isnum _ _)) (fun a29 w5 he29 hm5 => ?_)
        clear he28 hm4
        refine wl_val he29 rfl rfl (.bool true) (rn_pickT _ _ _ rfl (he29.tmp 26 _ rfl) _ (he29.tmp 29 _ rfl)) (fun a30 he30 => ?_)
        clear he29
        refine wl_val he30 rfl rfl (.bool true) (rn_move _ (Or.inl rfl) _ (he30.tmp 30 _ rfl)) (fun a31 he31 => ?_)
        clear he30
        refine wl_val he31 rfl (wanted_slot he31 28 true rfl 31 rfl true rfl true rfl) (.pointer (some ⟨b1, 4, none⟩)) (rn_field _ _ _ rfl _ (.pointer (some ⟨b1, 4, none⟩)) (he31.tmp 1 _ rfl) (by kernel_rfl)) (fun a32 he32 => ?_)
        clear he31
        refine wl_val he32 rfl (wanted_slot he32 28 true rfl 31 rfl true rfl true rfl) (.int .i64 ((r).key)) (rn_load1 hm5 1 rfl _ _ rfl (4) (he32.tmp 32 _ rfl) one3 _ rfl) (fun a33 he33 => ?_)
        clear he32
        cases hd7 : (((r).key == 0))
        ·
         have hd7p : (r).key ≠ 0 := by simpa using hd7
         refine wl_val he33 rfl (wanted_slot he33 28 true rfl 31 rfl true rfl true rfl) (.bool false) (rn_bin _ _ _ _ _ rfl .i64 _ _ (he33.tmp 33 _ rfl) rfl (.bool (((r).key == 0))) _ rfl (congrArg Value.bool (hd7))) (fun a34 he34 => ?_)
         clear he33
         refine wl_val he34 rfl (wanted_slot he34 28 true rfl 31 rfl true rfl true rfl) (.bool false) (rn_move _ (Or.inl rfl) _ (he34.tmp 34 _ rfl)) (fun a35 he35 => ?_)
         clear he34
         refine wl_val he35 rfl (wanted_slot he35 32 false rfl 35 rfl false rfl true rfl) (.pointer (some ⟨b1, 3, none⟩)) (rn_field _ _ _ rfl _ (.pointer (some ⟨b1, 3, none⟩)) (he35.tmp 1 _ rfl) (by kernel_rfl)) (fun a36 he36 => ?_)
         clear he35
         refine wl_val he36 rfl (wanted_slot he36 32 false rfl 35 rfl false rfl true rfl) (.int .i64 ((r).ver)) (rn_load1 hm5 1 rfl _ _ rfl (3) (he36.tmp 36 _ rfl) one3 _ rfl) (fun a37 he37 => ?_)
         clear he36
         cases hd8 : (((r).ver == 2))
         ·
          have hd8p : (r).ver ≠ 2 := by simpa using hd8
          refine wl_val he37 rfl (wanted_slot he37 32 false rfl 35 rfl false rfl true rfl) (.bool false) (rn_bin _ _ _ _ _ rfl .i64 _ _ (he37.tmp 37 _ rfl) rfl (.bool (((r).ver == 2))) _ rfl (congrArg Value.bool (hd8))) (fun a38 he38 => ?_)
          clear he37
          refine wl_val he38 rfl (wanted_slot he38 28 true rfl 31 rfl true rfl true rfl) (.bool false) (rn_pickF _ _ _ rfl (he38.tmp 35 _ rfl) _ (he38.tmp 38 _ rfl)) (fun a39 he39 => ?_)
          clear he38
          refine wl_val he39 rfl rfl (.bool false) (rn_pickT _ _ _ rfl (he39.tmp 31 _ rfl) _ (he39.tmp 39 _ rfl)) (fun a40 he40 => ?_)
          clear he39
          refine wl_val he40 rfl rfl (.bool false) (rn_move _ (Or.inr rfl) _ (he40.tmp 40 _ rfl)) (fun a41 he41 => ?_)
          clear he40
          refine wl_end ?_
          refine wp_ret ?_
          exact bodyPost_ret (results_tmp he41 _ Tryd.results19 _ rfl) he41.defers ⟨(by simp [ruOk, hnum, hd1, hd2, hd3, hd4, hd5, hd6, hd7, hd8]), hm5.below⟩
         ·
          have hd8p : (r).ver = 2 := by simpa using hd8
          refine wl_val he37 rfl (wanted_slot he37 32 false rfl 35 rfl false rfl true rfl) (.bool true) (rn_bin _ _ _ _ _ rfl .i64 _ _ (he37.tmp 37 _ rfl) rfl (.bool (((r).ver == 2))) _ rfl (congrArg Value.bool (hd8))) (fun a38 he38 => ?_)
          clear he37
          refine wl_val he38 rfl (wanted_slot he38 28 true rfl 31 rfl true rfl true rfl) (.bool true) (rn_pickF _ _ _ rfl (he38.tmp 35 _ rfl) _ (he38.tmp 38 _ rfl)) (fun a39 he39 => ?_)
          clear he38
          refine wl_val he39 rfl rfl (.bool true) (rn_pickT _ _ _ rfl (he39.tmp 31 _ rfl) _ (he39.tmp 39 _ rfl)) (fun a40 he40 => ?_)
          clear he39
          refine wl_val he40 rfl rfl (.bool true) (rn_move _ (Or.inr rfl) _ (he40.tmp 40 _ rfl)) (fun a41 he41 => ?_)
          clear he40
          refine wl_end ?_
          refine wp_ret ?_
          exact bodyPost_ret (results_tmp he41 _ Tryd.results19 _ rfl) he41.defers ⟨(by simp [ruOk, hnum, hd1, hd2, hd3, hd4, hd5, hd6, hd7, hd8]), hm5.below⟩
        ·
         have hd7p : (r).key = 0 := by simpa using hd7
         refine wl_val he33 rfl (wanted_slot he33 28 true rfl 31 rfl true rfl true rfl) (.bool true) (rn_bin _ _ _ _ _ rfl .i64 _ _ (he33.tmp 33 _ rfl) rfl (.bool (((r).key == 0))) _ rfl (congrArg Value.bool (hd7))) (fun a34 he34 => ?_)
         clear he33
         refine wl_val he34 rfl (wanted_slot he34 28 true rfl 31 rfl true rfl true rfl) (.bool true) (rn_move _ (Or.inl rfl) _ (he34.tmp 34 _ rfl)) (fun a35 he35 => ?_)
         clear he34
         refine wl_not he35 rfl (wanted_slot he35 32 false rfl 35 rfl true rfl false rfl) (fun a36 he36 => ?_)
         clear he35
         refine wl_not he36 rfl (wanted_slot he36 32 false rfl 35 rfl true rfl false rfl) (fun a37 he37 => ?_)
         clear he36
         refine wl_not he37 rfl (wanted_slot he37 32 false rfl 35 rfl true rfl false rfl) (fun a38 he38 => ?_)
         clear he37
         refine wl_val he38 rfl (wanted_slot he38 28 true rfl 31 rfl true rfl true rfl) (.bool true) (rn_pickT _ _ _ rfl (he38.tmp 35 _ rfl) _ rfl) (fun a39 he39 => ?_)
         clear he38
         refine wl_val he39 rfl rfl (.bool true) (rn_pickT _ _ _ rfl (he39.tmp 31 _ rfl) _ (he39.tmp 39 _ rfl)) (fun a40 he40 => ?_)
         clear he39
         refine wl_val he40 rfl rfl (.bool true) (rn_move _ (Or.inr rfl) _ (he40.tmp 40 _ rfl)) (fun a41 he41 => ?_)
         clear he40
         refine wl_end ?_
         refine wp_ret ?_
         exact bodyPost_ret (results_tmp he41 _ Tryd.results19 _ rfl) he41.defers ⟨(by simp [ruOk, hnum, hd1, hd2, hd3, hd4, hd5, hd6, hd7]), hm5.below⟩
theorem c_Oks (f : Nat → Ru) (b p n c : Nat) (w : World) (hR : RowAt w b p n 5 fun i => (f i).arr) (hn : n ≤ 1048576) :
    Calls Tryd.prog 8 #[.slice (some ⟨b, p, none⟩) (n) (c)] w fun e w' => e = .returned (.bool (ruOks f n)) ∧ Below w.heap.size w w' := by
  refine calls_begin Tryd.func8 rfl 18 rfl (Nat.le_of_ble_eq_true rfl) [(0, .slice (some ⟨b, p, none⟩) (n) (c))] ⟨rfl, trivial⟩ (fun a0 he0 hm0 => ?_)
  refine wp_seqR ?_
  refine wl_val he0 rfl rfl (.bool false) (rn_move _ (Or.inr rfl) _ rfl) (fun a1 he1 => ?_)
  clear he0
  refine wl_end ?_
  refine wp_seq ?_
  refine wp_seqR ?_
  refine wl_val he1 rfl rfl (.slice (some ⟨b, p, none⟩) (n) (c)) (rn_move _ (Or.inl rfl) _ (he1.tmp 0 _ rfl)) (fun a2 he2 => ?_)
  clear he1
  refine wl_val he2 rfl rfl (.int .i64 (((n : Nat) : Int))) (rn_builtin _ _ _ rfl #[.slice (some ⟨b, p, none⟩) (n) (c)] (map1 (he2.tmp 5 _ rfl)) (.int .i64 (((n : Nat) : Int))) (by kernel_rfl)) (fun a3 he3 => ?_)
  clear he2
  refine wl_val he3 rfl rfl (.int .i64 (0)) (rn_move _ (Or.inl rfl) _ rfl) (fun a4 he4 => ?_)
  clear he3
  refine wl_end ?_
  refine wp_block ?_
  refine wp_loopN (fun mz az wz => ∃ (i : Nat), mz = n - (i) ∧ (i ≤ n ∧ ∀ j, j < i → ruOk (f j) = true) ∧ EV az 18 [] [(0, .slice (some ⟨b, p, none⟩) (n) (c)), (5, .slice (some ⟨b, p, none⟩) (n) (c)), (6, .int .i64 (((n : Nat) : Int))), (7, .int .i64 (((i : Nat) : Int)))] ∧ MM [] w wz []) ⟨_, 0, rfl, ⟨by omega, fun j hj => by omega⟩, he4.sub _ ⟨rfl, rfl, rfl, rfl, trivial⟩, hm0.sub _ trivial⟩ ?_
  rintro mz1 a5 w1 ⟨i, rfl, hrel1, he5, hm1⟩
  clear he4 hm0
  have hrel1a := hrel1.1
  refine wp_seqR ?_
  cases hd1 : (decide (((i : Nat) : Int) < ((n : Nat) : Int)))
  ·
   have hd1p := of_decide_eq_false hd1
   refine wl_val he5 rfl rfl (.bool false) (rn_bin _ _ _ _ _ rfl .i64 _ _ (he5.tmp 7 _ rfl) (he5.tmp 6 _ rfl) (.bool (decide (((i : Nat) : Int) < ((n : Nat) : Int)))) _ rfl (congrArg Value.bool (hd1))) (fun a6 he6 => ?_)
   clear he5
   refine wl_end ?_
   refine wp_seq ?_
   refine wp_condF (he := he6) rfl ?_
   refine wp_exit ?_
   refine exit_then ?_
   refine exit_then ?_
   refine exit_here ?_
   refine then_normal ?_
   refine wp_seqR ?_
   refine wl_val he6 rfl rfl (.slice (some ⟨b, p, none⟩) (n) (c)) (rn_move _ (Or.inl rfl) _ (he6.tmp 0 _ rfl)) (fun a7 he7 => ?_)
   clear he6
   refine wl_val he7 rfl rfl (.int .i64 (((n : Nat) : Int))) (rn_builtin _ _ _ rfl #[.slice (some ⟨b, p, none⟩) (n) (c)] (map1 (he7.tmp 15 _ rfl)) (.int .i64 (((n : Nat) : Int))) (by kernel_rfl)) (fun a8 he8 => ?_)
   clear he7
   cases hd2 : (decide (((n : Nat) : Int) ≤ 6))
   ·
    have hd2p := of_decide_eq_false hd2
    refine wl_val he8 rfl rfl (.bool false) (rn_bin _ _ _ _ _ rfl .i64 _ _ (he8.tmp 16 _ rfl) rfl (.bool (decide (((n : Nat) : Int) ≤ 6))) _ rfl (congrArg Value.bool (hd2))) (fun a9 he9 => ?_)
    clear he8
    refine wl_val he9 rfl rfl (.bool false) (rn_move _ (Or.inr rfl) _ (he9.tmp 17 _ rfl)) (fun a10 he10 => ?_)
    clear he9
    refine wl_end ?_
    refine wp_ret ?_
    exact bodyPost_ret (results_tmp he10 _ Tryd.results8 _ rfl) he10.defers ⟨(by first | rw [ruOks, ruAll_no (i := i) (by omega) (by assumption)]; rfl | rw [ruOks, ruAll_yes fun j hj => hrel1.2 j (by omega)]; simp; try omega), hm1.below⟩
   ·
    have hd2p := of_decide_eq_true hd2
    refine wl_val he8 rfl rfl (.bool true) (rn_bin _ _ _ _ _ rfl .i64 _ _ (he8.tmp 16 _ rfl) rfl (.bool (decide (((n : Nat) : Int) ≤ 6))) _ rfl (congrArg Value.bool (hd2))) (fun a9 he9 => ?_)
    clear he8
    refine wl_val he9 rfl rfl (.bool true) (rn_move _ (Or.inr rfl) _ (he9.tmp 17 _ rfl)) (fun a10 he10 => ?_)
    clear he9
    refine wl_end ?_
    refine wp_ret ?_
    exact bodyPost_ret (results_tmp he10 _ Tryd.results8 _ rfl) he10.defers ⟨(by first | rw [ruOks, ruAll_no (i := i) (by omega) (by assumption)]; rfl | rw [ruOks, ruAll_yes fun j hj => hrel1.2 j (by omega)]; simp; try omega), hm1.below⟩
  ·
   have hd1p := of_decide_eq_true hd1
   refine wl_val he5 rfl rfl (.bool true) (rn_bin _ _ _ _ _ rfl .i64 _ _ (he5.tmp 7 _ rfl) (he5.tmp 6 _ rfl) (.bool (decide (((i : Nat) : Int) < ((n : Nat) : Int)))) _ rfl (congrArg Value.bool (hd1))) (fun a6 he6 => ?_)
   clear he5
   refine wl_end ?_
   refine wp_seq ?_
   refine wp_condT (he := he6) rfl ?_
   refine wp_skip ?_
   refine then_normal ?_
   refine wp_seq ?_
   refine wp_block ?_
   refine wp_seqR ?_
   refine wl_val he6 rfl rfl (.pointer (some ⟨b, p + i * 5, none⟩)) (rn_indexA _ _ _ rfl _ _ (.pointer (some ⟨b, p + i * 5, none⟩)) (he6.tmp 5 _ rfl) (he6.tmp 7 _ rfl) (ixS 36 5 (by kernel_rfl) (fun w => by kernel_rfl) (b) (p) (n) (c) (i) (by omega) _)) (fun a7 he7 => ?_)
   clear he6
   refine wl_val he7 rfl rfl (.agg (Ru.arr (f i))) (rn_rowA hm1 hR (by simp) (i) (by omega) _ _ rfl (he7.tmp 9 _ rfl) agg36 (by kernel_rfl)) (fun a8 he8 => ?_)
   clear he7
   refine wl_alloc he8 hm1 1 rfl rfl rfl _ rfl (.agg #[.int .i64 0, .int .i64 0, .int .i64 0, .int .i64 0, .int .i64 0]) (fun w => by kernel_rfl) (#[.int .i64 (0), .int .i64 (0), .int .i64 (0), .int .i64 (0), .int .i64 (0)]) rfl (fun a9 w2 b1 he9 hm2 => ?_)
   clear he8 hm1
   refine wl_store he9 hm2 1 rfl rfl rfl _ _ _ rfl (0) (he9.tmp 4 _ rfl) _ (he9.tmp 10 _ rfl) 5 agg36.size rfl (Ru.one _) (by decide) (Ru.arr (f i)) (by kernel_rfl) (fun w3 hm3 => ?_)
   clear hm2
   refine wl_end ?_
   refine wp_seqR ?_
   refine wl_val he9 rfl rfl (.agg (Ru.arr (f i))) (rn_loadA hm3 1 rfl _ _ rfl (0) (he9.tmp 4 _ rfl) 5 agg36 (Ru.arr (f i)) (by kernel_rfl) rfl) (fun a10 he10 => ?_)
   clear he9
   cases hd2 : (ruOk (f i))
   ·
    refine wl_call he10 hm3 rfl rfl _ #[.agg (Ru.arr (f i))] (enter_call _ _ _ rfl 19 #[] #[] rfl #[.agg (Ru.arr (f i))] (map1 (he10.tmp 11 _ rfl)) #[.agg (Ru.arr (f i))] rfl (fun _ _ => by kernel_rfl)) (.bool false) (callsV (congrArg Value.bool (hd2)) (c_rOk _ _)) (fun a11 w4 he11 hm4 => ?_)
    clear he10 hm3
    refine wl_val he11 rfl rfl (.bool true) (rn_un _ _ _ rfl _ (.bool (!false)) _ (he11.tmp 12 _ rfl) rfl rfl) (fun a12 he12 => ?_)
    clear he11
    refine wl_end ?_
    refine wp_condT (he := he12) rfl ?_
    refine wp_seqR ?_
    refine wl_val he12 rfl rfl (.bool false) (rn_move _ (Or.inr rfl) _ rfl) (fun a13 he13 => ?_)
    clear he12
    refine wl_end ?_
    refine wp_ret ?_
    refine ret_in ?_
    refine ret_then ?_
    refine ret_then ?_
    refine ret_in ?_
    refine ret_then ?_
    exact bodyPost_ret (results_tmp he13 _ Tryd.results8 _ rfl) he13.defers ⟨(by first | rw [ruOks, ruAll_no (i := i) (by omega) (by assumption)]; rfl | rw [ruOks, ruAll_yes fun j hj => hrel1.2 j (by omega)]; simp; try omega), hm4.below⟩
   ·
    refine wl_call he10 hm3 rfl rfl _ #[.agg (Ru.arr (f i))] (enter_call _ _ _ rfl 19 #[] #[] rfl #[.agg (Ru.arr (f i))] (map1 (he10.tmp 11 _ rfl)) #[.agg (Ru.arr (f i))] rfl (fun _ _ => by kernel_rfl)) (.bool true) (callsV (congrArg Value.bool (hd2)) (c_rOk _ _)) (fun a11 w4 he11 hm4 => ?_)
    clear he10 hm3
    refine wl_val he11 rfl rfl (.bool false) (rn_un _ _ _ rfl _ (.bool (!true)) _ (he11.tmp 12 _ rfl) rfl rfl) (fun a12 he12 => ?_)
    clear he11
    refine wl_end ?_
    refine wp_condF (he := he12) rfl ?_
    refine wp_skip ?_
    refine in_normal ?_
    refine then_normal ?_
    refine wp_region_lit ?_
    refine wl_val he12 rfl rfl (.int .i64 (((i + 1 : Nat) : Int))) (rn_bin _ _ _ _ _ rfl .i64 _ _ (he12.tmp 7 _ rfl) rfl (.int .i64 (IntKind.wrap .i64 (((i : Nat) : Int) + 1))) _ rfl (addN (i := i) (c := 1) (by omega))) (fun a13 he13 => ?_)
    clear he12
    refine wl_val he13 rfl rfl (.int .i64 (((i + 1 : Nat) : Int))) (rn_move _ (Or.inl rfl) _ (he13.tmp 14 _ rfl)) (fun a14 he14 => ?_)
    clear he13
    refine wpList_nil ?_
    exact ⟨n - (i + 1), by omega, i + 1, rfl, ⟨by omega, fun j hj => by rcases Nat.lt_or_ge j i with hh | hh; exact hrel1.2 j hh; rw [show j = i by omega]; assumption⟩, he14.sub _ ⟨rfl, rfl, rfl, rfl, trivial⟩, hm4.sub _ trivial⟩
end Go.Proofs.YtkaekiodjjhjkaaDoor
