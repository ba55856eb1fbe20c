/- Rules: when they are ok, by the specification. -/
import Derived.Test.YtkaekiodjjhjkaaDoorWM
namespace Go.Proofs.YtkaekiodjjhjkaaDoor
open Go.RowKit
set_option linter.unusedVariables false
set_option linter.unusedSimpArgs false
theorem one3 : OneT Tryd.prog 3 := ⟨fun w => by kernel_rfl, fun w => by kernel_rfl⟩
theorem agg36 : AggT Tryd.prog 36 5 := ⟨fun w => by kernel_rfl, fun w => by kernel_rfl⟩
theorem c_in (n lo hi : Int) (w : World)  :
    Calls Tryd.prog 51 #[.int .i64 (n), .int .i64 (lo), .int .i64 (hi)] w fun e w' => e = .returned (.bool (inR n lo hi)) ∧ Below w.heap.size w w' := by
  refine calls_begin Tryd.func51 rfl 15 rfl (Nat.le_of_ble_eq_true rfl) [(0, .int .i64 (n)), (1, .int .i64 (lo)), (2, .int .i64 (hi))] ⟨rfl, rfl, rfl, trivial⟩ (fun a0 he0 hm0 => ?_)
  refine wp_seqR ?_
  refine wl_val he0 rfl rfl (.bool false) (rn_move _ (Or.inr rfl) _ rfl) (fun a1 he1 => ?_)
  clear he0
  refine wl_end ?_
  refine wp_seqR ?_
  refine wl_val he1 rfl rfl (.int .i64 (n)) (rn_move _ (Or.inl rfl) _ (he1.tmp 0 _ rfl)) (fun a2 he2 => ?_)
  clear he1
  refine wl_val he2 rfl rfl (.int .i64 (lo)) (rn_move _ (Or.inl rfl) _ (he2.tmp 1 _ rfl)) (fun a3 he3 => ?_)
  clear he2
  cases hd1 : (decide (n ≥ lo))
  ·
   have hd1p := of_decide_eq_false hd1
   refine wl_val he3 rfl rfl (.bool false) (rn_bin _ _ _ _ _ rfl .i64 _ _ (he3.tmp 7 _ rfl) (he3.tmp 8 _ rfl) (.bool (decide (n ≥ lo))) _ rfl (congrArg Value.bool (hd1))) (fun a4 he4 => ?_)
   clear he3
   refine wl_val he4 rfl rfl (.bool false) (rn_move _ (Or.inl rfl) _ (he4.tmp 9 _ rfl)) (fun a5 he5 => ?_)
   clear he4
   refine wl_not he5 rfl (wanted_slot he5 3 true rfl 10 rfl false rfl false rfl) (fun a6 he6 => ?_)
   clear he5
   refine wl_not he6 rfl (wanted_slot he6 3 true rfl 10 rfl false rfl false rfl) (fun a7 he7 => ?_)
   clear he6
   refine wl_not he7 rfl (wanted_slot he7 3 true rfl 10 rfl false rfl false rfl) (fun a8 he8 => ?_)
   clear he7
   refine wl_val he8 rfl rfl (.bool false) (rn_pickF _ _ _ rfl (he8.tmp 10 _ rfl) _ rfl) (fun a9 he9 => ?_)
   clear he8
   refine wl_val he9 rfl rfl (.bool false) (rn_move _ (Or.inr rfl) _ (he9.tmp 14 _ rfl)) (fun a10 he10 => ?_)
   clear he9
   refine wl_end ?_
   refine wp_ret ?_
   exact bodyPost_ret (results_tmp he10 _ Tryd.results51 _ rfl) he10.defers ⟨(by simp [inR, hd1]), hm0.below⟩
  ·
   have hd1p := of_decide_eq_true hd1
   refine wl_val he3 rfl rfl (.bool true) (rn_bin _ _ _ _ _ rfl .i64 _ _ (he3.tmp 7 _ rfl) (he3.tmp 8 _ rfl) (.bool (decide (n ≥ lo))) _ rfl (congrArg Value.bool (hd1))) (fun a4 he4 => ?_)
   clear he3
   refine wl_val he4 rfl rfl (.bool true) (rn_move _ (Or.inl rfl) _ (he4.tmp 9 _ rfl)) (fun a5 he5 => ?_)
   clear he4
   refine wl_val he5 rfl (wanted_slot he5 3 true rfl 10 rfl true rfl true rfl) (.int .i64 (n)) (rn_move _ (Or.inl rfl) _ (he5.tmp 0 _ rfl)) (fun a6 he6 => ?_)
   clear he5
   refine wl_val he6 rfl (wanted_slot he6 3 true rfl 10 rfl true rfl true rfl) (.int .i64 (hi)) (rn_move _ (Or.inl rfl) _ (he6.tmp 2 _ rfl)) (fun a7 he7 => ?_)
   clear he6
   cases hd2 : (decide (n ≤ hi))
   ·
    have hd2p := of_decide_eq_false hd2
    refine wl_val he7 rfl (wanted_slot he7 3 true rfl 10 rfl true rfl true rfl) (.bool false) (rn_bin _ _ _ _ _ rfl .i64 _ _ (he7.tmp 11 _ rfl) (he7.tmp 12 _ rfl) (.bool (decide (n ≤ hi))) _ rfl (congrArg Value.bool (hd2))) (fun a8 he8 => ?_)
    clear he7
    refine wl_val he8 rfl rfl (.bool false) (rn_pickT _ _ _ rfl (he8.tmp 10 _ rfl) _ (he8.tmp 13 _ rfl)) (fun a9 he9 => ?_)
    clear he8
    refine wl_val he9 rfl rfl (.bool false) (rn_move _ (Or.inr rfl) _ (he9.tmp 14 _ rfl)) (fun a10 he10 => ?_)
    clear he9
    refine wl_end ?_
    refine wp_ret ?_
    exact bodyPost_ret (results_tmp he10 _ Tryd.results51 _ rfl) he10.defers ⟨(by simp [inR, hd1, hd2]), hm0.below⟩
   ·
    have hd2p := of_decide_eq_true hd2
    refine wl_val he7 rfl (wanted_slot he7 3 true rfl 10 rfl true rfl true rfl) (.bool true) (rn_bin _ _ _ _ _ rfl .i64 _ _ (he7.tmp 11 _ rfl) (he7.tmp 12 _ rfl) (.bool (decide (n ≤ hi))) _ rfl (congrArg Value.bool (hd2))) (fun a8 he8 => ?_)
    clear he7
    refine wl_val he8 rfl rfl (.bool true) (rn_pickT _ _ _ rfl (he8.tmp 10 _ rfl) _ (he8.tmp 13 _ rfl)) (fun a9 he9 => ?_)
    clear he8
    refine wl_val he9 rfl rfl (.bool true) (rn_move _ (Or.inr rfl) _ (he9.tmp 14 _ rfl)) (fun a10 he10 => ?_)
    clear he9
    refine wl_end ?_
    refine wp_ret ?_
    exact bodyPost_ret (results_tmp he10 _ Tryd.results51 _ rfl) he10.defers ⟨(by simp [inR, hd1, hd2]), hm0.below⟩
theorem c_top  (w : World)  :
    Calls Tryd.prog 52 #[] w fun e w' => e = .returned (.int .i64 4294967295) ∧ Below w.heap.size w w' := by
  refine calls_begin Tryd.func52 rfl 1 rfl (Nat.le_of_ble_eq_true rfl) [] trivial (fun a0 he0 hm0 => ?_)
  refine wp_seqR ?_
  refine wl_val he0 rfl rfl (.int .i64 (0)) (rn_move _ (Or.inr rfl) _ rfl) (fun a1 he1 => ?_)
  clear he0
  refine wl_end ?_
  refine wp_seqR ?_
  refine wl_val he1 rfl rfl (.int .i64 (4294967295)) (rn_move _ (Or.inr rfl) _ rfl) (fun a2 he2 => ?_)
  clear he1
  refine wl_end ?_
  refine wp_ret ?_
  exact bodyPost_ret (results_tmp he2 _ Tryd.results52 _ rfl) he2.defers ⟨rfl, hm0.below⟩
theorem c_rok (r : Ru) (w : World)  :
    Calls Tryd.prog 30 #[.agg (Ru.arr (r))] w fun e w' => e = .returned (.bool (ruOk r)) ∧ Below w.heap.size w w' := by
  refine calls_begin Tryd.func30 rfl 37 rfl (Nat.le_of_ble_eq_true rfl) [(0, .agg (Ru.arr (r)))] ⟨rfl, trivial⟩ (fun a0 he0 hm0 => ?_)
  refine wp_seqR ?_
  refine wl_box he0 hm0 1 rfl rfl rfl _ _ rfl _ (he0.tmp 0 _ rfl) (Ru.arr (r)) rfl (fun a1 w1 b1 he1 hm1 => ?_)
  clear he0 hm0
  refine wl_val he1 rfl rfl (.bool false) (rn_move _ (Or.inr rfl) _ rfl) (fun a2 he2 => ?_)
  clear he1
  refine wl_end ?_
  refine wp_seq ?_
  refine wh_begin (by kernel_rfl) hm1 [(1, ⟨true, b1, 36, Ru.arr (r)⟩)] ⟨rfl, trivial⟩ (fun w2 hm2 => ?_)
  clear hm1
  refine tk (fuel := 34) (i := 0) ?_ he2 hm2 ⟨rfl, trivial⟩ (.pointer (some ⟨b1, 0, none⟩)) ?_ ?_ ?_ ?_ fun a3 he3 => ?_
  rotate_left
  rw [List.getElem?_toArray]; rfl
  exact ⟨by kernel_rfl, by kernel_rfl, by kernel_rfl⟩
  exact ⟨fun _ _ _ _ h => h, rfl, rfl⟩
  exact fun wS hmS => rn_field _ _ _ rfl _ (.pointer (some ⟨b1, 0, none⟩)) (he2.tmp 1 _ rfl) (by kernel_rfl)
  clear he2
  refine tk (fuel := 33) (i := 1) ?_ he3 hm2 ⟨rfl, trivial⟩ (.int .i64 ((r).at_)) ?_ ?_ ?_ ?_ fun a4 he4 => ?_
  rotate_left
  rw [List.getElem?_toArray]; rfl
  exact ⟨by kernel_rfl, by kernel_rfl, by kernel_rfl⟩
  exact ⟨fun _ _ _ _ h => h, rfl, rfl⟩
  exact fun wS hmS => rn_load1 hmS 1 rfl _ _ rfl (0) (he3.tmp 3 _ rfl) one3 _ rfl
  clear he3
  cases hd1 : (inR ((r).at_) 0 11)
  ·
   refine wh_call (i := 2) (op := ?op1d0_2) (fuel := 32) ?hr1d0_2 ?hi1d0_2 he4 hm2 ⟨rfl, trivial⟩ ?hd1d0_2 ?hw1d0_2 _ #[.int .i64 ((r).at_), .int .i64 (0), .int .i64 (11)] ?en1d0_2 (.bool false) (callsV (congrArg Value.bool (hd1)) (c_in _ _ _ _)) (fun a5 w3 he5 hm3 => ?k1d0_2)
   case hi1d0_2 => rw [List.getElem?_toArray]; rfl
   case hw1d0_2 => exact rfl
   case hr1d0_2 => kernel_rfl
   case hd1d0_2 => rfl
   case en1d0_2 => exact (enter_call _ _ _ rfl 51 #[] #[] rfl #[.int .i64 ((r).at_), .int .i64 (0), .int .i64 (11)] (map3 (he4.tmp 4 _ rfl) rfl rfl) #[.int .i64 ((r).at_), .int .i64 (0), .int .i64 (11)] rfl (fun _ _ => by kernel_rfl))
   clear he4 hm2
   refine tk (fuel := 31) (i := 3) ?_ he5 hm3 ⟨rfl, trivial⟩ (.bool false) ?_ ?_ ?_ ?_ fun a6 he6 => ?_
   rotate_left
   rw [List.getElem?_toArray]; rfl
   exact ⟨by kernel_rfl, by kernel_rfl, by kernel_rfl⟩
   exact ⟨fun _ _ _ _ h => h, rfl, rfl⟩
   exact fun wS hmS => rn_move _ (Or.inl rfl) _ (he5.tmp 5 _ rfl)
   clear he5
   refine tkN (fuel := 30) (i := 4) ?_ he6 hm3 ⟨rfl, trivial⟩ ?_ ?_ ?_ fun a7 he7 => ?_
   rotate_left
   rw [List.getElem?_toArray]; rfl
   exact ⟨by kernel_rfl, by kernel_rfl, by kernel_rfl⟩
   exact ⟨fun _ _ _ _ h => h, rfl, (wanted_slot he6 3 true rfl 6 rfl false rfl false rfl)⟩
   clear he6
   refine tkN (fuel := 29) (i := 5) ?_ he7 hm3 ⟨rfl, trivial⟩ ?_ ?_ ?_ fun a8 he8 => ?_
   rotate_left
   rw [List.getElem?_toArray]; rfl
   exact ⟨by kernel_rfl, by kernel_rfl, by kernel_rfl⟩
   exact ⟨fun _ _ _ _ h => h, rfl, (wanted_slot he7 3 true rfl 6 rfl false rfl false rfl)⟩
   clear he7
   refine wh_pass (i := 6) (op := ?op1d0_6) (fuel := 28) ?hr1d0_6 ?hi1d0_6 he8 hm3 ⟨rfl, trivial⟩ ?hd1d0_6 ?hw1d0_6 (fun a9 he9 => ?k1d0_6)
   case hi1d0_6 => rw [List.getElem?_toArray]; rfl
   case hw1d0_6 => exact (wanted_slot he8 3 true rfl 6 rfl false rfl false rfl)
   case hr1d0_6 => kernel_rfl
   case hd1d0_6 => rfl
   clear he8
   refine tk (fuel := 27) (i := 7) ?_ he9 hm3 ⟨rfl, trivial⟩ (.bool false) ?_ ?_ ?_ ?_ fun a10 he10 => ?_
   rotate_left
   rw [List.getElem?_toArray]; rfl
   exact ⟨by kernel_rfl, by kernel_rfl, by kernel_rfl⟩
   exact ⟨fun _ _ _ _ h => h, rfl, rfl⟩
   exact fun wS hmS => rn_pickF _ _ _ rfl (he9.tmp 6 _ rfl) _ rfl
   clear he9
   refine tk (fuel := 26) (i := 8) ?_ he10 hm3 ⟨rfl, trivial⟩ (.bool false) ?_ ?_ ?_ ?_ fun a11 he11 => ?_
   rotate_left
   rw [List.getElem?_toArray]; rfl
   exact ⟨by kernel_rfl, by kernel_rfl, by kernel_rfl⟩
   exact ⟨fun _ _ _ _ h => h, rfl, rfl⟩
   exact fun wS hmS => rn_move _ (Or.inl rfl) _ (he10.tmp 10 _ rfl)
   clear he10
   refine tkN (fuel := 25) (i := 9) ?_ he11 hm3 ⟨rfl, trivial⟩ ?_ ?_ ?_ fun a12 he12 => ?_
   rotate_left
   rw [List.getElem?_toArray]; rfl
   exact ⟨by kernel_rfl, by kernel_rfl, by kernel_rfl⟩
   exact ⟨fun _ _ _ _ h => h, rfl, (wanted_slot he11 8 true rfl 11 rfl false rfl false rfl)⟩
   clear he11
   refine tkN (fuel := 24) (i := 10) ?_ he12 hm3 ⟨rfl, trivial⟩ ?_ ?_ ?_ fun a13 he13 => ?_
   rotate_left
   rw [List.getElem?_toArray]; rfl
   exact ⟨by kernel_rfl, by kernel_rfl, by kernel_rfl⟩
   exact ⟨fun _ _ _ _ h => h, rfl, (wanted_slot he12 8 true rfl 11 rfl false rfl false rfl)⟩
   clear he12
   refine wh_pass (i := 11) (op := ?op1d0_11) (fuel := 23) ?hr1d0_11 ?hi1d0_11 he13 hm3 ⟨rfl, trivial⟩ ?hd1d0_11 ?hw1d0_11 (fun a14 he14 => ?k1d0_11)
   case hi1d0_11 => rw [List.getElem?_toArray]; rfl
   case hw1d0_11 => exact (wanted_slot he13 8 true rfl 11 rfl false rfl false rfl)
   case hr1d0_11 => kernel_rfl
   case hd1d0_11 => rfl
   clear he13
   refine tk (fuel := 22) (i := 12) ?_ he14 hm3 ⟨rfl, trivial⟩ (.bool false) ?_ ?_ ?_ ?_ fun a15 he15 => ?_
   rotate_left
   rw [List.getElem?_toArray]; rfl
   exact ⟨by kernel_rfl, by kernel_rfl, by kernel_rfl⟩
   exact ⟨fun _ _ _ _ h => h, rfl, rfl⟩
   exact fun wS hmS => rn_pickF _ _ _ rfl (he14.tmp 11 _ rfl) _ rfl
   clear he14
   refine tk (fuel := 21) (i := 13) ?_ he15 hm3 ⟨rfl, trivial⟩ (.bool false) ?_ ?_ ?_ ?_ fun a16 he16 => ?_
   rotate_left
   rw [List.getElem?_toArray]; rfl
   exact ⟨by kernel_rfl, by kernel_rfl, by kernel_rfl⟩
   exact ⟨fun _ _ _ _ h => h, rfl, rfl⟩
   exact fun wS hmS => rn_move _ (Or.inl rfl) _ (he15.tmp 15 _ rfl)
   clear he15
   refine tkN (fuel := 20) (i := 14) ?_ he16 hm3 ⟨rfl, trivial⟩ ?_ ?_ ?_ fun a17 he17 => ?_
   rotate_left
   rw [List.getElem?_toArray]; rfl
   exact ⟨by kernel_rfl, by kernel_rfl, by kernel_rfl⟩
   exact ⟨fun _ _ _ _ h => h, rfl, (wanted_slot he16 13 true rfl 16 rfl false rfl false rfl)⟩
   clear he16
   refine tkN (fuel := 19) (i := 15) ?_ he17 hm3 ⟨rfl, trivial⟩ ?_ ?_ ?_ fun a18 he18 => ?_
   rotate_left
   rw [List.getElem?_toArray]; rfl
   exact ⟨by kernel_rfl, by kernel_rfl, by kernel_rfl⟩
   exact ⟨fun _ _ _ _ h => h, rfl, (wanted_slot he17 13 true rfl 16 rfl false rfl false rfl)⟩
   clear he17
   refine wh_pass (i := 16) (op := ?op1d0_16) (fuel := 18) ?hr1d0_16 ?hi1d0_16 he18 hm3 ⟨rfl, trivial⟩ ?hd1d0_16 ?hw1d0_16 (fun a19 he19 => ?k1d0_16)
   case hi1d0_16 => rw [List.getElem?_toArray]; rfl
   case hw1d0_16 => exact (wanted_slot he18 13 true rfl 16 rfl false rfl false rfl)
   case hr1d0_16 => kernel_rfl
   case hd1d0_16 => rfl
   clear he18
   refine tk (fuel := 17) (i := 17) ?_ he19 hm3 ⟨rfl, trivial⟩ (.bool false) ?_ ?_ ?_ ?_ fun a20 he20 => ?_
   rotate_left
   rw [List.getElem?_toArray]; rfl
   exact ⟨by kernel_rfl, by kernel_rfl, by kernel_rfl⟩
   exact ⟨fun _ _ _ _ h => h, rfl, rfl⟩
   exact fun wS hmS => rn_pickF _ _ _ rfl (he19.tmp 16 _ rfl) _ rfl
   clear he19
   refine tk (fuel := 16) (i := 18) ?_ he20 hm3 ⟨rfl, trivial⟩ (.bool false) ?_ ?_ ?_ ?_ fun a21 he21 => ?_
   rotate_left
   rw [List.getElem?_toArray]; rfl
   exact ⟨by kernel_rfl, by kernel_rfl, by kernel_rfl⟩
   exact ⟨fun _ _ _ _ h => h, rfl, rfl⟩
   exact fun wS hmS => rn_move _ (Or.inl rfl) _ (he20.tmp 20 _ rfl)
   clear he20
   refine tkN (fuel := 15) (i := 19) ?_ he21 hm3 ⟨rfl, trivial⟩ ?_ ?_ ?_ fun a22 he22 => ?_
   rotate_left
   rw [List.getElem?_toArray]; rfl
   exact ⟨by kernel_rfl, by kernel_rfl, by kernel_rfl⟩
   exact ⟨fun _ _ _ _ h => h, rfl, (wanted_slot he21 18 true rfl 21 rfl false rfl false rfl)⟩
   clear he21
   refine tkN (fuel := 14) (i := 20) ?_ he22 hm3 ⟨rfl, trivial⟩ ?_ ?_ ?_ fun a23 he23 => ?_
   rotate_left
   rw [List.getElem?_toArray]; rfl
   exact ⟨by kernel_rfl, by kernel_rfl, by kernel_rfl⟩
   exact ⟨fun _ _ _ _ h => h, rfl, (wanted_slot he22 18 true rfl 21 rfl false rfl false rfl)⟩
   clear he22
   refine wh_pass (i := 21) (op := ?op1d0_21) (fuel := 13) ?hr1d0_21 ?hi1d0_21 he23 hm3 ⟨rfl, trivial⟩ ?hd1d0_21 ?hw1d0_21 (fun a24 he24 => ?k1d0_21)
   case hi1d0_21 => rw [List.getElem?_toArray]; rfl
   case hw1d0_21 => exact (wanted_slot he23 18 true rfl 21 rfl false rfl false rfl)
   case hr1d0_21 => kernel_rfl
   case hd1d0_21 => rfl
   clear he23
   refine wh_pass (i := 22) (op := ?op1d0_22) (fuel := 12) ?hr1d0_22 ?hi1d0_22 he24 hm3 ⟨rfl, trivial⟩ ?hd1d0_22 ?hw1d0_22 (fun a25 he25 => ?k1d0_22)
   case hi1d0_22 => rw [List.getElem?_toArray]; rfl
   case hw1d0_22 => exact (wanted_slot he24 18 true rfl 21 rfl false rfl false rfl)
   case hr1d0_22 => kernel_rfl
   case hd1d0_22 => rfl
   clear he24
   refine tk (fuel := 11) (i := 23) ?_ he25 hm3 ⟨rfl, trivial⟩ (.bool false) ?_ ?_ ?_ ?_ fun a26 he26 => ?_
   rotate_left
   rw [List.getElem?_toArray]; rfl
   exact ⟨by kernel_rfl, by kernel_rfl, by kernel_rfl⟩
   exact ⟨fun _ _ _ _ h => h, rfl, rfl⟩
   exact fun wS hmS => rn_pickF _ _ _ rfl (he25.tmp 21 _ rfl) _ rfl
   clear he25
   refine tk (fuel := 10) (i := 24) ?_ he26 hm3 ⟨rfl, trivial⟩ (.bool false) ?_ ?_ ?_ ?_ fun a27 he27 => ?_
   rotate_left
   rw [List.getElem?_toArray]; rfl
   exact ⟨by kernel_rfl, by kernel_rfl, by kernel_rfl⟩
   exact ⟨fun _ _ _ _ h => h, rfl, rfl⟩
   exact fun wS hmS => rn_move _ (Or.inl rfl) _ (he26.tmp 26 _ rfl)
   clear he26
   refine tkN (fuel := 9) (i := 25) ?_ he27 hm3 ⟨rfl, trivial⟩ ?_ ?_ ?_ fun a28 he28 => ?_
   rotate_left
   rw [List.getElem?_toArray]; rfl
   exact ⟨by kernel_rfl, by kernel_rfl, by kernel_rfl⟩
   exact ⟨fun _ _ _ _ h => h, rfl, (wanted_slot he27 24 true rfl 27 rfl false rfl false rfl)⟩
   clear he27
   refine tkN (fuel := 8) (i := 26) ?_ he28 hm3 ⟨rfl, trivial⟩ ?_ ?_ ?_ fun a29 he29 => ?_
   rotate_left
   rw [List.getElem?_toArray]; rfl
   exact ⟨by kernel_rfl, by kernel_rfl, by kernel_rfl⟩
   exact ⟨fun _ _ _ _ h => h, rfl, (wanted_slot he28 24 true rfl 27 rfl false rfl false rfl)⟩
   clear he28
   refine tkN (fuel := 7) (i := 27) ?_ he29 hm3 ⟨rfl, trivial⟩ ?_ ?_ ?_ fun a30 he30 => ?_
   rotate_left
   rw [List.getElem?_toArray]; rfl
   exact ⟨by kernel_rfl, by kernel_rfl, by kernel_rfl⟩
   exact ⟨fun _ _ _ _ h => h, rfl, (wanted_slot he29 24 true rfl 27 rfl false rfl false rfl)⟩
   clear he29
   refine tkN (fuel := 6) (i := 28) ?_ he30 hm3 ⟨rfl, trivial⟩ ?_ ?_ ?_ fun a31 he31 => ?_
   rotate_left
   rw [List.getElem?_toArray]; rfl
   exact ⟨by kernel_rfl, by kernel_rfl, by kernel_rfl⟩
   exact ⟨fun _ _ _ _ h => h, rfl, (wanted_slot he30 24 true rfl 27 rfl false rfl false rfl)⟩
   clear he30
   refine tkN (fuel := 5) (i := 29) ?_ he31 hm3 ⟨rfl, trivial⟩ ?_ ?_ ?_ fun a32 he32 => ?_
   rotate_left
   rw [List.getElem?_toArray]; rfl
   exact ⟨by kernel_rfl, by kernel_rfl, by kernel_rfl⟩
   exact ⟨fun _ _ _ _ h => h, rfl, (wanted_undef he31 28 false rfl 31 rfl rfl)⟩
   clear he31
   refine tkN (fuel := 4) (i := 30) ?_ he32 hm3 ⟨rfl, trivial⟩ ?_ ?_ ?_ fun a33 he33 => ?_
   rotate_left
   rw [List.getElem?_toArray]; rfl
   exact ⟨by kernel_rfl, by kernel_rfl, by kernel_rfl⟩
   exact ⟨fun _ _ _ _ h => h, rfl, (wanted_undef he32 28 false rfl 31 rfl rfl)⟩
   clear he32
   refine tkN (fuel := 3) (i := 31) ?_ he33 hm3 ⟨rfl, trivial⟩ ?_ ?_ ?_ fun a34 he34 => ?_
   rotate_left
   rw [List.getElem?_toArray]; rfl
   exact ⟨by kernel_rfl, by kernel_rfl, by kernel_rfl⟩
   exact ⟨fun _ _ _ _ h => h, rfl, (wanted_undef he33 28 false rfl 31 rfl rfl)⟩
   clear he33
   refine tkN (fuel := 2) (i := 32) ?_ he34 hm3 ⟨rfl, trivial⟩ ?_ ?_ ?_ fun a35 he35 => ?_
   rotate_left
   rw [List.getElem?_toArray]; rfl
   exact ⟨by kernel_rfl, by kernel_rfl, by kernel_rfl⟩
   exact ⟨fun _ _ _ _ h => h, rfl, (wanted_slot he34 24 true rfl 27 rfl false rfl false rfl)⟩
   clear he34
   refine tk (fuel := 1) (i := 33) ?_ he35 hm3 ⟨rfl, trivial⟩ (.bool false) ?_ ?_ ?_ ?_ fun a36 he36 => ?_
   rotate_left
   rw [List.getElem?_toArray]; rfl
   exact ⟨by kernel_rfl, by kernel_rfl, by kernel_rfl⟩
   exact ⟨fun _ _ _ _ h => h, rfl, rfl⟩
   exact fun wS hmS => rn_pickF _ _ _ rfl (he35.tmp 27 _ rfl) _ rfl
   clear he35
   refine tk (fuel := 0) (i := 34) ?_ he36 hm3 ⟨rfl, trivial⟩ (.bool false) ?_ ?_ ?_ ?_ fun a37 he37 => ?_
   rotate_left
   rw [List.getElem?_toArray]; rfl
   exact ⟨by kernel_rfl, by kernel_rfl, by kernel_rfl⟩
   exact ⟨fun _ _ _ _ h => h, rfl, rfl⟩
   exact fun wS hmS => rn_move _ (Or.inr rfl) _ (he36.tmp 36 _ rfl)
   clear he36
   refine wpAnyH_done (by kernel_rfl) ?_ _
   refine then_normal ?_
   refine wp_ret ?_
   exact bodyPost_ret (results_tmp he37 _ Tryd.results30 _ rfl) he37.defers ⟨(by simp [ruOk, hd1]), hm3.below⟩
  ·
   refine wh_call (i := 2) (op := ?op1d1_2) (fuel := 32) ?hr1d1_2 ?hi1d1_2 he4 hm2 ⟨rfl, trivial⟩ ?hd1d1_2 ?hw1d1_2 _ #[.int .i64 ((r).at_), .int .i64 (0), .int .i64 (11)] ?en1d1_2 (.bool true) (callsV (congrArg Value.bool (hd1)) (c_in _ _ _ _)) (fun a5 w3 he5 hm3 => ?k1d1_2)
   case hi1d1_2 => rw [List.getElem?_toArray]; rfl
   case hw1d1_2 => exact rfl
   case hr1d1_2 => kernel_rfl
   case hd1d1_2 => rfl
   case en1d1_2 => exact (enter_call _ _ _ rfl 51 #[] #[] rfl #[.int .i64 ((r).at_), .int .i64 (0), .int .i64 (11)] (map3 (he4.tmp 4 _ rfl) rfl rfl) #[.int .i64 ((r).at_), .int .i64 (0), .int .i64 (11)] rfl (fun _ _ => by kernel_rfl))
   clear he4 hm2
   refine tk (fuel := 31) (i := 3) ?_ he5 hm3 ⟨rfl, trivial⟩ (.bool true) ?_ ?_ ?_ ?_ fun a6 he6 => ?_
   rotate_left
   rw [List.getElem?_toArray]; rfl
   exact ⟨by kernel_rfl, by kernel_rfl, by kernel_rfl⟩
   exact ⟨fun _ _ _ _ h => h, rfl, rfl⟩
   exact fun wS hmS => rn_move _ (Or.inl rfl) _ (he5.tmp 5 _ rfl)
   clear he5
   refine tk (fuel := 30) (i := 4) ?_ he6 hm3 ⟨rfl, trivial⟩ (.pointer (some ⟨b1, 1, none⟩)) ?_ ?_ ?_ ?_ fun a7 he7 => ?_
   rotate_left
   rw [List.getElem?_toArray]; rfl
   exact ⟨by kernel_rfl, by kernel_rfl, by kernel_rfl⟩
   exact ⟨fun _ _ _ _ h => h, rfl, (wanted_slot he6 3 true rfl 6 rfl true rfl true rfl)⟩
   exact fun wS hmS => rn_field _ _ _ rfl _ (.pointer (some ⟨b1, 1, none⟩)) (he6.tmp 1 _ rfl) (by kernel_rfl)
   clear he6
   refine tk (fuel := 29) (i := 5) ?_ he7 hm3 ⟨rfl, trivial⟩ (.int .i64 ((r).op)) ?_ ?_ ?_ ?_ fun a8 he8 => ?_
   rotate_left
   rw [List.getElem?_toArray]; rfl
   exact ⟨by kernel_rfl, by kernel_rfl, by kernel_rfl⟩
   exact ⟨fun _ _ _ _ h => h, rfl, (wanted_slot he7 3 true rfl 6 rfl true rfl true rfl)⟩
   exact fun wS hmS => rn_load1 hmS 1 rfl _ _ rfl (1) (he7.tmp 7 _ rfl) one3 _ rfl
   clear he7
   cases hd2 : (inR ((r).op) 12 15)
   ·
    refine wh_call (i := 6) (op := ?op1d10_6) (fuel := 28) ?hr1d10_6 ?hi1d10_6 he8 hm3 ⟨rfl, trivial⟩ ?hd1d10_6 ?hw1d10_6 _ #[.int .i64 ((r).op), .int .i64 (12), .int .i64 (15)] ?en1d10_6 (.bool false) (callsV (congrArg Value.bool (hd2)) (c_in _ _ _ _)) (fun a9 w4 he9 hm4 => ?k1d10_6)
    case hi1d10_6 => rw [List.getElem?_toArray]; rfl
    case hw1d10_6 => exact (wanted_slot he8 3 true rfl 6 rfl true rfl true rfl)
    case hr1d10_6 => kernel_rfl
    case hd1d10_6 => rfl
    case en1d10_6 => exact (enter_call _ _ _ rfl 51 #[] #[] rfl #[.int .i64 ((r).op), .int .i64 (12), .int .i64 (15)] (map3 (he8.tmp 8 _ rfl) rfl rfl) #[.int .i64 ((r).op), .int .i64 (12), .int .i64 (15)] rfl (fun _ _ => by kernel_rfl))
    clear he8 hm3
    refine tk (fuel := 27) (i := 7) ?_ he9 hm4 ⟨rfl, trivial⟩ (.bool false) ?_ ?_ ?_ ?_ fun a10 he10 => ?_
    rotate_left
    rw [List.getElem?_toArray]; rfl
    exact ⟨by kernel_rfl, by kernel_rfl, by kernel_rfl⟩
    exact ⟨fun _ _ _ _ h => h, rfl, rfl⟩
    exact fun wS hmS => rn_pickT _ _ _ rfl (he9.tmp 6 _ rfl) _ (he9.tmp 9 _ rfl)
    clear he9
    refine tk (fuel := 26) (i := 8) ?_ he10 hm4 ⟨rfl, trivial⟩ (.bool false) ?_ ?_ ?_ ?_ fun a11 he11 => ?_
    rotate_left
    rw [List.getElem?_toArray]; rfl
    exact ⟨by kernel_rfl, by kernel_rfl, by kernel_rfl⟩
    exact ⟨fun _ _ _ _ h => h, rfl, rfl⟩
    exact fun wS hmS => rn_move _ (Or.inl rfl) _ (he10.tmp 10 _ rfl)
    clear he10
    refine tkN (fuel := 25) (i := 9) ?_ he11 hm4 ⟨rfl, trivial⟩ ?_ ?_ ?_ fun a12 he12 => ?_
    rotate_left
    rw [List.getElem?_toArray]; rfl
    exact ⟨by kernel_rfl, by kernel_rfl, by kernel_rfl⟩
    exact ⟨fun _ _ _ _ h => h, rfl, (wanted_slot he11 8 true rfl 11 rfl false rfl false rfl)⟩
    clear he11
    refine tkN (fuel := 24) (i := 10) ?_ he12 hm4 ⟨rfl, trivial⟩ ?_ ?_ ?_ fun a13 he13 => ?_
    rotate_left
    rw [List.getElem?_toArray]; rfl
    exact ⟨by kernel_rfl, by kernel_rfl, by kernel_rfl⟩
    exact ⟨fun _ _ _ _ h => h, rfl, (wanted_slot he12 8 true rfl 11 rfl false rfl false rfl)⟩
    clear he12
    refine wh_pass (i := 11) (op := ?op1d10_11) (fuel := 23) ?hr1d10_11 ?hi1d10_11 he13 hm4 ⟨rfl, trivial⟩ ?hd1d10_11 ?hw1d10_11 (fun a14 he14 => ?k1d10_11)
    case hi1d10_11 => rw [List.getElem?_toArray]; rfl
    case hw1d10_11 => exact (wanted_slot he13 8 true rfl 11 rfl false rfl false rfl)
    case hr1d10_11 => kernel_rfl
    case hd1d10_11 => rfl
    clear he13
    refine tk (fuel := 22) (i := 12) ?_ he14 hm4 ⟨rfl, trivial⟩ (.bool false) ?_ ?_ ?_ ?_ fun a15 he15 => ?_
    rotate_left
    rw [List.getElem?_toArray]; rfl
    exact ⟨by kernel_rfl, by kernel_rfl, by kernel_rfl⟩
    exact ⟨fun _ _ _ _ h => h, rfl, rfl⟩
    exact fun wS hmS => rn_pickF _ _ _ rfl (he14.tmp 11 _ rfl) _ rfl
    clear he14
    refine tk (fuel := 21) (i := 13) ?_ he15 hm4 ⟨rfl, trivial⟩ (.bool false) ?_ ?_ ?_ ?_ fun a16 he16 => ?_
    rotate_left
    rw [List.getElem?_toArray]; rfl
    exact ⟨by kernel_rfl, by kernel_rfl, by kernel_rfl⟩
    exact ⟨fun _ _ _ _ h => h, rfl, rfl⟩
    exact fun wS hmS => rn_move _ (Or.inl rfl) _ (he15.tmp 15 _ rfl)
    clear he15
    refine tkN (fuel := 20) (i := 14) ?_ he16 hm4 ⟨rfl, trivial⟩ ?_ ?_ ?_ fun a17 he17 => ?_
    rotate_left
    rw [List.getElem?_toArray]; rfl
    exact ⟨by kernel_rfl, by kernel_rfl, by kernel_rfl⟩
    exact ⟨fun _ _ _ _ h => h, rfl, (wanted_slot he16 13 true rfl 16 rfl false rfl false rfl)⟩
    clear he16
    refine tkN (fuel := 19) (i := 15) ?_ he17 hm4 ⟨rfl, trivial⟩ ?_ ?_ ?_ fun a18 he18 => ?_
    rotate_left
    rw [List.getElem?_toArray]; rfl
    exact ⟨by kernel_rfl, by kernel_rfl, by kernel_rfl⟩
    exact ⟨fun _ _ _ _ h => h, rfl, (wanted_slot he17 13 true rfl 16 rfl false rfl false rfl)⟩
    clear he17
    refine wh_pass (i := 16) (op := ?op1d10_16) (fuel := 18) ?hr1d10_16 ?hi1d10_16 he18 hm4 ⟨rfl, trivial⟩ ?hd1d10_16 ?hw1d10_16 (fun a19 he19 => ?k1d10_16)
    case hi1d10_16 => rw [List.getElem?_toArray]; rfl
    case hw1d10_16 => exact (wanted_slot he18 13 true rfl 16 rfl false rfl false rfl)
    case hr1d10_16 => kernel_rfl
    case hd1d10_16 => rfl
    clear he18
    refine tk (fuel := 17) (i := 17) ?_ he19 hm4 ⟨rfl, trivial⟩ (.bool false) ?_ ?_ ?_ ?_ fun a20 he20 => ?_
    rotate_left
    rw [List.getElem?_toArray]; rfl
    exact ⟨by kernel_rfl, by kernel_rfl, by kernel_rfl⟩
    exact ⟨fun _ _ _ _ h => h, rfl, rfl⟩
    exact fun wS hmS => rn_pickF _ _ _ rfl (he19.tmp 16 _ rfl) _ rfl
    clear he19
    refine tk (fuel := 16) (i := 18) ?_ he20 hm4 ⟨rfl, trivial⟩ (.bool false) ?_ ?_ ?_ ?_ fun a21 he21 => ?_
    rotate_left
    rw [List.getElem?_toArray]; rfl
    exact ⟨by kernel_rfl, by kernel_rfl, by kernel_rfl⟩
    exact ⟨fun _ _ _ _ h => h, rfl, rfl⟩
    exact fun wS hmS => rn_move _ (Or.inl rfl) _ (he20.tmp 20 _ rfl)
    clear he20
    refine tkN (fuel := 15) (i := 19) ?_ he21 hm4 ⟨rfl, trivial⟩ ?_ ?_ ?_ fun a22 he22 => ?_
    rotate_left
    rw [List.getElem?_toArray]; rfl
    exact ⟨by kernel_rfl, by kernel_rfl, by kernel_rfl⟩
    exact ⟨fun _ _ _ _ h => h, rfl, (wanted_slot he21 18 true rfl 21 rfl false rfl false rfl)⟩
    clear he21
    refine tkN (fuel := 14) (i := 20) ?_ he22 hm4 ⟨rfl, trivial⟩ ?_ ?_ ?_ fun a23 he23 => ?_
    rotate_left
    rw [List.getElem?_toArray]; rfl
    exact ⟨by kernel_rfl, by kernel_rfl, by kernel_rfl⟩
    exact ⟨fun _ _ _ _ h => h, rfl, (wanted_slot he22 18 true rfl 21 rfl false rfl false rfl)⟩
    clear he22
    refine wh_pass (i := 21) (op := ?op1d10_21) (fuel := 13) ?hr1d10_21 ?hi1d10_21 he23 hm4 ⟨rfl, trivial⟩ ?hd1d10_21 ?hw1d10_21 (fun a24 he24 => ?k1d10_21)
    case hi1d10_21 => rw [List.getElem?_toArray]; rfl
    case hw1d10_21 => exact (wanted_slot he23 18 true rfl 21 rfl false rfl false rfl)
    case hr1d10_21 => kernel_rfl
    case hd1d10_21 => rfl
    clear he23
    refine wh_pass (i := 22) (op := ?op1d10_22) (fuel := 12) ?hr1d10_22 ?hi1d10_22 he24 hm4 ⟨rfl, trivial⟩ ?hd1d10_22 ?hw1d10_22 (fun a25 he25 => ?k1d10_22)
    case hi1d10_22 => rw [List.getElem?_toArray]; rfl
    case hw1d10_22 => exact (wanted_slot he24 18 true rfl 21 rfl false rfl false rfl)
    case hr1d10_22 => kernel_rfl
    case hd1d10_22 => rfl
    clear he24
    refine tk (fuel := 11) (i := 23) ?_ he25 hm4 ⟨rfl, trivial⟩ (.bool false) ?_ ?_ ?_ ?_ fun a26 he26 => ?_
    rotate_left
    rw [List.getElem?_toArray]; rfl
    exact ⟨by kernel_rfl, by kernel_rfl, by kernel_rfl⟩
    exact ⟨fun _ _ _ _ h => h, rfl, rfl⟩
    exact fun wS hmS => rn_pickF _ _ _ rfl (he25.tmp 21 _ rfl) _ rfl
    clear he25
    refine tk (fuel := 10) (i := 24) ?_ he26 hm4 ⟨rfl, trivial⟩ (.bool false) ?_ ?_ ?_ ?_ fun a27 he27 => ?_
    rotate_left
    rw [List.getElem?_toArray]; rfl
    exact ⟨by kernel_rfl, by kernel_rfl, by kernel_rfl⟩
    exact ⟨fun _ _ _ _ h => h, rfl, rfl⟩
    exact fun wS hmS => rn_move _ (Or.inl rfl) _ (he26.tmp 26 _ rfl)
    clear he26
    refine tkN (fuel := 9) (i := 25) ?_ he27 hm4 ⟨rfl, trivial⟩ ?_ ?_ ?_ fun a28 he28 => ?_
    rotate_left
    rw [List.getElem?_toArray]; rfl
    exact ⟨by kernel_rfl, by kernel_rfl, by kernel_rfl⟩
    exact ⟨fun _ _ _ _ h => h, rfl, (wanted_slot he27 24 true rfl 27 rfl false rfl false rfl)⟩
    clear he27
    refine tkN (fuel := 8) (i := 26) ?_ he28 hm4 ⟨rfl, trivial⟩ ?_ ?_ ?_ fun a29 he29 => ?_
    rotate_left
    rw [List.getElem?_toArray]; rfl
    exact ⟨by kernel_rfl, by kernel_rfl, by kernel_rfl⟩
    exact ⟨fun _ _ _ _ h => h, rfl, (wanted_slot he28 24 true rfl 27 rfl false rfl false rfl)⟩
    clear he28
    refine tkN (fuel := 7) (i := 27) ?_ he29 hm4 ⟨rfl, trivial⟩ ?_ ?_ ?_ fun a30 he30 => ?_
    rotate_left
    rw [List.getElem?_toArray]; rfl
    exact ⟨by kernel_rfl, by kernel_rfl, by kernel_rfl⟩
    exact ⟨fun _ _ _ _ h => h, rfl, (wanted_slot he29 24 true rfl 27 rfl false rfl false rfl)⟩
    clear he29
    refine tkN (fuel := 6) (i := 28) ?_ he30 hm4 ⟨rfl, trivial⟩ ?_ ?_ ?_ fun a31 he31 => ?_
    rotate_left
    rw [List.getElem?_toArray]; rfl
    exact ⟨by kernel_rfl, by kernel_rfl, by kernel_rfl⟩
    exact ⟨fun _ _ _ _ h => h, rfl, (wanted_slot he30 24 true rfl 27 rfl false rfl false rfl)⟩
    clear he30
    refine tkN (fuel := 5) (i := 29) ?_ he31 hm4 ⟨rfl, trivial⟩ ?_ ?_ ?_ fun a32 he32 => ?_
    rotate_left
    rw [List.getElem?_toArray]; rfl
    exact ⟨by kernel_rfl, by kernel_rfl, by kernel_rfl⟩
    exact ⟨fun _ _ _ _ h => h, rfl, (wanted_undef he31 28 false rfl 31 rfl rfl)⟩
    clear he31
    refine tkN (fuel := 4) (i := 30) ?_ he32 hm4 ⟨rfl, trivial⟩ ?_ ?_ ?_ fun a33 he33 => ?_
    rotate_left
    rw [List.getElem?_toArray]; rfl
    exact ⟨by kernel_rfl, by kernel_rfl, by kernel_rfl⟩
    exact ⟨fun _ _ _ _ h => h, rfl, (wanted_undef he32 28 false rfl 31 rfl rfl)⟩
    clear he32
    refine tkN (fuel := 3) (i := 31) ?_ he33 hm4 ⟨rfl, trivial⟩ ?_ ?_ ?_ fun a34 he34 => ?_
    rotate_left
    rw [List.getElem?_toArray]; rfl
    exact ⟨by kernel_rfl, by kernel_rfl, by kernel_rfl⟩
    exact ⟨fun _ _ _ _ h => h, rfl, (wanted_undef he33 28 false rfl 31 rfl rfl)⟩
    clear he33
    refine tkN (fuel := 2) (i := 32) ?_ he34 hm4 ⟨rfl, trivial⟩ ?_ ?_ ?_ fun a35 he35 => ?_
    rotate_left
    rw [List.getElem?_toArray]; rfl
    exact ⟨by kernel_rfl, by kernel_rfl, by kernel_rfl⟩
    exact ⟨fun _ _ _ _ h => h, rfl, (wanted_slot he34 24 true rfl 27 rfl false rfl false rfl)⟩
    clear he34
    refine tk (fuel := 1) (i := 33) ?_ he35 hm4 ⟨rfl, trivial⟩ (.bool false) ?_ ?_ ?_ ?_ fun a36 he36 => ?_
    rotate_left
    rw [List.getElem?_toArray]; rfl
    exact ⟨by kernel_rfl, by kernel_rfl, by kernel_rfl⟩
    exact ⟨fun _ _ _ _ h => h, rfl, rfl⟩
    exact fun wS hmS => rn_pickF _ _ _ rfl (he35.tmp 27 _ rfl) _ rfl
    clear he35
    refine tk (fuel := 0) (i := 34) ?_ he36 hm4 ⟨rfl, trivial⟩ (.bool false) ?_ ?_ ?_ ?_ fun a37 he37 => ?_
    rotate_left
    rw [List.getElem?_toArray]; rfl
    exact ⟨by kernel_rfl, by kernel_rfl, by kernel_rfl⟩
    exact ⟨fun _ _ _ _ h => h, rfl, rfl⟩
    exact fun wS hmS => rn_move _ (Or.inr rfl) _ (he36.tmp 36 _ rfl)
    clear he36
    refine wpAnyH_done (by kernel_rfl) ?_ _
    refine then_normal ?_
    refine wp_ret ?_
    exact bodyPost_ret (results_tmp he37 _ Tryd.results30 _ rfl) he37.defers ⟨(by simp [ruOk, hd1, hd2]), hm4.below⟩
   ·
    refine wh_call (i := 6) (op := ?op1d11_6) (fuel := 28) ?hr1d11_6 ?hi1d11_6 he8 hm3 ⟨rfl, trivial⟩ ?hd1d11_6 ?hw1d11_6 _ #[.int .i64 ((r).op), .int .i64 (12), .int .i64 (15)] ?en1d11_6 (.bool true) (callsV (congrArg Value.bool (hd2)) (c_in _ _ _ _)) (fun a9 w4 he9 hm4 => ?k1d11_6)
    case hi1d11_6 => rw [List.getElem?_toArray]; rfl
    case hw1d11_6 => exact (wanted_slot he8 3 true rfl 6 rfl true rfl true rfl)
    case hr1d11_6 => kernel_rfl
    case hd1d11_6 => rfl
    case en1d11_6 => exact (enter_call _ _ _ rfl 51 #[] #[] rfl #[.int .i64 ((r).op), .int .i64 (12), .int .i64 (15)] (map3 (he8.tmp 8 _ rfl) rfl rfl) #[.int .i64 ((r).op), .int .i64 (12), .int .i64 (15)] rfl (fun _ _ => by kernel_rfl))
    clear he8 hm3
    refine tk (fuel := 27) (i := 7) ?_ he9 hm4 ⟨rfl, trivial⟩ (.bool true) ?_ ?_ ?_ ?_ fun a10 he10 => ?_
    rotate_left
    rw [List.getElem?_toArray]; rfl
    exact ⟨by kernel_rfl, by kernel_rfl, by kernel_rfl⟩
    exact ⟨fun _ _ _ _ h => h, rfl, rfl⟩
    exact fun wS hmS => rn_pickT _ _ _ rfl (he9.tmp 6 _ rfl) _ (he9.tmp 9 _ rfl)
    clear he9
    refine tk (fuel := 26) (i := 8) ?_ he10 hm4 ⟨rfl, trivial⟩ (.bool true) ?_ ?_ ?_ ?_ fun a11 he11 => ?_
    rotate_left
    rw [List.getElem?_toArray]; rfl
    exact ⟨by kernel_rfl, by kernel_rfl, by kernel_rfl⟩
    exact ⟨fun _ _ _ _ h => h, rfl, rfl⟩
    exact fun wS hmS => rn_move _ (Or.inl rfl) _ (he10.tmp 10 _ rfl)
    clear he10
    refine tk (fuel := 25) (i := 9) ?_ he11 hm4 ⟨rfl, trivial⟩ (.pointer (some ⟨b1, 2, none⟩)) ?_ ?_ ?_ ?_ fun a12 he12 => ?_
    rotate_left
    rw [List.getElem?_toArray]; rfl
    exact ⟨by kernel_rfl, by kernel_rfl, by kernel_rfl⟩
    exact ⟨fun _ _ _ _ h => h, rfl, (wanted_slot he11 8 true rfl 11 rfl true rfl true rfl)⟩
    exact fun wS hmS => rn_field _ _ _ rfl _ (.pointer (some ⟨b1, 2, none⟩)) (he11.tmp 1 _ rfl) (by kernel_rfl)
    clear he11
    refine tk (fuel := 24) (i := 10) ?_ he12 hm4 ⟨rfl, trivial⟩ (.int .i64 ((r).num)) ?_ ?_ ?_ ?_ fun a13 he13 => ?_
    rotate_left
    rw [List.getElem?_toArray]; rfl
    exact ⟨by kernel_rfl, by kernel_rfl, by kernel_rfl⟩
    exact ⟨fun _ _ _ _ h => h, rfl, (wanted_slot he12 8 true rfl 11 rfl true rfl true rfl)⟩
    exact fun wS hmS => rn_load1 hmS 1 rfl _ _ rfl (2) (he12.tmp 12 _ rfl) one3 _ rfl
    clear he12
    cases hd3 : (inR ((r).num) 0 255)
    ·
     refine wh_call (i := 11) (op := ?op1d110_11) (fuel := 23) ?hr1d110_11 ?hi1d110_11 he13 hm4 ⟨rfl, trivial⟩ ?hd1d110_11 ?hw1d110_11 _ #[.int .i64 ((r).num), .int .i64 (0), .int .i64 (255)] ?en1d110_11 (.bool false) (callsV (congrArg Value.bool (hd3)) (c_in _ _ _ _)) (fun a14 w5 he14 hm5 => ?k1d110_11)
     case hi1d110_11 => rw [List.getElem?_toArray]; rfl
     case hw1d110_11 => exact (wanted_slot he13 8 true rfl 11 rfl true rfl true rfl)
     case hr1d110_11 => kernel_rfl
     case hd1d110_11 => rfl
     case en1d110_11 => exact (enter_call _ _ _ rfl 51 #[] #[] rfl #[.int .i64 ((r).num), .int .i64 (0), .int .i64 (255)] (map3 (he13.tmp 13 _ rfl) rfl rfl) #[.int .i64 ((r).num), .int .i64 (0), .int .i64 (255)] rfl (fun _ _ => by kernel_rfl))
     clear he13 hm4
     refine tk (fuel := 22) (i := 12) ?_ he14 hm5 ⟨rfl, trivial⟩ (.bool false) ?_ ?_ ?_ ?_ fun a15 he15 => ?_
     rotate_left
     rw [List.getElem?_toArray]; rfl
     exact ⟨by kernel_rfl, by kernel_rfl, by kernel_rfl⟩
     exact ⟨fun _ _ _ _ h => h, rfl, rfl⟩
     exact fun wS hmS => rn_pickT _ _ _ rfl (he14.tmp 11 _ rfl) _ (he14.tmp 14 _ rfl)
     clear he14
     refine tk (fuel := 21) (i := 13) ?_ he15 hm5 ⟨rfl, trivial⟩ (.bool false) ?_ ?_ ?_ ?_ fun a16 he16 => ?_
     rotate_left
     rw [List.getElem?_toArray]; rfl
     exact ⟨by kernel_rfl, by kernel_rfl, by kernel_rfl⟩
     exact ⟨fun _ _ _ _ h => h, rfl, rfl⟩
     exact fun wS hmS => rn_move _ (Or.inl rfl) _ (he15.tmp 15 _ rfl)
     clear he15
     refine tkN (fuel := 20) (i := 14) ?_ he16 hm5 ⟨rfl, trivial⟩ ?_ ?_ ?_ fun a17 he17 => ?_
     rotate_left
     rw [List.getElem?_toArray]; rfl
     exact ⟨by kernel_rfl, by kernel_rfl, by kernel_rfl⟩
     exact ⟨fun _ _ _ _ h => h, rfl, (wanted_slot he16 13 true rfl 16 rfl false rfl false rfl)⟩
     clear he16
     refine tkN (fuel := 19) (i := 15) ?_ he17 hm5 ⟨rfl, trivial⟩ ?_ ?_ ?_ fun a18 he18 => ?_
     rotate_left
     rw [List.getElem?_toArray]; rfl
     exact ⟨by kernel_rfl, by kernel_rfl, by kernel_rfl⟩
     exact ⟨fun _ _ _ _ h => h, rfl, (wanted_slot he17 13 true rfl 16 rfl false rfl false rfl)⟩
     clear he17
     refine wh_pass (i := 16) (op := ?op1d110_16) (fuel := 18) ?hr1d110_16 ?hi1d110_16 he18 hm5 ⟨rfl, trivial⟩ ?hd1d110_16 ?hw1d110_16 (fun a19 he19 => ?k1d110_16)
     case hi1d110_16 => rw [List.getElem?_toArray]; rfl
     case hw1d110_16 => exact (wanted_slot he18 13 true rfl 16 rfl false rfl false rfl)
     case hr1d110_16 => kernel_rfl
     case hd1d110_16 => rfl
     clear he18
     refine tk (fuel := 17) (i := 17) ?_ he19 hm5 ⟨rfl, trivial⟩ (.bool false) ?_ ?_ ?_ ?_ fun a20 he20 => ?_
     rotate_left
     rw [List.getElem?_toArray]; rfl
     exact ⟨by kernel_rfl, by kernel_rfl, by kernel_rfl⟩
     exact ⟨fun _ _ _ _ h => h, rfl, rfl⟩
     exact fun wS hmS => rn_pickF _ _ _ rfl (he19.tmp 16 _ rfl) _ rfl
     clear he19
     refine tk (fuel := 16) (i := 18) ?_ he20 hm5 ⟨rfl, trivial⟩ (.bool false) ?_ ?_ ?_ ?_ fun a21 he21 => ?_
     rotate_left
     rw [List.getElem?_toArray]; rfl
     exact ⟨by kernel_rfl, by kernel_rfl, by kernel_rfl⟩
     exact ⟨fun _ _ _ _ h => h, rfl, rfl⟩
     exact fun wS hmS => rn_move _ (Or.inl rfl) _ (he20.tmp 20 _ rfl)
     clear he20
     refine tkN (fuel := 15) (i := 19) ?_ he21 hm5 ⟨rfl, trivial⟩ ?_ ?_ ?_ fun a22 he22 => ?_
     rotate_left
     rw [List.getElem?_toArray]; rfl
     exact ⟨by kernel_rfl, by kernel_rfl, by kernel_rfl⟩
     exact ⟨fun _ _ _ _ h => h, rfl, (wanted_slot he21 18 true rfl 21 rfl false rfl false rfl)⟩
     clear he21
     refine tkN (fuel := 14) (i := 20) ?_ he22 hm5 ⟨rfl, trivial⟩ ?_ ?_ ?_ fun a23 he23 => ?_
     rotate_left
     rw [List.getElem?_toArray]; rfl
     exact ⟨by kernel_rfl, by kernel_rfl, by kernel_rfl⟩
     exact ⟨fun _ _ _ _ h => h, rfl, (wanted_slot he22 18 true rfl 21 rfl false rfl false rfl)⟩
     clear he22
     refine wh_pass (i := 21) (op := ?op1d110_21) (fuel := 13) ?hr1d110_21 ?hi1d110_21 he23 hm5 ⟨rfl, trivial⟩ ?hd1d110_21 ?hw1d110_21 (fun a24 he24 => ?k1d110_21)
     case hi1d110_21 => rw [List.getElem?_toArray]; rfl
     case hw1d110_21 => exact (wanted_slot he23 18 true rfl 21 rfl false rfl false rfl)
     case hr1d110_21 => kernel_rfl
     case hd1d110_21 => rfl
     clear he23
     refine wh_pass (i := 22) (op := ?op1d110_22) (fuel := 12) ?hr1d110_22 ?hi1d110_22 he24 hm5 ⟨rfl, trivial⟩ ?hd1d110_22 ?hw1d110_22 (fun a25 he25 => ?k1d110_22)
     case hi1d110_22 => rw [List.getElem?_toArray]; rfl
     case hw1d110_22 => exact (wanted_slot he24 18 true rfl 21 rfl false rfl false rfl)
     case hr1d110_22 => kernel_rfl
     case hd1d110_22 => rfl
     clear he24
     refine tk (fuel := 11) (i := 23) ?_ he25 hm5 ⟨rfl, trivial⟩ (.bool false) ?_ ?_ ?_ ?_ fun a26 he26 => ?_
     rotate_left
     rw [List.getElem?_toArray]; rfl
     exact ⟨by kernel_rfl, by kernel_rfl, by kernel_rfl⟩
     exact ⟨fun _ _ _ _ h => h, rfl, rfl⟩
     exact fun wS hmS => rn_pickF _ _ _ rfl (he25.tmp 21 _ rfl) _ rfl
     clear he25
     refine tk (fuel := 10) (i := 24) ?_ he26 hm5 ⟨rfl, trivial⟩ (.bool false) ?_ ?_ ?_ ?_ fun a27 he27 => ?_
     rotate_left
     rw [List.getElem?_toArray]; rfl
     exact ⟨by kernel_rfl, by kernel_rfl, by kernel_rfl⟩
     exact ⟨fun _ _ _ _ h => h, rfl, rfl⟩
     exact fun wS hmS => rn_move _ (Or.inl rfl) _ (he26.tmp 26 _ rfl)
     clear he26
     refine tkN (fuel := 9) (i := 25) ?_ he27 hm5 ⟨rfl, trivial⟩ ?_ ?_ ?_ fun a28 he28 => ?_
     rotate_left
     rw [List.getElem?_toArray]; rfl
     exact ⟨by kernel_rfl, by kernel_rfl, by kernel_rfl⟩
     exact ⟨fun _ _ _ _ h => h, rfl, (wanted_slot he27 24 true rfl 27 rfl false rfl false rfl)⟩
     clear he27
     refine tkN (fuel := 8) (i := 26) ?_ he28 hm5 ⟨rfl, trivial⟩ ?_ ?_ ?_ fun a29 he29 => ?_
     rotate_left
     rw [List.getElem?_toArray]; rfl
     exact ⟨by kernel_rfl, by kernel_rfl, by kernel_rfl⟩
     exact ⟨fun _ _ _ _ h => h, rfl, (wanted_slot he28 24 true rfl 27 rfl false rfl false rfl)⟩
     clear he28
     refine tkN (fuel := 7) (i := 27) ?_ he29 hm5 ⟨rfl, trivial⟩ ?_ ?_ ?_ fun a30 he30 => ?_
     rotate_left
     rw [List.getElem?_toArray]; rfl
     exact ⟨by kernel_rfl, by kernel_rfl, by kernel_rfl⟩
     exact ⟨fun _ _ _ _ h => h, rfl, (wanted_slot he29 24 true rfl 27 rfl false rfl false rfl)⟩
     clear he29
     refine tkN (fuel := 6) (i := 28) ?_ he30 hm5 ⟨rfl, trivial⟩ ?_ ?_ ?_ fun a31 he31 => ?_
     rotate_left
     rw [List.getElem?_toArray]; rfl
     exact ⟨by kernel_rfl, by kernel_rfl, by kernel_rfl⟩
     exact ⟨fun _ _ _ _ h => h, rfl, (wanted_slot he30 24 true rfl 27 rfl false rfl false rfl)⟩
     clear he30
     refine tkN (fuel := 5) (i := 29) ?_ he31 hm5 ⟨rfl, trivial⟩ ?_ ?_ ?_ fun a32 he32 => ?_
     rotate_left
     rw [List.getElem?_toArray]; rfl
     exact ⟨by kernel_rfl, by kernel_rfl, by kernel_rfl⟩
     exact ⟨fun _ _ _ _ h => h, rfl, (wanted_undef he31 28 false rfl 31 rfl rfl)⟩
     clear he31
     refine tkN (fuel := 4) (i := 30) ?_ he32 hm5 ⟨rfl, trivial⟩ ?_ ?_ ?_ fun a33 he33 => ?_
     rotate_left
     rw [List.getElem?_toArray]; rfl
     exact ⟨by kernel_rfl, by kernel_rfl, by kernel_rfl⟩
     exact ⟨fun _ _ _ _ h => h, rfl, (wanted_undef he32 28 false rfl 31 rfl rfl)⟩
     clear he32
     refine tkN (fuel := 3) (i := 31) ?_ he33 hm5 ⟨rfl, trivial⟩ ?_ ?_ ?_ fun a34 he34 => ?_
     rotate_left
     rw [List.getElem?_toArray]; rfl
     exact ⟨by kernel_rfl, by kernel_rfl, by kernel_rfl⟩
     exact ⟨fun _ _ _ _ h => h, rfl, (wanted_undef he33 28 false rfl 31 rfl rfl)⟩
     clear he33
     refine tkN (fuel := 2) (i := 32) ?_ he34 hm5 ⟨rfl, trivial⟩ ?_ ?_ ?_ fun a35 he35 => ?_
     rotate_left
     rw [List.getElem?_toArray]; rfl
     exact ⟨by kernel_rfl, by kernel_rfl, by kernel_rfl⟩
     exact ⟨fun _ _ _ _ h => h, rfl, (wanted_slot he34 24 true rfl 27 rfl false rfl false rfl)⟩
     clear he34
     refine tk (fuel := 1) (i := 33) ?_ he35 hm5 ⟨rfl, trivial⟩ (.bool false) ?_ ?_ ?_ ?_ fun a36 he36 => ?_
     rotate_left
     rw [List.getElem?_toArray]; rfl
     exact ⟨by kernel_rfl, by kernel_rfl, by kernel_rfl⟩
     exact ⟨fun _ _ _ _ h => h, rfl, rfl⟩
     exact fun wS hmS => rn_pickF _ _ _ rfl (he35.tmp 27 _ rfl) _ rfl
     clear he35
     refine tk (fuel := 0) (i := 34) ?_ he36 hm5 ⟨rfl, trivial⟩ (.bool false) ?_ ?_ ?_ ?_ fun a37 he37 => ?_
     rotate_left
     rw [List.getElem?_toArray]; rfl
     exact ⟨by kernel_rfl, by kernel_rfl, by kernel_rfl⟩
     exact ⟨fun _ _ _ _ h => h, rfl, rfl⟩
     exact fun wS hmS => rn_move _ (Or.inr rfl) _ (he36.tmp 36 _ rfl)
     clear he36
     refine wpAnyH_done (by kernel_rfl) ?_ _
     refine then_normal ?_
     refine wp_ret ?_
     exact bodyPost_ret (results_tmp he37 _ Tryd.results30 _ rfl) he37.defers ⟨(by simp [ruOk, hd1, hd2, hd3]), hm5.below⟩
    ·
     refine wh_call (i := 11) (op := ?op1d111_11) (fuel := 23) ?hr1d111_11 ?hi1d111_11 he13 hm4 ⟨rfl, trivial⟩ ?hd1d111_11 ?hw1d111_11 _ #[.int .i64 ((r).num), .int .i64 (0), .int .i64 (255)] ?en1d111_11 (.bool true) (callsV (congrArg Value.bool (hd3)) (c_in _ _ _ _)) (fun a14 w5 he14 hm5 => ?k1d111_11)
     case hi1d111_11 => rw [List.getElem?_toArray]; rfl
     case hw1d111_11 => exact (wanted_slot he13 8 true rfl 11 rfl true rfl true rfl)
     case hr1d111_11 => kernel_rfl
     case hd1d111_11 => rfl
     case en1d111_11 => exact (enter_call _ _ _ rfl 51 #[] #[] rfl #[.int .i64 ((r).num), .int .i64 (0), .int .i64 (255)] (map3 (he13.tmp 13 _ rfl) rfl rfl) #[.int .i64 ((r).num), .int .i64 (0), .int .i64 (255)] rfl (fun _ _ => by kernel_rfl))
     clear he13 hm4
     refine tk (fuel := 22) (i := 12) ?_ he14 hm5 ⟨rfl, trivial⟩ (.bool true) ?_ ?_ ?_ ?_ fun a15 he15 => ?_
     rotate_left
     rw [List.getElem?_toArray]; rfl
     exact ⟨by kernel_rfl, by kernel_rfl, by kernel_rfl⟩
     exact ⟨fun _ _ _ _ h => h, rfl, rfl⟩
     exact fun wS hmS => rn_pickT _ _ _ rfl (he14.tmp 11 _ rfl) _ (he14.tmp 14 _ rfl)
     clear he14
     refine tk (fuel := 21) (i := 13) ?_ he15 hm5 ⟨rfl, trivial⟩ (.bool true) ?_ ?_ ?_ ?_ fun a16 he16 => ?_
     rotate_left
     rw [List.getElem?_toArray]; rfl
     exact ⟨by kernel_rfl, by kernel_rfl, by kernel_rfl⟩
     exact ⟨fun _ _ _ _ h => h, rfl, rfl⟩
     exact fun wS hmS => rn_move _ (Or.inl rfl) _ (he15.tmp 15 _ rfl)
     clear he15
     refine tk (fuel := 20) (i := 14) ?_ he16 hm5 ⟨rfl, trivial⟩ (.pointer (some ⟨b1, 3, none⟩)) ?_ ?_ ?_ ?_ fun a17 he17 => ?_
     rotate_left
     rw [List.getElem?_toArray]; rfl
     exact ⟨by kernel_rfl, by kernel_rfl, by kernel_rfl⟩
     exact ⟨fun _ _ _ _ h => h, rfl, (wanted_slot he16 13 true rfl 16 rfl true rfl true rfl)⟩
     exact fun wS hmS => rn_field _ _ _ rfl _ (.pointer (some ⟨b1, 3, none⟩)) (he16.tmp 1 _ rfl) (by kernel_rfl)
     clear he16
     refine tk (fuel := 19) (i := 15) ?_ he17 hm5 ⟨rfl, trivial⟩ (.int .i64 ((r).ver)) ?_ ?_ ?_ ?_ fun a18 he18 => ?_
     rotate_left
     rw [List.getElem?_toArray]; rfl
     exact ⟨by kernel_rfl, by kernel_rfl, by kernel_rfl⟩
     exact ⟨fun _ _ _ _ h => h, rfl, (wanted_slot he17 13 true rfl 16 rfl true rfl true rfl)⟩
     exact fun wS hmS => rn_load1 hmS 1 rfl _ _ rfl (3) (he17.tmp 17 _ rfl) one3 _ rfl
     clear he17
     cases hd4 : (inR ((r).ver) 0 2)
     ·
      refine wh_call (i := 16) (op := ?op1d1110_16) (fuel := 18) ?hr1d1110_16 ?hi1d1110_16 he18 hm5 ⟨rfl, trivial⟩ ?hd1d1110_16 ?hw1d1110_16 _ #[.int .i64 ((r).ver), .int .i64 (0), .int .i64 (2)] ?en1d1110_16 (.bool false) (callsV (congrArg Value.bool (hd4)) (c_in _ _ _ _)) (fun a19 w6 he19 hm6 => ?k1d1110_16)
      case hi1d1110_16 => rw [List.getElem?_toArray]; rfl
      case hw1d1110_16 => exact (wanted_slot he18 13 true rfl 16 rfl true rfl true rfl)
      case hr1d1110_16 => kernel_rfl
      case hd1d1110_16 => rfl
      case en1d1110_16 => exact (enter_call _ _ _ rfl 51 #[] #[] rfl #[.int .i64 ((r).ver), .int .i64 (0), .int .i64 (2)] (map3 (he18.tmp 18 _ rfl) rfl rfl) #[.int .i64 ((r).ver), .int .i64 (0), .int .i64 (2)] rfl (fun _ _ => by kernel_rfl))
      clear he18 hm5
      refine tk (fuel := 17) (i := 17) ?_ he19 hm6 ⟨rfl, trivial⟩ (.bool false) ?_ ?_ ?_ ?_ fun a20 he20 => ?_
      rotate_left
      rw [List.getElem?_toArray]; rfl
      exact ⟨by kernel_rfl, by kernel_rfl, by kernel_rfl⟩
      exact ⟨fun _ _ _ _ h => h, rfl, rfl⟩
      exact fun wS hmS => rn_pickT _ _ _ rfl (he19.tmp 16 _ rfl) _ (he19.tmp 19 _ rfl)
      clear he19
      refine tk (fuel := 16) (i := 18) ?_ he20 hm6 ⟨rfl, trivial⟩ (.bool false) ?_ ?_ ?_ ?_ fun a21 he21 => ?_
      rotate_left
      rw [List.getElem?_toArray]; rfl
      exact ⟨by kernel_rfl, by kernel_rfl, by kernel_rfl⟩
      exact ⟨fun _ _ _ _ h => h, rfl, rfl⟩
      exact fun wS hmS => rn_move _ (Or.inl rfl) _ (he20.tmp 20 _ rfl)
      clear he20
      refine tkN (fuel := 15) (i := 19) ?_ he21 hm6 ⟨rfl, trivial⟩ ?_ ?_ ?_ fun a22 he22 => ?_
      rotate_left
      rw [List.getElem?_toArray]; rfl
      exact ⟨by kernel_rfl, by kernel_rfl, by kernel_rfl⟩
      exact ⟨fun _ _ _ _ h => h, rfl, (wanted_slot he21 18 true rfl 21 rfl false rfl false rfl)⟩
      clear he21
      refine tkN (fuel := 14) (i := 20) ?_ he22 hm6 ⟨rfl, trivial⟩ ?_ ?_ ?_ fun a23 he23 => ?_
      rotate_left
      rw [List.getElem?_toArray]; rfl
      exact ⟨by kernel_rfl, by kernel_rfl, by kernel_rfl⟩
      exact ⟨fun _ _ _ _ h => h, rfl, (wanted_slot he22 18 true rfl 21 rfl false rfl false rfl)⟩
      clear he22
      refine wh_pass (i := 21) (op := ?op1d1110_21) (fuel := 13) ?hr1d1110_21 ?hi1d1110_21 he23 hm6 ⟨rfl, trivial⟩ ?hd1d1110_21 ?hw1d1110_21 (fun a24 he24 => ?k1d1110_21)
      case hi1d1110_21 => rw [List.getElem?_toArray]; rfl
      case hw1d1110_21 => exact (wanted_slot he23 18 true rfl 21 rfl false rfl false rfl)
      case hr1d1110_21 => kernel_rfl
      case hd1d1110_21 => rfl
      clear he23
      refine wh_pass (i := 22) (op := ?op1d1110_22) (fuel := 12) ?hr1d1110_22 ?hi1d1110_22 he24 hm6 ⟨rfl, trivial⟩ ?hd1d1110_22 ?hw1d1110_22 (fun a25 he25 => ?k1d1110_22)
      case hi1d1110_22 => rw [List.getElem?_toArray]; rfl
      case hw1d1110_22 => exact (wanted_slot he24 18 true rfl 21 rfl false rfl false rfl)
      case hr1d1110_22 => kernel_rfl
      case hd1d1110_22 => rfl
      clear he24
      refine tk (fuel := 11) (i := 23) ?_ he25 hm6 ⟨rfl, trivial⟩ (.bool false) ?_ ?_ ?_ ?_ fun a26 he26 => ?_
      rotate_left
      rw [List.getElem?_toArray]; rfl
      exact ⟨by kernel_rfl, by kernel_rfl, by kernel_rfl⟩
      exact ⟨fun _ _ _ _ h => h, rfl, rfl⟩
      exact fun wS hmS => rn_pickF _ _ _ rfl (he25.tmp 21 _ rfl) _ rfl
      clear he25
      refine tk (fuel := 10) (i := 24) ?_ he26 hm6 ⟨rfl, trivial⟩ (.bool false) ?_ ?_ ?_ ?_ fun a27 he27 => ?_
      rotate_left
      rw [List.getElem?_toArray]; rfl
      exact ⟨by kernel_rfl, by kernel_rfl, by kernel_rfl⟩
      exact ⟨fun _ _ _ _ h => h, rfl, rfl⟩
      exact fun wS hmS => rn_move _ (Or.inl rfl) _ (he26.tmp 26 _ rfl)
      clear he26
      refine tkN (fuel := 9) (i := 25) ?_ he27 hm6 ⟨rfl, trivial⟩ ?_ ?_ ?_ fun a28 he28 => ?_
      rotate_left
      rw [List.getElem?_toArray]; rfl
      exact ⟨by kernel_rfl, by kernel_rfl, by kernel_rfl⟩
      exact ⟨fun _ _ _ _ h => h, rfl, (wanted_slot he27 24 true rfl 27 rfl false rfl false rfl)⟩
      clear he27
      refine tkN (fuel := 8) (i := 26) ?_ he28 hm6 ⟨rfl, trivial⟩ ?_ ?_ ?_ fun a29 he29 => ?_
      rotate_left
      rw [List.getElem?_toArray]; rfl
      exact ⟨by kernel_rfl, by kernel_rfl, by kernel_rfl⟩
      exact ⟨fun _ _ _ _ h => h, rfl, (wanted_slot he28 24 true rfl 27 rfl false rfl false rfl)⟩
      clear he28
      refine tkN (fuel := 7) (i := 27) ?_ he29 hm6 ⟨rfl, trivial⟩ ?_ ?_ ?_ fun a30 he30 => ?_
      rotate_left
      rw [List.getElem?_toArray]; rfl
      exact ⟨by kernel_rfl, by kernel_rfl, by kernel_rfl⟩
      exact ⟨fun _ _ _ _ h => h, rfl, (wanted_slot he29 24 true rfl 27 rfl false rfl false rfl)⟩
      clear he29
      refine tkN (fuel := 6) (i := 28) ?_ he30 hm6 ⟨rfl, trivial⟩ ?_ ?_ ?_ fun a31 he31 => ?_
      rotate_left
      rw [List.getElem?_toArray]; rfl
      exact ⟨by kernel_rfl, by kernel_rfl, by kernel_rfl⟩
      exact ⟨fun _ _ _ _ h => h, rfl, (wanted_slot he30 24 true rfl 27 rfl false rfl false rfl)⟩
      clear he30
      refine tkN (fuel := 5) (i := 29) ?_ he31 hm6 ⟨rfl, trivial⟩ ?_ ?_ ?_ fun a32 he32 => ?_
      rotate_left
      rw [List.getElem?_toArray]; rfl
      exact ⟨by kernel_rfl, by kernel_rfl, by kernel_rfl⟩
      exact ⟨fun _ _ _ _ h => h, rfl, (wanted_undef he31 28 false rfl 31 rfl rfl)⟩
      clear he31
      refine tkN (fuel := 4) (i := 30) ?_ he32 hm6 ⟨rfl, trivial⟩ ?_ ?_ ?_ fun a33 he33 => ?_
      rotate_left
      rw [List.getElem?_toArray]; rfl
      exact ⟨by kernel_rfl, by kernel_rfl, by kernel_rfl⟩
      exact ⟨fun _ _ _ _ h => h, rfl, (wanted_undef he32 28 false rfl 31 rfl rfl)⟩
      clear he32
      refine tkN (fuel := 3) (i := 31) ?_ he33 hm6 ⟨rfl, trivial⟩ ?_ ?_ ?_ fun a34 he34 => ?_
      rotate_left
      rw [List.getElem?_toArray]; rfl
      exact ⟨by kernel_rfl, by kernel_rfl, by kernel_rfl⟩
      exact ⟨fun _ _ _ _ h => h, rfl, (wanted_undef he33 28 false rfl 31 rfl rfl)⟩
      clear he33
      refine tkN (fuel := 2) (i := 32) ?_ he34 hm6 ⟨rfl, trivial⟩ ?_ ?_ ?_ fun a35 he35 => ?_
      rotate_left
      rw [List.getElem?_toArray]; rfl
      exact ⟨by kernel_rfl, by kernel_rfl, by kernel_rfl⟩
      exact ⟨fun _ _ _ _ h => h, rfl, (wanted_slot he34 24 true rfl 27 rfl false rfl false rfl)⟩
      clear he34
      refine tk (fuel := 1) (i := 33) ?_ he35 hm6 ⟨rfl, trivial⟩ (.bool false) ?_ ?_ ?_ ?_ fun a36 he36 => ?_
      rotate_left
      rw [List.getElem?_toArray]; rfl
      exact ⟨by kernel_rfl, by kernel_rfl, by kernel_rfl⟩
      exact ⟨fun _ _ _ _ h => h, rfl, rfl⟩
      exact fun wS hmS => rn_pickF _ _ _ rfl (he35.tmp 27 _ rfl) _ rfl
      clear he35
      refine tk (fuel := 0) (i := 34) ?_ he36 hm6 ⟨rfl, trivial⟩ (.bool false) ?_ ?_ ?_ ?_ fun a37 he37 => ?_
      rotate_left
      rw [List.getElem?_toArray]; rfl
      exact ⟨by kernel_rfl, by kernel_rfl, by kernel_rfl⟩
      exact ⟨fun _ _ _ _ h => h, rfl, rfl⟩
      exact fun wS hmS => rn_move _ (Or.inr rfl) _ (he36.tmp 36 _ rfl)
      clear he36
      refine wpAnyH_done (by kernel_rfl) ?_ _
      refine then_normal ?_
      refine wp_ret ?_
      exact bodyPost_ret (results_tmp he37 _ Tryd.results30 _ rfl) he37.defers ⟨(by simp [ruOk, hd1, hd2, hd3, hd4]), hm6.below⟩
     ·
      refine wh_call (i := 16) (op := ?op1d1111_16) (fuel := 18) ?hr1d1111_16 ?hi1d1111_16 he18 hm5 ⟨rfl, trivial⟩ ?hd1d1111_16 ?hw1d1111_16 _ #[.int .i64 ((r).ver), .int .i64 (0), .int .i64 (2)] ?en1d1111_16 (.bool true) (callsV (congrArg Value.bool (hd4)) (c_in _ _ _ _)) (fun a19 w6 he19 hm6 => ?k1d1111_16)
      case hi1d1111_16 => rw [List.getElem?_toArray]; rfl
      case hw1d1111_16 => exact (wanted_slot he18 13 true rfl 16 rfl true rfl true rfl)
      case hr1d1111_16 => kernel_rfl
      case hd1d1111_16 => rfl
      case en1d1111_16 => exact (enter_call _ _ _ rfl 51 #[] #[] rfl #[.int .i64 ((r).ver), .int .i64 (0), .int .i64 (2)] (map3 (he18.tmp 18 _ rfl) rfl rfl) #[.int .i64 ((r).ver), .int .i64 (0), .int .i64 (2)] rfl (fun _ _ => by kernel_rfl))
      clear he18 hm5
      refine tk (fuel := 17) (i := 17) ?_ he19 hm6 ⟨rfl, trivial⟩ (.bool true) ?_ ?_ ?_ ?_ fun a20 he20 => ?_
      rotate_left
      rw [List.getElem?_toArray]; rfl
      exact ⟨by kernel_rfl, by kernel_rfl, by kernel_rfl⟩
      exact ⟨fun _ _ _ _ h => h, rfl, rfl⟩
      exact fun wS hmS => rn_pickT _ _ _ rfl (he19.tmp 16 _ rfl) _ (he19.tmp 19 _ rfl)
      clear he19
      refine tk (fuel := 16) (i := 18) ?_ he20 hm6 ⟨rfl, trivial⟩ (.bool true) ?_ ?_ ?_ ?_ fun a21 he21 => ?_
      rotate_left
      rw [List.getElem?_toArray]; rfl
      exact ⟨by kernel_rfl, by kernel_rfl, by kernel_rfl⟩
      exact ⟨fun _ _ _ _ h => h, rfl, rfl⟩
      exact fun wS hmS => rn_move _ (Or.inl rfl) _ (he20.tmp 20 _ rfl)
      clear he20
      refine tk (fuel := 15) (i := 19) ?_ he21 hm6 ⟨rfl, trivial⟩ (.pointer (some ⟨b1, 4, none⟩)) ?_ ?_ ?_ ?_ fun a22 he22 => ?_
      rotate_left
      rw [List.getElem?_toArray]; rfl
      exact ⟨by kernel_rfl, by kernel_rfl, by kernel_rfl⟩
      exact ⟨fun _ _ _ _ h => h, rfl, (wanted_slot he21 18 true rfl 21 rfl true rfl true rfl)⟩
      exact fun wS hmS => rn_field _ _ _ rfl _ (.pointer (some ⟨b1, 4, none⟩)) (he21.tmp 1 _ rfl) (by kernel_rfl)
      clear he21
      refine tk (fuel := 14) (i := 20) ?_ he22 hm6 ⟨rfl, trivial⟩ (.int .i64 ((r).key)) ?_ ?_ ?_ ?_ fun a23 he23 => ?_
      rotate_left
      rw [List.getElem?_toArray]; rfl
      exact ⟨by kernel_rfl, by kernel_rfl, by kernel_rfl⟩
      exact ⟨fun _ _ _ _ h => h, rfl, (wanted_slot he22 18 true rfl 21 rfl true rfl true rfl)⟩
      exact fun wS hmS => rn_load1 hmS 1 rfl _ _ rfl (4) (he22.tmp 22 _ rfl) one3 _ rfl
      clear he22
      refine wh_call (i := 21) (op := ?op1d1111_21) (fuel := 13) ?hr1d1111_21 ?hi1d1111_21 he23 hm6 ⟨rfl, trivial⟩ ?hd1d1111_21 ?hw1d1111_21 _ #[] ?en1d1111_21 (.int .i64 (4294967295)) (c_top _) (fun a24 w7 he24 hm7 => ?k1d1111_21)
      case hi1d1111_21 => rw [List.getElem?_toArray]; rfl
      case hw1d1111_21 => exact (wanted_slot he23 18 true rfl 21 rfl true rfl true rfl)
      case hr1d1111_21 => kernel_rfl
      case hd1d1111_21 => rfl
      case en1d1111_21 => exact (enter_call _ _ _ rfl 52 #[] #[] rfl #[] (map0 _ ) #[] rfl (fun _ _ => by kernel_rfl))
      clear he23 hm6
      cases hd5 : (inR ((r).key) 0 4294967295)
      ·
       refine wh_call (i := 22) (op := ?op1d11110_22) (fuel := 12) ?hr1d11110_22 ?hi1d11110_22 he24 hm7 ⟨rfl, trivial⟩ ?hd1d11110_22 ?hw1d11110_22 _ #[.int .i64 ((r).key), .int .i64 (0), .int .i64 (4294967295)] ?en1d11110_22 (.bool false) (callsV (congrArg Value.bool (hd5)) (c_in _ _ _ _)) (fun a25 w8 he25 hm8 => ?k1d11110_22)
       case hi1d11110_22 => rw [List.getElem?_toArray]; rfl
       case hw1d11110_22 => exact (wanted_slot he24 18 true rfl 21 rfl true rfl true rfl)
       case hr1d11110_22 => kernel_rfl
       case hd1d11110_22 => rfl
       case en1d11110_22 => exact (enter_call _ _ _ rfl 51 #[] #[] rfl #[.int .i64 ((r).key), .int .i64 (0), .int .i64 (4294967295)] (map3 (he24.tmp 23 _ rfl) rfl (he24.tmp 24 _ rfl)) #[.int .i64 ((r).key), .int .i64 (0), .int .i64 (4294967295)] rfl (fun _ _ => by kernel_rfl))
       clear he24 hm7
       refine tk (fuel := 11) (i := 23) ?_ he25 hm8 ⟨rfl, trivial⟩ (.bool false) ?_ ?_ ?_ ?_ fun a26 he26 => ?_
       rotate_left
       rw [List.getElem?_toArray]; rfl
       exact ⟨by kernel_rfl, by kernel_rfl, by kernel_rfl⟩
       exact ⟨fun _ _ _ _ h => h, rfl, rfl⟩
       exact fun wS hmS => rn_pickT _ _ _ rfl (he25.tmp 21 _ rfl) _ (he25.tmp 25 _ rfl)
       clear he25
       refine tk (fuel := 10) (i := 24) ?_ he26 hm8 ⟨rfl, trivial⟩ (.bool false) ?_ ?_ ?_ ?_ fun a27 he27 => ?_
       rotate_left
       rw [List.getElem?_toArray]; rfl
       exact ⟨by kernel_rfl, by kernel_rfl, by kernel_rfl⟩
       exact ⟨fun _ _ _ _ h => h, rfl, rfl⟩
       exact fun wS hmS => rn_move _ (Or.inl rfl) _ (he26.tmp 26 _ rfl)
       clear he26
       refine tkN (fuel := 9) (i := 25) ?_ he27 hm8 ⟨rfl, trivial⟩ ?_ ?_ ?_ fun a28 he28 => ?_
       rotate_left
       rw [List.getElem?_toArray]; rfl
       exact ⟨by kernel_rfl, by kernel_rfl, by kernel_rfl⟩
       exact ⟨fun _ _ _ _ h => h, rfl, (wanted_slot he27 24 true rfl 27 rfl false rfl false rfl)⟩
       clear he27
       refine tkN (fuel := 8) (i := 26) ?_ he28 hm8 ⟨rfl, trivial⟩ ?_ ?_ ?_ fun a29 he29 => ?_
       rotate_left
       rw [List.getElem?_toArray]; rfl
       exact ⟨by kernel_rfl, by kernel_rfl, by kernel_rfl⟩
       exact ⟨fun _ _ _ _ h => h, rfl, (wanted_slot he28 24 true rfl 27 rfl false rfl false rfl)⟩
       clear he28
       refine tkN (fuel := 7) (i := 27) ?_ he29 hm8 ⟨rfl, trivial⟩ ?_ ?_ ?_ fun a30 he30 => ?_
       rotate_left
       rw [List.getElem?_toArray]; rfl
       exact ⟨by kernel_rfl, by kernel_rfl, by kernel_rfl⟩
       exact ⟨fun _ _ _ _ h => h, rfl, (wanted_slot he29 24 true rfl 27 rfl false rfl false rfl)⟩
       clear he29
       refine tkN (fuel := 6) (i := 28) ?_ he30 hm8 ⟨rfl, trivial⟩ ?_ ?_ ?_ fun a31 he31 => ?_
       rotate_left
       rw [List.getElem?_toArray]; rfl
       exact ⟨by kernel_rfl, by kernel_rfl, by kernel_rfl⟩
       exact ⟨fun _ _ _ _ h => h, rfl, (wanted_slot he30 24 true rfl 27 rfl false rfl false rfl)⟩
       clear he30
       refine tkN (fuel := 5) (i := 29) ?_ he31 hm8 ⟨rfl, trivial⟩ ?_ ?_ ?_ fun a32 he32 => ?_
       rotate_left
       rw [List.getElem?_toArray]; rfl
       exact ⟨by kernel_rfl, by kernel_rfl, by kernel_rfl⟩
       exact ⟨fun _ _ _ _ h => h, rfl, (wanted_undef he31 28 false rfl 31 rfl rfl)⟩
       clear he31
       refine tkN (fuel := 4) (i := 30) ?_ he32 hm8 ⟨rfl, trivial⟩ ?_ ?_ ?_ fun a33 he33 => ?_
       rotate_left
       rw [List.getElem?_toArray]; rfl
       exact ⟨by kernel_rfl, by kernel_rfl, by kernel_rfl⟩
       exact ⟨fun _ _ _ _ h => h, rfl, (wanted_undef he32 28 false rfl 31 rfl rfl)⟩
       clear he32
       refine tkN (fuel := 3) (i := 31) ?_ he33 hm8 ⟨rfl, trivial⟩ ?_ ?_ ?_ fun a34 he34 => ?_
       rotate_left
       rw [List.getElem?_toArray]; rfl
       exact ⟨by kernel_rfl, by kernel_rfl, by kernel_rfl⟩
       exact ⟨fun _ _ _ _ h => h, rfl, (wanted_undef he33 28 false rfl 31 rfl rfl)⟩
       clear he33
       refine tkN (fuel := 2) (i := 32) ?_ he34 hm8 ⟨rfl, trivial⟩ ?_ ?_ ?_ fun a35 he35 => ?_
       rotate_left
       rw [List.getElem?_toArray]; rfl
       exact ⟨by kernel_rfl, by kernel_rfl, by kernel_rfl⟩
       exact ⟨fun _ _ _ _ h => h, rfl, (wanted_slot he34 24 true rfl 27 rfl false rfl false rfl)⟩
       clear he34
       refine tk (fuel := 1) (i := 33) ?_ he35 hm8 ⟨rfl, trivial⟩ (.bool false) ?_ ?_ ?_ ?_ fun a36 he36 => ?_
       rotate_left
       rw [List.getElem?_toArray]; rfl
       exact ⟨by kernel_rfl, by kernel_rfl, by kernel_rfl⟩
       exact ⟨fun _ _ _ _ h => h, rfl, rfl⟩
       exact fun wS hmS => rn_pickF _ _ _ rfl (he35.tmp 27 _ rfl) _ rfl
       clear he35
       refine tk (fuel := 0) (i := 34) ?_ he36 hm8 ⟨rfl, trivial⟩ (.bool false) ?_ ?_ ?_ ?_ fun a37 he37 => ?_
       rotate_left
       rw [List.getElem?_toArray]; rfl
       exact ⟨by kernel_rfl, by kernel_rfl, by kernel_rfl⟩
       exact ⟨fun _ _ _ _ h => h, rfl, rfl⟩
       exact fun wS hmS => rn_move _ (Or.inr rfl) _ (he36.tmp 36 _ rfl)
       clear he36
       refine wpAnyH_done (by kernel_rfl) ?_ _
       refine then_normal ?_
       refine wp_ret ?_
       exact bodyPost_ret (results_tmp he37 _ Tryd.results30 _ rfl) he37.defers ⟨(by simp [ruOk, hd1, hd2, hd3, hd4, hd5]), hm8.below⟩
      ·
       refine wh_call (i := 22) (op := ?op1d11111_22) (fuel := 12) ?hr1d11111_22 ?hi1d11111_22 he24 hm7 ⟨rfl, trivial⟩ ?hd1d11111_22 ?hw1d11111_22 _ #[.int .i64 ((r).key), .int .i64 (0), .int .i64 (4294967295)] ?en1d11111_22 (.bool true) (callsV (congrArg Value.bool (hd5)) (c_in _ _ _ _)) (fun a25 w8 he25 hm8 => ?k1d11111_22)
       case hi1d11111_22 => rw [List.getElem?_toArray]; rfl
       case hw1d11111_22 => exact (wanted_slot he24 18 true rfl 21 rfl true rfl true rfl)
       case hr1d11111_22 => kernel_rfl
       case hd1d11111_22 => rfl
       case en1d11111_22 => exact (enter_call _ _ _ rfl 51 #[] #[] rfl #[.int .i64 ((r).key), .int .i64 (0), .int .i64 (4294967295)] (map3 (he24.tmp 23 _ rfl) rfl (he24.tmp 24 _ rfl)) #[.int .i64 ((r).key), .int .i64 (0), .int .i64 (4294967295)] rfl (fun _ _ => by kernel_rfl))
       clear he24 hm7
       refine tk (fuel := 11) (i := 23) ?_ he25 hm8 ⟨rfl, trivial⟩ (.bool true) ?_ ?_ ?_ ?_ fun a26 he26 => ?_
       rotate_left
       rw [List.getElem?_toArray]; rfl
       exact ⟨by kernel_rfl, by kernel_rfl, by kernel_rfl⟩
       exact ⟨fun _ _ _ _ h => h, rfl, rfl⟩
       exact fun wS hmS => rn_pickT _ _ _ rfl (he25.tmp 21 _ rfl) _ (he25.tmp 25 _ rfl)
       clear he25
       refine tk (fuel := 10) (i := 24) ?_ he26 hm8 ⟨rfl, trivial⟩ (.bool true) ?_ ?_ ?_ ?_ fun a27 he27 => ?_
       rotate_left
       rw [List.getElem?_toArray]; rfl
       exact ⟨by kernel_rfl, by kernel_rfl, by kernel_rfl⟩
       exact ⟨fun _ _ _ _ h => h, rfl, rfl⟩
       exact fun wS hmS => rn_move _ (Or.inl rfl) _ (he26.tmp 26 _ rfl)
       clear he26
       refine tk (fuel := 9) (i := 25) ?_ he27 hm8 ⟨rfl, trivial⟩ (.pointer (some ⟨b1, 3, none⟩)) ?_ ?_ ?_ ?_ fun a28 he28 => ?_
       rotate_left
       rw [List.getElem?_toArray]; rfl
       exact ⟨by kernel_rfl, by kernel_rfl, by kernel_rfl⟩
       exact ⟨fun _ _ _ _ h => h, rfl, (wanted_slot he27 24 true rfl 27 rfl true rfl true rfl)⟩
       exact fun wS hmS => rn_field _ _ _ rfl _ (.pointer (some ⟨b1, 3, none⟩)) (he27.tmp 1 _ rfl) (by kernel_rfl)
       clear he27
       refine tk (fuel := 8) (i := 26) ?_ he28 hm8 ⟨rfl, trivial⟩ (.int .i64 ((r).ver)) ?_ ?_ ?_ ?_ fun a29 he29 => ?_
       rotate_left
       rw [List.getElem?_toArray]; rfl
       exact ⟨by kernel_rfl, by kernel_rfl, by kernel_rfl⟩
       exact ⟨fun _ _ _ _ h => h, rfl, (wanted_slot he28 24 true rfl 27 rfl true rfl true rfl)⟩
       exact fun wS hmS => rn_load1 hmS 1 rfl _ _ rfl (3) (he28.tmp 28 _ rfl) one3 _ rfl
       clear he28
       cases hd6 : (((r).ver == 2))
       ·
        have hd6p : (r).ver ≠ 2 := by simpa using hd6
        refine tk (fuel := 7) (i := 27) ?_ he29 hm8 ⟨rfl, trivial⟩ (.bool false) ?_ ?_ ?_ ?_ fun a30 he30 => ?_
        rotate_left
        rw [List.getElem?_toArray]; rfl
        exact ⟨by kernel_rfl, by kernel_rfl, by kernel_rfl⟩
        exact ⟨fun _ _ _ _ h => h, rfl, (wanted_slot he29 24 true rfl 27 rfl true rfl true rfl)⟩
        exact fun wS hmS => rn_bin _ _ _ _ _ rfl .i64 _ _ (he29.tmp 29 _ rfl) rfl (.bool (((r).ver == 2))) _ rfl (congrArg Value.bool (hd6))
        clear he29
        refine tk (fuel := 6) (i := 28) ?_ he30 hm8 ⟨rfl, trivial⟩ (.bool false) ?_ ?_ ?_ ?_ fun a31 he31 => ?_
        rotate_left
        rw [List.getElem?_toArray]; rfl
        exact ⟨by kernel_rfl, by kernel_rfl, by kernel_rfl⟩
        exact ⟨fun _ _ _ _ h => h, rfl, (wanted_slot he30 24 true rfl 27 rfl true rfl true rfl)⟩
        exact fun wS hmS => rn_move _ (Or.inl rfl) _ (he30.tmp 30 _ rfl)
        clear he30
        refine tk (fuel := 5) (i := 29) ?_ he31 hm8 ⟨rfl, trivial⟩ (.pointer (some ⟨b1, 4, none⟩)) ?_ ?_ ?_ ?_ fun a32 he32 => ?_
        rotate_left
        rw [List.getElem?_toArray]; rfl
        exact ⟨by kernel_rfl, by kernel_rfl, by kernel_rfl⟩
        exact ⟨fun _ _ _ _ h => h, rfl, (wanted_slot he31 28 false rfl 31 rfl false rfl true rfl)⟩
        exact fun wS hmS => rn_field _ _ _ rfl _ (.pointer (some ⟨b1, 4, none⟩)) (he31.tmp 1 _ rfl) (by kernel_rfl)
        clear he31
        refine tk (fuel := 4) (i := 30) ?_ he32 hm8 ⟨rfl, trivial⟩ (.int .i64 ((r).key)) ?_ ?_ ?_ ?_ fun a33 he33 => ?_
        rotate_left
        rw [List.getElem?_toArray]; rfl
        exact ⟨by kernel_rfl, by kernel_rfl, by kernel_rfl⟩
        exact ⟨fun _ _ _ _ h => h, rfl, (wanted_slot he32 28 false rfl 31 rfl false rfl true rfl)⟩
        exact fun wS hmS => rn_load1 hmS 1 rfl _ _ rfl (4) (he32.tmp 32 _ rfl) one3 _ rfl
        clear he32
        cases hd7 : (((r).key == 0))
        ·
         have hd7p : (r).key ≠ 0 := by simpa using hd7
         refine tk (fuel := 3) (i := 31) ?_ he33 hm8 ⟨rfl, trivial⟩ (.bool false) ?_ ?_ ?_ ?_ fun a34 he34 => ?_
         rotate_left
         rw [List.getElem?_toArray]; rfl
         exact ⟨by kernel_rfl, by kernel_rfl, by kernel_rfl⟩
         exact ⟨fun _ _ _ _ h => h, rfl, (wanted_slot he33 28 false rfl 31 rfl false rfl true rfl)⟩
         exact fun wS hmS => rn_bin _ _ _ _ _ rfl .i64 _ _ (he33.tmp 33 _ rfl) rfl (.bool (((r).key == 0))) _ rfl (congrArg Value.bool (hd7))
         clear he33
         refine tk (fuel := 2) (i := 32) ?_ he34 hm8 ⟨rfl, trivial⟩ (.bool false) ?_ ?_ ?_ ?_ fun a35 he35 => ?_
         rotate_left
         rw [List.getElem?_toArray]; rfl
         exact ⟨by kernel_rfl, by kernel_rfl, by kernel_rfl⟩
         exact ⟨fun _ _ _ _ h => h, rfl, (wanted_slot he34 24 true rfl 27 rfl true rfl true rfl)⟩
         exact fun wS hmS => rn_pickF _ _ _ rfl (he34.tmp 31 _ rfl) _ (he34.tmp 34 _ rfl)
         clear he34
         refine tk (fuel := 1) (i := 33) ?_ he35 hm8 ⟨rfl, trivial⟩ (.bool false) ?_ ?_ ?_ ?_ fun a36 he36 => ?_
         rotate_left
         rw [List.getElem?_toArray]; rfl
         exact ⟨by kernel_rfl, by kernel_rfl, by kernel_rfl⟩
         exact ⟨fun _ _ _ _ h => h, rfl, rfl⟩
         exact fun wS hmS => rn_pickT _ _ _ rfl (he35.tmp 27 _ rfl) _ (he35.tmp 35 _ rfl)
         clear he35
         refine tk (fuel := 0) (i := 34) ?_ he36 hm8 ⟨rfl, trivial⟩ (.bool false) ?_ ?_ ?_ ?_ fun a37 he37 => ?_
         rotate_left
         rw [List.getElem?_toArray]; rfl
         exact ⟨by kernel_rfl, by kernel_rfl, by kernel_rfl⟩
         exact ⟨fun _ _ _ _ h => h, rfl, rfl⟩
         exact fun wS hmS => rn_move _ (Or.inr rfl) _ (he36.tmp 36 _ rfl)
         clear he36
         refine wpAnyH_done (by kernel_rfl) ?_ _
         refine then_normal ?_
         refine wp_ret ?_
         exact bodyPost_ret (results_tmp he37 _ Tryd.results30 _ rfl) he37.defers ⟨(by simp [ruOk, hd1, hd2, hd3, hd4, hd5, hd6, hd7]), hm8.below⟩
        ·
         have hd7p : (r).key = 0 := by simpa using hd7
         refine tk (fuel := 3) (i := 31) ?_ he33 hm8 ⟨rfl, trivial⟩ (.bool true) ?_ ?_ ?_ ?_ fun a34 he34 => ?_
         rotate_left
         rw [List.getElem?_toArray]; rfl
         exact ⟨by kernel_rfl, by kernel_rfl, by kernel_rfl⟩
         exact ⟨fun _ _ _ _ h => h, rfl, (wanted_slot he33 28 false rfl 31 rfl false rfl true rfl)⟩
         exact fun wS hmS => rn_bin _ _ _ _ _ rfl .i64 _ _ (he33.tmp 33 _ rfl) rfl (.bool (((r).key == 0))) _ rfl (congrArg Value.bool (hd7))
         clear he33
         refine tk (fuel := 2) (i := 32) ?_ he34 hm8 ⟨rfl, trivial⟩ (.bool true) ?_ ?_ ?_ ?_ fun a35 he35 => ?_
         rotate_left
         rw [List.getElem?_toArray]; rfl
         exact ⟨by kernel_rfl, by kernel_rfl, by kernel_rfl⟩
         exact ⟨fun _ _ _ _ h => h, rfl, (wanted_slot he34 24 true rfl 27 rfl true rfl true rfl)⟩
         exact fun wS hmS => rn_pickF _ _ _ rfl (he34.tmp 31 _ rfl) _ (he34.tmp 34 _ rfl)
         clear he34
         refine tk (fuel := 1) (i := 33) ?_ he35 hm8 ⟨rfl, trivial⟩ (.bool true) ?_ ?_ ?_ ?_ fun a36 he36 => ?_
         rotate_left
         rw [List.getElem?_toArray]; rfl
         exact ⟨by kernel_rfl, by kernel_rfl, by kernel_rfl⟩
         exact ⟨fun _ _ _ _ h => h, rfl, rfl⟩
         exact fun wS hmS => rn_pickT _ _ _ rfl (he35.tmp 27 _ rfl) _ (he35.tmp 35 _ rfl)
         clear he35
         refine tk (fuel := 0) (i := 34) ?_ he36 hm8 ⟨rfl, trivial⟩ (.bool true) ?_ ?_ ?_ ?_ fun a37 he37 => ?_
         rotate_left
         rw [List.getElem?_toArray]; rfl
         exact ⟨by kernel_rfl, by kernel_rfl, by kernel_rfl⟩
         exact ⟨fun _ _ _ _ h => h, rfl, rfl⟩
         exact fun wS hmS => rn_move _ (Or.inr rfl) _ (he36.tmp 36 _ rfl)
         clear he36
         refine wpAnyH_done (by kernel_rfl) ?_ _
         refine then_normal ?_
         refine wp_ret ?_
         exact bodyPost_ret (results_tmp he37 _ Tryd.results30 _ rfl) he37.defers ⟨(by simp [ruOk, hd1, hd2, hd3, hd4, hd5, hd6, hd7]), hm8.below⟩
       ·
        have hd6p : (r).ver = 2 := by simpa using hd6
        refine tk (fuel := 7) (i := 27) ?_ he29 hm8 ⟨rfl, trivial⟩ (.bool true) ?_ ?_ ?_ ?_ fun a30 he30 => ?_
        rotate_left
        rw [List.getElem?_toArray]; rfl
        exact ⟨by kernel_rfl, by kernel_rfl, by kernel_rfl⟩
        exact ⟨fun _ _ _ _ h => h, rfl, (wanted_slot he29 24 true rfl 27 rfl true rfl true rfl)⟩
        exact fun wS hmS => rn_bin _ _ _ _ _ rfl .i64 _ _ (he29.tmp 29 _ rfl) rfl (.bool (((r).ver == 2))) _ rfl (congrArg Value.bool (hd6))
        clear he29
        refine tk (fuel := 6) (i := 28) ?_ he30 hm8 ⟨rfl, trivial⟩ (.bool true) ?_ ?_ ?_ ?_ fun a31 he31 => ?_
        rotate_left
        rw [List.getElem?_toArray]; rfl
        exact ⟨by kernel_rfl, by kernel_rfl, by kernel_rfl⟩
        exact ⟨fun _ _ _ _ h => h, rfl, (wanted_slot he30 24 true rfl 27 rfl true rfl true rfl)⟩
        exact fun wS hmS => rn_move _ (Or.inl rfl) _ (he30.tmp 30 _ rfl)
        clear he30
        refine tkN (fuel := 5) (i := 29) ?_ he31 hm8 ⟨rfl, trivial⟩ ?_ ?_ ?_ fun a32 he32 => ?_
        rotate_left
        rw [List.getElem?_toArray]; rfl
        exact ⟨by kernel_rfl, by kernel_rfl, by kernel_rfl⟩
        exact ⟨fun _ _ _ _ h => h, rfl, (wanted_slot he31 28 false rfl 31 rfl true rfl false rfl)⟩
        clear he31
        refine tkN (fuel := 4) (i := 30) ?_ he32 hm8 ⟨rfl, trivial⟩ ?_ ?_ ?_ fun a33 he33 => ?_
        rotate_left
        rw [List.getElem?_toArray]; rfl
        exact ⟨by kernel_rfl, by kernel_rfl, by kernel_rfl⟩
        exact ⟨fun _ _ _ _ h => h, rfl, (wanted_slot he32 28 false rfl 31 rfl true rfl false rfl)⟩
        clear he32
        refine tkN (fuel := 3) (i := 31) ?_ he33 hm8 ⟨rfl, trivial⟩ ?_ ?_ ?_ fun a34 he34 => ?_
        rotate_left
        rw [List.getElem?_toArray]; rfl
        exact ⟨by kernel_rfl, by kernel_rfl, by kernel_rfl⟩
        exact ⟨fun _ _ _ _ h => h, rfl, (wanted_slot he33 28 false rfl 31 rfl true rfl false rfl)⟩
        clear he33
        refine tk (fuel := 2) (i := 32) ?_ he34 hm8 ⟨rfl, trivial⟩ (.bool true) ?_ ?_ ?_ ?_ fun a35 he35 => ?_
        rotate_left
        rw [List.getElem?_toArray]; rfl
        exact ⟨by kernel_rfl, by kernel_rfl, by kernel_rfl⟩
        exact ⟨fun _ _ _ _ h => h, rfl, (wanted_slot he34 24 true rfl 27 rfl true rfl true rfl)⟩
        exact fun wS hmS => rn_pickT _ _ _ rfl (he34.tmp 31 _ rfl) _ rfl
        clear he34
        refine tk (fuel := 1) (i := 33) ?_ he35 hm8 ⟨rfl, trivial⟩ (.bool true) ?_ ?_ ?_ ?_ fun a36 he36 => ?_
        rotate_left
        rw [List.getElem?_toArray]; rfl
        exact ⟨by kernel_rfl, by kernel_rfl, by kernel_rfl⟩
        exact ⟨fun _ _ _ _ h => h, rfl, rfl⟩
        exact fun wS hmS => rn_pickT _ _ _ rfl (he35.tmp 27 _ rfl) _ (he35.tmp 35 _ rfl)
        clear he35
        refine tk (fuel := 0) (i := 34) ?_ he36 hm8 ⟨rfl, trivial⟩ (.bool true) ?_ ?_ ?_ ?_ fun a37 he37 => ?_
        rotate_left
        rw [List.getElem?_toArray]; rfl
        exact ⟨by kernel_rfl, by kernel_rfl, by kernel_rfl⟩
        exact ⟨fun _ _ _ _ h => h, rfl, rfl⟩
        exact fun wS hmS => rn_move _ (Or.inr rfl) _ (he36.tmp 36 _ rfl)
        clear he36
        refine wpAnyH_done (by kernel_rfl) ?_ _
        refine then_normal ?_
        refine wp_ret ?_
        exact bodyPost_ret (results_tmp he37 _ Tryd.results30 _ rfl) he37.defers ⟨(by simp [ruOk, hd1, hd2, hd3, hd4, hd5, hd6]), hm8.below⟩
theorem c_oks (f : Nat → Ru) (b p n c : Nat) (w : World) (hR : RowAt w b p n 5 fun i => (f i).arr) (hn : n ≤ 1048576) :
    Calls Tryd.prog 17 #[.slice (some ⟨b, p, none⟩) (n) (c)] w fun e w' => e = .returned (.bool (ruOks f n)) ∧ Below w.heap.size w w' := by
  refine calls_begin Tryd.func17 rfl 19 rfl (Nat.le_of_ble_eq_true rfl) [(0, .slice (some ⟨b, p, none⟩) (n) (c))] ⟨rfl, trivial⟩ (fun a0 he0 hm0 => ?_)
  refine wp_seqR ?_
  refine wl_val he0 rfl rfl (.bool false) (rn_move _ (Or.inr rfl) _ rfl) (fun a1 he1 => ?_)
  clear he0
  refine wl_end ?_
  refine wp_seq ?_
  refine wp_seqR ?_
  refine wl_val he1 rfl rfl (.int .i64 (0)) (rn_move _ (Or.inr rfl) _ rfl) (fun a2 he2 => ?_)
  clear he1
  refine wl_end ?_
  refine wp_block ?_
  refine wp_loopN (fun mz az wz => ∃ (i : Nat), mz = n - (i) ∧ (i ≤ n ∧ ∀ j, j < i → ruOk (f j) = true) ∧ EV az 19 [] [(0, .slice (some ⟨b, p, none⟩) (n) (c)), (3, .int .i64 (((i : Nat) : Int)))] ∧ MM [] w wz []) ⟨_, 0, rfl, ⟨by omega, fun j hj => by omega⟩, he2.sub _ ⟨rfl, rfl, trivial⟩, hm0.sub _ trivial⟩ ?_
  rintro mz1 a3 w1 ⟨i, rfl, hrel1, he3, hm1⟩
  clear he2 hm0
  have hrel1a := hrel1.1
  refine wp_seq ?_
  refine wp_seqR ?_
  refine wl_val he3 rfl rfl (.int .i64 (((i : Nat) : Int))) (rn_move _ (Or.inl rfl) _ (he3.tmp 3 _ rfl)) (fun a4 he4 => ?_)
  clear he3
  refine wl_val he4 rfl rfl (.slice (some ⟨b, p, none⟩) (n) (c)) (rn_move _ (Or.inl rfl) _ (he4.tmp 0 _ rfl)) (fun a5 he5 => ?_)
  clear he4
  refine wl_val he5 rfl rfl (.int .i64 (((n : Nat) : Int))) (rn_builtin _ _ _ rfl #[.slice (some ⟨b, p, none⟩) (n) (c)] (map1 (he5.tmp 5 _ rfl)) (.int .i64 (((n : Nat) : Int))) (by kernel_rfl)) (fun a6 he6 => ?_)
  clear he5
  cases hd1 : (decide (((i : Nat) : Int) < ((n : Nat) : Int)))
  ·
   have hd1p := of_decide_eq_false hd1
   refine wl_val he6 rfl rfl (.bool false) (rn_bin _ _ _ _ _ rfl .i64 _ _ (he6.tmp 4 _ rfl) (he6.tmp 6 _ rfl) (.bool (decide (((i : Nat) : Int) < ((n : Nat) : Int)))) _ rfl (congrArg Value.bool (hd1))) (fun a7 he7 => ?_)
   clear he6
   refine wl_end ?_
   refine wp_condF (he := he7) rfl ?_
   refine wp_exit ?_
   refine exit_then ?_
   refine exit_then ?_
   refine exit_here ?_
   refine then_normal ?_
   refine wp_seqR ?_
   refine wl_val he7 rfl rfl (.slice (some ⟨b, p, none⟩) (n) (c)) (rn_move _ (Or.inl rfl) _ (he7.tmp 0 _ rfl)) (fun a8 he8 => ?_)
   clear he7
   refine wl_val he8 rfl rfl (.int .i64 (((n : Nat) : Int))) (rn_builtin _ _ _ rfl #[.slice (some ⟨b, p, none⟩) (n) (c)] (map1 (he8.tmp 16 _ rfl)) (.int .i64 (((n : Nat) : Int))) (by kernel_rfl)) (fun a9 he9 => ?_)
   clear he8
   cases hd2 : (decide (((n : Nat) : Int) ≤ 6))
   ·
    have hd2p := of_decide_eq_false hd2
    refine wl_val he9 rfl rfl (.bool false) (rn_bin _ _ _ _ _ rfl .i64 _ _ (he9.tmp 17 _ rfl) rfl (.bool (decide (((n : Nat) : Int) ≤ 6))) _ rfl (congrArg Value.bool (hd2))) (fun a10 he10 => ?_)
    clear he9
    refine wl_val he10 rfl rfl (.bool false) (rn_move _ (Or.inr rfl) _ (he10.tmp 18 _ rfl)) (fun a11 he11 => ?_)
    clear he10
    refine wl_end ?_
    refine wp_ret ?_
    exact bodyPost_ret (results_tmp he11 _ Tryd.results17 _ rfl) he11.defers ⟨(by first | rw [ruOks, ruAll_no (i := i) (by omega) (by assumption)]; rfl | rw [ruOks, ruAll_yes fun j hj => hrel1.2 j (by omega)]; simp; try omega), hm1.below⟩
   ·
    have hd2p := of_decide_eq_true hd2
    refine wl_val he9 rfl rfl (.bool true) (rn_bin _ _ _ _ _ rfl .i64 _ _ (he9.tmp 17 _ rfl) rfl (.bool (decide (((n : Nat) : Int) ≤ 6))) _ rfl (congrArg Value.bool (hd2))) (fun a10 he10 => ?_)
    clear he9
    refine wl_val he10 rfl rfl (.bool true) (rn_move _ (Or.inr rfl) _ (he10.tmp 18 _ rfl)) (fun a11 he11 => ?_)
    clear he10
    refine wl_end ?_
    refine wp_ret ?_
    exact bodyPost_ret (results_tmp he11 _ Tryd.results17 _ rfl) he11.defers ⟨(by first | rw [ruOks, ruAll_no (i := i) (by omega) (by assumption)]; rfl | rw [ruOks, ruAll_yes fun j hj => hrel1.2 j (by omega)]; simp; try omega), hm1.below⟩
  ·
   have hd1p := of_decide_eq_true hd1
   refine wl_val he6 rfl rfl (.bool true) (rn_bin _ _ _ _ _ rfl .i64 _ _ (he6.tmp 4 _ rfl) (he6.tmp 6 _ rfl) (.bool (decide (((i : Nat) : Int) < ((n : Nat) : Int)))) _ rfl (congrArg Value.bool (hd1))) (fun a7 he7 => ?_)
   clear he6
   refine wl_end ?_
   refine wp_condT (he := he7) rfl ?_
   refine wp_skip ?_
   refine then_normal ?_
   refine wp_seq ?_
   refine wp_block ?_
   refine wp_seqR ?_
   refine wl_val he7 rfl rfl (.slice (some ⟨b, p, none⟩) (n) (c)) (rn_move _ (Or.inl rfl) _ (he7.tmp 0 _ rfl)) (fun a8 he8 => ?_)
   clear he7
   refine wl_val he8 rfl rfl (.int .i64 (((i : Nat) : Int))) (rn_move _ (Or.inl rfl) _ (he8.tmp 3 _ rfl)) (fun a9 he9 => ?_)
   clear he8
   refine wl_val he9 rfl rfl (.pointer (some ⟨b, p + i * 5, none⟩)) (rn_indexA _ _ _ rfl _ _ (.pointer (some ⟨b, p + i * 5, none⟩)) (he9.tmp 10 _ rfl) (he9.tmp 11 _ rfl) (ixS 36 5 (by kernel_rfl) (fun w => by kernel_rfl) (b) (p) (n) (c) (i) (by omega) _)) (fun a10 he10 => ?_)
   clear he9
   refine wl_val he10 rfl rfl (.agg (Ru.arr (f i))) (rn_rowA hm1 hR (by simp) (i) (by omega) _ _ rfl (he10.tmp 12 _ rfl) agg36 (by kernel_rfl)) (fun a11 he11 => ?_)
   clear he10
   cases hd2 : (ruOk (f i))
   ·
    refine wl_call he11 hm1 rfl rfl _ #[.agg (Ru.arr (f i))] (enter_call _ _ _ rfl 30 #[] #[] rfl #[.agg (Ru.arr (f i))] (map1 (he11.tmp 13 _ rfl)) #[.agg (Ru.arr (f i))] rfl (fun _ _ => by kernel_rfl)) (.bool false) (callsV (congrArg Value.bool (hd2)) (c_rok _ _)) (fun a12 w2 he12 hm2 => ?_)
    clear he11 hm1
    refine wl_val he12 rfl rfl (.bool true) (rn_un _ _ _ rfl _ (.bool (!false)) _ (he12.tmp 14 _ rfl) rfl rfl) (fun a13 he13 => ?_)
    clear he12
    refine wl_end ?_
    refine wp_condT (he := he13) rfl ?_
    refine wp_seqR ?_
    refine wl_val he13 rfl rfl (.bool false) (rn_move _ (Or.inr rfl) _ rfl) (fun a14 he14 => ?_)
    clear he13
    refine wl_end ?_
    refine wp_ret ?_
    refine ret_in ?_
    refine ret_then ?_
    refine ret_then ?_
    refine ret_in ?_
    refine ret_then ?_
    exact bodyPost_ret (results_tmp he14 _ Tryd.results17 _ rfl) he14.defers ⟨(by first | rw [ruOks, ruAll_no (i := i) (by omega) (by assumption)]; rfl | rw [ruOks, ruAll_yes fun j hj => hrel1.2 j (by omega)]; simp; try omega), hm2.below⟩
   ·
    refine wl_call he11 hm1 rfl rfl _ #[.agg (Ru.arr (f i))] (enter_call _ _ _ rfl 30 #[] #[] rfl #[.agg (Ru.arr (f i))] (map1 (he11.tmp 13 _ rfl)) #[.agg (Ru.arr (f i))] rfl (fun _ _ => by kernel_rfl)) (.bool true) (callsV (congrArg Value.bool (hd2)) (c_rok _ _)) (fun a12 w2 he12 hm2 => ?_)
    clear he11 hm1
    refine wl_val he12 rfl rfl (.bool false) (rn_un _ _ _ rfl _ (.bool (!true)) _ (he12.tmp 14 _ rfl) rfl rfl) (fun a13 he13 => ?_)
    clear he12
    refine wl_end ?_
    refine wp_condF (he := he13) rfl ?_
    refine wp_skip ?_
    refine in_normal ?_
    refine then_normal ?_
    refine wp_region_lit ?_
    refine wl_val he13 rfl rfl (.int .i64 (((i : Nat) : Int))) (rn_move _ (Or.inl rfl) _ (he13.tmp 3 _ rfl)) (fun a14 he14 => ?_)
    clear he13
    refine wl_val he14 rfl rfl (.int .i64 (((i + 1 : Nat) : Int))) (rn_bin _ _ _ _ _ rfl .i64 _ _ (he14.tmp 8 _ rfl) rfl (.int .i64 (IntKind.wrap .i64 (((i : Nat) : Int) + 1))) _ rfl (addN (i := i) (c := 1) (by omega))) (fun a15 he15 => ?_)
    clear he14
    refine wl_val he15 rfl rfl (.int .i64 (((i + 1 : Nat) : Int))) (rn_move _ (Or.inr rfl) _ (he15.tmp 9 _ rfl)) (fun a16 he16 => ?_)
    clear he15
    refine wpList_nil ?_
    exact ⟨n - (i + 1), by omega, i + 1, rfl, ⟨by omega, fun j hj => by rcases Nat.lt_or_ge j i with hh | hh; exact hrel1.2 j hh; rw [show j = i by omega]; assumption⟩, he16.sub _ ⟨rfl, rfl, trivial⟩, hm2.sub _ trivial⟩
end Go.Proofs.YtkaekiodjjhjkaaDoor
