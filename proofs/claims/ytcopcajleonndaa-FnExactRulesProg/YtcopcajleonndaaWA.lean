/- Rules: when they are ok, by the specification. -/
import Derived.Test.YtcopcajleonndaaWM
namespace Go.Proofs.Ytcopcajleonndaa
open Go.RowKit
set_option linter.unusedVariables false
set_option linter.unusedSimpArgs false
theorem one3 : OneT Try.prog 3 := ⟨fun w => by kernel_rfl, fun w => by kernel_rfl⟩
theorem agg39 : AggT Try.prog 39 5 := ⟨fun w => by kernel_rfl, fun w => by kernel_rfl⟩
theorem c_in (n lo hi : Int) (w : World)  :
    Calls Try.prog 55 #[.int .i64 (n), .int .i64 (lo), .int .i64 (hi)] w fun e w' => e = .returned (.bool (inR n lo hi)) ∧ Below w.heap.size w w' := by
  refine calls_begin Try.func55 rfl 15 rfl (Nat.le_of_ble_eq_true rfl) [(0, .int .i64 (n)), (1, .int .i64 (lo)), (2, .int .i64 (hi))] ⟨rfl, rfl, rfl, trivial⟩ (fun a0 he0 hm0 => ?_)
  refine wp_seqR ?_
  refine wl_val he0 rfl rfl (.bool false) (rn_move _ (Or.inr rfl) _ rfl) (fun a1 he1 => ?_)
  clear he0
  refine wl_end ?_
  refine wp_seqR ?_
  refine wl_val he1 rfl rfl (.int .i64 (n)) (rn_move _ (Or.inl rfl) _ (he1.tmp 0 _ rfl)) (fun a2 he2 => ?_)
  clear he1
  refine wl_val he2 rfl rfl (.int .i64 (lo)) (rn_move _ (Or.inl rfl) _ (he2.tmp 1 _ rfl)) (fun a3 he3 => ?_)
  clear he2
  cases hd1 : (decide (n ≥ lo))
  · have hd1p := of_decide_eq_false hd1
    refine wl_val he3 rfl rfl (.bool false) (rn_bin _ _ _ _ _ rfl .i64 _ _ (he3.tmp 7 _ rfl) (he3.tmp 8 _ rfl) (.bool (decide (n ≥ lo))) _ rfl (congrArg Value.bool (hd1))) (fun a4 he4 => ?_)
    clear he3
    refine wl_val he4 rfl rfl (.bool false) (rn_move _ (Or.inl rfl) _ (he4.tmp 9 _ rfl)) (fun a5 he5 => ?_)
    clear he4
    refine wl_not he5 rfl (wanted_slot he5 3 true rfl 10 rfl false rfl false rfl) (fun a6 he6 => ?_)
    clear he5
    refine wl_not he6 rfl (wanted_slot he6 3 true rfl 10 rfl false rfl false rfl) (fun a7 he7 => ?_)
    clear he6
    refine wl_not he7 rfl (wanted_slot he7 3 true rfl 10 rfl false rfl false rfl) (fun a8 he8 => ?_)
    clear he7
    refine wl_val he8 rfl rfl (.bool false) (rn_pickF _ _ _ rfl (he8.tmp 10 _ rfl) _ rfl) (fun a9 he9 => ?_)
    clear he8
    refine wl_val he9 rfl rfl (.bool false) (rn_move _ (Or.inr rfl) _ (he9.tmp 14 _ rfl)) (fun a10 he10 => ?_)
    clear he9
    refine wl_end ?_
    refine wp_ret ?_
    exact bodyPost_ret (results_tmp he10 _ Try.results55 _ rfl) he10.defers ⟨(by simp [inR, hd1]), hm0.below⟩
  · have hd1p := of_decide_eq_true hd1
    refine wl_val he3 rfl rfl (.bool true) (rn_bin _ _ _ _ _ rfl .i64 _ _ (he3.tmp 7 _ rfl) (he3.tmp 8 _ rfl) (.bool (decide (n ≥ lo))) _ rfl (congrArg Value.bool (hd1))) (fun a4 he4 => ?_)
    clear he3
    refine wl_val he4 rfl rfl (.bool true) (rn_move _ (Or.inl rfl) _ (he4.tmp 9 _ rfl)) (fun a5 he5 => ?_)
    clear he4
    refine wl_val he5 rfl (wanted_slot he5 3 true rfl 10 rfl true rfl true rfl) (.int .i64 (n)) (rn_move _ (Or.inl rfl) _ (he5.tmp 0 _ rfl)) (fun a6 he6 => ?_)
    clear he5
    refine wl_val he6 rfl (wanted_slot he6 3 true rfl 10 rfl true rfl true rfl) (.int .i64 (hi)) (rn_move _ (Or.inl rfl) _ (he6.tmp 2 _ rfl)) (fun a7 he7 => ?_)
    clear he6
    cases hd2 : (decide (n ≤ hi))
    · have hd2p := of_decide_eq_false hd2
      refine wl_val he7 rfl (wanted_slot he7 3 true rfl 10 rfl true rfl true rfl) (.bool false) (rn_bin _ _ _ _ _ rfl .i64 _ _ (he7.tmp 11 _ rfl) (he7.tmp 12 _ rfl) (.bool (decide (n ≤ hi))) _ rfl (congrArg Value.bool (hd2))) (fun a8 he8 => ?_)
      clear he7
      refine wl_val he8 rfl rfl (.bool false) (rn_pickT _ _ _ rfl (he8.tmp 10 _ rfl) _ (he8.tmp 13 _ rfl)) (fun a9 he9 => ?_)
      clear he8
      refine wl_val he9 rfl rfl (.bool false) (rn_move _ (Or.inr rfl) _ (he9.tmp 14 _ rfl)) (fun a10 he10 => ?_)
      clear he9
      refine wl_end ?_
      refine wp_ret ?_
      exact bodyPost_ret (results_tmp he10 _ Try.results55 _ rfl) he10.defers ⟨(by simp [inR, hd1, hd2]), hm0.below⟩
    · have hd2p := of_decide_eq_true hd2
      refine wl_val he7 rfl (wanted_slot he7 3 true rfl 10 rfl true rfl true rfl) (.bool true) (rn_bin _ _ _ _ _ rfl .i64 _ _ (he7.tmp 11 _ rfl) (he7.tmp 12 _ rfl) (.bool (decide (n ≤ hi))) _ rfl (congrArg Value.bool (hd2))) (fun a8 he8 => ?_)
      clear he7
      refine wl_val he8 rfl rfl (.bool true) (rn_pickT _ _ _ rfl (he8.tmp 10 _ rfl) _ (he8.tmp 13 _ rfl)) (fun a9 he9 => ?_)
      clear he8
      refine wl_val he9 rfl rfl (.bool true) (rn_move _ (Or.inr rfl) _ (he9.tmp 14 _ rfl)) (fun a10 he10 => ?_)
      clear he9
      refine wl_end ?_
      refine wp_ret ?_
      exact bodyPost_ret (results_tmp he10 _ Try.results55 _ rfl) he10.defers ⟨(by simp [inR, hd1, hd2]), hm0.below⟩
theorem c_top  (w : World)  :
    Calls Try.prog 48 #[] w fun e w' => e = .returned (.int .i64 4294967295) ∧ Below w.heap.size w w' := by
  refine calls_begin Try.func48 rfl 1 rfl (Nat.le_of_ble_eq_true rfl) [] trivial (fun a0 he0 hm0 => ?_)
  refine wp_seqR ?_
  refine wl_val he0 rfl rfl (.int .i64 (0)) (rn_move _ (Or.inr rfl) _ rfl) (fun a1 he1 => ?_)
  clear he0
  refine wl_end ?_
  refine wp_seqR ?_
  refine wl_val he1 rfl rfl (.int .i64 (4294967295)) (rn_move _ (Or.inr rfl) _ rfl) (fun a2 he2 => ?_)
  clear he1
  refine wl_end ?_
  refine wp_ret ?_
  exact bodyPost_ret (results_tmp he2 _ Try.results48 _ rfl) he2.defers ⟨rfl, hm0.below⟩
theorem c_rok (r : Ru) (w : World)  :
    Calls Try.prog 38 #[.agg (Ru.arr (r))] w fun e w' => e = .returned (.bool (ruOk r)) ∧ Below w.heap.size w w' := by
  refine calls_begin Try.func38 rfl 37 rfl (Nat.le_of_ble_eq_true rfl) [(0, .agg (Ru.arr (r)))] ⟨rfl, trivial⟩ (fun a0 he0 hm0 => ?_)
  refine wp_seqR ?_
  refine wl_box he0 hm0 1 rfl rfl rfl _ _ rfl _ (he0.tmp 0 _ rfl) (Ru.arr (r)) rfl (fun a1 w1 b1 he1 hm1 => ?_)
  clear he0 hm0
  refine wl_val he1 rfl rfl (.bool false) (rn_move _ (Or.inr rfl) _ rfl) (fun a2 he2 => ?_)
  clear he1
  refine wl_end ?_
  refine wp_seq ?_
  refine wh_begin (by kernel_rfl) hm1 [(1, ⟨true, b1, 39, Ru.arr (r)⟩)] ⟨rfl, trivial⟩ (fun w2 hm2 => ?_)
  clear hm1
  refine wh_take (i := 0) (op := ?op1d_0) (fuel := 34) (hi := ?hi1d_0) (hs := ?hs1d_0) (hf := ?hf1d_0) (hr := ?hr1d_0) (hQ2 := ?hq1d_0) (he := he2) (hm := hm2) (hS := ⟨rfl, trivial⟩) (hd := ?hd1d_0) (hw := ?hw1d_0) (v := .pointer (some ⟨b1, 0, none⟩)) (hy := ?hy1d_0) (hQ := ?hp1d_0) (k := fun a3 he3 => ?k1d_0)
  case hi1d_0 => rw [List.getElem?_toArray]; rfl
  case hs1d_0 | hf1d_0 | hr1d_0 => kernel_rfl
  case hq1d_0 => exact fun _ _ _ _ h => h
  case hd1d_0 => rfl
  case hw1d_0 => exact rfl
  case hp1d_0 => exact fun _ _ _ h => h
  case hy1d_0 => exact fun wS hmS => rn_field _ _ _ rfl _ (.pointer (some ⟨b1, 0, none⟩)) (he2.tmp 1 _ rfl) (by kernel_rfl)
  clear he2
  refine wh_take (i := 1) (op := ?op1d_1) (fuel := 33) (hi := ?hi1d_1) (hs := ?hs1d_1) (hf := ?hf1d_1) (hr := ?hr1d_1) (hQ2 := ?hq1d_1) (he := he3) (hm := hm2) (hS := ⟨rfl, trivial⟩) (hd := ?hd1d_1) (hw := ?hw1d_1) (v := .int .i64 ((r).at_)) (hy := ?hy1d_1) (hQ := ?hp1d_1) (k := fun a4 he4 => ?k1d_1)
  case hi1d_1 => rw [List.getElem?_toArray]; rfl
  case hs1d_1 | hf1d_1 | hr1d_1 => kernel_rfl
  case hq1d_1 => exact fun _ _ _ _ h => h
  case hd1d_1 => rfl
  case hw1d_1 => exact rfl
  case hp1d_1 => exact fun _ _ _ h => h
  case hy1d_1 => exact fun wS hmS => rn_load1 hmS 1 rfl _ _ rfl (0) (he3.tmp 3 _ rfl) one3 _ rfl
  clear he3
  cases hd1 : (inR ((r).at_) 0 11)
  · refine wh_call (i := 2) (op := ?op1d0_2) (fuel := 32) ?hr1d0_2 ?hi1d0_2 he4 hm2 ⟨rfl, trivial⟩ ?hd1d0_2 ?hw1d0_2 _ #[.int .i64 ((r).at_), .int .i64 (0), .int .i64 (11)] ?en1d0_2 (.bool false) (callsV (congrArg Value.bool (hd1)) (c_in _ _ _ _)) (fun a5 w3 he5 hm3 => ?k1d0_2)
    case hi1d0_2 => rw [List.getElem?_toArray]; rfl
    case hw1d0_2 => exact rfl
    case hr1d0_2 => kernel_rfl
    case hd1d0_2 => rfl
    case en1d0_2 => exact (enter_call _ _ _ rfl 55 #[] #[] rfl #[.int .i64 ((r).at_), .int .i64 (0), .int .i64 (11)] (map3 (he4.tmp 4 _ rfl) rfl rfl) #[.int .i64 ((r).at_), .int .i64 (0), .int .i64 (11)] rfl (fun _ _ => by kernel_rfl))
    clear he4 hm2
    refine wh_take (i := 3) (op := ?op1d0_3) (fuel := 31) (hi := ?hi1d0_3) (hs := ?hs1d0_3) (hf := ?hf1d0_3) (hr := ?hr1d0_3) (hQ2 := ?hq1d0_3) (he := he5) (hm := hm3) (hS := ⟨rfl, trivial⟩) (hd := ?hd1d0_3) (hw := ?hw1d0_3) (v := .bool false) (hy := ?hy1d0_3) (hQ := ?hp1d0_3) (k := fun a6 he6 => ?k1d0_3)
    case hi1d0_3 => rw [List.getElem?_toArray]; rfl
    case hs1d0_3 | hf1d0_3 | hr1d0_3 => kernel_rfl
    case hq1d0_3 => exact fun _ _ _ _ h => h
    case hd1d0_3 => rfl
    case hw1d0_3 => exact rfl
    case hp1d0_3 => exact fun _ _ _ h => h
    case hy1d0_3 => exact fun wS hmS => rn_move _ (Or.inl rfl) _ (he5.tmp 5 _ rfl)
    clear he5
    refine wh_takeN (i := 4) (op := ?op1d0_4) (fuel := 30) (hi := ?hi1d0_4) (hs := ?hs1d0_4) (hf := ?hf1d0_4) (hr := ?hr1d0_4) (hQ2 := ?hq1d0_4) (he := he6) (hm := hm3) (hS := ⟨rfl, trivial⟩) (hd := ?hd1d0_4) (hw := ?hw1d0_4)  (k := fun a7 he7 => ?k1d0_4)
    case hi1d0_4 => rw [List.getElem?_toArray]; rfl
    case hs1d0_4 | hf1d0_4 | hr1d0_4 => kernel_rfl
    case hq1d0_4 => exact fun _ _ _ _ h => h
    case hd1d0_4 => rfl
    case hw1d0_4 => exact (wanted_slot he6 3 true rfl 6 rfl false rfl false rfl)
    clear he6
    refine wh_takeN (i := 5) (op := ?op1d0_5) (fuel := 29) (hi := ?hi1d0_5) (hs := ?hs1d0_5) (hf := ?hf1d0_5) (hr := ?hr1d0_5) (hQ2 := ?hq1d0_5) (he := he7) (hm := hm3) (hS := ⟨rfl, trivial⟩) (hd := ?hd1d0_5) (hw := ?hw1d0_5)  (k := fun a8 he8 => ?k1d0_5)
    case hi1d0_5 => rw [List.getElem?_toArray]; rfl
    case hs1d0_5 | hf1d0_5 | hr1d0_5 => kernel_rfl
    case hq1d0_5 => exact fun _ _ _ _ h => h
    case hd1d0_5 => rfl
    case hw1d0_5 => exact (wanted_slot he7 3 true rfl 6 rfl false rfl false rfl)
    clear he7
    refine wh_pass (i := 6) (op := ?op1d0_6) (fuel := 28) ?hr1d0_6 ?hi1d0_6 he8 hm3 ⟨rfl, trivial⟩ ?hd1d0_6 ?hw1d0_6 (fun a9 he9 => ?k1d0_6)
    case hi1d0_6 => rw [List.getElem?_toArray]; rfl
    case hw1d0_6 => exact (wanted_slot he8 3 true rfl 6 rfl false rfl false rfl)
    case hr1d0_6 => kernel_rfl
    case hd1d0_6 => rfl
    clear he8
    refine wh_take (i := 7) (op := ?op1d0_7) (fuel := 27) (hi := ?hi1d0_7) (hs := ?hs1d0_7) (hf := ?hf1d0_7) (hr := ?hr1d0_7) (hQ2 := ?hq1d0_7) (he := he9) (hm := hm3) (hS := ⟨rfl, trivial⟩) (hd := ?hd1d0_7) (hw := ?hw1d0_7) (v := .bool false) (hy := ?hy1d0_7) (hQ := ?hp1d0_7) (k := fun a10 he10 => ?k1d0_7)
    case hi1d0_7 => rw [List.getElem?_toArray]; rfl
    case hs1d0_7 | hf1d0_7 | hr1d0_7 => kernel_rfl
    case hq1d0_7 => exact fun _ _ _ _ h => h
    case hd1d0_7 => rfl
    case hw1d0_7 => exact rfl
    case hp1d0_7 => exact fun _ _ _ h => h
    case hy1d0_7 => exact fun wS hmS => rn_pickF _ _ _ rfl (he9.tmp 6 _ rfl) _ rfl
    clear he9
    refine wh_take (i := 8) (op := ?op1d0_8) (fuel := 26) (hi := ?hi1d0_8) (hs := ?hs1d0_8) (hf := ?hf1d0_8) (hr := ?hr1d0_8) (hQ2 := ?hq1d0_8) (he := he10) (hm := hm3) (hS := ⟨rfl, trivial⟩) (hd := ?hd1d0_8) (hw := ?hw1d0_8) (v := .bool false) (hy := ?hy1d0_8) (hQ := ?hp1d0_8) (k := fun a11 he11 => ?k1d0_8)
    case hi1d0_8 => rw [List.getElem?_toArray]; rfl
    case hs1d0_8 | hf1d0_8 | hr1d0_8 => kernel_rfl
    case hq1d0_8 => exact fun _ _ _ _ h => h
    case hd1d0_8 => rfl
    case hw1d0_8 => exact rfl
    case hp1d0_8 => exact fun _ _ _ h => h
    case hy1d0_8 => exact fun wS hmS => rn_move _ (Or.inl rfl) _ (he10.tmp 10 _ rfl)
    clear he10
    refine wh_takeN (i := 9) (op := ?op1d0_9) (fuel := 25) (hi := ?hi1d0_9) (hs := ?hs1d0_9) (hf := ?hf1d0_9) (hr := ?hr1d0_9) (hQ2 := ?hq1d0_9) (he := he11) (hm := hm3) (hS := ⟨rfl, trivial⟩) (hd := ?hd1d0_9) (hw := ?hw1d0_9)  (k := fun a12 he12 => ?k1d0_9)
    case hi1d0_9 => rw [List.getElem?_toArray]; rfl
    case hs1d0_9 | hf1d0_9 | hr1d0_9 => kernel_rfl
    case hq1d0_9 => exact fun _ _ _ _ h => h
    case hd1d0_9 => rfl
    case hw1d0_9 => exact (wanted_slot he11 8 true rfl 11 rfl false rfl false rfl)
    clear he11
    refine wh_takeN (i := 10) (op := ?op1d0_10) (fuel := 24) (hi := ?hi1d0_10) (hs := ?hs1d0_10) (hf := ?hf1d0_10) (hr := ?hr1d0_10) (hQ2 := ?hq1d0_10) (he := he12) (hm := hm3) (hS := ⟨rfl, trivial⟩) (hd := ?hd1d0_10) (hw := ?hw1d0_10)  (k := fun a13 he13 => ?k1d0_10)
    case hi1d0_10 => rw [List.getElem?_toArray]; rfl
    case hs1d0_10 | hf1d0_10 | hr1d0_10 => kernel_rfl
    case hq1d0_10 => exact fun _ _ _ _ h => h
    case hd1d0_10 => rfl
    case hw1d0_10 => exact (wanted_slot he12 8 true rfl 11 rfl false rfl false rfl)
    clear he12
    refine wh_pass (i := 11) (op := ?op1d0_11) (fuel := 23) ?hr1d0_11 ?hi1d0_11 he13 hm3 ⟨rfl, trivial⟩ ?hd1d0_11 ?hw1d0_11 (fun a14 he14 => ?k1d0_11)
    case hi1d0_11 => rw [List.getElem?_toArray]; rfl
    case hw1d0_11 => exact (wanted_slot he13 8 true rfl 11 rfl false rfl false rfl)
    case hr1d0_11 => kernel_rfl
    case hd1d0_11 => rfl
    clear he13
    refine wh_take (i := 12) (op := ?op1d0_12) (fuel := 22) (hi := ?hi1d0_12) (hs := ?hs1d0_12) (hf := ?hf1d0_12) (hr := ?hr1d0_12) (hQ2 := ?hq1d0_12) (he := he14) (hm := hm3) (hS := ⟨rfl, trivial⟩) (hd := ?hd1d0_12) (hw := ?hw1d0_12) (v := .bool false) (hy := ?hy1d0_12) (hQ := ?hp1d0_12) (k := fun a15 he15 => ?k1d0_12)
    case hi1d0_12 => rw [List.getElem?_toArray]; rfl
    case hs1d0_12 | hf1d0_12 | hr1d0_12 => kernel_rfl
    case hq1d0_12 => exact fun _ _ _ _ h => h
    case hd1d0_12 => rfl
    case hw1d0_12 => exact rfl
    case hp1d0_12 => exact fun _ _ _ h => h
    case hy1d0_12 => exact fun wS hmS => rn_pickF _ _ _ rfl (he14.tmp 11 _ rfl) _ rfl
    clear he14
    refine wh_take (i := 13) (op := ?op1d0_13) (fuel := 21) (hi := ?hi1d0_13) (hs := ?hs1d0_13) (hf := ?hf1d0_13) (hr := ?hr1d0_13) (hQ2 := ?hq1d0_13) (he := he15) (hm := hm3) (hS := ⟨rfl, trivial⟩) (hd := ?hd1d0_13) (hw := ?hw1d0_13) (v := .bool false) (hy := ?hy1d0_13) (hQ := ?hp1d0_13) (k := fun a16 he16 => ?k1d0_13)
    case hi1d0_13 => rw [List.getElem?_toArray]; rfl
    case hs1d0_13 | hf1d0_13 | hr1d0_13 => kernel_rfl
    case hq1d0_13 => exact fun _ _ _ _ h => h
    case hd1d0_13 => rfl
    case hw1d0_13 => exact rfl
    case hp1d0_13 => exact fun _ _ _ h => h
    case hy1d0_13 => exact fun wS hmS => rn_move _ (Or.inl rfl) _ (he15.tmp 15 _ rfl)
    clear he15
    refine wh_takeN (i := 14) (op := ?op1d0_14) (fuel := 20) (hi := ?hi1d0_14) (hs := ?hs1d0_14) (hf := ?hf1d0_14) (hr := ?hr1d0_14) (hQ2 := ?hq1d0_14) (he := he16) (hm := hm3) (hS := ⟨rfl, trivial⟩) (hd := ?hd1d0_14) (hw := ?hw1d0_14)  (k := fun a17 he17 => ?k1d0_14)
    case hi1d0_14 => rw [List.getElem?_toArray]; rfl
    case hs1d0_14 | hf1d0_14 | hr1d0_14 => kernel_rfl
    case hq1d0_14 => exact fun _ _ _ _ h => h
    case hd1d0_14 => rfl
    case hw1d0_14 => exact (wanted_slot he16 13 true rfl 16 rfl false rfl false rfl)
    clear he16
    refine wh_takeN (i := 15) (op := ?op1d0_15) (fuel := 19) (hi := ?hi1d0_15) (hs := ?hs1d0_15) (hf := ?hf1d0_15) (hr := ?hr1d0_15) (hQ2 := ?hq1d0_15) (he := he17) (hm := hm3) (hS := ⟨rfl, trivial⟩) (hd := ?hd1d0_15) (hw := ?hw1d0_15)  (k := fun a18 he18 => ?k1d0_15)
    case hi1d0_15 => rw [List.getElem?_toArray]; rfl
    case hs1d0_15 | hf1d0_15 | hr1d0_15 => kernel_rfl
    case hq1d0_15 => exact fun _ _ _ _ h => h
    case hd1d0_15 => rfl
    case hw1d0_15 => exact (wanted_slot he17 13 true rfl 16 rfl false rfl false rfl)
    clear he17
    refine wh_pass (i := 16) (op := ?op1d0_16) (fuel := 18) ?hr1d0_16 ?hi1d0_16 he18 hm3 ⟨rfl, trivial⟩ ?hd1d0_16 ?hw1d0_16 (fun a19 he19 => ?k1d0_16)
    case hi1d0_16 => rw [List.getElem?_toArray]; rfl
    case hw1d0_16 => exact (wanted_slot he18 13 true rfl 16 rfl false rfl false rfl)
    case hr1d0_16 => kernel_rfl
    case hd1d0_16 => rfl
    clear he18
    refine wh_take (i := 17) (op := ?op1d0_17) (fuel := 17) (hi := ?hi1d0_17) (hs := ?hs1d0_17) (hf := ?hf1d0_17) (hr := ?hr1d0_17) (hQ2 := ?hq1d0_17) (he := he19) (hm := hm3) (hS := ⟨rfl, trivial⟩) (hd := ?hd1d0_17) (hw := ?hw1d0_17) (v := .bool false) (hy := ?hy1d0_17) (hQ := ?hp1d0_17) (k := fun a20 he20 => ?k1d0_17)
    case hi1d0_17 => rw [List.getElem?_toArray]; rfl
    case hs1d0_17 | hf1d0_17 | hr1d0_17 => kernel_rfl
    case hq1d0_17 => exact fun _ _ _ _ h => h
    case hd1d0_17 => rfl
    case hw1d0_17 => exact rfl
    case hp1d0_17 => exact fun _ _ _ h => h
    case hy1d0_17 => exact fun wS hmS => rn_pickF _ _ _ rfl (he19.tmp 16 _ rfl) _ rfl
    clear he19
    refine wh_take (i := 18) (op := ?op1d0_18) (fuel := 16) (hi := ?hi1d0_18) (hs := ?hs1d0_18) (hf := ?hf1d0_18) (hr := ?hr1d0_18) (hQ2 := ?hq1d0_18) (he := he20) (hm := hm3) (hS := ⟨rfl, trivial⟩) (hd := ?hd1d0_18) (hw := ?hw1d0_18) (v := .bool false) (hy := ?hy1d0_18) (hQ := ?hp1d0_18) (k := fun a21 he21 => ?k1d0_18)
    case hi1d0_18 => rw [List.getElem?_toArray]; rfl
    case hs1d0_18 | hf1d0_18 | hr1d0_18 => kernel_rfl
    case hq1d0_18 => exact fun _ _ _ _ h => h
    case hd1d0_18 => rfl
    case hw1d0_18 => exact rfl
    case hp1d0_18 => exact fun _ _ _ h => h
    case hy1d0_18 => exact fun wS hmS => rn_move _ (Or.inl rfl) _ (he20.tmp 20 _ rfl)
    clear he20
    refine wh_takeN (i := 19) (op := ?op1d0_19) (fuel := 15) (hi := ?hi1d0_19) (hs := ?hs1d0_19) (hf := ?hf1d0_19) (hr := ?hr1d0_19) (hQ2 := ?hq1d0_19) (he := he21) (hm := hm3) (hS := ⟨rfl, trivial⟩) (hd := ?hd1d0_19) (hw := ?hw1d0_19)  (k := fun a22 he22 => ?k1d0_19)
    case hi1d0_19 => rw [List.getElem?_toArray]; rfl
    case hs1d0_19 | hf1d0_19 | hr1d0_19 => kernel_rfl
    case hq1d0_19 => exact fun _ _ _ _ h => h
    case hd1d0_19 => rfl
    case hw1d0_19 => exact (wanted_slot he21 18 true rfl 21 rfl false rfl false rfl)
    clear he21
    refine wh_takeN (i := 20) (op := ?op1d0_20) (fuel := 14) (hi := ?hi1d0_20) (hs := ?hs1d0_20) (hf := ?hf1d0_20) (hr := ?hr1d0_20) (hQ2 := ?hq1d0_20) (he := he22) (hm := hm3) (hS := ⟨rfl, trivial⟩) (hd := ?hd1d0_20) (hw := ?hw1d0_20)  (k := fun a23 he23 => ?k1d0_20)
    case hi1d0_20 => rw [List.getElem?_toArray]; rfl
    case hs1d0_20 | hf1d0_20 | hr1d0_20 => kernel_rfl
    case hq1d0_20 => exact fun _ _ _ _ h => h
    case hd1d0_20 => rfl
    case hw1d0_20 => exact (wanted_slot he22 18 true rfl 21 rfl false rfl false rfl)
    clear he22
    refine wh_pass (i := 21) (op := ?op1d0_21) (fuel := 13) ?hr1d0_21 ?hi1d0_21 he23 hm3 ⟨rfl, trivial⟩ ?hd1d0_21 ?hw1d0_21 (fun a24 he24 => ?k1d0_21)
    case hi1d0_21 => rw [List.getElem?_toArray]; rfl
    case hw1d0_21 => exact (wanted_slot he23 18 true rfl 21 rfl false rfl false rfl)
    case hr1d0_21 => kernel_rfl
    case hd1d0_21 => rfl
    clear he23
    refine wh_pass (i := 22) (op := ?op1d0_22) (fuel := 12) ?hr1d0_22 ?hi1d0_22 he24 hm3 ⟨rfl, trivial⟩ ?hd1d0_22 ?hw1d0_22 (fun a25 he25 => ?k1d0_22)
    case hi1d0_22 => rw [List.getElem?_toArray]; rfl
    case hw1d0_22 => exact (wanted_slot he24 18 true rfl 21 rfl false rfl false rfl)
    case hr1d0_22 => kernel_rfl
    case hd1d0_22 => rfl
    clear he24
    refine wh_take (i := 23) (op := ?op1d0_23) (fuel := 11) (hi := ?hi1d0_23) (hs := ?hs1d0_23) (hf := ?hf1d0_23) (hr := ?hr1d0_23) (hQ2 := ?hq1d0_23) (he := he25) (hm := hm3) (hS := ⟨rfl, trivial⟩) (hd := ?hd1d0_23) (hw := ?hw1d0_23) (v := .bool false) (hy := ?hy1d0_23) (hQ := ?hp1d0_23) (k := fun a26 he26 => ?k1d0_23)
    case hi1d0_23 => rw [List.getElem?_toArray]; rfl
    case hs1d0_23 | hf1d0_23 | hr1d0_23 => kernel_rfl
    case hq1d0_23 => exact fun _ _ _ _ h => h
    case hd1d0_23 => rfl
    case hw1d0_23 => exact rfl
    case hp1d0_23 => exact fun _ _ _ h => h
    case hy1d0_23 => exact fun wS hmS => rn_pickF _ _ _ rfl (he25.tmp 21 _ rfl) _ rfl
    clear he25
    refine wh_take (i := 24) (op := ?op1d0_24) (fuel := 10) (hi := ?hi1d0_24) (hs := ?hs1d0_24) (hf := ?hf1d0_24) (hr := ?hr1d0_24) (hQ2 := ?hq1d0_24) (he := he26) (hm := hm3) (hS := ⟨rfl, trivial⟩) (hd := ?hd1d0_24) (hw := ?hw1d0_24) (v := .bool false) (hy := ?hy1d0_24) (hQ := ?hp1d0_24) (k := fun a27 he27 => ?k1d0_24)
    case hi1d0_24 => rw [List.getElem?_toArray]; rfl
    case hs1d0_24 | hf1d0_24 | hr1d0_24 => kernel_rfl
    case hq1d0_24 => exact fun _ _ _ _ h => h
    case hd1d0_24 => rfl
    case hw1d0_24 => exact rfl
    case hp1d0_24 => exact fun _ _ _ h => h
    case hy1d0_24 => exact fun wS hmS => rn_move _ (Or.inl rfl) _ (he26.tmp 26 _ rfl)
    clear he26
    refine wh_takeN (i := 25) (op := ?op1d0_25) (fuel := 9) (hi := ?hi1d0_25) (hs := ?hs1d0_25) (hf := ?hf1d0_25) (hr := ?hr1d0_25) (hQ2 := ?hq1d0_25) (he := he27) (hm := hm3) (hS := ⟨rfl, trivial⟩) (hd := ?hd1d0_25) (hw := ?hw1d0_25)  (k := fun a28 he28 => ?k1d0_25)
    case hi1d0_25 => rw [List.getElem?_toArray]; rfl
    case hs1d0_25 | hf1d0_25 | hr1d0_25 => kernel_rfl
    case hq1d0_25 => exact fun _ _ _ _ h => h
    case hd1d0_25 => rfl
    case hw1d0_25 => exact (wanted_slot he27 24 true rfl 27 rfl false rfl false rfl)
    clear he27
    refine wh_takeN (i := 26) (op := ?op1d0_26) (fuel := 8) (hi := ?hi1d0_26) (hs := ?hs1d0_26) (hf := ?hf1d0_26) (hr := ?hr1d0_26) (hQ2 := ?hq1d0_26) (he := he28) (hm := hm3) (hS := ⟨rfl, trivial⟩) (hd := ?hd1d0_26) (hw := ?hw1d0_26)  (k := fun a29 he29 => ?k1d0_26)
    case hi1d0_26 => rw [List.getElem?_toArray]; rfl
    case hs1d0_26 | hf1d0_26 | hr1d0_26 => kernel_rfl
    case hq1d0_26 => exact fun _ _ _ _ h => h
    case hd1d0_26 => rfl
    case hw1d0_26 => exact (wanted_slot he28 24 true rfl 27 rfl false rfl false rfl)
    clear he28
    refine wh_takeN (i := 27) (op := ?op1d0_27) (fuel := 7) (hi := ?hi1d0_27) (hs := ?hs1d0_27) (hf := ?hf1d0_27) (hr := ?hr1d0_27) (hQ2 := ?hq1d0_27) (he := he29) (hm := hm3) (hS := ⟨rfl, trivial⟩) (hd := ?hd1d0_27) (hw := ?hw1d0_27)  (k := fun a30 he30 => ?k1d0_27)
    case hi1d0_27 => rw [List.getElem?_toArray]; rfl
    case hs1d0_27 | hf1d0_27 | hr1d0_27 => kernel_rfl
    case hq1d0_27 => exact fun _ _ _ _ h => h
    case hd1d0_27 => rfl
    case hw1d0_27 => exact (wanted_slot he29 24 true rfl 27 rfl false rfl false rfl)
    clear he29
    refine wh_takeN (i := 28) (op := ?op1d0_28) (fuel := 6) (hi := ?hi1d0_28) (hs := ?hs1d0_28) (hf := ?hf1d0_28) (hr := ?hr1d0_28) (hQ2 := ?hq1d0_28) (he := he30) (hm := hm3) (hS := ⟨rfl, trivial⟩) (hd := ?hd1d0_28) (hw := ?hw1d0_28)  (k := fun a31 he31 => ?k1d0_28)
    case hi1d0_28 => rw [List.getElem?_toArray]; rfl
    case hs1d0_28 | hf1d0_28 | hr1d0_28 => kernel_rfl
    case hq1d0_28 => exact fun _ _ _ _ h => h
    case hd1d0_28 => rfl
    case hw1d0_28 => exact (wanted_slot he30 24 true rfl 27 rfl false rfl false rfl)
    clear he30
    refine wh_takeN (i := 29) (op := ?op1d0_29) (fuel := 5) (hi := ?hi1d0_29) (hs := ?hs1d0_29) (hf := ?hf1d0_29) (hr := ?hr1d0_29) (hQ2 := ?hq1d0_29) (he := he31) (hm := hm3) (hS := ⟨rfl, trivial⟩) (hd := ?hd1d0_29) (hw := ?hw1d0_29)  (k := fun a32 he32 => ?k1d0_29)
    case hi1d0_29 => rw [List.getElem?_toArray]; rfl
    case hs1d0_29 | hf1d0_29 | hr1d0_29 => kernel_rfl
    case hq1d0_29 => exact fun _ _ _ _ h => h
    case hd1d0_29 => rfl
    case hw1d0_29 => exact (wanted_undef he31 28 false rfl 31 rfl rfl)
    clear he31
    refine wh_takeN (i := 30) (op := ?op1d0_30) (fuel := 4) (hi := ?hi1d0_30) (hs := ?hs1d0_30) (hf := ?hf1d0_30) (hr := ?hr1d0_30) (hQ2 := ?hq1d0_30) (he := he32) (hm := hm3) (hS := ⟨rfl, trivial⟩) (hd := ?hd1d0_30) (hw := ?hw1d0_30)  (k := fun a33 he33 => ?k1d0_30)
    case hi1d0_30 => rw [List.getElem?_toArray]; rfl
    case hs1d0_30 | hf1d0_30 | hr1d0_30 => kernel_rfl
    case hq1d0_30 => exact fun _ _ _ _ h => h
    case hd1d0_30 => rfl
    case hw1d0_30 => exact (wanted_undef he32 28 false rfl 31 rfl rfl)
    clear he32
    refine wh_takeN (i := 31) (op := ?op1d0_31) (fuel := 3) (hi := ?hi1d0_31) (hs := ?hs1d0_31) (hf := ?hf1d0_31) (hr := ?hr1d0_31) (hQ2 := ?hq1d0_31) (he := he33) (hm := hm3) (hS := ⟨rfl, trivial⟩) (hd := ?hd1d0_31) (hw := ?hw1d0_31)  (k := fun a34 he34 => ?k1d0_31)
    case hi1d0_31 => rw [List.getElem?_toArray]; rfl
    case hs1d0_31 | hf1d0_31 | hr1d0_31 => kernel_rfl
    case hq1d0_31 => exact fun _ _ _ _ h => h
    case hd1d0_31 => rfl
    case hw1d0_31 => exact (wanted_undef he33 28 false rfl 31 rfl rfl)
    clear he33
    refine wh_takeN (i := 32) (op := ?op1d0_32) (fuel := 2) (hi := ?hi1d0_32) (hs := ?hs1d0_32) (hf := ?hf1d0_32) (hr := ?hr1d0_32) (hQ2 := ?hq1d0_32) (he := he34) (hm := hm3) (hS := ⟨rfl, trivial⟩) (hd := ?hd1d0_32) (hw := ?hw1d0_32)  (k := fun a35 he35 => ?k1d0_32)
    case hi1d0_32 => rw [List.getElem?_toArray]; rfl
    case hs1d0_32 | hf1d0_32 | hr1d0_32 => kernel_rfl
    case hq1d0_32 => exact fun _ _ _ _ h => h
    case hd1d0_32 => rfl
    case hw1d0_32 => exact (wanted_slot he34 24 true rfl 27 rfl false rfl false rfl)
    clear he34
    refine wh_take (i := 33) (op := ?op1d0_33) (fuel := 1) (hi := ?hi1d0_33) (hs := ?hs1d0_33) (hf := ?hf1d0_33) (hr := ?hr1d0_33) (hQ2 := ?hq1d0_33) (he := he35) (hm := hm3) (hS := ⟨rfl, trivial⟩) (hd := ?hd1d0_33) (hw := ?hw1d0_33) (v := .bool false) (hy := ?hy1d0_33) (hQ := ?hp1d0_33) (k := fun a36 he36 => ?k1d0_33)
    case hi1d0_33 => rw [List.getElem?_toArray]; rfl
    case hs1d0_33 | hf1d0_33 | hr1d0_33 => kernel_rfl
    case hq1d0_33 => exact fun _ _ _ _ h => h
    case hd1d0_33 => rfl
    case hw1d0_33 => exact rfl
    case hp1d0_33 => exact fun _ _ _ h => h
    case hy1d0_33 => exact fun wS hmS => rn_pickF _ _ _ rfl (he35.tmp 27 _ rfl) _ rfl
    clear he35
    refine wh_take (i := 34) (op := ?op1d0_34) (fuel := 0) (hi := ?hi1d0_34) (hs := ?hs1d0_34) (hf := ?hf1d0_34) (hr := ?hr1d0_34) (hQ2 := ?hq1d0_34) (he := he36) (hm := hm3) (hS := ⟨rfl, trivial⟩) (hd := ?hd1d0_34) (hw := ?hw1d0_34) (v := .bool false) (hy := ?hy1d0_34) (hQ := ?hp1d0_34) (k := fun a37 he37 => ?k1d0_34)
    case hi1d0_34 => rw [List.getElem?_toArray]; rfl
    case hs1d0_34 | hf1d0_34 | hr1d0_34 => kernel_rfl
    case hq1d0_34 => exact fun _ _ _ _ h => h
    case hd1d0_34 => rfl
    case hw1d0_34 => exact rfl
    case hp1d0_34 => exact fun _ _ _ h => h
    case hy1d0_34 => exact fun wS hmS => rn_move _ (Or.inr rfl) _ (he36.tmp 36 _ rfl)
    clear he36
    refine wpAnyH_done (by kernel_rfl) ?_ _
    refine then_normal ?_
    refine wp_ret ?_
    exact bodyPost_ret (results_tmp he37 _ Try.results38 _ rfl) he37.defers ⟨(by simp [ruOk, hd1]), hm3.below⟩
  · refine wh_call (i := 2) (op := ?op1d1_2) (fuel := 32) ?hr1d1_2 ?hi1d1_2 he4 hm2 ⟨rfl, trivial⟩ ?hd1d1_2 ?hw1d1_2 _ #[.int .i64 ((r).at_), .int .i64 (0), .int .i64 (11)] ?en1d1_2 (.bool true) (callsV (congrArg Value.bool (hd1)) (c_in _ _ _ _)) (fun a5 w3 he5 hm3 => ?k1d1_2)
    case hi1d1_2 => rw [List.getElem?_toArray]; rfl
    case hw1d1_2 => exact rfl
    case hr1d1_2 => kernel_rfl
    case hd1d1_2 => rfl
    case en1d1_2 => exact (enter_call _ _ _ rfl 55 #[] #[] rfl #[.int .i64 ((r).at_), .int .i64 (0), .int .i64 (11)] (map3 (he4.tmp 4 _ rfl) rfl rfl) #[.int .i64 ((r).at_), .int .i64 (0), .int .i64 (11)] rfl (fun _ _ => by kernel_rfl))
    clear he4 hm2
    refine wh_take (i := 3) (op := ?op1d1_3) (fuel := 31) (hi := ?hi1d1_3) (hs := ?hs1d1_3) (hf := ?hf1d1_3) (hr := ?hr1d1_3) (hQ2 := ?hq1d1_3) (he := he5) (hm := hm3) (hS := ⟨rfl, trivial⟩) (hd := ?hd1d1_3) (hw := ?hw1d1_3) (v := .bool true) (hy := ?hy1d1_3) (hQ := ?hp1d1_3) (k := fun a6 he6 => ?k1d1_3)
    case hi1d1_3 => rw [List.getElem?_toArray]; rfl
    case hs1d1_3 | hf1d1_3 | hr1d1_3 => kernel_rfl
    case hq1d1_3 => exact fun _ _ _ _ h => h
    case hd1d1_3 => rfl
    case hw1d1_3 => exact rfl
    case hp1d1_3 => exact fun _ _ _ h => h
    case hy1d1_3 => exact fun wS hmS => rn_move _ (Or.inl rfl) _ (he5.tmp 5 _ rfl)
    clear he5
    refine wh_take (i := 4) (op := ?op1d1_4) (fuel := 30) (hi := ?hi1d1_4) (hs := ?hs1d1_4) (hf := ?hf1d1_4) (hr := ?hr1d1_4) (hQ2 := ?hq1d1_4) (he := he6) (hm := hm3) (hS := ⟨rfl, trivial⟩) (hd := ?hd1d1_4) (hw := ?hw1d1_4) (v := .pointer (some ⟨b1, 1, none⟩)) (hy := ?hy1d1_4) (hQ := ?hp1d1_4) (k := fun a7 he7 => ?k1d1_4)
    case hi1d1_4 => rw [List.getElem?_toArray]; rfl
    case hs1d1_4 | hf1d1_4 | hr1d1_4 => kernel_rfl
    case hq1d1_4 => exact fun _ _ _ _ h => h
    case hd1d1_4 => rfl
    case hw1d1_4 => exact (wanted_slot he6 3 true rfl 6 rfl true rfl true rfl)
    case hp1d1_4 => exact fun _ _ _ h => h
    case hy1d1_4 => exact fun wS hmS => rn_field _ _ _ rfl _ (.pointer (some ⟨b1, 1, none⟩)) (he6.tmp 1 _ rfl) (by kernel_rfl)
    clear he6
    refine wh_take (i := 5) (op := ?op1d1_5) (fuel := 29) (hi := ?hi1d1_5) (hs := ?hs1d1_5) (hf := ?hf1d1_5) (hr := ?hr1d1_5) (hQ2 := ?hq1d1_5) (he := he7) (hm := hm3) (hS := ⟨rfl, trivial⟩) (hd := ?hd1d1_5) (hw := ?hw1d1_5) (v := .int .i64 ((r).op)) (hy := ?hy1d1_5) (hQ := ?hp1d1_5) (k := fun a8 he8 => ?k1d1_5)
    case hi1d1_5 => rw [List.getElem?_toArray]; rfl
    case hs1d1_5 | hf1d1_5 | hr1d1_5 => kernel_rfl
    case hq1d1_5 => exact fun _ _ _ _ h => h
    case hd1d1_5 => rfl
    case hw1d1_5 => exact (wanted_slot he7 3 true rfl 6 rfl true rfl true rfl)
    case hp1d1_5 => exact fun _ _ _ h => h
    case hy1d1_5 => exact fun wS hmS => rn_load1 hmS 1 rfl _ _ rfl (1) (he7.tmp 7 _ rfl) one3 _ rfl
    clear he7
    cases hd2 : (inR ((r).op) 12 15)
    · refine wh_call (i := 6) (op := ?op1d10_6) (fuel := 28) ?hr1d10_6 ?hi1d10_6 he8 hm3 ⟨rfl, trivial⟩ ?hd1d10_6 ?hw1d10_6 _ #[.int .i64 ((r).op), .int .i64 (12), .int .i64 (15)] ?en1d10_6 (.bool false) (callsV (congrArg Value.bool (hd2)) (c_in _ _ _ _)) (fun a9 w4 he9 hm4 => ?k1d10_6)
      case hi1d10_6 => rw [List.getElem?_toArray]; rfl
      case hw1d10_6 => exact (wanted_slot he8 3 true rfl 6 rfl true rfl true rfl)
      case hr1d10_6 => kernel_rfl
      case hd1d10_6 => rfl
      case en1d10_6 => exact (enter_call _ _ _ rfl 55 #[] #[] rfl #[.int .i64 ((r).op), .int .i64 (12), .int .i64 (15)] (map3 (he8.tmp 8 _ rfl) rfl rfl) #[.int .i64 ((r).op), .int .i64 (12), .int .i64 (15)] rfl (fun _ _ => by kernel_rfl))
      clear he8 hm3
      refine wh_take (i := 7) (op := ?op1d10_7) (fuel := 27) (hi := ?hi1d10_7) (hs := ?hs1d10_7) (hf := ?hf1d10_7) (hr := ?hr1d10_7) (hQ2 := ?hq1d10_7) (he := he9) (hm := hm4) (hS := ⟨rfl, trivial⟩) (hd := ?hd1d10_7) (hw := ?hw1d10_7) (v := .bool false) (hy := ?hy1d10_7) (hQ := ?hp1d10_7) (k := fun a10 he10 => ?k1d10_7)
      case hi1d10_7 => rw [List.getElem?_toArray]; rfl
      case hs1d10_7 | hf1d10_7 | hr1d10_7 => kernel_rfl
      case hq1d10_7 => exact fun _ _ _ _ h => h
      case hd1d10_7 => rfl
      case hw1d10_7 => exact rfl
      case hp1d10_7 => exact fun _ _ _ h => h
      case hy1d10_7 => exact fun wS hmS => rn_pickT _ _ _ rfl (he9.tmp 6 _ rfl) _ (he9.tmp 9 _ rfl)
      clear he9
      refine wh_take (i := 8) (op := ?op1d10_8) (fuel := 26) (hi := ?hi1d10_8) (hs := ?hs1d10_8) (hf := ?hf1d10_8) (hr := ?hr1d10_8) (hQ2 := ?hq1d10_8) (he := he10) (hm := hm4) (hS := ⟨rfl, trivial⟩) (hd := ?hd1d10_8) (hw := ?hw1d10_8) (v := .bool false) (hy := ?hy1d10_8) (hQ := ?hp1d10_8) (k := fun a11 he11 => ?k1d10_8)
      case hi1d10_8 => rw [List.getElem?_toArray]; rfl
      case hs1d10_8 | hf1d10_8 | hr1d10_8 => kernel_rfl
      case hq1d10_8 => exact fun _ _ _ _ h => h
      case hd1d10_8 => rfl
      case hw1d10_8 => exact rfl
      case hp1d10_8 => exact fun _ _ _ h => h
      case hy1d10_8 => exact fun wS hmS => rn_move _ (Or.inl rfl) _ (he10.tmp 10 _ rfl)
      clear he10
      refine wh_takeN (i := 9) (op := ?op1d10_9) (fuel := 25) (hi := ?hi1d10_9) (hs := ?hs1d10_9) (hf := ?hf1d10_9) (hr := ?hr1d10_9) (hQ2 := ?hq1d10_9) (he := he11) (hm := hm4) (hS := ⟨rfl, trivial⟩) (hd := ?hd1d10_9) (hw := ?hw1d10_9)  (k := fun a12 he12 => ?k1d10_9)
      case hi1d10_9 => rw [List.getElem?_toArray]; rfl
      case hs1d10_9 | hf1d10_9 | hr1d10_9 => kernel_rfl
      case hq1d10_9 => exact fun _ _ _ _ h => h
      case hd1d10_9 => rfl
      case hw1d10_9 => exact (wanted_slot he11 8 true rfl 11 rfl false rfl false rfl)
      clear he11
      refine wh_takeN (i := 10) (op := ?op1d10_10) (fuel := 24) (hi := ?hi1d10_10) (hs := ?hs1d10_10) (hf := ?hf1d10_10) (hr := ?hr1d10_10) (hQ2 := ?hq1d10_10) (he := he12) (hm := hm4) (hS := ⟨rfl, trivial⟩) (hd := ?hd1d10_10) (hw := ?hw1d10_10)  (k := fun a13 he13 => ?k1d10_10)
      case hi1d10_10 => rw [List.getElem?_toArray]; rfl
      case hs1d10_10 | hf1d10_10 | hr1d10_10 => kernel_rfl
      case hq1d10_10 => exact fun _ _ _ _ h => h
      case hd1d10_10 => rfl
      case hw1d10_10 => exact (wanted_slot he12 8 true rfl 11 rfl false rfl false rfl)
      clear he12
      refine wh_pass (i := 11) (op := ?op1d10_11) (fuel := 23) ?hr1d10_11 ?hi1d10_11 he13 hm4 ⟨rfl, trivial⟩ ?hd1d10_11 ?hw1d10_11 (fun a14 he14 => ?k1d10_11)
      case hi1d10_11 => rw [List.getElem?_toArray]; rfl
      case hw1d10_11 => exact (wanted_slot he13 8 true rfl 11 rfl false rfl false rfl)
      case hr1d10_11 => kernel_rfl
      case hd1d10_11 => rfl
      clear he13
      refine wh_take (i := 12) (op := ?op1d10_12) (fuel := 22) (hi := ?hi1d10_12) (hs := ?hs1d10_12) (hf := ?hf1d10_12) (hr := ?hr1d10_12) (hQ2 := ?hq1d10_12) (he := he14) (hm := hm4) (hS := ⟨rfl, trivial⟩) (hd := ?hd1d10_12) (hw := ?hw1d10_12) (v := .bool false) (hy := ?hy1d10_12) (hQ := ?hp1d10_12) (k := fun a15 he15 => ?k1d10_12)
      case hi1d10_12 => rw [List.getElem?_toArray]; rfl
      case hs1d10_12 | hf1d10_12 | hr1d10_12 => kernel_rfl
      case hq1d10_12 => exact fun _ _ _ _ h => h
      case hd1d10_12 => rfl
      case hw1d10_12 => exact rfl
      case hp1d10_12 => exact fun _ _ _ h => h
      case hy1d10_12 => exact fun wS hmS => rn_pickF _ _ _ rfl (he14.tmp 11 _ rfl) _ rfl
      clear he14
      refine wh_take (i := 13) (op := ?op1d10_13) (fuel := 21) (hi := ?hi1d10_13) (hs := ?hs1d10_13) (hf := ?hf1d10_13) (hr := ?hr1d10_13) (hQ2 := ?hq1d10_13) (he := he15) (hm := hm4) (hS := ⟨rfl, trivial⟩) (hd := ?hd1d10_13) (hw := ?hw1d10_13) (v := .bool false) (hy := ?hy1d10_13) (hQ := ?hp1d10_13) (k := fun a16 he16 => ?k1d10_13)
      case hi1d10_13 => rw [List.getElem?_toArray]; rfl
      case hs1d10_13 | hf1d10_13 | hr1d10_13 => kernel_rfl
      case hq1d10_13 => exact fun _ _ _ _ h => h
      case hd1d10_13 => rfl
      case hw1d10_13 => exact rfl
      case hp1d10_13 => exact fun _ _ _ h => h
      case hy1d10_13 => exact fun wS hmS => rn_move _ (Or.inl rfl) _ (he15.tmp 15 _ rfl)
      clear he15
      refine wh_takeN (i := 14) (op := ?op1d10_14) (fuel := 20) (hi := ?hi1d10_14) (hs := ?hs1d10_14) (hf := ?hf1d10_14) (hr := ?hr1d10_14) (hQ2 := ?hq1d10_14) (he := he16) (hm := hm4) (hS := ⟨rfl, trivial⟩) (hd := ?hd1d10_14) (hw := ?hw1d10_14)  (k := fun a17 he17 => ?k1d10_14)
      case hi1d10_14 => rw [List.getElem?_toArray]; rfl
      case hs1d10_14 | hf1d10_14 | hr1d10_14 => kernel_rfl
      case hq1d10_14 => exact fun _ _ _ _ h => h
      case hd1d10_14 => rfl
      case hw1d10_14 => exact (wanted_slot he16 13 true rfl 16 rfl false rfl false rfl)
      clear he16
      refine wh_takeN (i := 15) (op := ?op1d10_15) (fuel := 19) (hi := ?hi1d10_15) (hs := ?hs1d10_15) (hf := ?hf1d10_15) (hr := ?hr1d10_15) (hQ2 := ?hq1d10_15) (he := he17) (hm := hm4) (hS := ⟨rfl, trivial⟩) (hd := ?hd1d10_15) (hw := ?hw1d10_15)  (k := fun a18 he18 => ?k1d10_15)
      case hi1d10_15 => rw [List.getElem?_toArray]; rfl
      case hs1d10_15 | hf1d10_15 | hr1d10_15 => kernel_rfl
      case hq1d10_15 => exact fun _ _ _ _ h => h
      case hd1d10_15 => rfl
      case hw1d10_15 => exact (wanted_slot he17 13 true rfl 16 rfl false rfl false rfl)
      clear he17
      refine wh_pass (i := 16) (op := ?op1d10_16) (fuel := 18) ?hr1d10_16 ?hi1d10_16 he18 hm4 ⟨rfl, trivial⟩ ?hd1d10_16 ?hw1d10_16 (fun a19 he19 => ?k1d10_16)
      case hi1d10_16 => rw [List.getElem?_toArray]; rfl
      case hw1d10_16 => exact (wanted_slot he18 13 true rfl 16 rfl false rfl false rfl)
      case hr1d10_16 => kernel_rfl
      case hd1d10_16 => rfl
      clear he18
      refine wh_take (i := 17) (op := ?op1d10_17) (fuel := 17) (hi := ?hi1d10_17) (hs := ?hs1d10_17) (hf := ?hf1d10_17) (hr := ?hr1d10_17) (hQ2 := ?hq1d10_17) (he := he19) (hm := hm4) (hS := ⟨rfl, trivial⟩) (hd := ?hd1d10_17) (hw := ?hw1d10_17) (v := .bool false) (hy := ?hy1d10_17) (hQ := ?hp1d10_17) (k := fun a20 he20 => ?k1d10_17)
      case hi1d10_17 => rw [List.getElem?_toArray]; rfl
      case hs1d10_17 | hf1d10_17 | hr1d10_17 => kernel_rfl
      case hq1d10_17 => exact fun _ _ _ _ h => h
      case hd1d10_17 => rfl
      case hw1d10_17 => exact rfl
      case hp1d10_17 => exact fun _ _ _ h => h
      case hy1d10_17 => exact fun wS hmS => rn_pickF _ _ _ rfl (he19.tmp 16 _ rfl) _ rfl
      clear he19
      refine wh_take (i := 18) (op := ?op1d10_18) (fuel := 16) (hi := ?hi1d10_18) (hs := ?hs1d10_18) (hf := ?hf1d10_18) (hr := ?hr1d10_18) (hQ2 := ?hq1d10_18) (he := he20) (hm := hm4) (hS := ⟨rfl, trivial⟩) (hd := ?hd1d10_18) (hw := ?hw1d10_18) (v := .bool false) (hy := ?hy1d10_18) (hQ := ?hp1d10_18) (k := fun a21 he21 => ?k1d10_18)
      case hi1d10_18 => rw [List.getElem?_toArray]; rfl
      case hs1d10_18 | hf1d10_18 | hr1d10_18 => kernel_rfl
      case hq1d10_18 => exact fun _ _ _ _ h => h
      case hd1d10_18 => rfl
      case hw1d10_18 => exact rfl
      case hp1d10_18 => exact fun _ _ _ h => h
      case hy1d10_18 => exact fun wS hmS => rn_move _ (Or.inl rfl) _ (he20.tmp 20 _ rfl)
      clear he20
      refine wh_takeN (i := 19) (op := ?op1d10_19) (fuel := 15) (hi := ?hi1d10_19) (hs := ?hs1d10_19) (hf := ?hf1d10_19) (hr := ?hr1d10_19) (hQ2 := ?hq1d10_19) (he := he21) (hm := hm4) (hS := ⟨rfl, trivial⟩) (hd := ?hd1d10_19) (hw := ?hw1d10_19)  (k := fun a22 he22 => ?k1d10_19)
      case hi1d10_19 => rw [List.getElem?_toArray]; rfl
      case hs1d10_19 | hf1d10_19 | hr1d10_19 => kernel_rfl
      case hq1d10_19 => exact fun _ _ _ _ h => h
      case hd1d10_19 => rfl
      case hw1d10_19 => exact (wanted_slot he21 18 true rfl 21 rfl false rfl false rfl)
      clear he21
      refine wh_takeN (i := 20) (op := ?op1d10_20) (fuel := 14) (hi := ?hi1d10_20) (hs := ?hs1d10_20) (hf := ?hf1d10_20) (hr := ?hr1d10_20) (hQ2 := ?hq1d10_20) (he := he22) (hm := hm4) (hS := ⟨rfl, trivial⟩) (hd := ?hd1d10_20) (hw := ?hw1d10_20)  (k := fun a23 he23 => ?k1d10_20)
      case hi1d10_20 => rw [List.getElem?_toArray]; rfl
      case hs1d10_20 | hf1d10_20 | hr1d10_20 => kernel_rfl
      case hq1d10_20 => exact fun _ _ _ _ h => h
      case hd1d10_20 => rfl
      case hw1d10_20 => exact (wanted_slot he22 18 true rfl 21 rfl false rfl false rfl)
      clear he22
      refine wh_pass (i := 21) (op := ?op1d10_21) (fuel := 13) ?hr1d10_21 ?hi1d10_21 he23 hm4 ⟨rfl, trivial⟩ ?hd1d10_21 ?hw1d10_21 (fun a24 he24 => ?k1d10_21)
      case hi1d10_21 => rw [List.getElem?_toArray]; rfl
      case hw1d10_21 => exact (wanted_slot he23 18 true rfl 21 rfl false rfl false rfl)
      case hr1d10_21 => kernel_rfl
      case hd1d10_21 => rfl
      clear he23
      refine wh_pass (i := 22) (op := ?op1d10_22) (fuel := 12) ?hr1d10_22 ?hi1d10_22 he24 hm4 ⟨rfl, trivial⟩ ?hd1d10_22 ?hw1d10_22 (fun a25 he25 => ?k1d10_22)
      case hi1d10_22 => rw [List.getElem?_toArray]; rfl
      case hw1d10_22 => exact (wanted_slot he24 18 true rfl 21 rfl false rfl false rfl)
      case hr1d10_22 => kernel_rfl
      case hd1d10_22 => rfl
      clear he24
      refine wh_take (i := 23) (op := ?op1d10_23) (fuel := 11) (hi := ?hi1d10_23) (hs := ?hs1d10_23) (hf := ?hf1d10_23) (hr := ?hr1d10_23) (hQ2 := ?hq1d10_23) (he := he25) (hm := hm4) (hS := ⟨rfl, trivial⟩) (hd := ?hd1d10_23) (hw := ?hw1d10_23) (v := .bool false) (hy := ?hy1d10_23) (hQ := ?hp1d10_23) (k := fun a26 he26 => ?k1d10_23)
      case hi1d10_23 => rw [List.getElem?_toArray]; rfl
      case hs1d10_23 | hf1d10_23 | hr1d10_23 => kernel_rfl
      case hq1d10_23 => exact fun _ _ _ _ h => h
      case hd1d10_23 => rfl
      case hw1d10_23 => exact rfl
      case hp1d10_23 => exact fun _ _ _ h => h
      case hy1d10_23 => exact fun wS hmS => rn_pickF _ _ _ rfl (he25.tmp 21 _ rfl) _ rfl
      clear he25
      refine wh_take (i := 24) (op := ?op1d10_24) (fuel := 10) (hi := ?hi1d10_24) (hs := ?hs1d10_24) (hf := ?hf1d10_24) (hr := ?hr1d10_24) (hQ2 := ?hq1d10_24) (he := he26) (hm := hm4) (hS := ⟨rfl, trivial⟩) (hd := ?hd1d10_24) (hw := ?hw1d10_24) (v := .bool false) (hy := ?hy1d10_24) (hQ := ?hp1d10_24) (k := fun a27 he27 => ?k1d10_24)
      case hi1d10_24 => rw [List.getElem?_toArray]; rfl
      case hs1d10_24 | hf1d10_24 | hr1d10_24 => kernel_rfl
      case hq1d10_24 => exact fun _ _ _ _ h => h
      case hd1d10_24 => rfl
      case hw1d10_24 => exact rfl
      case hp1d10_24 => exact fun _ _ _ h => h
      case hy1d10_24 => exact fun wS hmS => rn_move _ (Or.inl rfl) _ (he26.tmp 26 _ rfl)
      clear he26
      refine wh_takeN (i := 25) (op := ?op1d10_25) (fuel := 9) (hi := ?hi1d10_25) (hs := ?hs1d10_25) (hf := ?hf1d10_25) (hr := ?hr1d10_25) (hQ2 := ?hq1d10_25) (he := he27) (hm := hm4) (hS := ⟨rfl, trivial⟩) (hd := ?hd1d10_25) (hw := ?hw1d10_25)  (k := fun a28 he28 => ?k1d10_25)
      case hi1d10_25 => rw [List.getElem?_toArray]; rfl
      case hs1d10_25 | hf1d10_25 | hr1d10_25 => kernel_rfl
      case hq1d10_25 => exact fun _ _ _ _ h => h
      case hd1d10_25 => rfl
      case hw1d10_25 => exact (wanted_slot he27 24 true rfl 27 rfl false rfl false rfl)
      clear he27
      refine wh_takeN (i := 26) (op := ?op1d10_26) (fuel := 8) (hi := ?hi1d10_26) (hs := ?hs1d10_26) (hf := ?hf1d10_26) (hr := ?hr1d10_26) (hQ2 := ?hq1d10_26) (he := he28) (hm := hm4) (hS := ⟨rfl, trivial⟩) (hd := ?hd1d10_26) (hw := ?hw1d10_26)  (k := fun a29 he29 => ?k1d10_26)
      case hi1d10_26 => rw [List.getElem?_toArray]; rfl
      case hs1d10_26 | hf1d10_26 | hr1d10_26 => kernel_rfl
      case hq1d10_26 => exact fun _ _ _ _ h => h
      case hd1d10_26 => rfl
      case hw1d10_26 => exact (wanted_slot he28 24 true rfl 27 rfl false rfl false rfl)
      clear he28
      refine wh_takeN (i := 27) (op := ?op1d10_27) (fuel := 7) (hi := ?hi1d10_27) (hs := ?hs1d10_27) (hf := ?hf1d10_27) (hr := ?hr1d10_27) (hQ2 := ?hq1d10_27) (he := he29) (hm := hm4) (hS := ⟨rfl, trivial⟩) (hd := ?hd1d10_27) (hw := ?hw1d10_27)  (k := fun a30 he30 => ?k1d10_27)
      case hi1d10_27 => rw [List.getElem?_toArray]; rfl
      case hs1d10_27 | hf1d10_27 | hr1d10_27 => kernel_rfl
      case hq1d10_27 => exact fun _ _ _ _ h => h
      case hd1d10_27 => rfl
      case hw1d10_27 => exact (wanted_slot he29 24 true rfl 27 rfl false rfl false rfl)
      clear he29
      refine wh_takeN (i := 28) (op := ?op1d10_28) (fuel := 6) (hi := ?hi1d10_28) (hs := ?hs1d10_28) (hf := ?hf1d10_28) (hr := ?hr1d10_28) (hQ2 := ?hq1d10_28) (he := he30) (hm := hm4) (hS := ⟨rfl, trivial⟩) (hd := ?hd1d10_28) (hw := ?hw1d10_28)  (k := fun a31 he31 => ?k1d10_28)
      case hi1d10_28 => rw [List.getElem?_toArray]; rfl
      case hs1d10_28 | hf1d10_28 | hr1d10_28 => kernel_rfl
      case hq1d10_28 => exact fun _ _ _ _ h => h
      case hd1d10_28 => rfl
      case hw1d10_28 => exact (wanted_slot he30 24 true rfl 27 rfl false rfl false rfl)
      clear he30
      refine wh_takeN (i := 29) (op := ?op1d10_29) (fuel := 5) (hi := ?hi1d10_29) (hs := ?hs1d10_29) (hf := ?hf1d10_29) (hr := ?hr1d10_29) (hQ2 := ?hq1d10_29) (he := he31) (hm := hm4) (hS := ⟨rfl, trivial⟩) (hd := ?hd1d10_29) (hw := ?hw1d10_29)  (k := fun a32 he32 => ?k1d10_29)
      case hi1d10_29 => rw [List.getElem?_toArray]; rfl
      case hs1d10_29 | hf1d10_29 | hr1d10_29 => kernel_rfl
      case hq1d10_29 => exact fun _ _ _ _ h => h
      case hd1d10_29 => rfl
      case hw1d10_29 => exact (wanted_undef he31 28 false rfl 31 rfl rfl)
      clear he31
      refine wh_takeN (i := 30) (op := ?op1d10_30) (fuel := 4) (hi := ?hi1d10_30) (hs := ?hs1d10_30) (hf := ?hf1d10_30) (hr := ?hr1d10_30) (hQ2 := ?hq1d10_30) (he := he32) (hm := hm4) (hS := ⟨rfl, trivial⟩) (hd := ?hd1d10_30) (hw := ?hw1d10_30)  (k := fun a33 he33 => ?k1d10_30)
      case hi1d10_30 => rw [List.getElem?_toArray]; rfl
      case hs1d10_30 | hf1d10_30 | hr1d10_30 => kernel_rfl
      case hq1d10_30 => exact fun _ _ _ _ h => h
      case hd1d10_30 => rfl
      case hw1d10_30 => exact (wanted_undef he32 28 false rfl 31 rfl rfl)
      clear he32
      refine wh_takeN (i := 31) (op := ?op1d10_31) (fuel := 3) (hi := ?hi1d10_31) (hs := ?hs1d10_31) (hf := ?hf1d10_31) (hr := ?hr1d10_31) (hQ2 := ?hq1d10_31) (he := he33) (hm := hm4) (hS := ⟨rfl, trivial⟩) (hd := ?hd1d10_31) (hw := ?hw1d10_31)  (k := fun a34 he34 => ?k1d10_31)
      case hi1d10_31 => rw [List.getElem?_toArray]; rfl
      case hs1d10_31 | hf1d10_31 | hr1d10_31 => kernel_rfl
      case hq1d10_31 => exact fun _ _ _ _ h => h
      case hd1d10_31 => rfl
      case hw1d10_31 => exact (wanted_undef he33 28 false rfl 31 rfl rfl)
      clear he33
      refine wh_takeN (i := 32) (op := ?op1d10_32) (fuel := 2) (hi := ?hi1d10_32) (hs := ?hs1d10_32) (hf := ?hf1d10_32) (hr := ?hr1d10_32) (hQ2 := ?hq1d10_32) (he := he34) (hm := hm4) (hS := ⟨rfl, trivial⟩) (hd := ?hd1d10_32) (hw := ?hw1d10_32)  (k := fun a35 he35 => ?k1d10_32)
      case hi1d10_32 => rw [List.getElem?_toArray]; rfl
      case hs1d10_32 | hf1d10_32 | hr1d10_32 => kernel_rfl
      case hq1d10_32 => exact fun _ _ _ _ h => h
      case hd1d10_32 => rfl
      case hw1d10_32 => exact (wanted_slot he34 24 true rfl 27 rfl false rfl false rfl)
      clear he34
      refine wh_take (i := 33) (op := ?op1d10_33) (fuel := 1) (hi := ?hi1d10_33) (hs := ?hs1d10_33) (hf := ?hf1d10_33) (hr := ?hr1d10_33) (hQ2 := ?hq1d10_33) (he := he35) (hm := hm4) (hS := ⟨rfl, trivial⟩) (hd := ?hd1d10_33) (hw := ?hw1d10_33) (v := .bool false) (hy := ?hy1d10_33) (hQ := ?hp1d10_33) (k := fun a36 he36 => ?k1d10_33)
      case hi1d10_33 => rw [List.getElem?_toArray]; rfl
      case hs1d10_33 | hf1d10_33 | hr1d10_33 => kernel_rfl
      case hq1d10_33 => exact fun _ _ _ _ h => h
      case hd1d10_33 => rfl
      case hw1d10_33 => exact rfl
      case hp1d10_33 => exact fun _ _ _ h => h
      case hy1d10_33 => exact fun wS hmS => rn_pickF _ _ _ rfl (he35.tmp 27 _ rfl) _ rfl
      clear he35
      refine wh_take (i := 34) (op := ?op1d10_34) (fuel := 0) (hi := ?hi1d10_34) (hs := ?hs1d10_34) (hf := ?hf1d10_34) (hr := ?hr1d10_34) (hQ2 := ?hq1d10_34) (he := he36) (hm := hm4) (hS := ⟨rfl, trivial⟩) (hd := ?hd1d10_34) (hw := ?hw1d10_34) (v := .bool false) (hy := ?hy1d10_34) (hQ := ?hp1d10_34) (k := fun a37 he37 => ?k1d10_34)
      case hi1d10_34 => rw [List.getElem?_toArray]; rfl
      case hs1d10_34 | hf1d10_34 | hr1d10_34 => kernel_rfl
      case hq1d10_34 => exact fun _ _ _ _ h => h
      case hd1d10_34 => rfl
      case hw1d10_34 => exact rfl
      case hp1d10_34 => exact fun _ _ _ h => h
      case hy1d10_34 => exact fun wS hmS => rn_move _ (Or.inr rfl) _ (he36.tmp 36 _ rfl)
      clear he36
      refine wpAnyH_done (by kernel_rfl) ?_ _
      refine then_normal ?_
      refine wp_ret ?_
      exact bodyPost_ret (results_tmp he37 _ Try.results38 _ rfl) he37.defers ⟨(by simp [ruOk, hd1, hd2]), hm4.below⟩
    · refine wh_call (i := 6) (op := ?op1d11_6) (fuel := 28) ?hr1d11_6 ?hi1d11_6 he8 hm3 ⟨rfl, trivial⟩ ?hd1d11_6 ?hw1d11_6 _ #[.int .i64 ((r).op), .int .i64 (12), .int .i64 (15)] ?en1d11_6 (.bool true) (callsV (congrArg Value.bool (hd2)) (c_in _ _ _ _)) (fun a9 w4 he9 hm4 => ?k1d11_6)
      case hi1d11_6 => rw [List.getElem?_toArray]; rfl
      case hw1d11_6 => exact (wanted_slot he8 3 true rfl 6 rfl true rfl true rfl)
      case hr1d11_6 => kernel_rfl
      case hd1d11_6 => rfl
      case en1d11_6 => exact (enter_call _ _ _ rfl 55 #[] #[] rfl #[.int .i64 ((r).op), .int .i64 (12), .int .i64 (15)] (map3 (he8.tmp 8 _ rfl) rfl rfl) #[.int .i64 ((r).op), .int .i64 (12), .int .i64 (15)] rfl (fun _ _ => by kernel_rfl))
      clear he8 hm3
      refine wh_take (i := 7) (op := ?op1d11_7) (fuel := 27) (hi := ?hi1d11_7) (hs := ?hs1d11_7) (hf := ?hf1d11_7) (hr := ?hr1d11_7) (hQ2 := ?hq1d11_7) (he := he9) (hm := hm4) (hS := ⟨rfl, trivial⟩) (hd := ?hd1d11_7) (hw := ?hw1d11_7) (v := .bool true) (hy := ?hy1d11_7) (hQ := ?hp1d11_7) (k := fun a10 he10 => ?k1d11_7)
      case hi1d11_7 => rw [List.getElem?_toArray]; rfl
      case hs1d11_7 | hf1d11_7 | hr1d11_7 => kernel_rfl
      case hq1d11_7 => exact fun _ _ _ _ h => h
      case hd1d11_7 => rfl
      case hw1d11_7 => exact rfl
      case hp1d11_7 => exact fun _ _ _ h => h
      case hy1d11_7 => exact fun wS hmS => rn_pickT _ _ _ rfl (he9.tmp 6 _ rfl) _ (he9.tmp 9 _ rfl)
      clear he9
      refine wh_take (i := 8) (op := ?op1d11_8) (fuel := 26) (hi := ?hi1d11_8) (hs := ?hs1d11_8) (hf := ?hf1d11_8) (hr := ?hr1d11_8) (hQ2 := ?hq1d11_8) (he := he10) (hm := hm4) (hS := ⟨rfl, trivial⟩) (hd := ?hd1d11_8) (hw := ?hw1d11_8) (v := .bool true) (hy := ?hy1d11_8) (hQ := ?hp1d11_8) (k := fun a11 he11 => ?k1d11_8)
      case hi1d11_8 => rw [List.getElem?_toArray]; rfl
      case hs1d11_8 | hf1d11_8 | hr1d11_8 => kernel_rfl
      case hq1d11_8 => exact fun _ _ _ _ h => h
      case hd1d11_8 => rfl
      case hw1d11_8 => exact rfl
      case hp1d11_8 => exact fun _ _ _ h => h
      case hy1d11_8 => exact fun wS hmS => rn_move _ (Or.inl rfl) _ (he10.tmp 10 _ rfl)
      clear he10
      refine wh_take (i := 9) (op := ?op1d11_9) (fuel := 25) (hi := ?hi1d11_9) (hs := ?hs1d11_9) (hf := ?hf1d11_9) (hr := ?hr1d11_9) (hQ2 := ?hq1d11_9) (he := he11) (hm := hm4) (hS := ⟨rfl, trivial⟩) (hd := ?hd1d11_9) (hw := ?hw1d11_9) (v := .pointer (some ⟨b1, 2, none⟩)) (hy := ?hy1d11_9) (hQ := ?hp1d11_9) (k := fun a12 he12 => ?k1d11_9)
      case hi1d11_9 => rw [List.getElem?_toArray]; rfl
      case hs1d11_9 | hf1d11_9 | hr1d11_9 => kernel_rfl
      case hq1d11_9 => exact fun _ _ _ _ h => h
      case hd1d11_9 => rfl
      case hw1d11_9 => exact (wanted_slot he11 8 true rfl 11 rfl true rfl true rfl)
      case hp1d11_9 => exact fun _ _ _ h => h
      case hy1d11_9 => exact fun wS hmS => rn_field _ _ _ rfl _ (.pointer (some ⟨b1, 2, none⟩)) (he11.tmp 1 _ rfl) (by kernel_rfl)
      clear he11
      refine wh_take (i := 10) (op := ?op1d11_10) (fuel := 24) (hi := ?hi1d11_10) (hs := ?hs1d11_10) (hf := ?hf1d11_10) (hr := ?hr1d11_10) (hQ2 := ?hq1d11_10) (he := he12) (hm := hm4) (hS := ⟨rfl, trivial⟩) (hd := ?hd1d11_10) (hw := ?hw1d11_10) (v := .int .i64 ((r).num)) (hy := ?hy1d11_10) (hQ := ?hp1d11_10) (k := fun a13 he13 => ?k1d11_10)
      case hi1d11_10 => rw [List.getElem?_toArray]; rfl
      case hs1d11_10 | hf1d11_10 | hr1d11_10 => kernel_rfl
      case hq1d11_10 => exact fun _ _ _ _ h => h
      case hd1d11_10 => rfl
      case hw1d11_10 => exact (wanted_slot he12 8 true rfl 11 rfl true rfl true rfl)
      case hp1d11_10 => exact fun _ _ _ h => h
      case hy1d11_10 => exact fun wS hmS => rn_load1 hmS 1 rfl _ _ rfl (2) (he12.tmp 12 _ rfl) one3 _ rfl
      clear he12
      cases hd3 : (inR ((r).num) 0 255)
      · refine wh_call (i := 11) (op := ?op1d110_11) (fuel := 23) ?hr1d110_11 ?hi1d110_11 he13 hm4 ⟨rfl, trivial⟩ ?hd1d110_11 ?hw1d110_11 _ #[.int .i64 ((r).num), .int .i64 (0), .int .i64 (255)] ?en1d110_11 (.bool false) (callsV (congrArg Value.bool (hd3)) (c_in _ _ _ _)) (fun a14 w5 he14 hm5 => ?k1d110_11)
        case hi1d110_11 => rw [List.getElem?_toArray]; rfl
        case hw1d110_11 => exact (wanted_slot he13 8 true rfl 11 rfl true rfl true rfl)
        case hr1d110_11 => kernel_rfl
        case hd1d110_11 => rfl
        case en1d110_11 => exact (enter_call _ _ _ rfl 55 #[] #[] rfl #[.int .i64 ((r).num), .int .i64 (0), .int .i64 (255)] (map3 (he13.tmp 13 _ rfl) rfl rfl) #[.int .i64 ((r).num), .int .i64 (0), .int .i64 (255)] rfl (fun _ _ => by kernel_rfl))
        clear he13 hm4
        refine wh_take (i := 12) (op := ?op1d110_12) (fuel := 22) (hi := ?hi1d110_12) (hs := ?hs1d110_12) (hf := ?hf1d110_12) (hr := ?hr1d110_12) (hQ2 := ?hq1d110_12) (he := he14) (hm := hm5) (hS := ⟨rfl, trivial⟩) (hd := ?hd1d110_12) (hw := ?hw1d110_12) (v := .bool false) (hy := ?hy1d110_12) (hQ := ?hp1d110_12) (k := fun a15 he15 => ?k1d110_12)
        case hi1d110_12 => rw [List.getElem?_toArray]; rfl
        case hs1d110_12 | hf1d110_12 | hr1d110_12 => kernel_rfl
        case hq1d110_12 => exact fun _ _ _ _ h => h
        case hd1d110_12 => rfl
        case hw1d110_12 => exact rfl
        case hp1d110_12 => exact fun _ _ _ h => h
        case hy1d110_12 => exact fun wS hmS => rn_pickT _ _ _ rfl (he14.tmp 11 _ rfl) _ (he14.tmp 14 _ rfl)
        clear he14
        refine wh_take (i := 13) (op := ?op1d110_13) (fuel := 21) (hi := ?hi1d110_13) (hs := ?hs1d110_13) (hf := ?hf1d110_13) (hr := ?hr1d110_13) (hQ2 := ?hq1d110_13) (he := he15) (hm := hm5) (hS := ⟨rfl, trivial⟩) (hd := ?hd1d110_13) (hw := ?hw1d110_13) (v := .bool false) (hy := ?hy1d110_13) (hQ := ?hp1d110_13) (k := fun a16 he16 => ?k1d110_13)
        case hi1d110_13 => rw [List.getElem?_toArray]; rfl
        case hs1d110_13 | hf1d110_13 | hr1d110_13 => kernel_rfl
        case hq1d110_13 => exact fun _ _ _ _ h => h
        case hd1d110_13 => rfl
        case hw1d110_13 => exact rfl
        case hp1d110_13 => exact fun _ _ _ h => h
        case hy1d110_13 => exact fun wS hmS => rn_move _ (Or.inl rfl) _ (he15.tmp 15 _ rfl)
        clear he15
        refine wh_takeN (i := 14) (op := ?op1d110_14) (fuel := 20) (hi := ?hi1d110_14) (hs := ?hs1d110_14) (hf := ?hf1d110_14) (hr := ?hr1d110_14) (hQ2 := ?hq1d110_14) (he := he16) (hm := hm5) (hS := ⟨rfl, trivial⟩) (hd := ?hd1d110_14) (hw := ?hw1d110_14)  (k := fun a17 he17 => ?k1d110_14)
        case hi1d110_14 => rw [List.getElem?_toArray]; rfl
        case hs1d110_14 | hf1d110_14 | hr1d110_14 => kernel_rfl
        case hq1d110_14 => exact fun _ _ _ _ h => h
        case hd1d110_14 => rfl
        case hw1d110_14 => exact (wanted_slot he16 13 true rfl 16 rfl false rfl false rfl)
        clear he16
        refine wh_takeN (i := 15) (op := ?op1d110_15) (fuel := 19) (hi := ?hi1d110_15) (hs := ?hs1d110_15) (hf := ?hf1d110_15) (hr := ?hr1d110_15) (hQ2 := ?hq1d110_15) (he := he17) (hm := hm5) (hS := ⟨rfl, trivial⟩) (hd := ?hd1d110_15) (hw := ?hw1d110_15)  (k := fun a18 he18 => ?k1d110_15)
        case hi1d110_15 => rw [List.getElem?_toArray]; rfl
        case hs1d110_15 | hf1d110_15 | hr1d110_15 => kernel_rfl
        case hq1d110_15 => exact fun _ _ _ _ h => h
        case hd1d110_15 => rfl
        case hw1d110_15 => exact (wanted_slot he17 13 true rfl 16 rfl false rfl false rfl)
        clear he17
        refine wh_pass (i := 16) (op := ?op1d110_16) (fuel := 18) ?hr1d110_16 ?hi1d110_16 he18 hm5 ⟨rfl, trivial⟩ ?hd1d110_16 ?hw1d110_16 (fun a19 he19 => ?k1d110_16)
        case hi1d110_16 => rw [List.getElem?_toArray]; rfl
        case hw1d110_16 => exact (wanted_slot he18 13 true rfl 16 rfl false rfl false rfl)
        case hr1d110_16 => kernel_rfl
        case hd1d110_16 => rfl
        clear he18
        refine wh_take (i := 17) (op := ?op1d110_17) (fuel := 17) (hi := ?hi1d110_17) (hs := ?hs1d110_17) (hf := ?hf1d110_17) (hr := ?hr1d110_17) (hQ2 := ?hq1d110_17) (he := he19) (hm := hm5) (hS := ⟨rfl, trivial⟩) (hd := ?hd1d110_17) (hw := ?hw1d110_17) (v := .bool false) (hy := ?hy1d110_17) (hQ := ?hp1d110_17) (k := fun a20 he20 => ?k1d110_17)
        case hi1d110_17 => rw [List.getElem?_toArray]; rfl
        case hs1d110_17 | hf1d110_17 | hr1d110_17 => kernel_rfl
        case hq1d110_17 => exact fun _ _ _ _ h => h
        case hd1d110_17 => rfl
        case hw1d110_17 => exact rfl
        case hp1d110_17 => exact fun _ _ _ h => h
        case hy1d110_17 => exact fun wS hmS => rn_pickF _ _ _ rfl (he19.tmp 16 _ rfl) _ rfl
        clear he19
        refine wh_take (i := 18) (op := ?op1d110_18) (fuel := 16) (hi := ?hi1d110_18) (hs := ?hs1d110_18) (hf := ?hf1d110_18) (hr := ?hr1d110_18) (hQ2 := ?hq1d110_18) (he := he20) (hm := hm5) (hS := ⟨rfl, trivial⟩) (hd := ?hd1d110_18) (hw := ?hw1d110_18) (v := .bool false) (hy := ?hy1d110_18) (hQ := ?hp1d110_18) (k := fun a21 he21 => ?k1d110_18)
        case hi1d110_18 => rw [List.getElem?_toArray]; rfl
        case hs1d110_18 | hf1d110_18 | hr1d110_18 => kernel_rfl
        case hq1d110_18 => exact fun _ _ _ _ h => h
        case hd1d110_18 => rfl
        case hw1d110_18 => exact rfl
        case hp1d110_18 => exact fun _ _ _ h => h
        case hy1d110_18 => exact fun wS hmS => rn_move _ (Or.inl rfl) _ (he20.tmp 20 _ rfl)
        clear he20
        refine wh_takeN (i := 19) (op := ?op1d110_19) (fuel := 15) (hi := ?hi1d110_19) (hs := ?hs1d110_19) (hf := ?hf1d110_19) (hr := ?hr1d110_19) (hQ2 := ?hq1d110_19) (he := he21) (hm := hm5) (hS := ⟨rfl, trivial⟩) (hd := ?hd1d110_19) (hw := ?hw1d110_19)  (k := fun a22 he22 => ?k1d110_19)
        case hi1d110_19 => rw [List.getElem?_toArray]; rfl
        case hs1d110_19 | hf1d110_19 | hr1d110_19 => kernel_rfl
        case hq1d110_19 => exact fun _ _ _ _ h => h
        case hd1d110_19 => rfl
        case hw1d110_19 => exact (wanted_slot he21 18 true rfl 21 rfl false rfl false rfl)
        clear he21
        refine wh_takeN (i := 20) (op := ?op1d110_20) (fuel := 14) (hi := ?hi1d110_20) (hs := ?hs1d110_20) (hf := ?hf1d110_20) (hr := ?hr1d110_20) (hQ2 := ?hq1d110_20) (he := he22) (hm := hm5) (hS := ⟨rfl, trivial⟩) (hd := ?hd1d110_20) (hw := ?hw1d110_20)  (k := fun a23 he23 => ?k1d110_20)
        case hi1d110_20 => rw [List.getElem?_toArray]; rfl
        case hs1d110_20 | hf1d110_20 | hr1d110_20 => kernel_rfl
        case hq1d110_20 => exact fun _ _ _ _ h => h
        case hd1d110_20 => rfl
        case hw1d110_20 => exact (wanted_slot he22 18 true rfl 21 rfl false rfl false rfl)
        clear he22
        refine wh_pass (i := 21) (op := ?op1d110_21) (fuel := 13) ?hr1d110_21 ?hi1d110_21 he23 hm5 ⟨rfl, trivial⟩ ?hd1d110_21 ?hw1d110_21 (fun a24 he24 => ?k1d110_21)
        case hi1d110_21 => rw [List.getElem?_toArray]; rfl
        case hw1d110_21 => exact (wanted_slot he23 18 true rfl 21 rfl false rfl false rfl)
        case hr1d110_21 => kernel_rfl
        case hd1d110_21 => rfl
        clear he23
        refine wh_pass (i := 22) (op := ?op1d110_22) (fuel := 12) ?hr1d110_22 ?hi1d110_22 he24 hm5 ⟨rfl, trivial⟩ ?hd1d110_22 ?hw1d110_22 (fun a25 he25 => ?k1d110_22)
        case hi1d110_22 => rw [List.getElem?_toArray]; rfl
        case hw1d110_22 => exact (wanted_slot he24 18 true rfl 21 rfl false rfl false rfl)
        case hr1d110_22 => kernel_rfl
        case hd1d110_22 => rfl
        clear he24
        refine wh_take (i := 23) (op := ?op1d110_23) (fuel := 11) (hi := ?hi1d110_23) (hs := ?hs1d110_23) (hf := ?hf1d110_23) (hr := ?hr1d110_23) (hQ2 := ?hq1d110_23) (he := he25) (hm := hm5) (hS := ⟨rfl, trivial⟩) (hd := ?hd1d110_23) (hw := ?hw1d110_23) (v := .bool false) (hy := ?hy1d110_23) (hQ := ?hp1d110_23) (k := fun a26 he26 => ?k1d110_23)
        case hi1d110_23 => rw [List.getElem?_toArray]; rfl
        case hs1d110_23 | hf1d110_23 | hr1d110_23 => kernel_rfl
        case hq1d110_23 => exact fun _ _ _ _ h => h
        case hd1d110_23 => rfl
        case hw1d110_23 => exact rfl
        case hp1d110_23 => exact fun _ _ _ h => h
        case hy1d110_23 => exact fun wS hmS => rn_pickF _ _ _ rfl (he25.tmp 21 _ rfl) _ rfl
        clear he25
        refine wh_take (i := 24) (op := ?op1d110_24) (fuel := 10) (hi := ?hi1d110_24) (hs := ?hs1d110_24) (hf := ?hf1d110_24) (hr := ?hr1d110_24) (hQ2 := ?hq1d110_24) (he := he26) (hm := hm5) (hS := ⟨rfl, trivial⟩) (hd := ?hd1d110_24) (hw := ?hw1d110_24) (v := .bool false) (hy := ?hy1d110_24) (hQ := ?hp1d110_24) (k := fun a27 he27 => ?k1d110_24)
        case hi1d110_24 => rw [List.getElem?_toArray]; rfl
        case hs1d110_24 | hf1d110_24 | hr1d110_24 => kernel_rfl
        case hq1d110_24 => exact fun _ _ _ _ h => h
        case hd1d110_24 => rfl
        case hw1d110_24 => exact rfl
        case hp1d110_24 => exact fun _ _ _ h => h
        case hy1d110_24 => exact fun wS hmS => rn_move _ (Or.inl rfl) _ (he26.tmp 26 _ rfl)
        clear he26
        refine wh_takeN (i := 25) (op := ?op1d110_25) (fuel := 9) (hi := ?hi1d110_25) (hs := ?hs1d110_25) (hf := ?hf1d110_25) (hr := ?hr1d110_25) (hQ2 := ?hq1d110_25) (he := he27) (hm := hm5) (hS := ⟨rfl, trivial⟩) (hd := ?hd1d110_25) (hw := ?hw1d110_25)  (k := fun a28 he28 => ?k1d110_25)
        case hi1d110_25 => rw [List.getElem?_toArray]; rfl
        case hs1d110_25 | hf1d110_25 | hr1d110_25 => kernel_rfl
        case hq1d110_25 => exact fun _ _ _ _ h => h
        case hd1d110_25 => rfl
        case hw1d110_25 => exact (wanted_slot he27 24 true rfl 27 rfl false rfl false rfl)
        clear he27
        refine wh_takeN (i := 26) (op := ?op1d110_26) (fuel := 8) (hi := ?hi1d110_26) (hs := ?hs1d110_26) (hf := ?hf1d110_26) (hr := ?hr1d110_26) (hQ2 := ?hq1d110_26) (he := he28) (hm := hm5) (hS := ⟨rfl, trivial⟩) (hd := ?hd1d110_26) (hw := ?hw1d110_26)  (k := fun a29 he29 => ?k1d110_26)
        case hi1d110_26 => rw [List.getElem?_toArray]; rfl
        case hs1d110_26 | hf1d110_26 | hr1d110_26 => kernel_rfl
        case hq1d110_26 => exact fun _ _ _ _ h => h
        case hd1d110_26 => rfl
        case hw1d110_26 => exact (wanted_slot he28 24 true rfl 27 rfl false rfl false rfl)
        clear he28
        refine wh_takeN (i := 27) (op := ?op1d110_27) (fuel := 7) (hi := ?hi1d110_27) (hs := ?hs1d110_27) (hf := ?hf1d110_27) (hr := ?hr1d110_27) (hQ2 := ?hq1d110_27) (he := he29) (hm := hm5) (hS := ⟨rfl, trivial⟩) (hd := ?hd1d110_27) (hw := ?hw1d110_27)  (k := fun a30 he30 => ?k1d110_27)
        case hi1d110_27 => rw [List.getElem?_toArray]; rfl
        case hs1d110_27 | hf1d110_27 | hr1d110_27 => kernel_rfl
        case hq1d110_27 => exact fun _ _ _ _ h => h
        case hd1d110_27 => rfl
        case hw1d110_27 => exact (wanted_slot he29 24 true rfl 27 rfl false rfl false rfl)
        clear he29
        refine wh_takeN (i := 28) (op := ?op1d110_28) (fuel := 6) (hi := ?hi1d110_28) (hs := ?hs1d110_28) (hf := ?hf1d110_28) (hr := ?hr1d110_28) (hQ2 := ?hq1d110_28) (he := he30) (hm := hm5) (hS := ⟨rfl, trivial⟩) (hd := ?hd1d110_28) (hw := ?hw1d110_28)  (k := fun a31 he31 => ?k1d110_28)
        case hi1d110_28 => rw [List.getElem?_toArray]; rfl
        case hs1d110_28 | hf1d110_28 | hr1d110_28 => kernel_rfl
        case hq1d110_28 => exact fun _ _ _ _ h => h
        case hd1d110_28 => rfl
        case hw1d110_28 => exact (wanted_slot he30 24 true rfl 27 rfl false rfl false rfl)
        clear he30
        refine wh_takeN (i := 29) (op := ?op1d110_29) (fuel := 5) (hi := ?hi1d110_29) (hs := ?hs1d110_29) (hf := ?hf1d110_29) (hr := ?hr1d110_29) (hQ2 := ?hq1d110_29) (he := he31) (hm := hm5) (hS := ⟨rfl, trivial⟩) (hd := ?hd1d110_29) (hw := ?hw1d110_29)  (k := fun a32 he32 => ?k1d110_29)
        case hi1d110_29 => rw [List.getElem?_toArray]; rfl
        case hs1d110_29 | hf1d110_29 | hr1d110_29 => kernel_rfl
        case hq1d110_29 => exact fun _ _ _ _ h => h
        case hd1d110_29 => rfl
        case hw1d110_29 => exact (wanted_undef he31 28 false rfl 31 rfl rfl)
        clear he31
        refine wh_takeN (i := 30) (op := ?op1d110_30) (fuel := 4) (hi := ?hi1d110_30) (hs := ?hs1d110_30) (hf := ?hf1d110_30) (hr := ?hr1d110_30) (hQ2 := ?hq1d110_30) (he := he32) (hm := hm5) (hS := ⟨rfl, trivial⟩) (hd := ?hd1d110_30) (hw := ?hw1d110_30)  (k := fun a33 he33 => ?k1d110_30)
        case hi1d110_30 => rw [List.getElem?_toArray]; rfl
        case hs1d110_30 | hf1d110_30 | hr1d110_30 => kernel_rfl
        case hq1d110_30 => exact fun _ _ _ _ h => h
        case hd1d110_30 => rfl
        case hw1d110_30 => exact (wanted_undef he32 28 false rfl 31 rfl rfl)
        clear he32
        refine wh_takeN (i := 31) (op := ?op1d110_31) (fuel := 3) (hi := ?hi1d110_31) (hs := ?hs1d110_31) (hf := ?hf1d110_31) (hr := ?hr1d110_31) (hQ2 := ?hq1d110_31) (he := he33) (hm := hm5) (hS := ⟨rfl, trivial⟩) (hd := ?hd1d110_31) (hw := ?hw1d110_31)  (k := fun a34 he34 => ?k1d110_31)
        case hi1d110_31 => rw [List.getElem?_toArray]; rfl
        case hs1d110_31 | hf1d110_31 | hr1d110_31 => kernel_rfl
        case hq1d110_31 => exact fun _ _ _ _ h => h
        case hd1d110_31 => rfl
        case hw1d110_31 => exact (wanted_undef he33 28 false rfl 31 rfl rfl)
        clear he33
        refine wh_takeN (i := 32) (op := ?op1d110_32) (fuel := 2) (hi := ?hi1d110_32) (hs := ?hs1d110_32) (hf := ?hf1d110_32) (hr := ?hr1d110_32) (hQ2 := ?hq1d110_32) (he := he34) (hm := hm5) (hS := ⟨rfl, trivial⟩) (hd := ?hd1d110_32) (hw := ?hw1d110_32)  (k := fun a35 he35 => ?k1d110_32)
        case hi1d110_32 => rw [List.getElem?_toArray]; rfl
        case hs1d110_32 | hf1d110_32 | hr1d110_32 => kernel_rfl
        case hq1d110_32 => exact fun _ _ _ _ h => h
        case hd1d110_32 => rfl
        case hw1d110_32 => exact (wanted_slot he34 24 true rfl 27 rfl false rfl false rfl)
        clear he34
        refine wh_take (i := 33) (op := ?op1d110_33) (fuel := 1) (hi := ?hi1d110_33) (hs := ?hs1d110_33) (hf := ?hf1d110_33) (hr := ?hr1d110_33) (hQ2 := ?hq1d110_33) (he := he35) (hm := hm5) (hS := ⟨rfl, trivial⟩) (hd := ?hd1d110_33) (hw := ?hw1d110_33) (v := .bool false) (hy := ?hy1d110_33) (hQ := ?hp1d110_33) (k := fun a36 he36 => ?k1d110_33)
        case hi1d110_33 => rw [List.getElem?_toArray]; rfl
        case hs1d110_33 | hf1d110_33 | hr1d110_33 => kernel_rfl
        case hq1d110_33 => exact fun _ _ _ _ h => h
        case hd1d110_33 => rfl
        case hw1d110_33 => exact rfl
        case hp1d110_33 => exact fun _ _ _ h => h
        case hy1d110_33 => exact fun wS hmS => rn_pickF _ _ _ rfl (he35.tmp 27 _ rfl) _ rfl
        clear he35
        refine wh_take (i := 34) (op := ?op1d110_34) (fuel := 0) (hi := ?hi1d110_34) (hs := ?hs1d110_34) (hf := ?hf1d110_34) (hr := ?hr1d110_34) (hQ2 := ?hq1d110_34) (he := he36) (hm := hm5) (hS := ⟨rfl, trivial⟩) (hd := ?hd1d110_34) (hw := ?hw1d110_34) (v := .bool false) (hy := ?hy1d110_34) (hQ := ?hp1d110_34) (k := fun a37 he37 => ?k1d110_34)
        case hi1d110_34 => rw [List.getElem?_toArray]; rfl
        case hs1d110_34 | hf1d110_34 | hr1d110_34 => kernel_rfl
        case hq1d110_34 => exact fun _ _ _ _ h => h
        case hd1d110_34 => rfl
        case hw1d110_34 => exact rfl
        case hp1d110_34 => exact fun _ _ _ h => h
        case hy1d110_34 => exact fun wS hmS => rn_move _ (Or.inr rfl) _ (he36.tmp 36 _ rfl)
        clear he36
        refine wpAnyH_done (by kernel_rfl) ?_ _
        refine then_normal ?_
        refine wp_ret ?_
        exact bodyPost_ret (results_tmp he37 _ Try.results38 _ rfl) he37.defers ⟨(by simp [ruOk, hd1, hd2, hd3]), hm5.below⟩
      · refine wh_call (i := 11) (op := ?op1d111_11) (fuel := 23) ?hr1d111_11 ?hi1d111_11 he13 hm4 ⟨rfl, trivial⟩ ?hd1d111_11 ?hw1d111_11 _ #[.int .i64 ((r).num), .int .i64 (0), .int .i64 (255)] ?en1d111_11 (.bool true) (callsV (congrArg Value.bool (hd3)) (c_in _ _ _ _)) (fun a14 w5 he14 hm5 => ?k1d111_11)
        case hi1d111_11 => rw [List.getElem?_toArray]; rfl
        case hw1d111_11 => exact (wanted_slot he13 8 true rfl 11 rfl true rfl true rfl)
        case hr1d111_11 => kernel_rfl
        case hd1d111_11 => rfl
        case en1d111_11 => exact (enter_call _ _ _ rfl 55 #[] #[] rfl #[.int .i64 ((r).num), .int .i64 (0), .int .i64 (255)] (map3 (he13.tmp 13 _ rfl) rfl rfl) #[.int .i64 ((r).num), .int .i64 (0), .int .i64 (255)] rfl (fun _ _ => by kernel_rfl))
        clear he13 hm4
        refine wh_take (i := 12) (op := ?op1d111_12) (fuel := 22) (hi := ?hi1d111_12) (hs := ?hs1d111_12) (hf := ?hf1d111_12) (hr := ?hr1d111_12) (hQ2 := ?hq1d111_12) (he := he14) (hm := hm5) (hS := ⟨rfl, trivial⟩) (hd := ?hd1d111_12) (hw := ?hw1d111_12) (v := .bool true) (hy := ?hy1d111_12) (hQ := ?hp1d111_12) (k := fun a15 he15 => ?k1d111_12)
        case hi1d111_12 => rw [List.getElem?_toArray]; rfl
        case hs1d111_12 | hf1d111_12 | hr1d111_12 => kernel_rfl
        case hq1d111_12 => exact fun _ _ _ _ h => h
        case hd1d111_12 => rfl
        case hw1d111_12 => exact rfl
        case hp1d111_12 => exact fun _ _ _ h => h
        case hy1d111_12 => exact fun wS hmS => rn_pickT _ _ _ rfl (he14.tmp 11 _ rfl) _ (he14.tmp 14 _ rfl)
        clear he14
        refine wh_take (i := 13) (op := ?op1d111_13) (fuel := 21) (hi := ?hi1d111_13) (hs := ?hs1d111_13) (hf := ?hf1d111_13) (hr := ?hr1d111_13) (hQ2 := ?hq1d111_13) (he := he15) (hm := hm5) (hS := ⟨rfl, trivial⟩) (hd := ?hd1d111_13) (hw := ?hw1d111_13) (v := .bool true) (hy := ?hy1d111_13) (hQ := ?hp1d111_13) (k := fun a16 he16 => ?k1d111_13)
        case hi1d111_13 => rw [List.getElem?_toArray]; rfl
        case hs1d111_13 | hf1d111_13 | hr1d111_13 => kernel_rfl
        case hq1d111_13 => exact fun _ _ _ _ h => h
        case hd1d111_13 => rfl
        case hw1d111_13 => exact rfl
        case hp1d111_13 => exact fun _ _ _ h => h
        case hy1d111_13 => exact fun wS hmS => rn_move _ (Or.inl rfl) _ (he15.tmp 15 _ rfl)
        clear he15
        refine wh_take (i := 14) (op := ?op1d111_14) (fuel := 20) (hi := ?hi1d111_14) (hs := ?hs1d111_14) (hf := ?hf1d111_14) (hr := ?hr1d111_14) (hQ2 := ?hq1d111_14) (he := he16) (hm := hm5) (hS := ⟨rfl, trivial⟩) (hd := ?hd1d111_14) (hw := ?hw1d111_14) (v := .pointer (some ⟨b1, 3, none⟩)) (hy := ?hy1d111_14) (hQ := ?hp1d111_14) (k := fun a17 he17 => ?k1d111_14)
        case hi1d111_14 => rw [List.getElem?_toArray]; rfl
        case hs1d111_14 | hf1d111_14 | hr1d111_14 => kernel_rfl
        case hq1d111_14 => exact fun _ _ _ _ h => h
        case hd1d111_14 => rfl
        case hw1d111_14 => exact (wanted_slot he16 13 true rfl 16 rfl true rfl true rfl)
        case hp1d111_14 => exact fun _ _ _ h => h
        case hy1d111_14 => exact fun wS hmS => rn_field _ _ _ rfl _ (.pointer (some ⟨b1, 3, none⟩)) (he16.tmp 1 _ rfl) (by kernel_rfl)
        clear he16
        refine wh_take (i := 15) (op := ?op1d111_15) (fuel := 19) (hi := ?hi1d111_15) (hs := ?hs1d111_15) (hf := ?hf1d111_15) (hr := ?hr1d111_15) (hQ2 := ?hq1d111_15) (he := he17) (hm := hm5) (hS := ⟨rfl, trivial⟩) (hd := ?hd1d111_15) (hw := ?hw1d111_15) (v := .int .i64 ((r).ver)) (hy := ?hy1d111_15) (hQ := ?hp1d111_15) (k := fun a18 he18 => ?k1d111_15)
        case hi1d111_15 => rw [List.getElem?_toArray]; rfl
        case hs1d111_15 | hf1d111_15 | hr1d111_15 => kernel_rfl
        case hq1d111_15 => exact fun _ _ _ _ h => h
        case hd1d111_15 => rfl
        case hw1d111_15 => exact (wanted_slot he17 13 true rfl 16 rfl true rfl true rfl)
        case hp1d111_15 => exact fun _ _ _ h => h
        case hy1d111_15 => exact fun wS hmS => rn_load1 hmS 1 rfl _ _ rfl (3) (he17.tmp 17 _ rfl) one3 _ rfl
        clear he17
        cases hd4 : (inR ((r).ver) 0 2)
        · refine wh_call (i := 16) (op := ?op1d1110_16) (fuel := 18) ?hr1d1110_16 ?hi1d1110_16 he18 hm5 ⟨rfl, trivial⟩ ?hd1d1110_16 ?hw1d1110_16 _ #[.int .i64 ((r).ver), .int .i64 (0), .int .i64 (2)] ?en1d1110_16 (.bool false) (callsV (congrArg Value.bool (hd4)) (c_in _ _ _ _)) (fun a19 w6 he19 hm6 => ?k1d1110_16)
          case hi1d1110_16 => rw [List.getElem?_toArray]; rfl
          case hw1d1110_16 => exact (wanted_slot he18 13 true rfl 16 rfl true rfl true rfl)
          case hr1d1110_16 => kernel_rfl
          case hd1d1110_16 => rfl
          case en1d1110_16 => exact (enter_call _ _ _ rfl 55 #[] #[] rfl #[.int .i64 ((r).ver), .int .i64 (0), .int .i64 (2)] (map3 (he18.tmp 18 _ rfl) rfl rfl) #[.int .i64 ((r).ver), .int .i64 (0), .int .i64 (2)] rfl (fun _ _ => by kernel_rfl))
          clear he18 hm5
          refine wh_take (i := 17) (op := ?op1d1110_17) (fuel := 17) (hi := ?hi1d1110_17) (hs := ?hs1d1110_17) (hf := ?hf1d1110_17) (hr := ?hr1d1110_17) (hQ2 := ?hq1d1110_17) (he := he19) (hm := hm6) (hS := ⟨rfl, trivial⟩) (hd := ?hd1d1110_17) (hw := ?hw1d1110_17) (v := .bool false) (hy := ?hy1d1110_17) (hQ := ?hp1d1110_17) (k := fun a20 he20 => ?k1d1110_17)
          case hi1d1110_17 => rw [List.getElem?_toArray]; rfl
          case hs1d1110_17 | hf1d1110_17 | hr1d1110_17 => kernel_rfl
          case hq1d1110_17 => exact fun _ _ _ _ h => h
          case hd1d1110_17 => rfl
          case hw1d1110_17 => exact rfl
          case hp1d1110_17 => exact fun _ _ _ h => h
          case hy1d1110_17 => exact fun wS hmS => rn_pickT _ _ _ rfl (he19.tmp 16 _ rfl) _ (he19.tmp 19 _ rfl)
          clear he19
          refine wh_take (i := 18) (op := ?op1d1110_18) (fuel := 16) (hi := ?hi1d1110_18) (hs := ?hs1d1110_18) (hf := ?hf1d1110_18) (hr := ?hr1d1110_18) (hQ2 := ?hq1d1110_18) (he := he20) (hm := hm6) (hS := ⟨rfl, trivial⟩) (hd := ?hd1d1110_18) (hw := ?hw1d1110_18) (v := .bool false) (hy := ?hy1d1110_18) (hQ := ?hp1d1110_18) (k := fun a21 he21 => ?k1d1110_18)
          case hi1d1110_18 => rw [List.getElem?_toArray]; rfl
          case hs1d1110_18 | hf1d1110_18 | hr1d1110_18 => kernel_rfl
          case hq1d1110_18 => exact fun _ _ _ _ h => h
          case hd1d1110_18 => rfl
          case hw1d1110_18 => exact rfl
          case hp1d1110_18 => exact fun _ _ _ h => h
          case hy1d1110_18 => exact fun wS hmS => rn_move _ (Or.inl rfl) _ (he20.tmp 20 _ rfl)
          clear he20
          refine wh_takeN (i := 19) (op := ?op1d1110_19) (fuel := 15) (hi := ?hi1d1110_19) (hs := ?hs1d1110_19) (hf := ?hf1d1110_19) (hr := ?hr1d1110_19) (hQ2 := ?hq1d1110_19) (he := he21) (hm := hm6) (hS := ⟨rfl, trivial⟩) (hd := ?hd1d1110_19) (hw := ?hw1d1110_19)  (k := fun a22 he22 => ?k1d1110_19)
          case hi1d1110_19 => rw [List.getElem?_toArray]; rfl
          case hs1d1110_19 | hf1d1110_19 | hr1d1110_19 => kernel_rfl
          case hq1d1110_19 => exact fun _ _ _ _ h => h
          case hd1d1110_19 => rfl
          case hw1d1110_19 => exact (wanted_slot he21 18 true rfl 21 rfl false rfl false rfl)
          clear he21
          refine wh_takeN (i := 20) (op := ?op1d1110_20) (fuel := 14) (hi := ?hi1d1110_20) (hs := ?hs1d1110_20) (hf := ?hf1d1110_20) (hr := ?hr1d1110_20) (hQ2 := ?hq1d1110_20) (he := he22) (hm := hm6) (hS := ⟨rfl, trivial⟩) (hd := ?hd1d1110_20) (hw := ?hw1d1110_20)  (k := fun a23 he23 => ?k1d1110_20)
          case hi1d1110_20 => rw [List.getElem?_toArray]; rfl
          case hs1d1110_20 | hf1d1110_20 | hr1d1110_20 => kernel_rfl
          case hq1d1110_20 => exact fun _ _ _ _ h => h
          case hd1d1110_20 => rfl
          case hw1d1110_20 => exact (wanted_slot he22 18 true rfl 21 rfl false rfl false rfl)
          clear he22
          refine wh_pass (i := 21) (op := ?op1d1110_21) (fuel := 13) ?hr1d1110_21 ?hi1d1110_21 he23 hm6 ⟨rfl, trivial⟩ ?hd1d1110_21 ?hw1d1110_21 (fun a24 he24 => ?k1d1110_21)
          case hi1d1110_21 => rw [List.getElem?_toArray]; rfl
          case hw1d1110_21 => exact (wanted_slot he23 18 true rfl 21 rfl false rfl false rfl)
          case hr1d1110_21 => kernel_rfl
          case hd1d1110_21 => rfl
          clear he23
          refine wh_pass (i := 22) (op := ?op1d1110_22) (fuel := 12) ?hr1d1110_22 ?hi1d1110_22 he24 hm6 ⟨rfl, trivial⟩ ?hd1d1110_22 ?hw1d1110_22 (fun a25 he25 => ?k1d1110_22)
          case hi1d1110_22 => rw [List.getElem?_toArray]; rfl
          case hw1d1110_22 => exact (wanted_slot he24 18 true rfl 21 rfl false rfl false rfl)
          case hr1d1110_22 => kernel_rfl
          case hd1d1110_22 => rfl
          clear he24
          refine wh_take (i := 23) (op := ?op1d1110_23) (fuel := 11) (hi := ?hi1d1110_23) (hs := ?hs1d1110_23) (hf := ?hf1d1110_23) (hr := ?hr1d1110_23) (hQ2 := ?hq1d1110_23) (he := he25) (hm := hm6) (hS := ⟨rfl, trivial⟩) (hd := ?hd1d1110_23) (hw := ?hw1d1110_23) (v := .bool false) (hy := ?hy1d1110_23) (hQ := ?hp1d1110_23) (k := fun a26 he26 => ?k1d1110_23)
          case hi1d1110_23 => rw [List.getElem?_toArray]; rfl
          case hs1d1110_23 | hf1d1110_23 | hr1d1110_23 => kernel_rfl
          case hq1d1110_23 => exact fun _ _ _ _ h => h
          case hd1d1110_23 => rfl
          case hw1d1110_23 => exact rfl
          case hp1d1110_23 => exact fun _ _ _ h => h
          case hy1d1110_23 => exact fun wS hmS => rn_pickF _ _ _ rfl (he25.tmp 21 _ rfl) _ rfl
          clear he25
          refine wh_take (i := 24) (op := ?op1d1110_24) (fuel := 10) (hi := ?hi1d1110_24) (hs := ?hs1d1110_24) (hf := ?hf1d1110_24) (hr := ?hr1d1110_24) (hQ2 := ?hq1d1110_24) (he := he26) (hm := hm6) (hS := ⟨rfl, trivial⟩) (hd := ?hd1d1110_24) (hw := ?hw1d1110_24) (v := .bool false) (hy := ?hy1d1110_24) (hQ := ?hp1d1110_24) (k := fun a27 he27 => ?k1d1110_24)
          case hi1d1110_24 => rw [List.getElem?_toArray]; rfl
          case hs1d1110_24 | hf1d1110_24 | hr1d1110_24 => kernel_rfl
          case hq1d1110_24 => exact fun _ _ _ _ h => h
          case hd1d1110_24 => rfl
          case hw1d1110_24 => exact rfl
          case hp1d1110_24 => exact fun _ _ _ h => h
          case hy1d1110_24 => exact fun wS hmS => rn_move _ (Or.inl rfl) _ (he26.tmp 26 _ rfl)
          clear he26
          refine wh_takeN (i := 25) (op := ?op1d1110_25) (fuel := 9) (hi := ?hi1d1110_25) (hs := ?hs1d1110_25) (hf := ?hf1d1110_25) (hr := ?hr1d1110_25) (hQ2 := ?hq1d1110_25) (he := he27) (hm := hm6) (hS := ⟨rfl, trivial⟩) (hd := ?hd1d1110_25) (hw := ?hw1d1110_25)  (k := fun a28 he28 => ?k1d1110_25)
          case hi1d1110_25 => rw [List.getElem?_toArray]; rfl
          case hs1d1110_25 | hf1d1110_25 | hr1d1110_25 => kernel_rfl
          case hq1d1110_25 => exact fun _ _ _ _ h => h
          case hd1d1110_25 => rfl
          case hw1d1110_25 => exact (wanted_slot he27 24 true rfl 27 rfl false rfl false rfl)
          clear he27
          refine wh_takeN (i := 26) (op := ?op1d1110_26) (fuel := 8) (hi := ?hi1d1110_26) (hs := ?hs1d1110_26) (hf := ?hf1d1110_26) (hr := ?hr1d1110_26) (hQ2 := ?hq1d1110_26) (he := he28) (hm := hm6) (hS := ⟨rfl, trivial⟩) (hd := ?hd1d1110_26) (hw := ?hw1d1110_26)  (k := fun a29 he29 => ?k1d1110_26)
          case hi1d1110_26 => rw [List.getElem?_toArray]; rfl
          case hs1d1110_26 | hf1d1110_26 | hr1d1110_26 => kernel_rfl
          case hq1d1110_26 => exact fun _ _ _ _ h => h
          case hd1d1110_26 => rfl
          case hw1d1110_26 => exact (wanted_slot he28 24 true rfl 27 rfl false rfl false rfl)
          clear he28
          refine wh_takeN (i := 27) (op := ?op1d1110_27) (fuel := 7) (hi := ?hi1d1110_27) (hs := ?hs1d1110_27) (hf := ?hf1d1110_27) (hr := ?hr1d1110_27) (hQ2 := ?hq1d1110_27) (he := he29) (hm := hm6) (hS := ⟨rfl, trivial⟩) (hd := ?hd1d1110_27) (hw := ?hw1d1110_27)  (k := fun a30 he30 => ?k1d1110_27)
          case hi1d1110_27 => rw [List.getElem?_toArray]; rfl
          case hs1d1110_27 | hf1d1110_27 | hr1d1110_27 => kernel_rfl
          case hq1d1110_27 => exact fun _ _ _ _ h => h
          case hd1d1110_27 => rfl
          case hw1d1110_27 => exact (wanted_slot he29 24 true rfl 27 rfl false rfl false rfl)
          clear he29
          refine wh_takeN (i := 28) (op := ?op1d1110_28) (fuel := 6) (hi := ?hi1d1110_28) (hs := ?hs1d1110_28) (hf := ?hf1d1110_28) (hr := ?hr1d1110_28) (hQ2 := ?hq1d1110_28) (he := he30) (hm := hm6) (hS := ⟨rfl, trivial⟩) (hd := ?hd1d1110_28) (hw := ?hw1d1110_28)  (k := fun a31 he31 => ?k1d1110_28)
          case hi1d1110_28 => rw [List.getElem?_toArray]; rfl
          case hs1d1110_28 | hf1d1110_28 | hr1d1110_28 => kernel_rfl
          case hq1d1110_28 => exact fun _ _ _ _ h => h
          case hd1d1110_28 => rfl
          case hw1d1110_28 => exact (wanted_slot he30 24 true rfl 27 rfl false rfl false rfl)
          clear he30
          refine wh_takeN (i := 29) (op := ?op1d1110_29) (fuel := 5) (hi := ?hi1d1110_29) (hs := ?hs1d1110_29) (hf := ?hf1d1110_29) (hr := ?hr1d1110_29) (hQ2 := ?hq1d1110_29) (he := he31) (hm := hm6) (hS := ⟨rfl, trivial⟩) (hd := ?hd1d1110_29) (hw := ?hw1d1110_29)  (k := fun a32 he32 => ?k1d1110_29)
          case hi1d1110_29 => rw [List.getElem?_toArray]; rfl
          case hs1d1110_29 | hf1d1110_29 | hr1d1110_29 => kernel_rfl
          case hq1d1110_29 => exact fun _ _ _ _ h => h
          case hd1d1110_29 => rfl
          case hw1d1110_29 => exact (wanted_undef he31 28 false rfl 31 rfl rfl)
          clear he31
          refine wh_takeN (i := 30) (op := ?op1d1110_30) (fuel := 4) (hi := ?hi1d1110_30) (hs := ?hs1d1110_30) (hf := ?hf1d1110_30) (hr := ?hr1d1110_30) (hQ2 := ?hq1d1110_30) (he := he32) (hm := hm6) (hS := ⟨rfl, trivial⟩) (hd := ?hd1d1110_30) (hw := ?hw1d1110_30)  (k := fun a33 he33 => ?k1d1110_30)
          case hi1d1110_30 => rw [List.getElem?_toArray]; rfl
          case hs1d1110_30 | hf1d1110_30 | hr1d1110_30 => kernel_rfl
          case hq1d1110_30 => exact fun _ _ _ _ h => h
          case hd1d1110_30 => rfl
          case hw1d1110_30 => exact (wanted_undef he32 28 false rfl 31 rfl rfl)
          clear he32
          refine wh_takeN (i := 31) (op := ?op1d1110_31) (fuel := 3) (hi := ?hi1d1110_31) (hs := ?hs1d1110_31) (hf := ?hf1d1110_31) (hr := ?hr1d1110_31) (hQ2 := ?hq1d1110_31) (he := he33) (hm := hm6) (hS := ⟨rfl, trivial⟩) (hd := ?hd1d1110_31) (hw := ?hw1d1110_31)  (k := fun a34 he34 => ?k1d1110_31)
          case hi1d1110_31 => rw [List.getElem?_toArray]; rfl
          case hs1d1110_31 | hf1d1110_31 | hr1d1110_31 => kernel_rfl
          case hq1d1110_31 => exact fun _ _ _ _ h => h
          case hd1d1110_31 => rfl
          case hw1d1110_31 => exact (wanted_undef he33 28 false rfl 31 rfl rfl)
          clear he33
          refine wh_takeN (i := 32) (op := ?op1d1110_32) (fuel := 2) (hi := ?hi1d1110_32) (hs := ?hs1d1110_32) (hf := ?hf1d1110_32) (hr := ?hr1d1110_32) (hQ2 := ?hq1d1110_32) (he := he34) (hm := hm6) (hS := ⟨rfl, trivial⟩) (hd := ?hd1d1110_32) (hw := ?hw1d1110_32)  (k := fun a35 he35 => ?k1d1110_32)
          case hi1d1110_32 => rw [List.getElem?_toArray]; rfl
          case hs1d1110_32 | hf1d1110_32 | hr1d1110_32 => kernel_rfl
          case hq1d1110_32 => exact fun _ _ _ _ h => h
          case hd1d1110_32 => rfl
          case hw1d1110_32 => exact (wanted_slot he34 24 true rfl 27 rfl false rfl false rfl)
          clear he34
          refine wh_take (i := 33) (op := ?op1d1110_33) (fuel := 1) (hi := ?hi1d1110_33) (hs := ?hs1d1110_33) (hf := ?hf1d1110_33) (hr := ?hr1d1110_33) (hQ2 := ?hq1d1110_33) (he := he35) (hm := hm6) (hS := ⟨rfl, trivial⟩) (hd := ?hd1d1110_33) (hw := ?hw1d1110_33) (v := .bool false) (hy := ?hy1d1110_33) (hQ := ?hp1d1110_33) (k := fun a36 he36 => ?k1d1110_33)
          case hi1d1110_33 => rw [List.getElem?_toArray]; rfl
          case hs1d1110_33 | hf1d1110_33 | hr1d1110_33 => kernel_rfl
          case hq1d1110_33 => exact fun _ _ _ _ h => h
          case hd1d1110_33 => rfl
          case hw1d1110_33 => exact rfl
          case hp1d1110_33 => exact fun _ _ _ h => h
          case hy1d1110_33 => exact fun wS hmS => rn_pickF _ _ _ rfl (he35.tmp 27 _ rfl) _ rfl
          clear he35
          refine wh_take (i := 34) (op := ?op1d1110_34) (fuel := 0) (hi := ?hi1d1110_34) (hs := ?hs1d1110_34) (hf := ?hf1d1110_34) (hr := ?hr1d1110_34) (hQ2 := ?hq1d1110_34) (he := he36) (hm := hm6) (hS := ⟨rfl, trivial⟩) (hd := ?hd1d1110_34) (hw := ?hw1d1110_34) (v := .bool false) (hy := ?hy1d1110_34) (hQ := ?hp1d1110_34) (k := fun a37 he37 => ?k1d1110_34)
          case hi1d1110_34 => rw [List.getElem?_toArray]; rfl
          case hs1d1110_34 | hf1d1110_34 | hr1d1110_34 => kernel_rfl
          case hq1d1110_34 => exact fun _ _ _ _ h => h
          case hd1d1110_34 => rfl
          case hw1d1110_34 => exact rfl
          case hp1d1110_34 => exact fun _ _ _ h => h
          case hy1d1110_34 => exact fun wS hmS => rn_move _ (Or.inr rfl) _ (he36.tmp 36 _ rfl)
          clear he36
          refine wpAnyH_done (by kernel_rfl) ?_ _
          refine then_normal ?_
          refine wp_ret ?_
          exact bodyPost_ret (results_tmp he37 _ Try.results38 _ rfl) he37.defers ⟨(by simp [ruOk, hd1, hd2, hd3, hd4]), hm6.below⟩
        · refine wh_call (i := 16) (op := ?op1d1111_16) (fuel := 18) ?hr1d1111_16 ?hi1d1111_16 he18 hm5 ⟨rfl, trivial⟩ ?hd1d1111_16 ?hw1d1111_16 _ #[.int .i64 ((r).ver), .int .i64 (0), .int .i64 (2)] ?en1d1111_16 (.bool true) (callsV (congrArg Value.bool (hd4)) (c_in _ _ _ _)) (fun a19 w6 he19 hm6 => ?k1d1111_16)
          case hi1d1111_16 => rw [List.getElem?_toArray]; rfl
          case hw1d1111_16 => exact (wanted_slot he18 13 true rfl 16 rfl true rfl true rfl)
          case hr1d1111_16 => kernel_rfl
          case hd1d1111_16 => rfl
          case en1d1111_16 => exact (enter_call _ _ _ rfl 55 #[] #[] rfl #[.int .i64 ((r).ver), .int .i64 (0), .int .i64 (2)] (map3 (he18.tmp 18 _ rfl) rfl rfl) #[.int .i64 ((r).ver), .int .i64 (0), .int .i64 (2)] rfl (fun _ _ => by kernel_rfl))
          clear he18 hm5
          refine wh_take (i := 17) (op := ?op1d1111_17) (fuel := 17) (hi := ?hi1d1111_17) (hs := ?hs1d1111_17) (hf := ?hf1d1111_17) (hr := ?hr1d1111_17) (hQ2 := ?hq1d1111_17) (he := he19) (hm := hm6) (hS := ⟨rfl, trivial⟩) (hd := ?hd1d1111_17) (hw := ?hw1d1111_17) (v := .bool true) (hy := ?hy1d1111_17) (hQ := ?hp1d1111_17) (k := fun a20 he20 => ?k1d1111_17)
          case hi1d1111_17 => rw [List.getElem?_toArray]; rfl
          case hs1d1111_17 | hf1d1111_17 | hr1d1111_17 => kernel_rfl
          case hq1d1111_17 => exact fun _ _ _ _ h => h
          case hd1d1111_17 => rfl
          case hw1d1111_17 => exact rfl
          case hp1d1111_17 => exact fun _ _ _ h => h
          case hy1d1111_17 => exact fun wS hmS => rn_pickT _ _ _ rfl (he19.tmp 16 _ rfl) _ (he19.tmp 19 _ rfl)
          clear he19
          refine wh_take (i := 18) (op := ?op1d1111_18) (fuel := 16) (hi := ?hi1d1111_18) (hs := ?hs1d1111_18) (hf := ?hf1d1111_18) (hr := ?hr1d1111_18) (hQ2 := ?hq1d1111_18) (he := he20) (hm := hm6) (hS := ⟨rfl, trivial⟩) (hd := ?hd1d1111_18) (hw := ?hw1d1111_18) (v := .bool true) (hy := ?hy1d1111_18) (hQ := ?hp1d1111_18) (k := fun a21 he21 => ?k1d1111_18)
          case hi1d1111_18 => rw [List.getElem?_toArray]; rfl
          case hs1d1111_18 | hf1d1111_18 | hr1d1111_18 => kernel_rfl
          case hq1d1111_18 => exact fun _ _ _ _ h => h
          case hd1d1111_18 => rfl
          case hw1d1111_18 => exact rfl
          case hp1d1111_18 => exact fun _ _ _ h => h
          case hy1d1111_18 => exact fun wS hmS => rn_move _ (Or.inl rfl) _ (he20.tmp 20 _ rfl)
          clear he20
          refine wh_take (i := 19) (op := ?op1d1111_19) (fuel := 15) (hi := ?hi1d1111_19) (hs := ?hs1d1111_19) (hf := ?hf1d1111_19) (hr := ?hr1d1111_19) (hQ2 := ?hq1d1111_19) (he := he21) (hm := hm6) (hS := ⟨rfl, trivial⟩) (hd := ?hd1d1111_19) (hw := ?hw1d1111_19) (v := .pointer (some ⟨b1, 4, none⟩)) (hy := ?hy1d1111_19) (hQ := ?hp1d1111_19) (k := fun a22 he22 => ?k1d1111_19)
          case hi1d1111_19 => rw [List.getElem?_toArray]; rfl
          case hs1d1111_19 | hf1d1111_19 | hr1d1111_19 => kernel_rfl
          case hq1d1111_19 => exact fun _ _ _ _ h => h
          case hd1d1111_19 => rfl
          case hw1d1111_19 => exact (wanted_slot he21 18 true rfl 21 rfl true rfl true rfl)
          case hp1d1111_19 => exact fun _ _ _ h => h
          case hy1d1111_19 => exact fun wS hmS => rn_field _ _ _ rfl _ (.pointer (some ⟨b1, 4, none⟩)) (he21.tmp 1 _ rfl) (by kernel_rfl)
          clear he21
          refine wh_take (i := 20) (op := ?op1d1111_20) (fuel := 14) (hi := ?hi1d1111_20) (hs := ?hs1d1111_20) (hf := ?hf1d1111_20) (hr := ?hr1d1111_20) (hQ2 := ?hq1d1111_20) (he := he22) (hm := hm6) (hS := ⟨rfl, trivial⟩) (hd := ?hd1d1111_20) (hw := ?hw1d1111_20) (v := .int .i64 ((r).key)) (hy := ?hy1d1111_20) (hQ := ?hp1d1111_20) (k := fun a23 he23 => ?k1d1111_20)
          case hi1d1111_20 => rw [List.getElem?_toArray]; rfl
          case hs1d1111_20 | hf1d1111_20 | hr1d1111_20 => kernel_rfl
          case hq1d1111_20 => exact fun _ _ _ _ h => h
          case hd1d1111_20 => rfl
          case hw1d1111_20 => exact (wanted_slot he22 18 true rfl 21 rfl true rfl true rfl)
          case hp1d1111_20 => exact fun _ _ _ h => h
          case hy1d1111_20 => exact fun wS hmS => rn_load1 hmS 1 rfl _ _ rfl (4) (he22.tmp 22 _ rfl) one3 _ rfl
          clear he22
          refine wh_call (i := 21) (op := ?op1d1111_21) (fuel := 13) ?hr1d1111_21 ?hi1d1111_21 he23 hm6 ⟨rfl, trivial⟩ ?hd1d1111_21 ?hw1d1111_21 _ #[] ?en1d1111_21 (.int .i64 (4294967295)) (c_top _) (fun a24 w7 he24 hm7 => ?k1d1111_21)
          case hi1d1111_21 => rw [List.getElem?_toArray]; rfl
          case hw1d1111_21 => exact (wanted_slot he23 18 true rfl 21 rfl true rfl true rfl)
          case hr1d1111_21 => kernel_rfl
          case hd1d1111_21 => rfl
          case en1d1111_21 => exact (enter_call _ _ _ rfl 48 #[] #[] rfl #[] (map0 _ ) #[] rfl (fun _ _ => by kernel_rfl))
          clear he23 hm6
          cases hd5 : (inR ((r).key) 0 4294967295)
          · refine wh_call (i := 22) (op := ?op1d11110_22) (fuel := 12) ?hr1d11110_22 ?hi1d11110_22 he24 hm7 ⟨rfl, trivial⟩ ?hd1d11110_22 ?hw1d11110_22 _ #[.int .i64 ((r).key), .int .i64 (0), .int .i64 (4294967295)] ?en1d11110_22 (.bool false) (callsV (congrArg Value.bool (hd5)) (c_in _ _ _ _)) (fun a25 w8 he25 hm8 => ?k1d11110_22)
            case hi1d11110_22 => rw [List.getElem?_toArray]; rfl
            case hw1d11110_22 => exact (wanted_slot he24 18 true rfl 21 rfl true rfl true rfl)
            case hr1d11110_22 => kernel_rfl
            case hd1d11110_22 => rfl
            case en1d11110_22 => exact (enter_call _ _ _ rfl 55 #[] #[] rfl #[.int .i64 ((r).key), .int .i64 (0), .int .i64 (4294967295)] (map3 (he24.tmp 23 _ rfl) rfl (he24.tmp 24 _ rfl)) #[.int .i64 ((r).key), .int .i64 (0), .int .i64 (4294967295)] rfl (fun _ _ => by kernel_rfl))
            clear he24 hm7
            refine wh_take (i := 23) (op := ?op1d11110_23) (fuel := 11) (hi := ?hi1d11110_23) (hs := ?hs1d11110_23) (hf := ?hf1d11110_23) (hr := ?hr1d11110_23) (hQ2 := ?hq1d11110_23) (he := he25) (hm := hm8) (hS := ⟨rfl, trivial⟩) (hd := ?hd1d11110_23) (hw := ?hw1d11110_23) (v := .bool false) (hy := ?hy1d11110_23) (hQ := ?hp1d11110_23) (k := fun a26 he26 => ?k1d11110_23)
            case hi1d11110_23 => rw [List.getElem?_toArray]; rfl
            case hs1d11110_23 | hf1d11110_23 | hr1d11110_23 => kernel_rfl
            case hq1d11110_23 => exact fun _ _ _ _ h => h
            case hd1d11110_23 => rfl
            case hw1d11110_23 => exact rfl
            case hp1d11110_23 => exact fun _ _ _ h => h
            case hy1d11110_23 => exact fun wS hmS => rn_pickT _ _ _ rfl (he25.tmp 21 _ rfl) _ (he25.tmp 25 _ rfl)
            clear he25
            refine wh_take (i := 24) (op := ?op1d11110_24) (fuel := 10) (hi := ?hi1d11110_24) (hs := ?hs1d11110_24) (hf := ?hf1d11110_24) (hr := ?hr1d11110_24) (hQ2 := ?hq1d11110_24) (he := he26) (hm := hm8) (hS := ⟨rfl, trivial⟩) (hd := ?hd1d11110_24) (hw := ?hw1d11110_24) (v := .bool false) (hy := ?hy1d11110_24) (hQ := ?hp1d11110_24) (k := fun a27 he27 => ?k1d11110_24)
            case hi1d11110_24 => rw [List.getElem?_toArray]; rfl
            case hs1d11110_24 | hf1d11110_24 | hr1d11110_24 => kernel_rfl
            case hq1d11110_24 => exact fun _ _ _ _ h => h
            case hd1d11110_24 => rfl
            case hw1d11110_24 => exact rfl
            case hp1d11110_24 => exact fun _ _ _ h => h
            case hy1d11110_24 => exact fun wS hmS => rn_move _ (Or.inl rfl) _ (he26.tmp 26 _ rfl)
            clear he26
            refine wh_takeN (i := 25) (op := ?op1d11110_25) (fuel := 9) (hi := ?hi1d11110_25) (hs := ?hs1d11110_25) (hf := ?hf1d11110_25) (hr := ?hr1d11110_25) (hQ2 := ?hq1d11110_25) (he := he27) (hm := hm8) (hS := ⟨rfl, trivial⟩) (hd := ?hd1d11110_25) (hw := ?hw1d11110_25)  (k := fun a28 he28 => ?k1d11110_25)
            case hi1d11110_25 => rw [List.getElem?_toArray]; rfl
            case hs1d11110_25 | hf1d11110_25 | hr1d11110_25 => kernel_rfl
            case hq1d11110_25 => exact fun _ _ _ _ h => h
            case hd1d11110_25 => rfl
            case hw1d11110_25 => exact (wanted_slot he27 24 true rfl 27 rfl false rfl false rfl)
            clear he27
            refine wh_takeN (i := 26) (op := ?op1d11110_26) (fuel := 8) (hi := ?hi1d11110_26) (hs := ?hs1d11110_26) (hf := ?hf1d11110_26) (hr := ?hr1d11110_26) (hQ2 := ?hq1d11110_26) (he := he28) (hm := hm8) (hS := ⟨rfl, trivial⟩) (hd := ?hd1d11110_26) (hw := ?hw1d11110_26)  (k := fun a29 he29 => ?k1d11110_26)
            case hi1d11110_26 => rw [List.getElem?_toArray]; rfl
            case hs1d11110_26 | hf1d11110_26 | hr1d11110_26 => kernel_rfl
            case hq1d11110_26 => exact fun _ _ _ _ h => h
            case hd1d11110_26 => rfl
            case hw1d11110_26 => exact (wanted_slot he28 24 true rfl 27 rfl false rfl false rfl)
            clear he28
            refine wh_takeN (i := 27) (op := ?op1d11110_27) (fuel := 7) (hi := ?hi1d11110_27) (hs := ?hs1d11110_27) (hf := ?hf1d11110_27) (hr := ?hr1d11110_27) (hQ2 := ?hq1d11110_27) (he := he29) (hm := hm8) (hS := ⟨rfl, trivial⟩) (hd := ?hd1d11110_27) (hw := ?hw1d11110_27)  (k := fun a30 he30 => ?k1d11110_27)
            case hi1d11110_27 => rw [List.getElem?_toArray]; rfl
            case hs1d11110_27 | hf1d11110_27 | hr1d11110_27 => kernel_rfl
            case hq1d11110_27 => exact fun _ _ _ _ h => h
            case hd1d11110_27 => rfl
            case hw1d11110_27 => exact (wanted_slot he29 24 true rfl 27 rfl false rfl false rfl)
            clear he29
            refine wh_takeN (i := 28) (op := ?op1d11110_28) (fuel := 6) (hi := ?hi1d11110_28) (hs := ?hs1d11110_28) (hf := ?hf1d11110_28) (hr := ?hr1d11110_28) (hQ2 := ?hq1d11110_28) (he := he30) (hm := hm8) (hS := ⟨rfl, trivial⟩) (hd := ?hd1d11110_28) (hw := ?hw1d11110_28)  (k := fun a31 he31 => ?k1d11110_28)
            case hi1d11110_28 => rw [List.getElem?_toArray]; rfl
            case hs1d11110_28 | hf1d11110_28 | hr1d11110_28 => kernel_rfl
            case hq1d11110_28 => exact fun _ _ _ _ h => h
            case hd1d11110_28 => rfl
            case hw1d11110_28 => exact (wanted_slot he30 24 true rfl 27 rfl false rfl false rfl)
            clear he30
            refine wh_takeN (i := 29) (op := ?op1d11110_29) (fuel := 5) (hi := ?hi1d11110_29) (hs := ?hs1d11110_29) (hf := ?hf1d11110_29) (hr := ?hr1d11110_29) (hQ2 := ?hq1d11110_29) (he := he31) (hm := hm8) (hS := ⟨rfl, trivial⟩) (hd := ?hd1d11110_29) (hw := ?hw1d11110_29)  (k := fun a32 he32 => ?k1d11110_29)
            case hi1d11110_29 => rw [List.getElem?_toArray]; rfl
            case hs1d11110_29 | hf1d11110_29 | hr1d11110_29 => kernel_rfl
            case hq1d11110_29 => exact fun _ _ _ _ h => h
            case hd1d11110_29 => rfl
            case hw1d11110_29 => exact (wanted_undef he31 28 false rfl 31 rfl rfl)
            clear he31
            refine wh_takeN (i := 30) (op := ?op1d11110_30) (fuel := 4) (hi := ?hi1d11110_30) (hs := ?hs1d11110_30) (hf := ?hf1d11110_30) (hr := ?hr1d11110_30) (hQ2 := ?hq1d11110_30) (he := he32) (hm := hm8) (hS := ⟨rfl, trivial⟩) (hd := ?hd1d11110_30) (hw := ?hw1d11110_30)  (k := fun a33 he33 => ?k1d11110_30)
            case hi1d11110_30 => rw [List.getElem?_toArray]; rfl
            case hs1d11110_30 | hf1d11110_30 | hr1d11110_30 => kernel_rfl
            case hq1d11110_30 => exact fun _ _ _ _ h => h
            case hd1d11110_30 => rfl
            case hw1d11110_30 => exact (wanted_undef he32 28 false rfl 31 rfl rfl)
            clear he32
            refine wh_takeN (i := 31) (op := ?op1d11110_31) (fuel := 3) (hi := ?hi1d11110_31) (hs := ?hs1d11110_31) (hf := ?hf1d11110_31) (hr := ?hr1d11110_31) (hQ2 := ?hq1d11110_31) (he := he33) (hm := hm8) (hS := ⟨rfl, trivial⟩) (hd := ?hd1d11110_31) (hw := ?hw1d11110_31)  (k := fun a34 he34 => ?k1d11110_31)
            case hi1d11110_31 => rw [List.getElem?_toArray]; rfl
            case hs1d11110_31 | hf1d11110_31 | hr1d11110_31 => kernel_rfl
            case hq1d11110_31 => exact fun _ _ _ _ h => h
            case hd1d11110_31 => rfl
            case hw1d11110_31 => exact (wanted_undef he33 28 false rfl 31 rfl rfl)
            clear he33
            refine wh_takeN (i := 32) (op := ?op1d11110_32) (fuel := 2) (hi := ?hi1d11110_32) (hs := ?hs1d11110_32) (hf := ?hf1d11110_32) (hr := ?hr1d11110_32) (hQ2 := ?hq1d11110_32) (he := he34) (hm := hm8) (hS := ⟨rfl, trivial⟩) (hd := ?hd1d11110_32) (hw := ?hw1d11110_32)  (k := fun a35 he35 => ?k1d11110_32)
            case hi1d11110_32 => rw [List.getElem?_toArray]; rfl
            case hs1d11110_32 | hf1d11110_32 | hr1d11110_32 => kernel_rfl
            case hq1d11110_32 => exact fun _ _ _ _ h => h
            case hd1d11110_32 => rfl
            case hw1d11110_32 => exact (wanted_slot he34 24 true rfl 27 rfl false rfl false rfl)
            clear he34
            refine wh_take (i := 33) (op := ?op1d11110_33) (fuel := 1) (hi := ?hi1d11110_33) (hs := ?hs1d11110_33) (hf := ?hf1d11110_33) (hr := ?hr1d11110_33) (hQ2 := ?hq1d11110_33) (he := he35) (hm := hm8) (hS := ⟨rfl, trivial⟩) (hd := ?hd1d11110_33) (hw := ?hw1d11110_33) (v := .bool false) (hy := ?hy1d11110_33) (hQ := ?hp1d11110_33) (k := fun a36 he36 => ?k1d11110_33)
            case hi1d11110_33 => rw [List.getElem?_toArray]; rfl
            case hs1d11110_33 | hf1d11110_33 | hr1d11110_33 => kernel_rfl
            case hq1d11110_33 => exact fun _ _ _ _ h => h
            case hd1d11110_33 => rfl
            case hw1d11110_33 => exact rfl
            case hp1d11110_33 => exact fun _ _ _ h => h
            case hy1d11110_33 => exact fun wS hmS => rn_pickF _ _ _ rfl (he35.tmp 27 _ rfl) _ rfl
            clear he35
            refine wh_take (i := 34) (op := ?op1d11110_34) (fuel := 0) (hi := ?hi1d11110_34) (hs := ?hs1d11110_34) (hf := ?hf1d11110_34) (hr := ?hr1d11110_34) (hQ2 := ?hq1d11110_34) (he := he36) (hm := hm8) (hS := ⟨rfl, trivial⟩) (hd := ?hd1d11110_34) (hw := ?hw1d11110_34) (v := .bool false) (hy := ?hy1d11110_34) (hQ := ?hp1d11110_34) (k := fun a37 he37 => ?k1d11110_34)
            case hi1d11110_34 => rw [List.getElem?_toArray]; rfl
            case hs1d11110_34 | hf1d11110_34 | hr1d11110_34 => kernel_rfl
            case hq1d11110_34 => exact fun _ _ _ _ h => h
            case hd1d11110_34 => rfl
            case hw1d11110_34 => exact rfl
            case hp1d11110_34 => exact fun _ _ _ h => h
            case hy1d11110_34 => exact fun wS hmS => rn_move _ (Or.inr rfl) _ (he36.tmp 36 _ rfl)
            clear he36
            refine wpAnyH_done (by kernel_rfl) ?_ _
            refine then_normal ?_
            refine wp_ret ?_
            exact bodyPost_ret (results_tmp he37 _ Try.results38 _ rfl) he37.defers ⟨(by simp [ruOk, hd1, hd2, hd3, hd4, hd5]), hm8.below⟩
          · refine wh_call (i := 22) (op := ?op1d11111_22) (fuel := 12) ?hr1d11111_22 ?hi1d11111_22 he24 hm7 ⟨rfl, trivial⟩ ?hd1d11111_22 ?hw1d11111_22 _ #[.int .i64 ((r).key), .int .i64 (0), .int .i64 (4294967295)] ?en1d11111_22 (.bool true) (callsV (congrArg Value.bool (hd5)) (c_in _ _ _ _)) (fun a25 w8 he25 hm8 => ?k1d11111_22)
            case hi1d11111_22 => rw [List.getElem?_toArray]; rfl
            case hw1d11111_22 => exact (wanted_slot he24 18 true rfl 21 rfl true rfl true rfl)
            case hr1d11111_22 => kernel_rfl
            case hd1d11111_22 => rfl
            case en1d11111_22 => exact (enter_call _ _ _ rfl 55 #[] #[] rfl #[.int .i64 ((r).key), .int .i64 (0), .int .i64 (4294967295)] (map3 (he24.tmp 23 _ rfl) rfl (he24.tmp 24 _ rfl)) #[.int .i64 ((r).key), .int .i64 (0), .int .i64 (4294967295)] rfl (fun _ _ => by kernel_rfl))
            clear he24 hm7
            refine wh_take (i := 23) (op := ?op1d11111_23) (fuel := 11) (hi := ?hi1d11111_23) (hs := ?hs1d11111_23) (hf := ?hf1d11111_23) (hr := ?hr1d11111_23) (hQ2 := ?hq1d11111_23) (he := he25) (hm := hm8) (hS := ⟨rfl, trivial⟩) (hd := ?hd1d11111_23) (hw := ?hw1d11111_23) (v := .bool true) (hy := ?hy1d11111_23) (hQ := ?hp1d11111_23) (k := fun a26 he26 => ?k1d11111_23)
            case hi1d11111_23 => rw [List.getElem?_toArray]; rfl
            case hs1d11111_23 | hf1d11111_23 | hr1d11111_23 => kernel_rfl
            case hq1d11111_23 => exact fun _ _ _ _ h => h
            case hd1d11111_23 => rfl
            case hw1d11111_23 => exact rfl
            case hp1d11111_23 => exact fun _ _ _ h => h
            case hy1d11111_23 => exact fun wS hmS => rn_pickT _ _ _ rfl (he25.tmp 21 _ rfl) _ (he25.tmp 25 _ rfl)
            clear he25
            refine wh_take (i := 24) (op := ?op1d11111_24) (fuel := 10) (hi := ?hi1d11111_24) (hs := ?hs1d11111_24) (hf := ?hf1d11111_24) (hr := ?hr1d11111_24) (hQ2 := ?hq1d11111_24) (he := he26) (hm := hm8) (hS := ⟨rfl, trivial⟩) (hd := ?hd1d11111_24) (hw := ?hw1d11111_24) (v := .bool true) (hy := ?hy1d11111_24) (hQ := ?hp1d11111_24) (k := fun a27 he27 => ?k1d11111_24)
            case hi1d11111_24 => rw [List.getElem?_toArray]; rfl
            case hs1d11111_24 | hf1d11111_24 | hr1d11111_24 => kernel_rfl
            case hq1d11111_24 => exact fun _ _ _ _ h => h
            case hd1d11111_24 => rfl
            case hw1d11111_24 => exact rfl
            case hp1d11111_24 => exact fun _ _ _ h => h
            case hy1d11111_24 => exact fun wS hmS => rn_move _ (Or.inl rfl) _ (he26.tmp 26 _ rfl)
            clear he26
            refine wh_take (i := 25) (op := ?op1d11111_25) (fuel := 9) (hi := ?hi1d11111_25) (hs := ?hs1d11111_25) (hf := ?hf1d11111_25) (hr := ?hr1d11111_25) (hQ2 := ?hq1d11111_25) (he := he27) (hm := hm8) (hS := ⟨rfl, trivial⟩) (hd := ?hd1d11111_25) (hw := ?hw1d11111_25) (v := .pointer (some ⟨b1, 3, none⟩)) (hy := ?hy1d11111_25) (hQ := ?hp1d11111_25) (k := fun a28 he28 => ?k1d11111_25)
            case hi1d11111_25 => rw [List.getElem?_toArray]; rfl
            case hs1d11111_25 | hf1d11111_25 | hr1d11111_25 => kernel_rfl
            case hq1d11111_25 => exact fun _ _ _ _ h => h
            case hd1d11111_25 => rfl
            case hw1d11111_25 => exact (wanted_slot he27 24 true rfl 27 rfl true rfl true rfl)
            case hp1d11111_25 => exact fun _ _ _ h => h
            case hy1d11111_25 => exact fun wS hmS => rn_field _ _ _ rfl _ (.pointer (some ⟨b1, 3, none⟩)) (he27.tmp 1 _ rfl) (by kernel_rfl)
            clear he27
            refine wh_take (i := 26) (op := ?op1d11111_26) (fuel := 8) (hi := ?hi1d11111_26) (hs := ?hs1d11111_26) (hf := ?hf1d11111_26) (hr := ?hr1d11111_26) (hQ2 := ?hq1d11111_26) (he := he28) (hm := hm8) (hS := ⟨rfl, trivial⟩) (hd := ?hd1d11111_26) (hw := ?hw1d11111_26) (v := .int .i64 ((r).ver)) (hy := ?hy1d11111_26) (hQ := ?hp1d11111_26) (k := fun a29 he29 => ?k1d11111_26)
            case hi1d11111_26 => rw [List.getElem?_toArray]; rfl
            case hs1d11111_26 | hf1d11111_26 | hr1d11111_26 => kernel_rfl
            case hq1d11111_26 => exact fun _ _ _ _ h => h
            case hd1d11111_26 => rfl
            case hw1d11111_26 => exact (wanted_slot he28 24 true rfl 27 rfl true rfl true rfl)
            case hp1d11111_26 => exact fun _ _ _ h => h
            case hy1d11111_26 => exact fun wS hmS => rn_load1 hmS 1 rfl _ _ rfl (3) (he28.tmp 28 _ rfl) one3 _ rfl
            clear he28
            cases hd6 : (((r).ver == 2))
            · have hd6p : (r).ver ≠ 2 := by simpa using hd6
              refine wh_take (i := 27) (op := ?op1d111110_27) (fuel := 7) (hi := ?hi1d111110_27) (hs := ?hs1d111110_27) (hf := ?hf1d111110_27) (hr := ?hr1d111110_27) (hQ2 := ?hq1d111110_27) (he := he29) (hm := hm8) (hS := ⟨rfl, trivial⟩) (hd := ?hd1d111110_27) (hw := ?hw1d111110_27) (v := .bool false) (hy := ?hy1d111110_27) (hQ := ?hp1d111110_27) (k := fun a30 he30 => ?k1d111110_27)
              case hi1d111110_27 => rw [List.getElem?_toArray]; rfl
              case hs1d111110_27 | hf1d111110_27 | hr1d111110_27 => kernel_rfl
              case hq1d111110_27 => exact fun _ _ _ _ h => h
              case hd1d111110_27 => rfl
              case hw1d111110_27 => exact (wanted_slot he29 24 true rfl 27 rfl true rfl true rfl)
              case hp1d111110_27 => exact fun _ _ _ h => h
              case hy1d111110_27 => exact fun wS hmS => rn_bin _ _ _ _ _ rfl .i64 _ _ (he29.tmp 29 _ rfl) rfl (.bool (((r).ver == 2))) _ rfl (congrArg Value.bool (hd6))
              clear he29
              refine wh_take (i := 28) (op := ?op1d111110_28) (fuel := 6) (hi := ?hi1d111110_28) (hs := ?hs1d111110_28) (hf := ?hf1d111110_28) (hr := ?hr1d111110_28) (hQ2 := ?hq1d111110_28) (he := he30) (hm := hm8) (hS := ⟨rfl, trivial⟩) (hd := ?hd1d111110_28) (hw := ?hw1d111110_28) (v := .bool false) (hy := ?hy1d111110_28) (hQ := ?hp1d111110_28) (k := fun a31 he31 => ?k1d111110_28)
              case hi1d111110_28 => rw [List.getElem?_toArray]; rfl
              case hs1d111110_28 | hf1d111110_28 | hr1d111110_28 => kernel_rfl
              case hq1d111110_28 => exact fun _ _ _ _ h => h
              case hd1d111110_28 => rfl
              case hw1d111110_28 => exact (wanted_slot he30 24 true rfl 27 rfl true rfl true rfl)
              case hp1d111110_28 => exact fun _ _ _ h => h
              case hy1d111110_28 => exact fun wS hmS => rn_move _ (Or.inl rfl) _ (he30.tmp 30 _ rfl)
              clear he30
              refine wh_take (i := 29) (op := ?op1d111110_29) (fuel := 5) (hi := ?hi1d111110_29) (hs := ?hs1d111110_29) (hf := ?hf1d111110_29) (hr := ?hr1d111110_29) (hQ2 := ?hq1d111110_29) (he := he31) (hm := hm8) (hS := ⟨rfl, trivial⟩) (hd := ?hd1d111110_29) (hw := ?hw1d111110_29) (v := .pointer (some ⟨b1, 4, none⟩)) (hy := ?hy1d111110_29) (hQ := ?hp1d111110_29) (k := fun a32 he32 => ?k1d111110_29)
              case hi1d111110_29 => rw [List.getElem?_toArray]; rfl
              case hs1d111110_29 | hf1d111110_29 | hr1d111110_29 => kernel_rfl
              case hq1d111110_29 => exact fun _ _ _ _ h => h
              case hd1d111110_29 => rfl
              case hw1d111110_29 => exact (wanted_slot he31 28 false rfl 31 rfl false rfl true rfl)
              case hp1d111110_29 => exact fun _ _ _ h => h
              case hy1d111110_29 => exact fun wS hmS => rn_field _ _ _ rfl _ (.pointer (some ⟨b1, 4, none⟩)) (he31.tmp 1 _ rfl) (by kernel_rfl)
              clear he31
              refine wh_take (i := 30) (op := ?op1d111110_30) (fuel := 4) (hi := ?hi1d111110_30) (hs := ?hs1d111110_30) (hf := ?hf1d111110_30) (hr := ?hr1d111110_30) (hQ2 := ?hq1d111110_30) (he := he32) (hm := hm8) (hS := ⟨rfl, trivial⟩) (hd := ?hd1d111110_30) (hw := ?hw1d111110_30) (v := .int .i64 ((r).key)) (hy := ?hy1d111110_30) (hQ := ?hp1d111110_30) (k := fun a33 he33 => ?k1d111110_30)
              case hi1d111110_30 => rw [List.getElem?_toArray]; rfl
              case hs1d111110_30 | hf1d111110_30 | hr1d111110_30 => kernel_rfl
              case hq1d111110_30 => exact fun _ _ _ _ h => h
              case hd1d111110_30 => rfl
              case hw1d111110_30 => exact (wanted_slot he32 28 false rfl 31 rfl false rfl true rfl)
              case hp1d111110_30 => exact fun _ _ _ h => h
              case hy1d111110_30 => exact fun wS hmS => rn_load1 hmS 1 rfl _ _ rfl (4) (he32.tmp 32 _ rfl) one3 _ rfl
              clear he32
              cases hd7 : (((r).key == 0))
              · have hd7p : (r).key ≠ 0 := by simpa using hd7
                refine wh_take (i := 31) (op := ?op1d1111100_31) (fuel := 3) (hi := ?hi1d1111100_31) (hs := ?hs1d1111100_31) (hf := ?hf1d1111100_31) (hr := ?hr1d1111100_31) (hQ2 := ?hq1d1111100_31) (he := he33) (hm := hm8) (hS := ⟨rfl, trivial⟩) (hd := ?hd1d1111100_31) (hw := ?hw1d1111100_31) (v := .bool false) (hy := ?hy1d1111100_31) (hQ := ?hp1d1111100_31) (k := fun a34 he34 => ?k1d1111100_31)
                case hi1d1111100_31 => rw [List.getElem?_toArray]; rfl
                case hs1d1111100_31 | hf1d1111100_31 | hr1d1111100_31 => kernel_rfl
                case hq1d1111100_31 => exact fun _ _ _ _ h => h
                case hd1d1111100_31 => rfl
                case hw1d1111100_31 => exact (wanted_slot he33 28 false rfl 31 rfl false rfl true rfl)
                case hp1d1111100_31 => exact fun _ _ _ h => h
                case hy1d1111100_31 => exact fun wS hmS => rn_bin _ _ _ _ _ rfl .i64 _ _ (he33.tmp 33 _ rfl) rfl (.bool (((r).key == 0))) _ rfl (congrArg Value.bool (hd7))
                clear he33
                refine wh_take (i := 32) (op := ?op1d1111100_32) (fuel := 2) (hi := ?hi1d1111100_32) (hs := ?hs1d1111100_32) (hf := ?hf1d1111100_32) (hr := ?hr1d1111100_32) (hQ2 := ?hq1d1111100_32) (he := he34) (hm := hm8) (hS := ⟨rfl, trivial⟩) (hd := ?hd1d1111100_32) (hw := ?hw1d1111100_32) (v := .bool false) (hy := ?hy1d1111100_32) (hQ := ?hp1d1111100_32) (k := fun a35 he35 => ?k1d1111100_32)
                case hi1d1111100_32 => rw [List.getElem?_toArray]; rfl
                case hs1d1111100_32 | hf1d1111100_32 | hr1d1111100_32 => kernel_rfl
                case hq1d1111100_32 => exact fun _ _ _ _ h => h
                case hd1d1111100_32 => rfl
                case hw1d1111100_32 => exact (wanted_slot he34 24 true rfl 27 rfl true rfl true rfl)
                case hp1d1111100_32 => exact fun _ _ _ h => h
                case hy1d1111100_32 => exact fun wS hmS => rn_pickF _ _ _ rfl (he34.tmp 31 _ rfl) _ (he34.tmp 34 _ rfl)
                clear he34
                refine wh_take (i := 33) (op := ?op1d1111100_33) (fuel := 1) (hi := ?hi1d1111100_33) (hs := ?hs1d1111100_33) (hf := ?hf1d1111100_33) (hr := ?hr1d1111100_33) (hQ2 := ?hq1d1111100_33) (he := he35) (hm := hm8) (hS := ⟨rfl, trivial⟩) (hd := ?hd1d1111100_33) (hw := ?hw1d1111100_33) (v := .bool false) (hy := ?hy1d1111100_33) (hQ := ?hp1d1111100_33) (k := fun a36 he36 => ?k1d1111100_33)
                case hi1d1111100_33 => rw [List.getElem?_toArray]; rfl
                case hs1d1111100_33 | hf1d1111100_33 | hr1d1111100_33 => kernel_rfl
                case hq1d1111100_33 => exact fun _ _ _ _ h => h
                case hd1d1111100_33 => rfl
                case hw1d1111100_33 => exact rfl
                case hp1d1111100_33 => exact fun _ _ _ h => h
                case hy1d1111100_33 => exact fun wS hmS => rn_pickT _ _ _ rfl (he35.tmp 27 _ rfl) _ (he35.tmp 35 _ rfl)
                clear he35
                refine wh_take (i := 34) (op := ?op1d1111100_34) (fuel := 0) (hi := ?hi1d1111100_34) (hs := ?hs1d1111100_34) (hf := ?hf1d1111100_34) (hr := ?hr1d1111100_34) (hQ2 := ?hq1d1111100_34) (he := he36) (hm := hm8) (hS := ⟨rfl, trivial⟩) (hd := ?hd1d1111100_34) (hw := ?hw1d1111100_34) (v := .bool false) (hy := ?hy1d1111100_34) (hQ := ?hp1d1111100_34) (k := fun a37 he37 => ?k1d1111100_34)
                case hi1d1111100_34 => rw [List.getElem?_toArray]; rfl
                case hs1d1111100_34 | hf1d1111100_34 | hr1d1111100_34 => kernel_rfl
                case hq1d1111100_34 => exact fun _ _ _ _ h => h
                case hd1d1111100_34 => rfl
                case hw1d1111100_34 => exact rfl
                case hp1d1111100_34 => exact fun _ _ _ h => h
                case hy1d1111100_34 => exact fun wS hmS => rn_move _ (Or.inr rfl) _ (he36.tmp 36 _ rfl)
                clear he36
                refine wpAnyH_done (by kernel_rfl) ?_ _
                refine then_normal ?_
                refine wp_ret ?_
                exact bodyPost_ret (results_tmp he37 _ Try.results38 _ rfl) he37.defers ⟨(by simp [ruOk, hd1, hd2, hd3, hd4, hd5, hd6, hd7]), hm8.below⟩
              · have hd7p : (r).key = 0 := by simpa using hd7
                refine wh_take (i := 31) (op := ?op1d1111101_31) (fuel := 3) (hi := ?hi1d1111101_31) (hs := ?hs1d1111101_31) (hf := ?hf1d1111101_31) (hr := ?hr1d1111101_31) (hQ2 := ?hq1d1111101_31) (he := he33) (hm := hm8) (hS := ⟨rfl, trivial⟩) (hd := ?hd1d1111101_31) (hw := ?hw1d1111101_31) (v := .bool true) (hy := ?hy1d1111101_31) (hQ := ?hp1d1111101_31) (k := fun a34 he34 => ?k1d1111101_31)
                case hi1d1111101_31 => rw [List.getElem?_toArray]; rfl
                case hs1d1111101_31 | hf1d1111101_31 | hr1d1111101_31 => kernel_rfl
                case hq1d1111101_31 => exact fun _ _ _ _ h => h
                case hd1d1111101_31 => rfl
                case hw1d1111101_31 => exact (wanted_slot he33 28 false rfl 31 rfl false rfl true rfl)
                case hp1d1111101_31 => exact fun _ _ _ h => h
                case hy1d1111101_31 => exact fun wS hmS => rn_bin _ _ _ _ _ rfl .i64 _ _ (he33.tmp 33 _ rfl) rfl (.bool (((r).key == 0))) _ rfl (congrArg Value.bool (hd7))
                clear he33
                refine wh_take (i := 32) (op := ?op1d1111101_32) (fuel := 2) (hi := ?hi1d1111101_32) (hs := ?hs1d1111101_32) (hf := ?hf1d1111101_32) (hr := ?hr1d1111101_32) (hQ2 := ?hq1d1111101_32) (he := he34) (hm := hm8) (hS := ⟨rfl, trivial⟩) (hd := ?hd1d1111101_32) (hw := ?hw1d1111101_32) (v := .bool true) (hy := ?hy1d1111101_32) (hQ := ?hp1d1111101_32) (k := fun a35 he35 => ?k1d1111101_32)
                case hi1d1111101_32 => rw [List.getElem?_toArray]; rfl
                case hs1d1111101_32 | hf1d1111101_32 | hr1d1111101_32 => kernel_rfl
                case hq1d1111101_32 => exact fun _ _ _ _ h => h
                case hd1d1111101_32 => rfl
                case hw1d1111101_32 => exact (wanted_slot he34 24 true rfl 27 rfl true rfl true rfl)
                case hp1d1111101_32 => exact fun _ _ _ h => h
                case hy1d1111101_32 => exact fun wS hmS => rn_pickF _ _ _ rfl (he34.tmp 31 _ rfl) _ (he34.tmp 34 _ rfl)
                clear he34
                refine wh_take (i := 33) (op := ?op1d1111101_33) (fuel := 1) (hi := ?hi1d1111101_33) (hs := ?hs1d1111101_33) (hf := ?hf1d1111101_33) (hr := ?hr1d1111101_33) (hQ2 := ?hq1d1111101_33) (he := he35) (hm := hm8) (hS := ⟨rfl, trivial⟩) (hd := ?hd1d1111101_33) (hw := ?hw1d1111101_33) (v := .bool true) (hy := ?hy1d1111101_33) (hQ := ?hp1d1111101_33) (k := fun a36 he36 => ?k1d1111101_33)
                case hi1d1111101_33 => rw [List.getElem?_toArray]; rfl
                case hs1d1111101_33 | hf1d1111101_33 | hr1d1111101_33 => kernel_rfl
                case hq1d1111101_33 => exact fun _ _ _ _ h => h
                case hd1d1111101_33 => rfl
                case hw1d1111101_33 => exact rfl
                case hp1d1111101_33 => exact fun _ _ _ h => h
                case hy1d1111101_33 => exact fun wS hmS => rn_pickT _ _ _ rfl (he35.tmp 27 _ rfl) _ (he35.tmp 35 _ rfl)
                clear he35
                refine wh_take (i := 34) (op := ?op1d1111101_34) (fuel := 0) (hi := ?hi1d1111101_34) (hs := ?hs1d1111101_34) (hf := ?hf1d1111101_34) (hr := ?hr1d1111101_34) (hQ2 := ?hq1d1111101_34) (he := he36) (hm := hm8) (hS := ⟨rfl, trivial⟩) (hd := ?hd1d1111101_34) (hw := ?hw1d1111101_34) (v := .bool true) (hy := ?hy1d1111101_34) (hQ := ?hp1d1111101_34) (k := fun a37 he37 => ?k1d1111101_34)
                case hi1d1111101_34 => rw [List.getElem?_toArray]; rfl
                case hs1d1111101_34 | hf1d1111101_34 | hr1d1111101_34 => kernel_rfl
                case hq1d1111101_34 => exact fun _ _ _ _ h => h
                case hd1d1111101_34 => rfl
                case hw1d1111101_34 => exact rfl
                case hp1d1111101_34 => exact fun _ _ _ h => h
                case hy1d1111101_34 => exact fun wS hmS => rn_move _ (Or.inr rfl) _ (he36.tmp 36 _ rfl)
                clear he36
                refine wpAnyH_done (by kernel_rfl) ?_ _
                refine then_normal ?_
                refine wp_ret ?_
                exact bodyPost_ret (results_tmp he37 _ Try.results38 _ rfl) he37.defers ⟨(by simp [ruOk, hd1, hd2, hd3, hd4, hd5, hd6, hd7]), hm8.below⟩
            · have hd6p : (r).ver = 2 := by simpa using hd6
              refine wh_take (i := 27) (op := ?op1d111111_27) (fuel := 7) (hi := ?hi1d111111_27) (hs := ?hs1d111111_27) (hf := ?hf1d111111_27) (hr := ?hr1d111111_27) (hQ2 := ?hq1d111111_27) (he := he29) (hm := hm8) (hS := ⟨rfl, trivial⟩) (hd := ?hd1d111111_27) (hw := ?hw1d111111_27) (v := .bool true) (hy := ?hy1d111111_27) (hQ := ?hp1d111111_27) (k := fun a30 he30 => ?k1d111111_27)
              case hi1d111111_27 => rw [List.getElem?_toArray]; rfl
              case hs1d111111_27 | hf1d111111_27 | hr1d111111_27 => kernel_rfl
              case hq1d111111_27 => exact fun _ _ _ _ h => h
              case hd1d111111_27 => rfl
              case hw1d111111_27 => exact (wanted_slot he29 24 true rfl 27 rfl true rfl true rfl)
              case hp1d111111_27 => exact fun _ _ _ h => h
              case hy1d111111_27 => exact fun wS hmS => rn_bin _ _ _ _ _ rfl .i64 _ _ (he29.tmp 29 _ rfl) rfl (.bool (((r).ver == 2))) _ rfl (congrArg Value.bool (hd6))
              clear he29
              refine wh_take (i := 28) (op := ?op1d111111_28) (fuel := 6) (hi := ?hi1d111111_28) (hs := ?hs1d111111_28) (hf := ?hf1d111111_28) (hr := ?hr1d111111_28) (hQ2 := ?hq1d111111_28) (he := he30) (hm := hm8) (hS := ⟨rfl, trivial⟩) (hd := ?hd1d111111_28) (hw := ?hw1d111111_28) (v := .bool true) (hy := ?hy1d111111_28) (hQ := ?hp1d111111_28) (k := fun a31 he31 => ?k1d111111_28)
              case hi1d111111_28 => rw [List.getElem?_toArray]; rfl
              case hs1d111111_28 | hf1d111111_28 | hr1d111111_28 => kernel_rfl
              case hq1d111111_28 => exact fun _ _ _ _ h => h
              case hd1d111111_28 => rfl
              case hw1d111111_28 => exact (wanted_slot he30 24 true rfl 27 rfl true rfl true rfl)
              case hp1d111111_28 => exact fun _ _ _ h => h
              case hy1d111111_28 => exact fun wS hmS => rn_move _ (Or.inl rfl) _ (he30.tmp 30 _ rfl)
              clear he30
              refine wh_takeN (i := 29) (op := ?op1d111111_29) (fuel := 5) (hi := ?hi1d111111_29) (hs := ?hs1d111111_29) (hf := ?hf1d111111_29) (hr := ?hr1d111111_29) (hQ2 := ?hq1d111111_29) (he := he31) (hm := hm8) (hS := ⟨rfl, trivial⟩) (hd := ?hd1d111111_29) (hw := ?hw1d111111_29)  (k := fun a32 he32 => ?k1d111111_29)
              case hi1d111111_29 => rw [List.getElem?_toArray]; rfl
              case hs1d111111_29 | hf1d111111_29 | hr1d111111_29 => kernel_rfl
              case hq1d111111_29 => exact fun _ _ _ _ h => h
              case hd1d111111_29 => rfl
              case hw1d111111_29 => exact (wanted_slot he31 28 false rfl 31 rfl true rfl false rfl)
              clear he31
              refine wh_takeN (i := 30) (op := ?op1d111111_30) (fuel := 4) (hi := ?hi1d111111_30) (hs := ?hs1d111111_30) (hf := ?hf1d111111_30) (hr := ?hr1d111111_30) (hQ2 := ?hq1d111111_30) (he := he32) (hm := hm8) (hS := ⟨rfl, trivial⟩) (hd := ?hd1d111111_30) (hw := ?hw1d111111_30)  (k := fun a33 he33 => ?k1d111111_30)
              case hi1d111111_30 => rw [List.getElem?_toArray]; rfl
              case hs1d111111_30 | hf1d111111_30 | hr1d111111_30 => kernel_rfl
              case hq1d111111_30 => exact fun _ _ _ _ h => h
              case hd1d111111_30 => rfl
              case hw1d111111_30 => exact (wanted_slot he32 28 false rfl 31 rfl true rfl false rfl)
              clear he32
              refine wh_takeN (i := 31) (op := ?op1d111111_31) (fuel := 3) (hi := ?hi1d111111_31) (hs := ?hs1d111111_31) (hf := ?hf1d111111_31) (hr := ?hr1d111111_31) (hQ2 := ?hq1d111111_31) (he := he33) (hm := hm8) (hS := ⟨rfl, trivial⟩) (hd := ?hd1d111111_31) (hw := ?hw1d111111_31)  (k := fun a34 he34 => ?k1d111111_31)
              case hi1d111111_31 => rw [List.getElem?_toArray]; rfl
              case hs1d111111_31 | hf1d111111_31 | hr1d111111_31 => kernel_rfl
              case hq1d111111_31 => exact fun _ _ _ _ h => h
              case hd1d111111_31 => rfl
              case hw1d111111_31 => exact (wanted_slot he33 28 false rfl 31 rfl true rfl false rfl)
              clear he33
              refine wh_take (i := 32) (op := ?op1d111111_32) (fuel := 2) (hi := ?hi1d111111_32) (hs := ?hs1d111111_32) (hf := ?hf1d111111_32) (hr := ?hr1d111111_32) (hQ2 := ?hq1d111111_32) (he := he34) (hm := hm8) (hS := ⟨rfl, trivial⟩) (hd := ?hd1d111111_32) (hw := ?hw1d111111_32) (v := .bool true) (hy := ?hy1d111111_32) (hQ := ?hp1d111111_32) (k := fun a35 he35 => ?k1d111111_32)
              case hi1d111111_32 => rw [List.getElem?_toArray]; rfl
              case hs1d111111_32 | hf1d111111_32 | hr1d111111_32 => kernel_rfl
              case hq1d111111_32 => exact fun _ _ _ _ h => h
              case hd1d111111_32 => rfl
              case hw1d111111_32 => exact (wanted_slot he34 24 true rfl 27 rfl true rfl true rfl)
              case hp1d111111_32 => exact fun _ _ _ h => h
              case hy1d111111_32 => exact fun wS hmS => rn_pickT _ _ _ rfl (he34.tmp 31 _ rfl) _ rfl
              clear he34
              refine wh_take (i := 33) (op := ?op1d111111_33) (fuel := 1) (hi := ?hi1d111111_33) (hs := ?hs1d111111_33) (hf := ?hf1d111111_33) (hr := ?hr1d111111_33) (hQ2 := ?hq1d111111_33) (he := he35) (hm := hm8) (hS := ⟨rfl, trivial⟩) (hd := ?hd1d111111_33) (hw := ?hw1d111111_33) (v := .bool true) (hy := ?hy1d111111_33) (hQ := ?hp1d111111_33) (k := fun a36 he36 => ?k1d111111_33)
              case hi1d111111_33 => rw [List.getElem?_toArray]; rfl
              case hs1d111111_33 | hf1d111111_33 | hr1d111111_33 => kernel_rfl
              case hq1d111111_33 => exact fun _ _ _ _ h => h
              case hd1d111111_33 => rfl
              case hw1d111111_33 => exact rfl
              case hp1d111111_33 => exact fun _ _ _ h => h
              case hy1d111111_33 => exact fun wS hmS => rn_pickT _ _ _ rfl (he35.tmp 27 _ rfl) _ (he35.tmp 35 _ rfl)
              clear he35
              refine wh_take (i := 34) (op := ?op1d111111_34) (fuel := 0) (hi := ?hi1d111111_34) (hs := ?hs1d111111_34) (hf := ?hf1d111111_34) (hr := ?hr1d111111_34) (hQ2 := ?hq1d111111_34) (he := he36) (hm := hm8) (hS := ⟨rfl, trivial⟩) (hd := ?hd1d111111_34) (hw := ?hw1d111111_34) (v := .bool true) (hy := ?hy1d111111_34) (hQ := ?hp1d111111_34) (k := fun a37 he37 => ?k1d111111_34)
              case hi1d111111_34 => rw [List.getElem?_toArray]; rfl
              case hs1d111111_34 | hf1d111111_34 | hr1d111111_34 => kernel_rfl
              case hq1d111111_34 => exact fun _ _ _ _ h => h
              case hd1d111111_34 => rfl
              case hw1d111111_34 => exact rfl
              case hp1d111111_34 => exact fun _ _ _ h => h
              case hy1d111111_34 => exact fun wS hmS => rn_move _ (Or.inr rfl) _ (he36.tmp 36 _ rfl)
              clear he36
              refine wpAnyH_done (by kernel_rfl) ?_ _
              refine then_normal ?_
              refine wp_ret ?_
              exact bodyPost_ret (results_tmp he37 _ Try.results38 _ rfl) he37.defers ⟨(by simp [ruOk, hd1, hd2, hd3, hd4, hd5, hd6]), hm8.below⟩
theorem c_oks (f : Nat → Ru) (b p n c : Nat) (w : World) (hR : RowAt w b p n 5 fun i => (f i).arr) (hn : n ≤ 1048576) :
    Calls Try.prog 23 #[.slice (some ⟨b, p, none⟩) (n) (c)] w fun e w' => e = .returned (.bool (ruOks f n)) ∧ Below w.heap.size w w' := by
  refine calls_begin Try.func23 rfl 19 rfl (Nat.le_of_ble_eq_true rfl) [(0, .slice (some ⟨b, p, none⟩) (n) (c))] ⟨rfl, trivial⟩ (fun a0 he0 hm0 => ?_)
  refine wp_seqR ?_
  refine wl_val he0 rfl rfl (.bool false) (rn_move _ (Or.inr rfl) _ rfl) (fun a1 he1 => ?_)
  clear he0
  refine wl_end ?_
  refine wp_seq ?_
  refine wp_seqR ?_
  refine wl_val he1 rfl rfl (.int .i64 (0)) (rn_move _ (Or.inr rfl) _ rfl) (fun a2 he2 => ?_)
  clear he1
  refine wl_end ?_
  refine wp_block ?_
  refine wp_loopN (fun mz az wz => ∃ (i : Nat), mz = n - (i) ∧ (i ≤ n ∧ ∀ j, j < i → ruOk (f j) = true) ∧ EV az 19 [] [(0, .slice (some ⟨b, p, none⟩) (n) (c)), (3, .int .i64 (((i : Nat) : Int)))] ∧ MM [] w wz []) ⟨_, 0, rfl, ⟨by omega, fun j hj => by omega⟩, he2.sub _ ⟨rfl, rfl, trivial⟩, hm0.sub _ trivial⟩ ?_
  rintro mz1 a3 w1 ⟨i, rfl, hrel1, he3, hm1⟩
  clear he2 hm0
  have hrel1a := hrel1.1
  refine wp_seq ?_
  refine wp_seqR ?_
  refine wl_val he3 rfl rfl (.int .i64 (((i : Nat) : Int))) (rn_move _ (Or.inl rfl) _ (he3.tmp 3 _ rfl)) (fun a4 he4 => ?_)
  clear he3
  refine wl_val he4 rfl rfl (.slice (some ⟨b, p, none⟩) (n) (c)) (rn_move _ (Or.inl rfl) _ (he4.tmp 0 _ rfl)) (fun a5 he5 => ?_)
  clear he4
  refine wl_val he5 rfl rfl (.int .i64 (((n : Nat) : Int))) (rn_builtin _ _ _ rfl #[.slice (some ⟨b, p, none⟩) (n) (c)] (map1 (he5.tmp 5 _ rfl)) (.int .i64 (((n : Nat) : Int))) (by kernel_rfl)) (fun a6 he6 => ?_)
  clear he5
  cases hd1 : (decide (((i : Nat) : Int) < ((n : Nat) : Int)))
  · have hd1p := of_decide_eq_false hd1
    refine wl_val he6 rfl rfl (.bool false) (rn_bin _ _ _ _ _ rfl .i64 _ _ (he6.tmp 4 _ rfl) (he6.tmp 6 _ rfl) (.bool (decide (((i : Nat) : Int) < ((n : Nat) : Int)))) _ rfl (congrArg Value.bool (hd1))) (fun a7 he7 => ?_)
    clear he6
    refine wl_end ?_
    refine wp_condF (he := he7) rfl ?_
    refine wp_exit ?_
    refine exit_then ?_
    refine exit_then ?_
    refine exit_here ?_
    refine then_normal ?_
    refine wp_seqR ?_
    refine wl_val he7 rfl rfl (.slice (some ⟨b, p, none⟩) (n) (c)) (rn_move _ (Or.inl rfl) _ (he7.tmp 0 _ rfl)) (fun a8 he8 => ?_)
    clear he7
    refine wl_val he8 rfl rfl (.int .i64 (((n : Nat) : Int))) (rn_builtin _ _ _ rfl #[.slice (some ⟨b, p, none⟩) (n) (c)] (map1 (he8.tmp 16 _ rfl)) (.int .i64 (((n : Nat) : Int))) (by kernel_rfl)) (fun a9 he9 => ?_)
    clear he8
    cases hd2 : (decide (((n : Nat) : Int) ≤ 6))
    · have hd2p := of_decide_eq_false hd2
      refine wl_val he9 rfl rfl (.bool false) (rn_bin _ _ _ _ _ rfl .i64 _ _ (he9.tmp 17 _ rfl) rfl (.bool (decide (((n : Nat) : Int) ≤ 6))) _ rfl (congrArg Value.bool (hd2))) (fun a10 he10 => ?_)
      clear he9
      refine wl_val he10 rfl rfl (.bool false) (rn_move _ (Or.inr rfl) _ (he10.tmp 18 _ rfl)) (fun a11 he11 => ?_)
      clear he10
      refine wl_end ?_
      refine wp_ret ?_
      exact bodyPost_ret (results_tmp he11 _ Try.results23 _ rfl) he11.defers ⟨(by first | rw [ruOks, ruAll_no (i := i) (by omega) (by assumption)]; rfl | rw [ruOks, ruAll_yes fun j hj => hrel1.2 j (by omega)]; simp; try omega), hm1.below⟩
    · have hd2p := of_decide_eq_true hd2
      refine wl_val he9 rfl rfl (.bool true) (rn_bin _ _ _ _ _ rfl .i64 _ _ (he9.tmp 17 _ rfl) rfl (.bool (decide (((n : Nat) : Int) ≤ 6))) _ rfl (congrArg Value.bool (hd2))) (fun a10 he10 => ?_)
      clear he9
      refine wl_val he10 rfl rfl (.bool true) (rn_move _ (Or.inr rfl) _ (he10.tmp 18 _ rfl)) (fun a11 he11 => ?_)
      clear he10
      refine wl_end ?_
      refine wp_ret ?_
      exact bodyPost_ret (results_tmp he11 _ Try.results23 _ rfl) he11.defers ⟨(by first | rw [ruOks, ruAll_no (i := i) (by omega) (by assumption)]; rfl | rw [ruOks, ruAll_yes fun j hj => hrel1.2 j (by omega)]; simp; try omega), hm1.below⟩
  · have hd1p := of_decide_eq_true hd1
    refine wl_val he6 rfl rfl (.bool true) (rn_bin _ _ _ _ _ rfl .i64 _ _ (he6.tmp 4 _ rfl) (he6.tmp 6 _ rfl) (.bool (decide (((i : Nat) : Int) < ((n : Nat) : Int)))) _ rfl (congrArg Value.bool (hd1))) (fun a7 he7 => ?_)
    clear he6
    refine wl_end ?_
    refine wp_condT (he := he7) rfl ?_
    refine wp_skip ?_
    refine then_normal ?_
    refine wp_seq ?_
    refine wp_block ?_
    refine wp_seqR ?_
    refine wl_val he7 rfl rfl (.slice (some ⟨b, p, none⟩) (n) (c)) (rn_move _ (Or.inl rfl) _ (he7.tmp 0 _ rfl)) (fun a8 he8 => ?_)
    clear he7
    refine wl_val he8 rfl rfl (.int .i64 (((i : Nat) : Int))) (rn_move _ (Or.inl rfl) _ (he8.tmp 3 _ rfl)) (fun a9 he9 => ?_)
    clear he8
    refine wl_val he9 rfl rfl (.pointer (some ⟨b, p + i * 5, none⟩)) (rn_indexA _ _ _ rfl _ _ (.pointer (some ⟨b, p + i * 5, none⟩)) (he9.tmp 10 _ rfl) (he9.tmp 11 _ rfl) (ixS 39 5 (by kernel_rfl) (fun w => by kernel_rfl) (b) (p) (n) (c) (i) (by omega) _)) (fun a10 he10 => ?_)
    clear he9
    refine wl_val he10 rfl rfl (.agg (Ru.arr (f i))) (rn_rowA hm1 hR (by simp) (i) (by omega) _ _ rfl (he10.tmp 12 _ rfl) agg39 (by kernel_rfl)) (fun a11 he11 => ?_)
    clear he10
    cases hd2 : (ruOk (f i))
    · refine wl_call he11 hm1 rfl rfl _ #[.agg (Ru.arr (f i))] (enter_call _ _ _ rfl 38 #[] #[] rfl #[.agg (Ru.arr (f i))] (map1 (he11.tmp 13 _ rfl)) #[.agg (Ru.arr (f i))] rfl (fun _ _ => by kernel_rfl)) (.bool false) (callsV (congrArg Value.bool (hd2)) (c_rok _ _)) (fun a12 w2 he12 hm2 => ?_)
      clear he11 hm1
      refine wl_val he12 rfl rfl (.bool true) (rn_un _ _ _ rfl _ (.bool (!false)) _ (he12.tmp 14 _ rfl) rfl rfl) (fun a13 he13 => ?_)
      clear he12
      refine wl_end ?_
      refine wp_condT (he := he13) rfl ?_
      refine wp_seqR ?_
      refine wl_val he13 rfl rfl (.bool false) (rn_move _ (Or.inr rfl) _ rfl) (fun a14 he14 => ?_)
      clear he13
      refine wl_end ?_
      refine wp_ret ?_
      refine ret_in ?_
      refine ret_then ?_
      refine ret_then ?_
      refine ret_in ?_
      refine ret_then ?_
      exact bodyPost_ret (results_tmp he14 _ Try.results23 _ rfl) he14.defers ⟨(by first | rw [ruOks, ruAll_no (i := i) (by omega) (by assumption)]; rfl | rw [ruOks, ruAll_yes fun j hj => hrel1.2 j (by omega)]; simp; try omega), hm2.below⟩
    · refine wl_call he11 hm1 rfl rfl _ #[.agg (Ru.arr (f i))] (enter_call _ _ _ rfl 38 #[] #[] rfl #[.agg (Ru.arr (f i))] (map1 (he11.tmp 13 _ rfl)) #[.agg (Ru.arr (f i))] rfl (fun _ _ => by kernel_rfl)) (.bool true) (callsV (congrArg Value.bool (hd2)) (c_rok _ _)) (fun a12 w2 he12 hm2 => ?_)
      clear he11 hm1
      refine wl_val he12 rfl rfl (.bool false) (rn_un _ _ _ rfl _ (.bool (!true)) _ (he12.tmp 14 _ rfl) rfl rfl) (fun a13 he13 => ?_)
      clear he12
      refine wl_end ?_
      refine wp_condF (he := he13) rfl ?_
      refine wp_skip ?_
      refine in_normal ?_
      refine then_normal ?_
      refine wp_region_lit ?_
      refine wl_val he13 rfl rfl (.int .i64 (((i : Nat) : Int))) (rn_move _ (Or.inl rfl) _ (he13.tmp 3 _ rfl)) (fun a14 he14 => ?_)
      clear he13
      refine wl_val he14 rfl rfl (.int .i64 (((i + 1 : Nat) : Int))) (rn_bin _ _ _ _ _ rfl .i64 _ _ (he14.tmp 8 _ rfl) rfl (.int .i64 (IntKind.wrap .i64 (((i : Nat) : Int) + 1))) _ rfl (addN (i := i) (c := 1) (by omega))) (fun a15 he15 => ?_)
      clear he14
      refine wl_val he15 rfl rfl (.int .i64 (((i + 1 : Nat) : Int))) (rn_move _ (Or.inr rfl) _ (he15.tmp 9 _ rfl)) (fun a16 he16 => ?_)
      clear he15
      refine wpList_nil ?_
      exact ⟨n - (i + 1), by omega, i + 1, rfl, ⟨by omega, fun j hj => by rcases Nat.lt_or_ge j i with hh | hh; exact hrel1.2 j hh; rw [show j = i by omega]; assumption⟩, he16.sub _ ⟨rfl, rfl, trivial⟩, hm2.sub _ trivial⟩
end Go.Proofs.Ytcopcajleonndaa
