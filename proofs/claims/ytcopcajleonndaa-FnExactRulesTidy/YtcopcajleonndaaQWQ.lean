/- A rule and the range of its byte, by the specification. -/
import Derived.Test.YtcopcajleonndaaQWA
import Derived.Test.YtcopcajleonndaaQG0
namespace Go.Proofs.Ytcopcajleonndaa
open Go.RowKit
set_option linter.unusedVariables false
set_option linter.unusedSimpArgs false
theorem agg54 : AggT Try.prog 54 4 := ⟨fun w => by kernel_rfl, fun w => by kernel_rfl⟩
theorem c_one (n : Int) (w : World)  :
    Calls Try.prog 50 #[.int .i64 (n)] w fun e w' => e = .returned (.agg #[.int .i64 n, .int .i64 n, .int .i64 n, .int .i64 0]) ∧ Below w.heap.size w w' := by
  refine calls_begin Try.func50 rfl 7 rfl (Nat.le_of_ble_eq_true rfl) [(0, .int .i64 (n))] ⟨rfl, trivial⟩ (fun a0 he0 hm0 => ?_)
  refine wp_seqR ?_
  refine wl_alloc he0 hm0 1 rfl rfl rfl _ rfl (.agg #[.int .i64 0, .int .i64 0, .int .i64 0, .int .i64 0]) (fun w => by kernel_rfl) (#[.int .i64 (0), .int .i64 (0), .int .i64 (0), .int .i64 (0)]) rfl (fun a1 w1 b1 he1 hm1 => ?_)
  clear he0 hm0
  refine wl_end ?_
  refine wp_seqR ?_
  refine wl_val he1 rfl rfl (.int .i64 (n)) (rn_move _ (Or.inl rfl) _ (he1.tmp 0 _ rfl)) (fun a2 he2 => ?_)
  clear he1
  refine wl_val he2 rfl rfl (.int .i64 (n)) (rn_move _ (Or.inl rfl) _ (he2.tmp 0 _ rfl)) (fun a3 he3 => ?_)
  clear he2
  refine wl_val he3 rfl rfl (.int .i64 (n)) (rn_move _ (Or.inl rfl) _ (he3.tmp 0 _ rfl)) (fun a4 he4 => ?_)
  clear he3
  refine wl_val he4 rfl rfl (.agg (#[.int .i64 (n), .int .i64 (n), .int .i64 (n), .int .i64 (0)])) (rn_build _ _ rfl #[(0, .int .i64 (n)), (1, .int .i64 (n)), (2, .int .i64 (n))] (pmap3 (he4.tmp 3 _ rfl) (he4.tmp 4 _ rfl) (he4.tmp 5 _ rfl)) _ (by kernel_rfl)) (fun a5 he5 => ?_)
  clear he4
  refine wl_store he5 hm1 1 rfl rfl rfl _ _ _ rfl (0) (he5.tmp 2 _ rfl) _ (he5.tmp 6 _ rfl) 4 agg54.size rfl (by kernel_rfl) (by simp) (#[.int .i64 (n), .int .i64 (n), .int .i64 (n), .int .i64 (0)]) (by kernel_rfl) (fun w2 hm2 => ?_)
  clear hm1
  refine wl_end ?_
  refine wp_ret ?_
  exact bodyPost_ret (results_cell he5 hm2 _ _ Try.results50 _ rfl 1 rfl 4 agg54 (by first | rfl | assumption)) he5.defers ⟨rfl, hm2.below⟩
theorem c_l9Range (r : Ru) (wa wb wc wd pa pb pc pd qa qb qc qd : Int) (hl ok : Bool) (w : World) (HB : ∀ w, Calls Try.prog 49 #[.int .i64 r.op, .agg #[.int .i64 wa, .int .i64 wb, .int .i64 wc, .int .i64 wd], .agg #[.int .i64 r.num, .int .i64 r.num, .int .i64 r.num, .int .i64 0], .bool hl] w fun e w' => e = .returned (.tuple #[.agg #[.int .i64 pa, .int .i64 pb, .int .i64 pc, .int .i64 pd], .agg #[.int .i64 qa, .int .i64 qb, .int .i64 qc, .int .i64 qd], .bool ok]) ∧ Below w.heap.size w w') :
    Calls Try.prog 34 #[.agg (Ru.arr (r)), .agg (#[.int .i64 (wa), .int .i64 (wb), .int .i64 (wc), .int .i64 (wd)]), .bool (hl)] w fun e w' => e = .returned (.tuple #[.agg #[.int .i64 pa, .int .i64 pb, .int .i64 pc, .int .i64 pd], .bool ok]) ∧ Below w.heap.size w w' := by
  refine calls_begin Try.func34 rfl 25 rfl (Nat.le_of_ble_eq_true rfl) [(0, .agg (Ru.arr (r))), (1, .agg (#[.int .i64 (wa), .int .i64 (wb), .int .i64 (wc), .int .i64 (wd)])), (2, .bool (hl))] ⟨rfl, rfl, rfl, trivial⟩ (fun a0 he0 hm0 => ?_)
  refine wp_seqR ?_
  refine wl_box he0 hm0 1 rfl rfl rfl _ _ rfl _ (he0.tmp 0 _ rfl) (Ru.arr (r)) rfl (fun a1 w1 b1 he1 hm1 => ?_)
  clear he0 hm0
  refine wl_box he1 hm1 2 rfl rfl rfl _ _ rfl _ (he1.tmp 1 _ rfl) (#[.int .i64 (wa), .int .i64 (wb), .int .i64 (wc), .int .i64 (wd)]) rfl (fun a2 w2 b2 he2 hm2 => ?_)
  clear he1 hm1
  refine wl_alloc he2 hm2 3 rfl rfl rfl _ rfl (.agg #[.int .i64 0, .int .i64 0, .int .i64 0, .int .i64 0]) (fun w => by kernel_rfl) (#[.int .i64 (0), .int .i64 (0), .int .i64 (0), .int .i64 (0)]) rfl (fun a3 w3 b3 he3 hm3 => ?_)
  clear he2 hm2
  refine wl_val he3 rfl rfl (.bool false) (rn_move _ (Or.inr rfl) _ rfl) (fun a4 he4 => ?_)
  clear he3
  refine wl_end ?_
  refine wp_seq ?_
  refine rg_cut (fun az wz => ∃ (b4 : Nat), ∃ (b5 : Nat), EV az 25 [] [(0, .agg (Ru.arr (r))), (1, .agg (#[.int .i64 (wa), .int .i64 (wb), .int .i64 (wc), .int .i64 (wd)])), (2, .bool (hl)), (3, .pointer (some ⟨b1, 0, none⟩)), (4, .pointer (some ⟨b2, 0, none⟩)), (6, .pointer (some ⟨b3, 0, none⟩)), (7, .bool false), (12, .pointer (some ⟨b1, 1, none⟩)), (13, .int .i64 ((r).op)), (14, .agg (#[.int .i64 (wa), .int .i64 (wb), .int .i64 (wc), .int .i64 (wd)])), (15, .pointer (some ⟨b1, 2, none⟩)), (16, .int .i64 ((r).num)), (18, .bool (hl)), (17, .agg (#[.int .i64 ((r).num), .int .i64 ((r).num), .int .i64 ((r).num), .int .i64 (0)])), (19, .tuple #[.agg (#[.int .i64 (pa), .int .i64 (pb), .int .i64 (pc), .int .i64 (pd)]), .agg (#[.int .i64 (qa), .int .i64 (qb), .int .i64 (qc), .int .i64 (qd)]), .bool (ok)]), (11, .tuple #[.agg (#[.int .i64 (pa), .int .i64 (pb), .int .i64 (pc), .int .i64 (pd)]), .agg (#[.int .i64 (qa), .int .i64 (qb), .int .i64 (qc), .int .i64 (qd)]), .bool (ok)]), (20, .agg (#[.int .i64 (pa), .int .i64 (pb), .int .i64 (pc), .int .i64 (pd)])), (21, .agg (#[.int .i64 (qa), .int .i64 (qb), .int .i64 (qc), .int .i64 (qd)])), (22, .bool (ok)), (8, .pointer (some ⟨b4, 0, none⟩)), (9, .pointer (some ⟨b5, 0, none⟩)), (10, .bool (ok))] ∧ MM [] w wz [(1, ⟨true, b1, 39, Ru.arr (r)⟩), (2, ⟨true, b2, 54, #[.int .i64 (wa), .int .i64 (wb), .int .i64 (wc), .int .i64 (wd)]⟩), (3, ⟨true, b3, 54, #[.int .i64 (0), .int .i64 (0), .int .i64 (0), .int .i64 (0)]⟩), (4, ⟨true, b4, 54, #[.int .i64 (pa), .int .i64 (pb), .int .i64 (pc), .int .i64 (pd)]⟩), (5, ⟨true, b5, 54, #[.int .i64 (qa), .int .i64 (qb), .int .i64 (qc), .int .i64 (qd)]⟩)]) ?tree1_ ?cont1_
  case tree1_ =>
   refine wh_begin (by kernel_rfl) hm3 [(1, ⟨true, b1, 39, Ru.arr (r)⟩), (2, ⟨true, b2, 54, #[.int .i64 (wa), .int .i64 (wb), .int .i64 (wc), .int .i64 (wd)]⟩), (3, ⟨true, b3, 54, #[.int .i64 (0), .int .i64 (0), .int .i64 (0), .int .i64 (0)]⟩)] ⟨rfl, rfl, rfl, trivial⟩ (fun w4 hm4 => ?_)
   refine tk (fuel := 16) (i := 0) ?_ he4 hm4 ⟨rfl, rfl, rfl, trivial⟩ (.pointer (some ⟨b1, 1, none⟩)) ?_ ?_ ?_ ?_ fun a5 he5 => ?_
   rotate_left
   rw [List.getElem?_toArray]; rfl
   exact ⟨by kernel_rfl, by kernel_rfl, by kernel_rfl⟩
   exact ⟨fun _ _ _ _ h => h, rfl, rfl⟩
   exact fun wS hmS => rn_field _ _ _ rfl _ (.pointer (some ⟨b1, 1, none⟩)) (he4.tmp 3 _ rfl) (by kernel_rfl)
   refine tk (fuel := 15) (i := 1) ?_ he5 hm4 ⟨rfl, rfl, rfl, trivial⟩ (.int .i64 ((r).op)) ?_ ?_ ?_ ?_ fun a6 he6 => ?_
   rotate_left
   rw [List.getElem?_toArray]; rfl
   exact ⟨by kernel_rfl, by kernel_rfl, by kernel_rfl⟩
   exact ⟨fun _ _ _ _ h => h, rfl, rfl⟩
   exact fun wS hmS => rn_load1 hmS 1 rfl _ _ rfl (1) (he5.tmp 12 _ rfl) one3 _ rfl
   refine tk (fuel := 14) (i := 2) ?_ he6 hm4 ⟨rfl, rfl, rfl, trivial⟩ (.agg (#[.int .i64 (wa), .int .i64 (wb), .int .i64 (wc), .int .i64 (wd)])) ?_ ?_ ?_ ?_ fun a7 he7 => ?_
   rotate_left
   rw [List.getElem?_toArray]; rfl
   exact ⟨by kernel_rfl, by kernel_rfl, by kernel_rfl⟩
   exact ⟨fun _ _ _ _ h => h, rfl, rfl⟩
   exact fun wS hmS => rn_loadA hmS 2 rfl _ _ rfl (0) (he6.tmp 4 _ rfl) 4 agg54 (#[.int .i64 (wa), .int .i64 (wb), .int .i64 (wc), .int .i64 (wd)]) rfl rfl
   refine tk (fuel := 13) (i := 3) ?_ he7 hm4 ⟨rfl, rfl, rfl, trivial⟩ (.pointer (some ⟨b1, 2, none⟩)) ?_ ?_ ?_ ?_ fun a8 he8 => ?_
   rotate_left
   rw [List.getElem?_toArray]; rfl
   exact ⟨by kernel_rfl, by kernel_rfl, by kernel_rfl⟩
   exact ⟨fun _ _ _ _ h => h, rfl, rfl⟩
   exact fun wS hmS => rn_field _ _ _ rfl _ (.pointer (some ⟨b1, 2, none⟩)) (he7.tmp 3 _ rfl) (by kernel_rfl)
   refine tk (fuel := 12) (i := 4) ?_ he8 hm4 ⟨rfl, rfl, rfl, trivial⟩ (.int .i64 ((r).num)) ?_ ?_ ?_ ?_ fun a9 he9 => ?_
   rotate_left
   rw [List.getElem?_toArray]; rfl
   exact ⟨by kernel_rfl, by kernel_rfl, by kernel_rfl⟩
   exact ⟨fun _ _ _ _ h => h, rfl, rfl⟩
   exact fun wS hmS => rn_load1 hmS 1 rfl _ _ rfl (2) (he8.tmp 15 _ rfl) one3 _ rfl
   refine tk (fuel := 11) (i := 6) ?_ he9 hm4 ⟨rfl, rfl, rfl, trivial⟩ (.bool (hl)) ?_ ?_ ?_ ?_ fun a10 he10 => ?_
   rotate_left
   rw [List.getElem?_toArray]; rfl
   exact ⟨by kernel_rfl, by kernel_rfl, by kernel_rfl⟩
   exact ⟨fun _ _ _ _ h => h, rfl, rfl⟩
   exact fun wS hmS => rn_move _ (Or.inl rfl) _ (he9.tmp 2 _ rfl)
   refine wpAnyH_ready (fuel := 10) (rs := [5, 12, 13]) ?hr1e_7 (by simp) (AllReadyH.cons (o := ?o1e_7_0) ?hi1e_7_0 ?st1e_7_0 (AllReadyH.cons (o := ?o1e_7_1) ?hi1e_7_1 ?st1e_7_1 (AllReadyH.cons (o := ?o1e_7_2) ?hi1e_7_2 ?st1e_7_2 AllReadyH.nil)))
   case hr1e_7 => kernel_rfl
   case hi1e_7_0 => rw [List.getElem?_toArray]; rfl
   case hi1e_7_1 => rw [List.getElem?_toArray]; rfl
   case hi1e_7_2 => rw [List.getElem?_toArray]; rfl
   case st1e_7_0 =>
    refine st_call he10 hm4 ⟨rfl, rfl, rfl, trivial⟩ rfl rfl _ #[.int .i64 ((r).num)] (enter_call _ _ _ rfl 50 #[] #[] rfl #[.int .i64 ((r).num)] (map1 (he10.tmp 16 _ rfl)) #[.int .i64 ((r).num)] rfl (fun _ _ => by kernel_rfl)) (.agg (#[.int .i64 ((r).num), .int .i64 ((r).num), .int .i64 ((r).num), .int .i64 (0)])) (c_one _ _) (fun a11 w5 he11 hm5 => ?_)
    refine wpAnyH_ready (fuel := 9) (rs := [7, 12, 13]) ?hr1e_8 (by simp) (AllReadyH.cons (o := ?o1e_8_0) ?hi1e_8_0 ?st1e_8_0 (AllReadyH.cons (o := ?o1e_8_1) ?hi1e_8_1 ?st1e_8_1 (AllReadyH.cons (o := ?o1e_8_2) ?hi1e_8_2 ?st1e_8_2 AllReadyH.nil)))
    case hr1e_8 => kernel_rfl
    case hi1e_8_0 => rw [List.getElem?_toArray]; rfl
    case hi1e_8_1 => rw [List.getElem?_toArray]; rfl
    case hi1e_8_2 => rw [List.getElem?_toArray]; rfl
    case st1e_8_0 =>
     refine st_call he11 hm5 ⟨rfl, rfl, rfl, trivial⟩ rfl rfl _ #[.int .i64 ((r).op), .agg (#[.int .i64 (wa), .int .i64 (wb), .int .i64 (wc), .int .i64 (wd)]), .agg (#[.int .i64 ((r).num), .int .i64 ((r).num), .int .i64 ((r).num), .int .i64 (0)]), .bool (hl)] (enter_call _ _ _ rfl 49 #[] #[] rfl #[.int .i64 ((r).op), .agg (#[.int .i64 (wa), .int .i64 (wb), .int .i64 (wc), .int .i64 (wd)]), .agg (#[.int .i64 ((r).num), .int .i64 ((r).num), .int .i64 ((r).num), .int .i64 (0)]), .bool (hl)] (map4 (he11.tmp 13 _ rfl) (he11.tmp 14 _ rfl) (he11.tmp 17 _ rfl) (he11.tmp 18 _ rfl)) #[.int .i64 ((r).op), .agg (#[.int .i64 (wa), .int .i64 (wb), .int .i64 (wc), .int .i64 (wd)]), .agg (#[.int .i64 ((r).num), .int .i64 ((r).num), .int .i64 ((r).num), .int .i64 (0)]), .bool (hl)] rfl (fun _ _ => by kernel_rfl)) (.tuple #[.agg (#[.int .i64 (pa), .int .i64 (pb), .int .i64 (pc), .int .i64 (pd)]), .agg (#[.int .i64 (qa), .int .i64 (qb), .int .i64 (qc), .int .i64 (qd)]), .bool (ok)]) (HB _) (fun a12 w6 he12 hm6 => ?_)
     refine tk (fuel := 8) (i := 8) ?_ he12 hm6 ⟨rfl, rfl, rfl, trivial⟩ (.tuple #[.agg (#[.int .i64 (pa), .int .i64 (pb), .int .i64 (pc), .int .i64 (pd)]), .agg (#[.int .i64 (qa), .int .i64 (qb), .int .i64 (qc), .int .i64 (qd)]), .bool (ok)]) ?_ ?_ ?_ ?_ fun a13 he13 => ?_
     rotate_left
     rw [List.getElem?_toArray]; rfl
     exact ⟨by kernel_rfl, by kernel_rfl, by kernel_rfl⟩
     exact ⟨fun _ _ _ _ h => h, rfl, rfl⟩
     exact fun wS hmS => rn_move _ (Or.inl rfl) _ (he12.tmp 19 _ rfl)
     refine tk (fuel := 7) (i := 9) ?_ he13 hm6 ⟨rfl, rfl, rfl, trivial⟩ (.agg (#[.int .i64 (pa), .int .i64 (pb), .int .i64 (pc), .int .i64 (pd)])) ?_ ?_ ?_ ?_ fun a14 he14 => ?_
     rotate_left
     rw [List.getElem?_toArray]; rfl
     exact ⟨by kernel_rfl, by kernel_rfl, by kernel_rfl⟩
     exact ⟨fun _ _ _ _ h => h, rfl, rfl⟩
     exact fun wS hmS => rn_extract _ _ rfl _ (he13.tmp 11 _ rfl) _ rfl
     refine tk (fuel := 6) (i := 10) ?_ he14 hm6 ⟨rfl, rfl, rfl, trivial⟩ (.agg (#[.int .i64 (qa), .int .i64 (qb), .int .i64 (qc), .int .i64 (qd)])) ?_ ?_ ?_ ?_ fun a15 he15 => ?_
     rotate_left
     rw [List.getElem?_toArray]; rfl
     exact ⟨by kernel_rfl, by kernel_rfl, by kernel_rfl⟩
     exact ⟨fun _ _ _ _ h => h, rfl, rfl⟩
     exact fun wS hmS => rn_extract _ _ rfl _ (he14.tmp 11 _ rfl) _ rfl
     refine tk (fuel := 5) (i := 11) ?_ he15 hm6 ⟨rfl, rfl, rfl, trivial⟩ (.bool (ok)) ?_ ?_ ?_ ?_ fun a16 he16 => ?_
     rotate_left
     rw [List.getElem?_toArray]; rfl
     exact ⟨by kernel_rfl, by kernel_rfl, by kernel_rfl⟩
     exact ⟨fun _ _ _ _ h => h, rfl, rfl⟩
     exact fun wS hmS => rn_extract _ _ rfl _ (he15.tmp 11 _ rfl) _ rfl
     refine wpAnyH_ready (fuel := 4) (rs := [12, 13]) ?hr1e_13 (by simp) (AllReadyH.cons (o := ?o1e_13_0) ?hi1e_13_0 ?st1e_13_0 (AllReadyH.cons (o := ?o1e_13_1) ?hi1e_13_1 ?st1e_13_1 AllReadyH.nil))
     case hr1e_13 => kernel_rfl
     case hi1e_13_0 => rw [List.getElem?_toArray]; rfl
     case hi1e_13_1 => rw [List.getElem?_toArray]; rfl
     case st1e_13_0 =>
      refine st_alloc he16 hm6 4 rfl ⟨rfl, rfl, rfl, trivial⟩ rfl rfl _ rfl (.agg #[.int .i64 0, .int .i64 0, .int .i64 0, .int .i64 0]) (fun w => by kernel_rfl) (#[.int .i64 (0), .int .i64 (0), .int .i64 (0), .int .i64 (0)]) rfl (fun _ => ⟨rfl, rfl, rfl, trivial⟩) (fun a17 w7 b4 he17 hm7 => ?_)
      refine wpAnyH_ready (fuel := 3) (rs := [13]) ?hr1e_14 (by simp) (AllReadyH.cons (o := ?o1e_14_0) ?hi1e_14_0 ?st1e_14_0 AllReadyH.nil)
      case hr1e_14 => kernel_rfl
      case hi1e_14_0 => rw [List.getElem?_toArray]; rfl
      case st1e_14_0 =>
       refine st_alloc he17 hm7 5 rfl ⟨rfl, rfl, rfl, trivial⟩ rfl rfl _ rfl (.agg #[.int .i64 0, .int .i64 0, .int .i64 0, .int .i64 0]) (fun w => by kernel_rfl) (#[.int .i64 (0), .int .i64 (0), .int .i64 (0), .int .i64 (0)]) rfl (fun _ => ⟨rfl, rfl, rfl, trivial⟩) (fun a18 w8 b5 he18 hm8 => ?_)
       refine wh_store (i := 14) (op := ?op1e_15) (fuel := 2) ?hr1e_15 ?hi1e_15 he18 hm8 4 rfl ?hd1e_15 ?hw1e_15 54 (.tmp 8) (.tmp 20) ?ho1e_15 (0) (he18.tmp 8 _ rfl) _ (he18.tmp 20 _ rfl) 4 agg54.size rfl (by kernel_rfl) (by simp) (#[.int .i64 (pa), .int .i64 (pb), .int .i64 (pc), .int .i64 (pd)]) (by kernel_rfl) ⟨rfl, rfl, rfl, trivial⟩ (fun w9 hm9 => ?k1e_15)
       case hi1e_15 => rw [List.getElem?_toArray]; rfl
       case hw1e_15 => exact rfl
       case hr1e_15 => kernel_rfl
       case hd1e_15 | ho1e_15 => rfl
       refine wh_store (i := 15) (op := ?op1e_16) (fuel := 1) ?hr1e_16 ?hi1e_16 he18 hm9 5 rfl ?hd1e_16 ?hw1e_16 54 (.tmp 9) (.tmp 21) ?ho1e_16 (0) (he18.tmp 9 _ rfl) _ (he18.tmp 21 _ rfl) 4 agg54.size rfl (by kernel_rfl) (by simp) (#[.int .i64 (qa), .int .i64 (qb), .int .i64 (qc), .int .i64 (qd)]) (by kernel_rfl) ⟨rfl, rfl, rfl, trivial⟩ (fun w10 hm10 => ?k1e_16)
       case hi1e_16 => rw [List.getElem?_toArray]; rfl
       case hw1e_16 => exact rfl
       case hr1e_16 => kernel_rfl
       case hd1e_16 | ho1e_16 => rfl
       refine tk (fuel := 0) (i := 16) ?_ he18 hm10 ⟨rfl, rfl, rfl, trivial⟩ (.bool (ok)) ?_ ?_ ?_ ?_ fun a19 he19 => ?_
       rotate_left
       rw [List.getElem?_toArray]; rfl
       exact ⟨by kernel_rfl, by kernel_rfl, by kernel_rfl⟩
       exact ⟨fun _ _ _ _ h => h, rfl, rfl⟩
       exact fun wS hmS => rn_move _ (Or.inr rfl) _ (he18.tmp 22 _ rfl)
       refine wpAnyH_done (by kernel_rfl) ?_ _
       exact ⟨b4, b5, he19.sub _ ⟨rfl, rfl, rfl, rfl, rfl, rfl, rfl, rfl, rfl, rfl, rfl, rfl, rfl, rfl, rfl, rfl, rfl, rfl, rfl, rfl, rfl, rfl, trivial⟩, hm10.sub _ ⟨rfl, rfl, rfl, rfl, rfl, trivial⟩⟩
     case st1e_13_1 =>
      refine st_alloc he16 hm6 5 rfl ⟨rfl, rfl, rfl, trivial⟩ rfl rfl _ rfl (.agg #[.int .i64 0, .int .i64 0, .int .i64 0, .int .i64 0]) (fun w => by kernel_rfl) (#[.int .i64 (0), .int .i64 (0), .int .i64 (0), .int .i64 (0)]) rfl (fun _ => ⟨rfl, rfl, rfl, trivial⟩) (fun a17 w7 b5 he17 hm7 => ?_)
      refine wpAnyH_ready (fuel := 3) (rs := [12]) ?hr1e_18 (by simp) (AllReadyH.cons (o := ?o1e_18_0) ?hi1e_18_0 ?st1e_18_0 AllReadyH.nil)
      case hr1e_18 => kernel_rfl
      case hi1e_18_0 => rw [List.getElem?_toArray]; rfl
      case st1e_18_0 =>
       refine st_alloc he17 hm7 4 rfl ⟨rfl, rfl, rfl, trivial⟩ rfl rfl _ rfl (.agg #[.int .i64 0, .int .i64 0, .int .i64 0, .int .i64 0]) (fun w => by kernel_rfl) (#[.int .i64 (0), .int .i64 (0), .int .i64 (0), .int .i64 (0)]) rfl (fun _ => ⟨rfl, rfl, rfl, trivial⟩) (fun a18 w8 b4 he18 hm8 => ?_)
       refine wh_store (i := 14) (op := ?op1e_19) (fuel := 2) ?hr1e_19 ?hi1e_19 he18 hm8 4 rfl ?hd1e_19 ?hw1e_19 54 (.tmp 8) (.tmp 20) ?ho1e_19 (0) (he18.tmp 8 _ rfl) _ (he18.tmp 20 _ rfl) 4 agg54.size rfl (by kernel_rfl) (by simp) (#[.int .i64 (pa), .int .i64 (pb), .int .i64 (pc), .int .i64 (pd)]) (by kernel_rfl) ⟨rfl, rfl, rfl, trivial⟩ (fun w9 hm9 => ?k1e_19)
       case hi1e_19 => rw [List.getElem?_toArray]; rfl
       case hw1e_19 => exact rfl
       case hr1e_19 => kernel_rfl
       case hd1e_19 | ho1e_19 => rfl
       refine wh_store (i := 15) (op := ?op1e_20) (fuel := 1) ?hr1e_20 ?hi1e_20 he18 hm9 5 rfl ?hd1e_20 ?hw1e_20 54 (.tmp 9) (.tmp 21) ?ho1e_20 (0) (he18.tmp 9 _ rfl) _ (he18.tmp 21 _ rfl) 4 agg54.size rfl (by kernel_rfl) (by simp) (#[.int .i64 (qa), .int .i64 (qb), .int .i64 (qc), .int .i64 (qd)]) (by kernel_rfl) ⟨rfl, rfl, rfl, trivial⟩ (fun w10 hm10 => ?k1e_20)
       case hi1e_20 => rw [List.getElem?_toArray]; rfl
       case hw1e_20 => exact rfl
       case hr1e_20 => kernel_rfl
       case hd1e_20 | ho1e_20 => rfl
       refine tk (fuel := 0) (i := 16) ?_ he18 hm10 ⟨rfl, rfl, rfl, trivial⟩ (.bool (ok)) ?_ ?_ ?_ ?_ fun a19 he19 => ?_
       rotate_left
       rw [List.getElem?_toArray]; rfl
       exact ⟨by kernel_rfl, by kernel_rfl, by kernel_rfl⟩
       exact ⟨fun _ _ _ _ h => h, rfl, rfl⟩
       exact fun wS hmS => rn_move _ (Or.inr rfl) _ (he18.tmp 22 _ rfl)
       refine wpAnyH_done (by kernel_rfl) ?_ _
       exact ⟨b4, b5, he19.sub _ ⟨rfl, rfl, rfl, rfl, rfl, rfl, rfl, rfl, rfl, rfl, rfl, rfl, rfl, rfl, rfl, rfl, rfl, rfl, rfl, rfl, rfl, rfl, trivial⟩, hm10.sub _ ⟨rfl, rfl, rfl, rfl, rfl, trivial⟩⟩
    case st1e_8_1 =>
     refine st_alloc he11 hm5 4 rfl ⟨rfl, rfl, rfl, trivial⟩ rfl rfl _ rfl (.agg #[.int .i64 0, .int .i64 0, .int .i64 0, .int .i64 0]) (fun w => by kernel_rfl) (#[.int .i64 (0), .int .i64 (0), .int .i64 (0), .int .i64 (0)]) rfl (fun _ => ⟨rfl, rfl, rfl, trivial⟩) (fun a12 w6 b4 he12 hm6 => ?_)
     refine wpAnyH_ready (fuel := 8) (rs := [7, 13]) ?hr1e_22 (by simp) (AllReadyH.cons (o := ?o1e_22_0) ?hi1e_22_0 ?st1e_22_0 (AllReadyH.cons (o := ?o1e_22_1) ?hi1e_22_1 ?st1e_22_1 AllReadyH.nil))
     case hr1e_22 => kernel_rfl
     case hi1e_22_0 => rw [List.getElem?_toArray]; rfl
     case hi1e_22_1 => rw [List.getElem?_toArray]; rfl
     case st1e_22_0 =>
      refine st_call he12 hm6 ⟨rfl, rfl, rfl, trivial⟩ rfl rfl _ #[.int .i64 ((r).op), .agg (#[.int .i64 (wa), .int .i64 (wb), .int .i64 (wc), .int .i64 (wd)]), .agg (#[.int .i64 ((r).num), .int .i64 ((r).num), .int .i64 ((r).num), .int .i64 (0)]), .bool (hl)] (enter_call _ _ _ rfl 49 #[] #[] rfl #[.int .i64 ((r).op), .agg (#[.int .i64 (wa), .int .i64 (wb), .int .i64 (wc), .int .i64 (wd)]), .agg (#[.int .i64 ((r).num), .int .i64 ((r).num), .int .i64 ((r).num), .int .i64 (0)]), .bool (hl)] (map4 (he12.tmp 13 _ rfl) (he12.tmp 14 _ rfl) (he12.tmp 17 _ rfl) (he12.tmp 18 _ rfl)) #[.int .i64 ((r).op), .agg (#[.int .i64 (wa), .int .i64 (wb), .int .i64 (wc), .int .i64 (wd)]), .agg (#[.int .i64 ((r).num), .int .i64 ((r).num), .int .i64 ((r).num), .int .i64 (0)]), .bool (hl)] rfl (fun _ _ => by kernel_rfl)) (.tuple #[.agg (#[.int .i64 (pa), .int .i64 (pb), .int .i64 (pc), .int .i64 (pd)]), .agg (#[.int .i64 (qa), .int .i64 (qb), .int .i64 (qc), .int .i64 (qd)]), .bool (ok)]) (HB _) (fun a13 w7 he13 hm7 => ?_)
      refine tk (fuel := 7) (i := 8) ?_ he13 hm7 ⟨rfl, rfl, rfl, trivial⟩ (.tuple #[.agg (#[.int .i64 (pa), .int .i64 (pb), .int .i64 (pc), .int .i64 (pd)]), .agg (#[.int .i64 (qa), .int .i64 (qb), .int .i64 (qc), .int .i64 (qd)]), .bool (ok)]) ?_ ?_ ?_ ?_ fun a14 he14 => ?_
      rotate_left
      rw [List.getElem?_toArray]; rfl
      exact ⟨by kernel_rfl, by kernel_rfl, by kernel_rfl⟩
      exact ⟨fun _ _ _ _ h => h, rfl, rfl⟩
      exact fun wS hmS => rn_move _ (Or.inl rfl) _ (he13.tmp 19 _ rfl)
      refine tk (fuel := 6) (i := 9) ?_ he14 hm7 ⟨rfl, rfl, rfl, trivial⟩ (.agg (#[.int .i64 (pa), .int .i64 (pb), .int .i64 (pc), .int .i64 (pd)])) ?_ ?_ ?_ ?_ fun a15 he15 => ?_
      rotate_left
      rw [List.getElem?_toArray]; rfl
      exact ⟨by kernel_rfl, by kernel_rfl, by kernel_rfl⟩
      exact ⟨fun _ _ _ _ h => h, rfl, rfl⟩
      exact fun wS hmS => rn_extract _ _ rfl _ (he14.tmp 11 _ rfl) _ rfl
      refine tk (fuel := 5) (i := 10) ?_ he15 hm7 ⟨rfl, rfl, rfl, trivial⟩ (.agg (#[.int .i64 (qa), .int .i64 (qb), .int .i64 (qc), .int .i64 (qd)])) ?_ ?_ ?_ ?_ fun a16 he16 => ?_
      rotate_left
      rw [List.getElem?_toArray]; rfl
      exact ⟨by kernel_rfl, by kernel_rfl, by kernel_rfl⟩
      exact ⟨fun _ _ _ _ h => h, rfl, rfl⟩
      exact fun wS hmS => rn_extract _ _ rfl _ (he15.tmp 11 _ rfl) _ rfl
      refine tk (fuel := 4) (i := 11) ?_ he16 hm7 ⟨rfl, rfl, rfl, trivial⟩ (.bool (ok)) ?_ ?_ ?_ ?_ fun a17 he17 => ?_
      rotate_left
      rw [List.getElem?_toArray]; rfl
      exact ⟨by kernel_rfl, by kernel_rfl, by kernel_rfl⟩
      exact ⟨fun _ _ _ _ h => h, rfl, rfl⟩
      exact fun wS hmS => rn_extract _ _ rfl _ (he16.tmp 11 _ rfl) _ rfl
      refine wpAnyH_ready (fuel := 3) (rs := [13]) ?hr1e_27 (by simp) (AllReadyH.cons (o := ?o1e_27_0) ?hi1e_27_0 ?st1e_27_0 AllReadyH.nil)
      case hr1e_27 => kernel_rfl
      case hi1e_27_0 => rw [List.getElem?_toArray]; rfl
      case st1e_27_0 =>
       refine st_alloc he17 hm7 5 rfl ⟨rfl, rfl, rfl, trivial⟩ rfl rfl _ rfl (.agg #[.int .i64 0, .int .i64 0, .int .i64 0, .int .i64 0]) (fun w => by kernel_rfl) (#[.int .i64 (0), .int .i64 (0), .int .i64 (0), .int .i64 (0)]) rfl (fun _ => ⟨rfl, rfl, rfl, trivial⟩) (fun a18 w8 b5 he18 hm8 => ?_)
       refine wh_store (i := 14) (op := ?op1e_28) (fuel := 2) ?hr1e_28 ?hi1e_28 he18 hm8 4 rfl ?hd1e_28 ?hw1e_28 54 (.tmp 8) (.tmp 20) ?ho1e_28 (0) (he18.tmp 8 _ rfl) _ (he18.tmp 20 _ rfl) 4 agg54.size rfl (by kernel_rfl) (by simp) (#[.int .i64 (pa), .int .i64 (pb), .int .i64 (pc), .int .i64 (pd)]) (by kernel_rfl) ⟨rfl, rfl, rfl, trivial⟩ (fun w9 hm9 => ?k1e_28)
       case hi1e_28 => rw [List.getElem?_toArray]; rfl
       case hw1e_28 => exact rfl
       case hr1e_28 => kernel_rfl
       case hd1e_28 | ho1e_28 => rfl
       refine wh_store (i := 15) (op := ?op1e_29) (fuel := 1) ?hr1e_29 ?hi1e_29 he18 hm9 5 rfl ?hd1e_29 ?hw1e_29 54 (.tmp 9) (.tmp 21) ?ho1e_29 (0) (he18.tmp 9 _ rfl) _ (he18.tmp 21 _ rfl) 4 agg54.size rfl (by kernel_rfl) (by simp) (#[.int .i64 (qa), .int .i64 (qb), .int .i64 (qc), .int .i64 (qd)]) (by kernel_rfl) ⟨rfl, rfl, rfl, trivial⟩ (fun w10 hm10 => ?k1e_29)
       case hi1e_29 => rw [List.getElem?_toArray]; rfl
       case hw1e_29 => exact rfl
       case hr1e_29 => kernel_rfl
       case hd1e_29 | ho1e_29 => rfl
       refine tk (fuel := 0) (i := 16) ?_ he18 hm10 ⟨rfl, rfl, rfl, trivial⟩ (.bool (ok)) ?_ ?_ ?_ ?_ fun a19 he19 => ?_
       rotate_left
       rw [List.getElem?_toArray]; rfl
       exact ⟨by kernel_rfl, by kernel_rfl, by kernel_rfl⟩
       exact ⟨fun _ _ _ _ h => h, rfl, rfl⟩
       exact fun wS hmS => rn_move _ (Or.inr rfl) _ (he18.tmp 22 _ rfl)
       refine wpAnyH_done (by kernel_rfl) ?_ _
       exact ⟨b4, b5, he19.sub _ ⟨rfl, rfl, rfl, rfl, rfl, rfl, rfl, rfl, rfl, rfl, rfl, rfl, rfl, rfl, rfl, rfl, rfl, rfl, rfl, rfl, rfl, rfl, trivial⟩, hm10.sub _ ⟨rfl, rfl, rfl, rfl, rfl, trivial⟩⟩
     case st1e_22_1 =>
      refine st_alloc he12 hm6 5 rfl ⟨rfl, rfl, rfl, trivial⟩ rfl rfl _ rfl (.agg #[.int .i64 0, .int .i64 0, .int .i64 0, .int .i64 0]) (fun w => by kernel_rfl) (#[.int .i64 (0), .int .i64 (0), .int .i64 (0), .int .i64 (0)]) rfl (fun _ => ⟨rfl, rfl, rfl, trivial⟩) (fun a13 w7 b5 he13 hm7 => ?_)
      refine wpAnyH_ready (fuel := 7) (rs := [7]) ?hr1e_31 (by simp) (AllReadyH.cons (o := ?o1e_31_0) ?hi1e_31_0 ?st1e_31_0 AllReadyH.nil)
      case hr1e_31 => kernel_rfl
      case hi1e_31_0 => rw [List.getElem?_toArray]; rfl
      case st1e_31_0 =>
       refine st_call he13 hm7 ⟨rfl, rfl, rfl, trivial⟩ rfl rfl _ #[.int .i64 ((r).op), .agg (#[.int .i64 (wa), .int .i64 (wb), .int .i64 (wc), .int .i64 (wd)]), .agg (#[.int .i64 ((r).num), .int .i64 ((r).num), .int .i64 ((r).num), .int .i64 (0)]), .bool (hl)] (enter_call _ _ _ rfl 49 #[] #[] rfl #[.int .i64 ((r).op), .agg (#[.int .i64 (wa), .int .i64 (wb), .int .i64 (wc), .int .i64 (wd)]), .agg (#[.int .i64 ((r).num), .int .i64 ((r).num), .int .i64 ((r).num), .int .i64 (0)]), .bool (hl)] (map4 (he13.tmp 13 _ rfl) (he13.tmp 14 _ rfl) (he13.tmp 17 _ rfl) (he13.tmp 18 _ rfl)) #[.int .i64 ((r).op), .agg (#[.int .i64 (wa), .int .i64 (wb), .int .i64 (wc), .int .i64 (wd)]), .agg (#[.int .i64 ((r).num), .int .i64 ((r).num), .int .i64 ((r).num), .int .i64 (0)]), .bool (hl)] rfl (fun _ _ => by kernel_rfl)) (.tuple #[.agg (#[.int .i64 (pa), .int .i64 (pb), .int .i64 (pc), .int .i64 (pd)]), .agg (#[.int .i64 (qa), .int .i64 (qb), .int .i64 (qc), .int .i64 (qd)]), .bool (ok)]) (HB _) (fun a14 w8 he14 hm8 => ?_)
       refine tk (fuel := 6) (i := 8) ?_ he14 hm8 ⟨rfl, rfl, rfl, trivial⟩ (.tuple #[.agg (#[.int .i64 (pa), .int .i64 (pb), .int .i64 (pc), .int .i64 (pd)]), .agg (#[.int .i64 (qa), .int .i64 (qb), .int .i64 (qc), .int .i64 (qd)]), .bool (ok)]) ?_ ?_ ?_ ?_ fun a15 he15 => ?_
       rotate_left
       rw [List.getElem?_toArray]; rfl
       exact ⟨by kernel_rfl, by kernel_rfl, by kernel_rfl⟩
       exact ⟨fun _ _ _ _ h => h, rfl, rfl⟩
       exact fun wS hmS => rn_move _ (Or.inl rfl) _ (he14.tmp 19 _ rfl)
       refine tk (fuel := 5) (i := 9) ?_ he15 hm8 ⟨rfl, rfl, rfl, trivial⟩ (.agg (#[.int .i64 (pa), .int .i64 (pb), .int .i64 (pc), .int .i64 (pd)])) ?_ ?_ ?_ ?_ fun a16 he16 => ?_
       rotate_left
       rw [List.getElem?_toArray]; rfl
       exact ⟨by kernel_rfl, by kernel_rfl, by kernel_rfl⟩
       exact ⟨fun _ _ _ _ h => h, rfl, rfl⟩
       exact fun wS hmS => rn_extract _ _ rfl _ (he15.tmp 11 _ rfl) _ rfl
       refine tk (fuel := 4) (i := 10) ?_ he16 hm8 ⟨rfl, rfl, rfl, trivial⟩ (.agg (#[.int .i64 (qa), .int .i64 (qb), .int .i64 (qc), .int .i64 (qd)])) ?_ ?_ ?_ ?_ fun a17 he17 => ?_
       rotate_left
       rw [List.getElem?_toArray]; rfl
       exact ⟨by kernel_rfl, by kernel_rfl, by kernel_rfl⟩
       exact ⟨fun _ _ _ _ h => h, rfl, rfl⟩
       exact fun wS hmS => rn_extract _ _ rfl _ (he16.tmp 11 _ rfl) _ rfl
       refine tk (fuel := 3) (i := 11) ?_ he17 hm8 ⟨rfl, rfl, rfl, trivial⟩ (.bool (ok)) ?_ ?_ ?_ ?_ fun a18 he18 => ?_
       rotate_left
       rw [List.getElem?_toArray]; rfl
       exact ⟨by kernel_rfl, by kernel_rfl, by kernel_rfl⟩
       exact ⟨fun _ _ _ _ h => h, rfl, rfl⟩
       exact fun wS hmS => rn_extract _ _ rfl _ (he17.tmp 11 _ rfl) _ rfl
       refine wh_store (i := 14) (op := ?op1e_36) (fuel := 2) ?hr1e_36 ?hi1e_36 he18 hm8 4 rfl ?hd1e_36 ?hw1e_36 54 (.tmp 8) (.tmp 20) ?ho1e_36 (0) (he18.tmp 8 _ rfl) _ (he18.tmp 20 _ rfl) 4 agg54.size rfl (by kernel_rfl) (by simp) (#[.int .i64 (pa), .int .i64 (pb), .int .i64 (pc), .int .i64 (pd)]) (by kernel_rfl) ⟨rfl, rfl, rfl, trivial⟩ (fun w9 hm9 => ?k1e_36)
       case hi1e_36 => rw [List.getElem?_toArray]; rfl
       case hw1e_36 => exact rfl
       case hr1e_36 => kernel_rfl
       case hd1e_36 | ho1e_36 => rfl
       refine wh_store (i := 15) (op := ?op1e_37) (fuel := 1) ?hr1e_37 ?hi1e_37 he18 hm9 5 rfl ?hd1e_37 ?hw1e_37 54 (.tmp 9) (.tmp 21) ?ho1e_37 (0) (he18.tmp 9 _ rfl) _ (he18.tmp 21 _ rfl) 4 agg54.size rfl (by kernel_rfl) (by simp) (#[.int .i64 (qa), .int .i64 (qb), .int .i64 (qc), .int .i64 (qd)]) (by kernel_rfl) ⟨rfl, rfl, rfl, trivial⟩ (fun w10 hm10 => ?k1e_37)
       case hi1e_37 => rw [List.getElem?_toArray]; rfl
       case hw1e_37 => exact rfl
       case hr1e_37 => kernel_rfl
       case hd1e_37 | ho1e_37 => rfl
       refine tk (fuel := 0) (i := 16) ?_ he18 hm10 ⟨rfl, rfl, rfl, trivial⟩ (.bool (ok)) ?_ ?_ ?_ ?_ fun a19 he19 => ?_
       rotate_left
       rw [List.getElem?_toArray]; rfl
       exact ⟨by kernel_rfl, by kernel_rfl, by kernel_rfl⟩
       exact ⟨fun _ _ _ _ h => h, rfl, rfl⟩
       exact fun wS hmS => rn_move _ (Or.inr rfl) _ (he18.tmp 22 _ rfl)
       refine wpAnyH_done (by kernel_rfl) ?_ _
       exact ⟨b4, b5, he19.sub _ ⟨rfl, rfl, rfl, rfl, rfl, rfl, rfl, rfl, rfl, rfl, rfl, rfl, rfl, rfl, rfl, rfl, rfl, rfl, rfl, rfl, rfl, rfl, trivial⟩, hm10.sub _ ⟨rfl, rfl, rfl, rfl, rfl, trivial⟩⟩
    case st1e_8_2 =>
     refine st_alloc he11 hm5 5 rfl ⟨rfl, rfl, rfl, trivial⟩ rfl rfl _ rfl (.agg #[.int .i64 0, .int .i64 0, .int .i64 0, .int .i64 0]) (fun w => by kernel_rfl) (#[.int .i64 (0), .int .i64 (0), .int .i64 (0), .int .i64 (0)]) rfl (fun _ => ⟨rfl, rfl, rfl, trivial⟩) (fun a12 w6 b5 he12 hm6 => ?_)
     refine wpAnyH_ready (fuel := 8) (rs := [7, 12]) ?hr1e_39 (by simp) (AllReadyH.cons (o := ?o1e_39_0) ?hi1e_39_0 ?st1e_39_0 (AllReadyH.cons (o := ?o1e_39_1) ?hi1e_39_1 ?st1e_39_1 AllReadyH.nil))
     case hr1e_39 => kernel_rfl
     case hi1e_39_0 => rw [List.getElem?_toArray]; rfl
     case hi1e_39_1 => rw [List.getElem?_toArray]; rfl
     case st1e_39_0 =>
      refine st_call he12 hm6 ⟨rfl, rfl, rfl, trivial⟩ rfl rfl _ #[.int .i64 ((r).op), .agg (#[.int .i64 (wa), .int .i64 (wb), .int .i64 (wc), .int .i64 (wd)]), .agg (#[.int .i64 ((r).num), .int .i64 ((r).num), .int .i64 ((r).num), .int .i64 (0)]), .bool (hl)] (enter_call _ _ _ rfl 49 #[] #[] rfl #[.int .i64 ((r).op), .agg (#[.int .i64 (wa), .int .i64 (wb), .int .i64 (wc), .int .i64 (wd)]), .agg (#[.int .i64 ((r).num), .int .i64 ((r).num), .int .i64 ((r).num), .int .i64 (0)]), .bool (hl)] (map4 (he12.tmp 13 _ rfl) (he12.tmp 14 _ rfl) (he12.tmp 17 _ rfl) (he12.tmp 18 _ rfl)) #[.int .i64 ((r).op), .agg (#[.int .i64 (wa), .int .i64 (wb), .int .i64 (wc), .int .i64 (wd)]), .agg (#[.int .i64 ((r).num), .int .i64 ((r).num), .int .i64 ((r).num), .int .i64 (0)]), .bool (hl)] rfl (fun _ _ => by kernel_rfl)) (.tuple #[.agg (#[.int .i64 (pa), .int .i64 (pb), .int .i64 (pc), .int .i64 (pd)]), .agg (#[.int .i64 (qa), .int .i64 (qb), .int .i64 (qc), .int .i64 (qd)]), .bool (ok)]) (HB _) (fun a13 w7 he13 hm7 => ?_)
      refine tk (fuel := 7) (i := 8) ?_ he13 hm7 ⟨rfl, rfl, rfl, trivial⟩ (.tuple #[.agg (#[.int .i64 (pa), .int .i64 (pb), .int .i64 (pc), .int .i64 (pd)]), .agg (#[.int .i64 (qa), .int .i64 (qb), .int .i64 (qc), .int .i64 (qd)]), .bool (ok)]) ?_ ?_ ?_ ?_ fun a14 he14 => ?_
      rotate_left
      rw [List.getElem?_toArray]; rfl
      exact ⟨by kernel_rfl, by kernel_rfl, by kernel_rfl⟩
      exact ⟨fun _ _ _ _ h => h, rfl, rfl⟩
      exact fun wS hmS => rn_move _ (Or.inl rfl) _ (he13.tmp 19 _ rfl)
      refine tk (fuel := 6) (i := 9) ?_ he14 hm7 ⟨rfl, rfl, rfl, trivial⟩ (.agg (#[.int .i64 (pa), .int .i64 (pb), .int .i64 (pc), .int .i64 (pd)])) ?_ ?_ ?_ ?_ fun a15 he15 => ?_
      rotate_left
      rw [List.getElem?_toArray]; rfl
      exact ⟨by kernel_rfl, by kernel_rfl, by kernel_rfl⟩
      exact ⟨fun _ _ _ _ h => h, rfl, rfl⟩
      exact fun wS hmS => rn_extract _ _ rfl _ (he14.tmp 11 _ rfl) _ rfl
      refine tk (fuel := 5) (i := 10) ?_ he15 hm7 ⟨rfl, rfl, rfl, trivial⟩ (.agg (#[.int .i64 (qa), .int .i64 (qb), .int .i64 (qc), .int .i64 (qd)])) ?_ ?_ ?_ ?_ fun a16 he16 => ?_
      rotate_left
      rw [List.getElem?_toArray]; rfl
      exact ⟨by kernel_rfl, by kernel_rfl, by kernel_rfl⟩
      exact ⟨fun _ _ _ _ h => h, rfl, rfl⟩
      exact fun wS hmS => rn_extract _ _ rfl _ (he15.tmp 11 _ rfl) _ rfl
      refine tk (fuel := 4) (i := 11) ?_ he16 hm7 ⟨rfl, rfl, rfl, trivial⟩ (.bool (ok)) ?_ ?_ ?_ ?_ fun a17 he17 => ?_
      rotate_left
      rw [List.getElem?_toArray]; rfl
      exact ⟨by kernel_rfl, by kernel_rfl, by kernel_rfl⟩
      exact ⟨fun _ _ _ _ h => h, rfl, rfl⟩
      exact fun wS hmS => rn_extract _ _ rfl _ (he16.tmp 11 _ rfl) _ rfl
      refine wpAnyH_ready (fuel := 3) (rs := [12]) ?hr1e_44 (by simp) (AllReadyH.cons (o := ?o1e_44_0) ?hi1e_44_0 ?st1e_44_0 AllReadyH.nil)
      case hr1e_44 => kernel_rfl
      case hi1e_44_0 => rw [List.getElem?_toArray]; rfl
      case st1e_44_0 =>
       refine st_alloc he17 hm7 4 rfl ⟨rfl, rfl, rfl, trivial⟩ rfl rfl _ rfl (.agg #[.int .i64 0, .int .i64 0, .int .i64 0, .int .i64 0]) (fun w => by kernel_rfl) (#[.int .i64 (0), .int .i64 (0), .int .i64 (0), .int .i64 (0)]) rfl (fun _ => ⟨rfl, rfl, rfl, trivial⟩) (fun a18 w8 b4 he18 hm8 => ?_)
       refine wh_store (i := 14) (op := ?op1e_45) (fuel := 2) ?hr1e_45 ?hi1e_45 he18 hm8 4 rfl ?hd1e_45 ?hw1e_45 54 (.tmp 8) (.tmp 20) ?ho1e_45 (0) (he18.tmp 8 _ rfl) _ (he18.tmp 20 _ rfl) 4 agg54.size rfl (by kernel_rfl) (by simp) (#[.int .i64 (pa), .int .i64 (pb), .int .i64 (pc), .int .i64 (pd)]) (by kernel_rfl) ⟨rfl, rfl, rfl, trivial⟩ (fun w9 hm9 => ?k1e_45)
       case hi1e_45 => rw [List.getElem?_toArray]; rfl
       case hw1e_45 => exact rfl
       case hr1e_45 => kernel_rfl
       case hd1e_45 | ho1e_45 => rfl
       refine wh_store (i := 15) (op := ?op1e_46) (fuel := 1) ?hr1e_46 ?hi1e_46 he18 hm9 5 rfl ?hd1e_46 ?hw1e_46 54 (.tmp 9) (.tmp 21) ?ho1e_46 (0) (he18.tmp 9 _ rfl) _ (he18.tmp 21 _ rfl) 4 agg54.size rfl (by kernel_rfl) (by simp) (#[.int .i64 (qa), .int .i64 (qb), .int .i64 (qc), .int .i64 (qd)]) (by kernel_rfl) ⟨rfl, rfl, rfl, trivial⟩ (fun w10 hm10 => ?k1e_46)
       case hi1e_46 => rw [List.getElem?_toArray]; rfl
       case hw1e_46 => exact rfl
       case hr1e_46 => kernel_rfl
       case hd1e_46 | ho1e_46 => rfl
       refine tk (fuel := 0) (i := 16) ?_ he18 hm10 ⟨rfl, rfl, rfl, trivial⟩ (.bool (ok)) ?_ ?_ ?_ ?_ fun a19 he19 => ?_
       rotate_left
       rw [List.getElem?_toArray]; rfl
       exact ⟨by kernel_rfl, by kernel_rfl, by kernel_rfl⟩
       exact ⟨fun _ _ _ _ h => h, rfl, rfl⟩
       exact fun wS hmS => rn_move _ (Or.inr rfl) _ (he18.tmp 22 _ rfl)
       refine wpAnyH_done (by kernel_rfl) ?_ _
       exact ⟨b4, b5, he19.sub _ ⟨rfl, rfl, rfl, rfl, rfl, rfl, rfl, rfl, rfl, rfl, rfl, rfl, rfl, rfl, rfl, rfl, rfl, rfl, rfl, rfl, rfl, rfl, trivial⟩, hm10.sub _ ⟨rfl, rfl, rfl, rfl, rfl, trivial⟩⟩
     case st1e_39_1 =>
      refine st_alloc he12 hm6 4 rfl ⟨rfl, rfl, rfl, trivial⟩ rfl rfl _ rfl (.agg #[.int .i64 0, .int .i64 0, .int .i64 0, .int .i64 0]) (fun w => by kernel_rfl) (#[.int .i64 (0), .int .i64 (0), .int .i64 (0), .int .i64 (0)]) rfl (fun _ => ⟨rfl, rfl, rfl, trivial⟩) (fun a13 w7 b4 he13 hm7 => ?_)
      refine wpAnyH_ready (fuel := 7) (rs := [7]) ?hr1e_48 (by simp) (AllReadyH.cons (o := ?o1e_48_0) ?hi1e_48_0 ?st1e_48_0 AllReadyH.nil)
      case hr1e_48 => kernel_rfl
      case hi1e_48_0 => rw [List.getElem?_toArray]; rfl
      case st1e_48_0 =>
       refine st_call he13 hm7 ⟨rfl, rfl, rfl, trivial⟩ rfl rfl _ #[.int .i64 ((r).op), .agg (#[.int .i64 (wa), .int .i64 (wb), .int .i64 (wc), .int .i64 (wd)]), .agg (#[.int .i64 ((r).num), .int .i64 ((r).num), .int .i64 ((r).num), .int .i64 (0)]), .bool (hl)] (enter_call _ _ _ rfl 49 #[] #[] rfl #[.int .i64 ((r).op), .agg (#[.int .i64 (wa), .int .i64 (wb), .int .i64 (wc), .int .i64 (wd)]), .agg (#[.int .i64 ((r).num), .int .i64 ((r).num), .int .i64 ((r).num), .int .i64 (0)]), .bool (hl)] (map4 (he13.tmp 13 _ rfl) (he13.tmp 14 _ rfl) (he13.tmp 17 _ rfl) (he13.tmp 18 _ rfl)) #[.int .i64 ((r).op), .agg (#[.int .i64 (wa), .int .i64 (wb), .int .i64 (wc), .int .i64 (wd)]), .agg (#[.int .i64 ((r).num), .int .i64 ((r).num), .int .i64 ((r).num), .int .i64 (0)]), .bool (hl)] rfl (fun _ _ => by kernel_rfl)) (.tuple #[.agg (#[.int .i64 (pa), .int .i64 (pb), .int .i64 (pc), .int .i64 (pd)]), .agg (#[.int .i64 (qa), .int .i64 (qb), .int .i64 (qc), .int .i64 (qd)]), .bool (ok)]) (HB _) (fun a14 w8 he14 hm8 => ?_)
       refine tk (fuel := 6) (i := 8) ?_ he14 hm8 ⟨rfl, rfl, rfl, trivial⟩ (.tuple #[.agg (#[.int .i64 (pa), .int .i64 (pb), .int .i64 (pc), .int .i64 (pd)]), .agg (#[.int .i64 (qa), .int .i64 (qb), .int .i64 (qc), .int .i64 (qd)]), .bool (ok)]) ?_ ?_ ?_ ?_ fun a15 he15 => ?_
       rotate_left
       rw [List.getElem?_toArray]; rfl
       exact ⟨by kernel_rfl, by kernel_rfl, by kernel_rfl⟩
       exact ⟨fun _ _ _ _ h => h, rfl, rfl⟩
       exact fun wS hmS => rn_move _ (Or.inl rfl) _ (he14.tmp 19 _ rfl)
       refine tk (fuel := 5) (i := 9) ?_ he15 hm8 ⟨rfl, rfl, rfl, trivial⟩ (.agg (#[.int .i64 (pa), .int .i64 (pb), .int .i64 (pc), .int .i64 (pd)])) ?_ ?_ ?_ ?_ fun a16 he16 => ?_
       rotate_left
       rw [List.getElem?_toArray]; rfl
       exact ⟨by kernel_rfl, by kernel_rfl, by kernel_rfl⟩
       exact ⟨fun _ _ _ _ h => h, rfl, rfl⟩
       exact fun wS hmS => rn_extract _ _ rfl _ (he15.tmp 11 _ rfl) _ rfl
       refine tk (fuel := 4) (i := 10) ?_ he16 hm8 ⟨rfl, rfl, rfl, trivial⟩ (.agg (#[.int .i64 (qa), .int .i64 (qb), .int .i64 (qc), .int .i64 (qd)])) ?_ ?_ ?_ ?_ fun a17 he17 => ?_
       rotate_left
       rw [List.getElem?_toArray]; rfl
       exact ⟨by kernel_rfl, by kernel_rfl, by kernel_rfl⟩
       exact ⟨fun _ _ _ _ h => h, rfl, rfl⟩
       exact fun wS hmS => rn_extract _ _ rfl _ (he16.tmp 11 _ rfl) _ rfl
       refine tk (fuel := 3) (i := 11) ?_ he17 hm8 ⟨rfl, rfl, rfl, trivial⟩ (.bool (ok)) ?_ ?_ ?_ ?_ fun a18 he18 => ?_
       rotate_left
       rw [List.getElem?_toArray]; rfl
       exact ⟨by kernel_rfl, by kernel_rfl, by kernel_rfl⟩
       exact ⟨fun _ _ _ _ h => h, rfl, rfl⟩
       exact fun wS hmS => rn_extract _ _ rfl _ (he17.tmp 11 _ rfl) _ rfl
       refine wh_store (i := 14) (op := ?op1e_53) (fuel := 2) ?hr1e_53 ?hi1e_53 he18 hm8 4 rfl ?hd1e_53 ?hw1e_53 54 (.tmp 8) (.tmp 20) ?ho1e_53 (0) (he18.tmp 8 _ rfl) _ (he18.tmp 20 _ rfl) 4 agg54.size rfl (by kernel_rfl) (by simp) (#[.int .i64 (pa), .int .i64 (pb), .int .i64 (pc), .int .i64 (pd)]) (by kernel_rfl) ⟨rfl, rfl, rfl, trivial⟩ (fun w9 hm9 => ?k1e_53)
       case hi1e_53 => rw [List.getElem?_toArray]; rfl
       case hw1e_53 => exact rfl
       case hr1e_53 => kernel_rfl
       case hd1e_53 | ho1e_53 => rfl
       refine wh_store (i := 15) (op := ?op1e_54) (fuel := 1) ?hr1e_54 ?hi1e_54 he18 hm9 5 rfl ?hd1e_54 ?hw1e_54 54 (.tmp 9) (.tmp 21) ?ho1e_54 (0) (he18.tmp 9 _ rfl) _ (he18.tmp 21 _ rfl) 4 agg54.size rfl (by kernel_rfl) (by simp) (#[.int .i64 (qa), .int .i64 (qb), .int .i64 (qc), .int .i64 (qd)]) (by kernel_rfl) ⟨rfl, rfl, rfl, trivial⟩ (fun w10 hm10 => ?k1e_54)
       case hi1e_54 => rw [List.getElem?_toArray]; rfl
       case hw1e_54 => exact rfl
       case hr1e_54 => kernel_rfl
       case hd1e_54 | ho1e_54 => rfl
       refine tk (fuel := 0) (i := 16) ?_ he18 hm10 ⟨rfl, rfl, rfl, trivial⟩ (.bool (ok)) ?_ ?_ ?_ ?_ fun a19 he19 => ?_
       rotate_left
       rw [List.getElem?_toArray]; rfl
       exact ⟨by kernel_rfl, by kernel_rfl, by kernel_rfl⟩
       exact ⟨fun _ _ _ _ h => h, rfl, rfl⟩
       exact fun wS hmS => rn_move _ (Or.inr rfl) _ (he18.tmp 22 _ rfl)
       refine wpAnyH_done (by kernel_rfl) ?_ _
       exact ⟨b4, b5, he19.sub _ ⟨rfl, rfl, rfl, rfl, rfl, rfl, rfl, rfl, rfl, rfl, rfl, rfl, rfl, rfl, rfl, rfl, rfl, rfl, rfl, rfl, rfl, rfl, trivial⟩, hm10.sub _ ⟨rfl, rfl, rfl, rfl, rfl, trivial⟩⟩
   case st1e_7_1 =>
    refine st_alloc he10 hm4 4 rfl ⟨rfl, rfl, rfl, trivial⟩ rfl rfl _ rfl (.agg #[.int .i64 0, .int .i64 0, .int .i64 0, .int .i64 0]) (fun w => by kernel_rfl) (#[.int .i64 (0), .int .i64 (0), .int .i64 (0), .int .i64 (0)]) rfl (fun _ => ⟨rfl, rfl, rfl, trivial⟩) (fun a11 w5 b4 he11 hm5 => ?_)
    refine wpAnyH_ready (fuel := 9) (rs := [5, 13]) ?hr1e_56 (by simp) (AllReadyH.cons (o := ?o1e_56_0) ?hi1e_56_0 ?st1e_56_0 (AllReadyH.cons (o := ?o1e_56_1) ?hi1e_56_1 ?st1e_56_1 AllReadyH.nil))
    case hr1e_56 => kernel_rfl
    case hi1e_56_0 => rw [List.getElem?_toArray]; rfl
    case hi1e_56_1 => rw [List.getElem?_toArray]; rfl
    case st1e_56_0 =>
     refine st_call he11 hm5 ⟨rfl, rfl, rfl, trivial⟩ rfl rfl _ #[.int .i64 ((r).num)] (enter_call _ _ _ rfl 50 #[] #[] rfl #[.int .i64 ((r).num)] (map1 (he11.tmp 16 _ rfl)) #[.int .i64 ((r).num)] rfl (fun _ _ => by kernel_rfl)) (.agg (#[.int .i64 ((r).num), .int .i64 ((r).num), .int .i64 ((r).num), .int .i64 (0)])) (c_one _ _) (fun a12 w6 he12 hm6 => ?_)
     refine wpAnyH_ready (fuel := 8) (rs := [7, 13]) ?hr1e_57 (by simp) (AllReadyH.cons (o := ?o1e_57_0) ?hi1e_57_0 ?st1e_57_0 (AllReadyH.cons (o := ?o1e_57_1) ?hi1e_57_1 ?st1e_57_1 AllReadyH.nil))
     case hr1e_57 => kernel_rfl
     case hi1e_57_0 => rw [List.getElem?_toArray]; rfl
     case hi1e_57_1 => rw [List.getElem?_toArray]; rfl
     case st1e_57_0 =>
      refine st_call he12 hm6 ⟨rfl, rfl, rfl, trivial⟩ rfl rfl _ #[.int .i64 ((r).op), .agg (#[.int .i64 (wa), .int .i64 (wb), .int .i64 (wc), .int .i64 (wd)]), .agg (#[.int .i64 ((r).num), .int .i64 ((r).num), .int .i64 ((r).num), .int .i64 (0)]), .bool (hl)] (enter_call _ _ _ rfl 49 #[] #[] rfl #[.int .i64 ((r).op), .agg (#[.int .i64 (wa), .int .i64 (wb), .int .i64 (wc), .int .i64 (wd)]), .agg (#[.int .i64 ((r).num), .int .i64 ((r).num), .int .i64 ((r).num), .int .i64 (0)]), .bool (hl)] (map4 (he12.tmp 13 _ rfl) (he12.tmp 14 _ rfl) (he12.tmp 17 _ rfl) (he12.tmp 18 _ rfl)) #[.int .i64 ((r).op), .agg (#[.int .i64 (wa), .int .i64 (wb), .int .i64 (wc), .int .i64 (wd)]), .agg (#[.int .i64 ((r).num), .int .i64 ((r).num), .int .i64 ((r).num), .int .i64 (0)]), .bool (hl)] rfl (fun _ _ => by kernel_rfl)) (.tuple #[.agg (#[.int .i64 (pa), .int .i64 (pb), .int .i64 (pc), .int .i64 (pd)]), .agg (#[.int .i64 (qa), .int .i64 (qb), .int .i64 (qc), .int .i64 (qd)]), .bool (ok)]) (HB _) (fun a13 w7 he13 hm7 => ?_)
      refine tk (fuel := 7) (i := 8) ?_ he13 hm7 ⟨rfl, rfl, rfl, trivial⟩ (.tuple #[.agg (#[.int .i64 (pa), .int .i64 (pb), .int .i64 (pc), .int .i64 (pd)]), .agg (#[.int .i64 (qa), .int .i64 (qb), .int .i64 (qc), .int .i64 (qd)]), .bool (ok)]) ?_ ?_ ?_ ?_ fun a14 he14 => ?_
      rotate_left
      rw [List.getElem?_toArray]; rfl
      exact ⟨by kernel_rfl, by kernel_rfl, by kernel_rfl⟩
      exact ⟨fun _ _ _ _ h => h, rfl, rfl⟩
      exact fun wS hmS => rn_move _ (Or.inl rfl) _ (he13.tmp 19 _ rfl)
      refine tk (fuel := 6) (i := 9) ?_ he14 hm7 ⟨rfl, rfl, rfl, trivial⟩ (.agg (#[.int .i64 (pa), .int .i64 (pb), .int .i64 (pc), .int .i64 (pd)])) ?_ ?_ ?_ ?_ fun a15 he15 => ?_
      rotate_left
      rw [List.getElem?_toArray]; rfl
      exact ⟨by kernel_rfl, by kernel_rfl, by kernel_rfl⟩
      exact ⟨fun _ _ _ _ h => h, rfl, rfl⟩
      exact fun wS hmS => rn_extract _ _ rfl _ (he14.tmp 11 _ rfl) _ rfl
      refine tk (fuel := 5) (i := 10) ?_ he15 hm7 ⟨rfl, rfl, rfl, trivial⟩ (.agg (#[.int .i64 (qa), .int .i64 (qb), .int .i64 (qc), .int .i64 (qd)])) ?_ ?_ ?_ ?_ fun a16 he16 => ?_
      rotate_left
      rw [List.getElem?_toArray]; rfl
      exact ⟨by kernel_rfl, by kernel_rfl, by kernel_rfl⟩
      exact ⟨fun _ _ _ _ h => h, rfl, rfl⟩
      exact fun wS hmS => rn_extract _ _ rfl _ (he15.tmp 11 _ rfl) _ rfl
      refine tk (fuel := 4) (i := 11) ?_ he16 hm7 ⟨rfl, rfl, rfl, trivial⟩ (.bool (ok)) ?_ ?_ ?_ ?_ fun a17 he17 => ?_
      rotate_left
      rw [List.getElem?_toArray]; rfl
      exact ⟨by kernel_rfl, by kernel_rfl, by kernel_rfl⟩
      exact ⟨fun _ _ _ _ h => h, rfl, rfl⟩
      exact fun wS hmS => rn_extract _ _ rfl _ (he16.tmp 11 _ rfl) _ rfl
      refine wpAnyH_ready (fuel := 3) (rs := [13]) ?hr1e_62 (by simp) (AllReadyH.cons (o := ?o1e_62_0) ?hi1e_62_0 ?st1e_62_0 AllReadyH.nil)
      case hr1e_62 => kernel_rfl
      case hi1e_62_0 => rw [List.getElem?_toArray]; rfl
      case st1e_62_0 =>
       refine st_alloc he17 hm7 5 rfl ⟨rfl, rfl, rfl, trivial⟩ rfl rfl _ rfl (.agg #[.int .i64 0, .int .i64 0, .int .i64 0, .int .i64 0]) (fun w => by kernel_rfl) (#[.int .i64 (0), .int .i64 (0), .int .i64 (0), .int .i64 (0)]) rfl (fun _ => ⟨rfl, rfl, rfl, trivial⟩) (fun a18 w8 b5 he18 hm8 => ?_)
       refine wh_store (i := 14) (op := ?op1e_63) (fuel := 2) ?hr1e_63 ?hi1e_63 he18 hm8 4 rfl ?hd1e_63 ?hw1e_63 54 (.tmp 8) (.tmp 20) ?ho1e_63 (0) (he18.tmp 8 _ rfl) _ (he18.tmp 20 _ rfl) 4 agg54.size rfl (by kernel_rfl) (by simp) (#[.int .i64 (pa), .int .i64 (pb), .int .i64 (pc), .int .i64 (pd)]) (by kernel_rfl) ⟨rfl, rfl, rfl, trivial⟩ (fun w9 hm9 => ?k1e_63)
       case hi1e_63 => rw [List.getElem?_toArray]; rfl
       case hw1e_63 => exact rfl
       case hr1e_63 => kernel_rfl
       case hd1e_63 | ho1e_63 => rfl
       refine wh_store (i := 15) (op := ?op1e_64) (fuel := 1) ?hr1e_64 ?hi1e_64 he18 hm9 5 rfl ?hd1e_64 ?hw1e_64 54 (.tmp 9) (.tmp 21) ?ho1e_64 (0) (he18.tmp 9 _ rfl) _ (he18.tmp 21 _ rfl) 4 agg54.size rfl (by kernel_rfl) (by simp) (#[.int .i64 (qa), .int .i64 (qb), .int .i64 (qc), .int .i64 (qd)]) (by kernel_rfl) ⟨rfl, rfl, rfl, trivial⟩ (fun w10 hm10 => ?k1e_64)
       case hi1e_64 => rw [List.getElem?_toArray]; rfl
       case hw1e_64 => exact rfl
       case hr1e_64 => kernel_rfl
       case hd1e_64 | ho1e_64 => rfl
       refine tk (fuel := 0) (i := 16) ?_ he18 hm10 ⟨rfl, rfl, rfl, trivial⟩ (.bool (ok)) ?_ ?_ ?_ ?_ fun a19 he19 => ?_
       rotate_left
       rw [List.getElem?_toArray]; rfl
       exact ⟨by kernel_rfl, by kernel_rfl, by kernel_rfl⟩
       exact ⟨fun _ _ _ _ h => h, rfl, rfl⟩
       exact fun wS hmS => rn_move _ (Or.inr rfl) _ (he18.tmp 22 _ rfl)
       refine wpAnyH_done (by kernel_rfl) ?_ _
       exact ⟨b4, b5, he19.sub _ ⟨rfl, rfl, rfl, rfl, rfl, rfl, rfl, rfl, rfl, rfl, rfl, rfl, rfl, rfl, rfl, rfl, rfl, rfl, rfl, rfl, rfl, rfl, trivial⟩, hm10.sub _ ⟨rfl, rfl, rfl, rfl, rfl, trivial⟩⟩
     case st1e_57_1 =>
      refine st_alloc he12 hm6 5 rfl ⟨rfl, rfl, rfl, trivial⟩ rfl rfl _ rfl (.agg #[.int .i64 0, .int .i64 0, .int .i64 0, .int .i64 0]) (fun w => by kernel_rfl) (#[.int .i64 (0), .int .i64 (0), .int .i64 (0), .int .i64 (0)]) rfl (fun _ => ⟨rfl, rfl, rfl, trivial⟩) (fun a13 w7 b5 he13 hm7 => ?_)
      refine wpAnyH_ready (fuel := 7) (rs := [7]) ?hr1e_66 (by simp) (AllReadyH.cons (o := ?o1e_66_0) ?hi1e_66_0 ?st1e_66_0 AllReadyH.nil)
      case hr1e_66 => kernel_rfl
      case hi1e_66_0 => rw [List.getElem?_toArray]; rfl
      case st1e_66_0 =>
       refine st_call he13 hm7 ⟨rfl, rfl, rfl, trivial⟩ rfl rfl _ #[.int .i64 ((r).op), .agg (#[.int .i64 (wa), .int .i64 (wb), .int .i64 (wc), .int .i64 (wd)]), .agg (#[.int .i64 ((r).num), .int .i64 ((r).num), .int .i64 ((r).num), .int .i64 (0)]), .bool (hl)] (enter_call _ _ _ rfl 49 #[] #[] rfl #[.int .i64 ((r).op), .agg (#[.int .i64 (wa), .int .i64 (wb), .int .i64 (wc), .int .i64 (wd)]), .agg (#[.int .i64 ((r).num), .int .i64 ((r).num), .int .i64 ((r).num), .int .i64 (0)]), .bool (hl)] (map4 (he13.tmp 13 _ rfl) (he13.tmp 14 _ rfl) (he13.tmp 17 _ rfl) (he13.tmp 18 _ rfl)) #[.int .i64 ((r).op), .agg (#[.int .i64 (wa), .int .i64 (wb), .int .i64 (wc), .int .i64 (wd)]), .agg (#[.int .i64 ((r).num), .int .i64 ((r).num), .int .i64 ((r).num), .int .i64 (0)]), .bool (hl)] rfl (fun _ _ => by kernel_rfl)) (.tuple #[.agg (#[.int .i64 (pa), .int .i64 (pb), .int .i64 (pc), .int .i64 (pd)]), .agg (#[.int .i64 (qa), .int .i64 (qb), .int .i64 (qc), .int .i64 (qd)]), .bool (ok)]) (HB _) (fun a14 w8 he14 hm8 => ?_)
       refine tk (fuel := 6) (i := 8) ?_ he14 hm8 ⟨rfl, rfl, rfl, trivial⟩ (.tuple #[.agg (#[.int .i64 (pa), .int .i64 (pb), .int .i64 (pc), .int .i64 (pd)]), .agg (#[.int .i64 (qa), .int .i64 (qb), .int .i64 (qc), .int .i64 (qd)]), .bool (ok)]) ?_ ?_ ?_ ?_ fun a15 he15 => ?_
       rotate_left
       rw [List.getElem?_toArray]; rfl
       exact ⟨by kernel_rfl, by kernel_rfl, by kernel_rfl⟩
       exact ⟨fun _ _ _ _ h => h, rfl, rfl⟩
       exact fun wS hmS => rn_move _ (Or.inl rfl) _ (he14.tmp 19 _ rfl)
       refine tk (fuel := 5) (i := 9) ?_ he15 hm8 ⟨rfl, rfl, rfl, trivial⟩ (.agg (#[.int .i64 (pa), .int .i64 (pb), .int .i64 (pc), .int .i64 (pd)])) ?_ ?_ ?_ ?_ fun a16 he16 => ?_
       rotate_left
       rw [List.getElem?_toArray]; rfl
       exact ⟨by kernel_rfl, by kernel_rfl, by kernel_rfl⟩
       exact ⟨fun _ _ _ _ h => h, rfl, rfl⟩
       exact fun wS hmS => rn_extract _ _ rfl _ (he15.tmp 11 _ rfl) _ rfl
       refine tk (fuel := 4) (i := 10) ?_ he16 hm8 ⟨rfl, rfl, rfl, trivial⟩ (.agg (#[.int .i64 (qa), .int .i64 (qb), .int .i64 (qc), .int .i64 (qd)])) ?_ ?_ ?_ ?_ fun a17 he17 => ?_
       rotate_left
       rw [List.getElem?_toArray]; rfl
       exact ⟨by kernel_rfl, by kernel_rfl, by kernel_rfl⟩
       exact ⟨fun _ _ _ _ h => h, rfl, rfl⟩
       exact fun wS hmS => rn_extract _ _ rfl _ (he16.tmp 11 _ rfl) _ rfl
       refine tk (fuel := 3) (i := 11) ?_ he17 hm8 ⟨rfl, rfl, rfl, trivial⟩ (.bool (ok)) ?_ ?_ ?_ ?_ fun a18 he18 => ?_
       rotate_left
       rw [List.getElem?_toArray]; rfl
       exact ⟨by kernel_rfl, by kernel_rfl, by kernel_rfl⟩
       exact ⟨fun _ _ _ _ h => h, rfl, rfl⟩
       exact fun wS hmS => rn_extract _ _ rfl _ (he17.tmp 11 _ rfl) _ rfl
       refine wh_store (i := 14) (op := ?op1e_71) (fuel := 2) ?hr1e_71 ?hi1e_71 he18 hm8 4 rfl ?hd1e_71 ?hw1e_71 54 (.tmp 8) (.tmp 20) ?ho1e_71 (0) (he18.tmp 8 _ rfl) _ (he18.tmp 20 _ rfl) 4 agg54.size rfl (by kernel_rfl) (by simp) (#[.int .i64 (pa), .int .i64 (pb), .int .i64 (pc), .int .i64 (pd)]) (by kernel_rfl) ⟨rfl, rfl, rfl, trivial⟩ (fun w9 hm9 => ?k1e_71)
       case hi1e_71 => rw [List.getElem?_toArray]; rfl
       case hw1e_71 => exact rfl
       case hr1e_71 => kernel_rfl
       case hd1e_71 | ho1e_71 => rfl
       refine wh_store (i := 15) (op := ?op1e_72) (fuel := 1) ?hr1e_72 ?hi1e_72 he18 hm9 5 rfl ?hd1e_72 ?hw1e_72 54 (.tmp 9) (.tmp 21) ?ho1e_72 (0) (he18.tmp 9 _ rfl) _ (he18.tmp 21 _ rfl) 4 agg54.size rfl (by kernel_rfl) (by simp) (#[.int .i64 (qa), .int .i64 (qb), .int .i64 (qc), .int .i64 (qd)]) (by kernel_rfl) ⟨rfl, rfl, rfl, trivial⟩ (fun w10 hm10 => ?k1e_72)
       case hi1e_72 => rw [List.getElem?_toArray]; rfl
       case hw1e_72 => exact rfl
       case hr1e_72 => kernel_rfl
       case hd1e_72 | ho1e_72 => rfl
       refine tk (fuel := 0) (i := 16) ?_ he18 hm10 ⟨rfl, rfl, rfl, trivial⟩ (.bool (ok)) ?_ ?_ ?_ ?_ fun a19 he19 => ?_
       rotate_left
       rw [List.getElem?_toArray]; rfl
       exact ⟨by kernel_rfl, by kernel_rfl, by kernel_rfl⟩
       exact ⟨fun _ _ _ _ h => h, rfl, rfl⟩
       exact fun wS hmS => rn_move _ (Or.inr rfl) _ (he18.tmp 22 _ rfl)
       refine wpAnyH_done (by kernel_rfl) ?_ _
       exact ⟨b4, b5, he19.sub _ ⟨rfl, rfl, rfl, rfl, rfl, rfl, rfl, rfl, rfl, rfl, rfl, rfl, rfl, rfl, rfl, rfl, rfl, rfl, rfl, rfl, rfl, rfl, trivial⟩, hm10.sub _ ⟨rfl, rfl, rfl, rfl, rfl, trivial⟩⟩
    case st1e_56_1 =>
     refine st_alloc he11 hm5 5 rfl ⟨rfl, rfl, rfl, trivial⟩ rfl rfl _ rfl (.agg #[.int .i64 0, .int .i64 0, .int .i64 0, .int .i64 0]) (fun w => by kernel_rfl) (#[.int .i64 (0), .int .i64 (0), .int .i64 (0), .int .i64 (0)]) rfl (fun _ => ⟨rfl, rfl, rfl, trivial⟩) (fun a12 w6 b5 he12 hm6 => ?_)
     refine wpAnyH_ready (fuel := 8) (rs := [5]) ?hr1e_74 (by simp) (AllReadyH.cons (o := ?o1e_74_0) ?hi1e_74_0 ?st1e_74_0 AllReadyH.nil)
     case hr1e_74 => kernel_rfl
     case hi1e_74_0 => rw [List.getElem?_toArray]; rfl
     case st1e_74_0 =>
      refine st_call he12 hm6 ⟨rfl, rfl, rfl, trivial⟩ rfl rfl _ #[.int .i64 ((r).num)] (enter_call _ _ _ rfl 50 #[] #[] rfl #[.int .i64 ((r).num)] (map1 (he12.tmp 16 _ rfl)) #[.int .i64 ((r).num)] rfl (fun _ _ => by kernel_rfl)) (.agg (#[.int .i64 ((r).num), .int .i64 ((r).num), .int .i64 ((r).num), .int .i64 (0)])) (c_one _ _) (fun a13 w7 he13 hm7 => ?_)
      refine wpAnyH_ready (fuel := 7) (rs := [7]) ?hr1e_75 (by simp) (AllReadyH.cons (o := ?o1e_75_0) ?hi1e_75_0 ?st1e_75_0 AllReadyH.nil)
      case hr1e_75 => kernel_rfl
      case hi1e_75_0 => rw [List.getElem?_toArray]; rfl
      case st1e_75_0 =>
       refine st_call he13 hm7 ⟨rfl, rfl, rfl, trivial⟩ rfl rfl _ #[.int .i64 ((r).op), .agg (#[.int .i64 (wa), .int .i64 (wb), .int .i64 (wc), .int .i64 (wd)]), .agg (#[.int .i64 ((r).num), .int .i64 ((r).num), .int .i64 ((r).num), .int .i64 (0)]), .bool (hl)] (enter_call _ _ _ rfl 49 #[] #[] rfl #[.int .i64 ((r).op), .agg (#[.int .i64 (wa), .int .i64 (wb), .int .i64 (wc), .int .i64 (wd)]), .agg (#[.int .i64 ((r).num), .int .i64 ((r).num), .int .i64 ((r).num), .int .i64 (0)]), .bool (hl)] (map4 (he13.tmp 13 _ rfl) (he13.tmp 14 _ rfl) (he13.tmp 17 _ rfl) (he13.tmp 18 _ rfl)) #[.int .i64 ((r).op), .agg (#[.int .i64 (wa), .int .i64 (wb), .int .i64 (wc), .int .i64 (wd)]), .agg (#[.int .i64 ((r).num), .int .i64 ((r).num), .int .i64 ((r).num), .int .i64 (0)]), .bool (hl)] rfl (fun _ _ => by kernel_rfl)) (.tuple #[.agg (#[.int .i64 (pa), .int .i64 (pb), .int .i64 (pc), .int .i64 (pd)]), .agg (#[.int .i64 (qa), .int .i64 (qb), .int .i64 (qc), .int .i64 (qd)]), .bool (ok)]) (HB _) (fun a14 w8 he14 hm8 => ?_)
       refine tk (fuel := 6) (i := 8) ?_ he14 hm8 ⟨rfl, rfl, rfl, trivial⟩ (.tuple #[.agg (#[.int .i64 (pa), .int .i64 (pb), .int .i64 (pc), .int .i64 (pd)]), .agg (#[.int .i64 (qa), .int .i64 (qb), .int .i64 (qc), .int .i64 (qd)]), .bool (ok)]) ?_ ?_ ?_ ?_ fun a15 he15 => ?_
       rotate_left
       rw [List.getElem?_toArray]; rfl
       exact ⟨by kernel_rfl, by kernel_rfl, by kernel_rfl⟩
       exact ⟨fun _ _ _ _ h => h, rfl, rfl⟩
       exact fun wS hmS => rn_move _ (Or.inl rfl) _ (he14.tmp 19 _ rfl)
       refine tk (fuel := 5) (i := 9) ?_ he15 hm8 ⟨rfl, rfl, rfl, trivial⟩ (.agg (#[.int .i64 (pa), .int .i64 (pb), .int .i64 (pc), .int .i64 (pd)])) ?_ ?_ ?_ ?_ fun a16 he16 => ?_
       rotate_left
       rw [List.getElem?_toArray]; rfl
       exact ⟨by kernel_rfl, by kernel_rfl, by kernel_rfl⟩
       exact ⟨fun _ _ _ _ h => h, rfl, rfl⟩
       exact fun wS hmS => rn_extract _ _ rfl _ (he15.tmp 11 _ rfl) _ rfl
       refine tk (fuel := 4) (i := 10) ?_ he16 hm8 ⟨rfl, rfl, rfl, trivial⟩ (.agg (#[.int .i64 (qa), .int .i64 (qb), .int .i64 (qc), .int .i64 (qd)])) ?_ ?_ ?_ ?_ fun a17 he17 => ?_
       rotate_left
       rw [List.getElem?_toArray]; rfl
       exact ⟨by kernel_rfl, by kernel_rfl, by kernel_rfl⟩
       exact ⟨fun _ _ _ _ h => h, rfl, rfl⟩
       exact fun wS hmS => rn_extract _ _ rfl _ (he16.tmp 11 _ rfl) _ rfl
       refine tk (fuel := 3) (i := 11) ?_ he17 hm8 ⟨rfl, rfl, rfl, trivial⟩ (.bool (ok)) ?_ ?_ ?_ ?_ fun a18 he18 => ?_
       rotate_left
       rw [List.getElem?_toArray]; rfl
       exact ⟨by kernel_rfl, by kernel_rfl, by kernel_rfl⟩
       exact ⟨fun _ _ _ _ h => h, rfl, rfl⟩
       exact fun wS hmS => rn_extract _ _ rfl _ (he17.tmp 11 _ rfl) _ rfl
       refine wh_store (i := 14) (op := ?op1e_80) (fuel := 2) ?hr1e_80 ?hi1e_80 he18 hm8 4 rfl ?hd1e_80 ?hw1e_80 54 (.tmp 8) (.tmp 20) ?ho1e_80 (0) (he18.tmp 8 _ rfl) _ (he18.tmp 20 _ rfl) 4 agg54.size rfl (by kernel_rfl) (by simp) (#[.int .i64 (pa), .int .i64 (pb), .int .i64 (pc), .int .i64 (pd)]) (by kernel_rfl) ⟨rfl, rfl, rfl, trivial⟩ (fun w9 hm9 => ?k1e_80)
       case hi1e_80 => rw [List.getElem?_toArray]; rfl
       case hw1e_80 => exact rfl
       case hr1e_80 => kernel_rfl
       case hd1e_80 | ho1e_80 => rfl
       refine wh_store (i := 15) (op := ?op1e_81) (fuel := 1) ?hr1e_81 ?hi1e_81 he18 hm9 5 rfl ?hd1e_81 ?hw1e_81 54 (.tmp 9) (.tmp 21) ?ho1e_81 (0) (he18.tmp 9 _ rfl) _ (he18.tmp 21 _ rfl) 4 agg54.size rfl (by kernel_rfl) (by simp) (#[.int .i64 (qa), .int .i64 (qb), .int .i64 (qc), .int .i64 (qd)]) (by kernel_rfl) ⟨rfl, rfl, rfl, trivial⟩ (fun w10 hm10 => ?k1e_81)
       case hi1e_81 => rw [List.getElem?_toArray]; rfl
       case hw1e_81 => exact rfl
       case hr1e_81 => kernel_rfl
       case hd1e_81 | ho1e_81 => rfl
       refine tk (fuel := 0) (i := 16) ?_ he18 hm10 ⟨rfl, rfl, rfl, trivial⟩ (.bool (ok)) ?_ ?_ ?_ ?_ fun a19 he19 => ?_
       rotate_left
       rw [List.getElem?_toArray]; rfl
       exact ⟨by kernel_rfl, by kernel_rfl, by kernel_rfl⟩
       exact ⟨fun _ _ _ _ h => h, rfl, rfl⟩
       exact fun wS hmS => rn_move _ (Or.inr rfl) _ (he18.tmp 22 _ rfl)
       refine wpAnyH_done (by kernel_rfl) ?_ _
       exact ⟨b4, b5, he19.sub _ ⟨rfl, rfl, rfl, rfl, rfl, rfl, rfl, rfl, rfl, rfl, rfl, rfl, rfl, rfl, rfl, rfl, rfl, rfl, rfl, rfl, rfl, rfl, trivial⟩, hm10.sub _ ⟨rfl, rfl, rfl, rfl, rfl, trivial⟩⟩
   case st1e_7_2 =>
    refine st_alloc he10 hm4 5 rfl ⟨rfl, rfl, rfl, trivial⟩ rfl rfl _ rfl (.agg #[.int .i64 0, .int .i64 0, .int .i64 0, .int .i64 0]) (fun w => by kernel_rfl) (#[.int .i64 (0), .int .i64 (0), .int .i64 (0), .int .i64 (0)]) rfl (fun _ => ⟨rfl, rfl, rfl, trivial⟩) (fun a11 w5 b5 he11 hm5 => ?_)
    refine wpAnyH_ready (fuel := 9) (rs := [5, 12]) ?hr1e_83 (by simp) (AllReadyH.cons (o := ?o1e_83_0) ?hi1e_83_0 ?st1e_83_0 (AllReadyH.cons (o := ?o1e_83_1) ?hi1e_83_1 ?st1e_83_1 AllReadyH.nil))
    case hr1e_83 => kernel_rfl
    case hi1e_83_0 => rw [List.getElem?_toArray]; rfl
    case hi1e_83_1 => rw [List.getElem?_toArray]; rfl
    case st1e_83_0 =>
     refine st_call he11 hm5 ⟨rfl, rfl, rfl, trivial⟩ rfl rfl _ #[.int .i64 ((r).num)] (enter_call _ _ _ rfl 50 #[] #[] rfl #[.int .i64 ((r).num)] (map1 (he11.tmp 16 _ rfl)) #[.int .i64 ((r).num)] rfl (fun _ _ => by kernel_rfl)) (.agg (#[.int .i64 ((r).num), .int .i64 ((r).num), .int .i64 ((r).num), .int .i64 (0)])) (c_one _ _) (fun a12 w6 he12 hm6 => ?_)
     refine wpAnyH_ready (fuel := 8) (rs := [7, 12]) ?hr1e_84 (by simp) (AllReadyH.cons (o := ?o1e_84_0) ?hi1e_84_0 ?st1e_84_0 (AllReadyH.cons (o := ?o1e_84_1) ?hi1e_84_1 ?st1e_84_1 AllReadyH.nil))
     case hr1e_84 => kernel_rfl
     case hi1e_84_0 => rw [List.getElem?_toArray]; rfl
     case hi1e_84_1 => rw [List.getElem?_toArray]; rfl
     case st1e_84_0 =>
      refine st_call he12 hm6 ⟨rfl, rfl, rfl, trivial⟩ rfl rfl _ #[.int .i64 ((r).op), .agg (#[.int .i64 (wa), .int .i64 (wb), .int .i64 (wc), .int .i64 (wd)]), .agg (#[.int .i64 ((r).num), .int .i64 ((r).num), .int .i64 ((r).num), .int .i64 (0)]), .bool (hl)] (enter_call _ _ _ rfl 49 #[] #[] rfl #[.int .i64 ((r).op), .agg (#[.int .i64 (wa), .int .i64 (wb), .int .i64 (wc), .int .i64 (wd)]), .agg (#[.int .i64 ((r).num), .int .i64 ((r).num), .int .i64 ((r).num), .int .i64 (0)]), .bool (hl)] (map4 (he12.tmp 13 _ rfl) (he12.tmp 14 _ rfl) (he12.tmp 17 _ rfl) (he12.tmp 18 _ rfl)) #[.int .i64 ((r).op), .agg (#[.int .i64 (wa), .int .i64 (wb), .int .i64 (wc), .int .i64 (wd)]), .agg (#[.int .i64 ((r).num), .int .i64 ((r).num), .int .i64 ((r).num), .int .i64 (0)]), .bool (hl)] rfl (fun _ _ => by kernel_rfl)) (.tuple #[.agg (#[.int .i64 (pa), .int .i64 (pb), .int .i64 (pc), .int .i64 (pd)]), .agg (#[.int .i64 (qa), .int .i64 (qb), .int .i64 (qc), .int .i64 (qd)]), .bool (ok)]) (HB _) (fun a13 w7 he13 hm7 => ?_)
      refine tk (fuel := 7) (i := 8) ?_ he13 hm7 ⟨rfl, rfl, rfl, trivial⟩ (.tuple #[.agg (#[.int .i64 (pa), .int .i64 (pb), .int .i64 (pc), .int .i64 (pd)]), .agg (#[.int .i64 (qa), .int .i64 (qb), .int .i64 (qc), .int .i64 (qd)]), .bool (ok)]) ?_ ?_ ?_ ?_ fun a14 he14 => ?_
      rotate_left
      rw [List.getElem?_toArray]; rfl
      exact ⟨by kernel_rfl, by kernel_rfl, by kernel_rfl⟩
      exact ⟨fun _ _ _ _ h => h, rfl, rfl⟩
      exact fun wS hmS => rn_move _ (Or.inl rfl) _ (he13.tmp 19 _ rfl)
      refine tk (fuel := 6) (i := 9) ?_ he14 hm7 ⟨rfl, rfl, rfl, trivial⟩ (.agg (#[.int .i64 (pa), .int .i64 (pb), .int .i64 (pc), .int .i64 (pd)])) ?_ ?_ ?_ ?_ fun a15 he15 => ?_
      rotate_left
      rw [List.getElem?_toArray]; rfl
      exact ⟨by kernel_rfl, by kernel_rfl, by kernel_rfl⟩
      exact ⟨fun _ _ _ _ h => h, rfl, rfl⟩
      exact fun wS hmS => rn_extract _ _ rfl _ (he14.tmp 11 _ rfl) _ rfl
      refine tk (fuel := 5) (i := 10) ?_ he15 hm7 ⟨rfl, rfl, rfl, trivial⟩ (.agg (#[.int .i64 (qa), .int .i64 (qb), .int .i64 (qc), .int .i64 (qd)])) ?_ ?_ ?_ ?_ fun a16 he16 => ?_
      rotate_left
      rw [List.getElem?_toArray]; rfl
      exact ⟨by kernel_rfl, by kernel_rfl, by kernel_rfl⟩
      exact ⟨fun _ _ _ _ h => h, rfl, rfl⟩
      exact fun wS hmS => rn_extract _ _ rfl _ (he15.tmp 11 _ rfl) _ rfl
      refine tk (fuel := 4) (i := 11) ?_ he16 hm7 ⟨rfl, rfl, rfl, trivial⟩ (.bool (ok)) ?_ ?_ ?_ ?_ fun a17 he17 => ?_
      rotate_left
      rw [List.getElem?_toArray]; rfl
      exact ⟨by kernel_rfl, by kernel_rfl, by kernel_rfl⟩
      exact ⟨fun _ _ _ _ h => h, rfl, rfl⟩
      exact fun wS hmS => rn_extract _ _ rfl _ (he16.tmp 11 _ rfl) _ rfl
      refine wpAnyH_ready (fuel := 3) (rs := [12]) ?hr1e_89 (by simp) (AllReadyH.cons (o := ?o1e_89_0) ?hi1e_89_0 ?st1e_89_0 AllReadyH.nil)
      case hr1e_89 => kernel_rfl
      case hi1e_89_0 => rw [List.getElem?_toArray]; rfl
      case st1e_89_0 =>
       refine st_alloc he17 hm7 4 rfl ⟨rfl, rfl, rfl, trivial⟩ rfl rfl _ rfl (.agg #[.int .i64 0, .int .i64 0, .int .i64 0, .int .i64 0]) (fun w => by kernel_rfl) (#[.int .i64 (0), .int .i64 (0), .int .i64 (0), .int .i64 (0)]) rfl (fun _ => ⟨rfl, rfl, rfl, trivial⟩) (fun a18 w8 b4 he18 hm8 => ?_)
       refine wh_store (i := 14) (op := ?op1e_90) (fuel := 2) ?hr1e_90 ?hi1e_90 he18 hm8 4 rfl ?hd1e_90 ?hw1e_90 54 (.tmp 8) (.tmp 20) ?ho1e_90 (0) (he18.tmp 8 _ rfl) _ (he18.tmp 20 _ rfl) 4 agg54.size rfl (by kernel_rfl) (by simp) (#[.int .i64 (pa), .int .i64 (pb), .int .i64 (pc), .int .i64 (pd)]) (by kernel_rfl) ⟨rfl, rfl, rfl, trivial⟩ (fun w9 hm9 => ?k1e_90)
       case hi1e_90 => rw [List.getElem?_toArray]; rfl
       case hw1e_90 => exact rfl
       case hr1e_90 => kernel_rfl
       case hd1e_90 | ho1e_90 => rfl
       refine wh_store (i := 15) (op := ?op1e_91) (fuel := 1) ?hr1e_91 ?hi1e_91 he18 hm9 5 rfl ?hd1e_91 ?hw1e_91 54 (.tmp 9) (.tmp 21) ?ho1e_91 (0) (he18.tmp 9 _ rfl) _ (he18.tmp 21 _ rfl) 4 agg54.size rfl (by kernel_rfl) (by simp) (#[.int .i64 (qa), .int .i64 (qb), .int .i64 (qc), .int .i64 (qd)]) (by kernel_rfl) ⟨rfl, rfl, rfl, trivial⟩ (fun w10 hm10 => ?k1e_91)
       case hi1e_91 => rw [List.getElem?_toArray]; rfl
       case hw1e_91 => exact rfl
       case hr1e_91 => kernel_rfl
       case hd1e_91 | ho1e_91 => rfl
       refine tk (fuel := 0) (i := 16) ?_ he18 hm10 ⟨rfl, rfl, rfl, trivial⟩ (.bool (ok)) ?_ ?_ ?_ ?_ fun a19 he19 => ?_
       rotate_left
       rw [List.getElem?_toArray]; rfl
       exact ⟨by kernel_rfl, by kernel_rfl, by kernel_rfl⟩
       exact ⟨fun _ _ _ _ h => h, rfl, rfl⟩
       exact fun wS hmS => rn_move _ (Or.inr rfl) _ (he18.tmp 22 _ rfl)
       refine wpAnyH_done (by kernel_rfl) ?_ _
       exact ⟨b4, b5, he19.sub _ ⟨rfl, rfl, rfl, rfl, rfl, rfl, rfl, rfl, rfl, rfl, rfl, rfl, rfl, rfl, rfl, rfl, rfl, rfl, rfl, rfl, rfl, rfl, trivial⟩, hm10.sub _ ⟨rfl, rfl, rfl, rfl, rfl, trivial⟩⟩
     case st1e_84_1 =>
      refine st_alloc he12 hm6 4 rfl ⟨rfl, rfl, rfl, trivial⟩ rfl rfl _ rfl (.agg #[.int .i64 0, .int .i64 0, .int .i64 0, .int .i64 0]) (fun w => by kernel_rfl) (#[.int .i64 (0), .int .i64 (0), .int .i64 (0), .int .i64 (0)]) rfl (fun _ => ⟨rfl, rfl, rfl, trivial⟩) (fun a13 w7 b4 he13 hm7 => ?_)
      refine wpAnyH_ready (fuel := 7) (rs := [7]) ?hr1e_93 (by simp) (AllReadyH.cons (o := ?o1e_93_0) ?hi1e_93_0 ?st1e_93_0 AllReadyH.nil)
      case hr1e_93 => kernel_rfl
      case hi1e_93_0 => rw [List.getElem?_toArray]; rfl
      case st1e_93_0 =>
       refine st_call he13 hm7 ⟨rfl, rfl, rfl, trivial⟩ rfl rfl _ #[.int .i64 ((r).op), .agg (#[.int .i64 (wa), .int .i64 (wb), .int .i64 (wc), .int .i64 (wd)]), .agg (#[.int .i64 ((r).num), .int .i64 ((r).num), .int .i64 ((r).num), .int .i64 (0)]), .bool (hl)] (enter_call _ _ _ rfl 49 #[] #[] rfl #[.int .i64 ((r).op), .agg (#[.int .i64 (wa), .int .i64 (wb), .int .i64 (wc), .int .i64 (wd)]), .agg (#[.int .i64 ((r).num), .int .i64 ((r).num), .int .i64 ((r).num), .int .i64 (0)]), .bool (hl)] (map4 (he13.tmp 13 _ rfl) (he13.tmp 14 _ rfl) (he13.tmp 17 _ rfl) (he13.tmp 18 _ rfl)) #[.int .i64 ((r).op), .agg (#[.int .i64 (wa), .int .i64 (wb), .int .i64 (wc), .int .i64 (wd)]), .agg (#[.int .i64 ((r).num), .int .i64 ((r).num), .int .i64 ((r).num), .int .i64 (0)]), .bool (hl)] rfl (fun _ _ => by kernel_rfl)) (.tuple #[.agg (#[.int .i64 (pa), .int .i64 (pb), .int .i64 (pc), .int .i64 (pd)]), .agg (#[.int .i64 (qa), .int .i64 (qb), .int .i64 (qc), .int .i64 (qd)]), .bool (ok)]) (HB _) (fun a14 w8 he14 hm8 => ?_)
       refine tk (fuel := 6) (i := 8) ?_ he14 hm8 ⟨rfl, rfl, rfl, trivial⟩ (.tuple #[.agg (#[.int .i64 (pa), .int .i64 (pb), .int .i64 (pc), .int .i64 (pd)]), .agg (#[.int .i64 (qa), .int .i64 (qb), .int .i64 (qc), .int .i64 (qd)]), .bool (ok)]) ?_ ?_ ?_ ?_ fun a15 he15 => ?_
       rotate_left
       rw [List.getElem?_toArray]; rfl
       exact ⟨by kernel_rfl, by kernel_rfl, by kernel_rfl⟩
       exact ⟨fun _ _ _ _ h => h, rfl, rfl⟩
       exact fun wS hmS => rn_move _ (Or.inl rfl) _ (he14.tmp 19 _ rfl)
       refine tk (fuel := 5) (i := 9) ?_ he15 hm8 ⟨rfl, rfl, rfl, trivial⟩ (.agg (#[.int .i64 (pa), .int .i64 (pb), .int .i64 (pc), .int .i64 (pd)])) ?_ ?_ ?_ ?_ fun a16 he16 => ?_
       rotate_left
       rw [List.getElem?_toArray]; rfl
       exact ⟨by kernel_rfl, by kernel_rfl, by kernel_rfl⟩
       exact ⟨fun _ _ _ _ h => h, rfl, rfl⟩
       exact fun wS hmS => rn_extract _ _ rfl _ (he15.tmp 11 _ rfl) _ rfl
       refine tk (fuel := 4) (i := 10) ?_ he16 hm8 ⟨rfl, rfl, rfl, trivial⟩ (.agg (#[.int .i64 (qa), .int .i64 (qb), .int .i64 (qc), .int .i64 (qd)])) ?_ ?_ ?_ ?_ fun a17 he17 => ?_
       rotate_left
       rw [List.getElem?_toArray]; rfl
       exact ⟨by kernel_rfl, by kernel_rfl, by kernel_rfl⟩
       exact ⟨fun _ _ _ _ h => h, rfl, rfl⟩
       exact fun wS hmS => rn_extract _ _ rfl _ (he16.tmp 11 _ rfl) _ rfl
       refine tk (fuel := 3) (i := 11) ?_ he17 hm8 ⟨rfl, rfl, rfl, trivial⟩ (.bool (ok)) ?_ ?_ ?_ ?_ fun a18 he18 => ?_
       rotate_left
       rw [List.getElem?_toArray]; rfl
       exact ⟨by kernel_rfl, by kernel_rfl, by kernel_rfl⟩
       exact ⟨fun _ _ _ _ h => h, rfl, rfl⟩
       exact fun wS hmS => rn_extract _ _ rfl _ (he17.tmp 11 _ rfl) _ rfl
       refine wh_store (i := 14) (op := ?op1e_98) (fuel := 2) ?hr1e_98 ?hi1e_98 he18 hm8 4 rfl ?hd1e_98 ?hw1e_98 54 (.tmp 8) (.tmp 20) ?ho1e_98 (0) (he18.tmp 8 _ rfl) _ (he18.tmp 20 _ rfl) 4 agg54.size rfl (by kernel_rfl) (by simp) (#[.int .i64 (pa), .int .i64 (pb), .int .i64 (pc), .int .i64 (pd)]) (by kernel_rfl) ⟨rfl, rfl, rfl, trivial⟩ (fun w9 hm9 => ?k1e_98)
       case hi1e_98 => rw [List.getElem?_toArray]; rfl
       case hw1e_98 => exact rfl
       case hr1e_98 => kernel_rfl
       case hd1e_98 | ho1e_98 => rfl
       refine wh_store (i := 15) (op := ?op1e_99) (fuel := 1) ?hr1e_99 ?hi1e_99 he18 hm9 5 rfl ?hd1e_99 ?hw1e_99 54 (.tmp 9) (.tmp 21) ?ho1e_99 (0) (he18.tmp 9 _ rfl) _ (he18.tmp 21 _ rfl) 4 agg54.size rfl (by kernel_rfl) (by simp) (#[.int .i64 (qa), .int .i64 (qb), .int .i64 (qc), .int .i64 (qd)]) (by kernel_rfl) ⟨rfl, rfl, rfl, trivial⟩ (fun w10 hm10 => ?k1e_99)
       case hi1e_99 => rw [List.getElem?_toArray]; rfl
       case hw1e_99 => exact rfl
       case hr1e_99 => kernel_rfl
       case hd1e_99 | ho1e_99 => rfl
       refine tk (fuel := 0) (i := 16) ?_ he18 hm10 ⟨rfl, rfl, rfl, trivial⟩ (.bool (ok)) ?_ ?_ ?_ ?_ fun a19 he19 => ?_
       rotate_left
       rw [List.getElem?_toArray]; rfl
       exact ⟨by kernel_rfl, by kernel_rfl, by kernel_rfl⟩
       exact ⟨fun _ _ _ _ h => h, rfl, rfl⟩
       exact fun wS hmS => rn_move _ (Or.inr rfl) _ (he18.tmp 22 _ rfl)
       refine wpAnyH_done (by kernel_rfl) ?_ _
       exact ⟨b4, b5, he19.sub _ ⟨rfl, rfl, rfl, rfl, rfl, rfl, rfl, rfl, rfl, rfl, rfl, rfl, rfl, rfl, rfl, rfl, rfl, rfl, rfl, rfl, rfl, rfl, trivial⟩, hm10.sub _ ⟨rfl, rfl, rfl, rfl, rfl, trivial⟩⟩
    case st1e_83_1 =>
     refine st_alloc he11 hm5 4 rfl ⟨rfl, rfl, rfl, trivial⟩ rfl rfl _ rfl (.agg #[.int .i64 0, .int .i64 0, .int .i64 0, .int .i64 0]) (fun w => by kernel_rfl) (#[.int .i64 (0), .int .i64 (0), .int .i64 (0), .int .i64 (0)]) rfl (fun _ => ⟨rfl, rfl, rfl, trivial⟩) (fun a12 w6 b4 he12 hm6 => ?_)
     refine wpAnyH_ready (fuel := 8) (rs := [5]) ?hr1e_101 (by simp) (AllReadyH.cons (o := ?o1e_101_0) ?hi1e_101_0 ?st1e_101_0 AllReadyH.nil)
     case hr1e_101 => kernel_rfl
     case hi1e_101_0 => rw [List.getElem?_toArray]; rfl
     case st1e_101_0 =>
      refine st_call he12 hm6 ⟨rfl, rfl, rfl, trivial⟩ rfl rfl _ #[.int .i64 ((r).num)] (enter_call _ _ _ rfl 50 #[] #[] rfl #[.int .i64 ((r).num)] (map1 (he12.tmp 16 _ rfl)) #[.int .i64 ((r).num)] rfl (fun _ _ => by kernel_rfl)) (.agg (#[.int .i64 ((r).num), .int .i64 ((r).num), .int .i64 ((r).num), .int .i64 (0)])) (c_one _ _) (fun a13 w7 he13 hm7 => ?_)
      refine wpAnyH_ready (fuel := 7) (rs := [7]) ?hr1e_102 (by simp) (AllReadyH.cons (o := ?o1e_102_0) ?hi1e_102_0 ?st1e_102_0 AllReadyH.nil)
      case hr1e_102 => kernel_rfl
      case hi1e_102_0 => rw [List.getElem?_toArray]; rfl
      case st1e_102_0 =>
       refine st_call he13 hm7 ⟨rfl, rfl, rfl, trivial⟩ rfl rfl _ #[.int .i64 ((r).op), .agg (#[.int .i64 (wa), .int .i64 (wb), .int .i64 (wc), .int .i64 (wd)]), .agg (#[.int .i64 ((r).num), .int .i64 ((r).num), .int .i64 ((r).num), .int .i64 (0)]), .bool (hl)] (enter_call _ _ _ rfl 49 #[] #[] rfl #[.int .i64 ((r).op), .agg (#[.int .i64 (wa), .int .i64 (wb), .int .i64 (wc), .int .i64 (wd)]), .agg (#[.int .i64 ((r).num), .int .i64 ((r).num), .int .i64 ((r).num), .int .i64 (0)]), .bool (hl)] (map4 (he13.tmp 13 _ rfl) (he13.tmp 14 _ rfl) (he13.tmp 17 _ rfl) (he13.tmp 18 _ rfl)) #[.int .i64 ((r).op), .agg (#[.int .i64 (wa), .int .i64 (wb), .int .i64 (wc), .int .i64 (wd)]), .agg (#[.int .i64 ((r).num), .int .i64 ((r).num), .int .i64 ((r).num), .int .i64 (0)]), .bool (hl)] rfl (fun _ _ => by kernel_rfl)) (.tuple #[.agg (#[.int .i64 (pa), .int .i64 (pb), .int .i64 (pc), .int .i64 (pd)]), .agg (#[.int .i64 (qa), .int .i64 (qb), .int .i64 (qc), .int .i64 (qd)]), .bool (ok)]) (HB _) (fun a14 w8 he14 hm8 => ?_)
       refine tk (fuel := 6) (i := 8) ?_ he14 hm8 ⟨rfl, rfl, rfl, trivial⟩ (.tuple #[.agg (#[.int .i64 (pa), .int .i64 (pb), .int .i64 (pc), .int .i64 (pd)]), .agg (#[.int .i64 (qa), .int .i64 (qb), .int .i64 (qc), .int .i64 (qd)]), .bool (ok)]) ?_ ?_ ?_ ?_ fun a15 he15 => ?_
       rotate_left
       rw [List.getElem?_toArray]; rfl
       exact ⟨by kernel_rfl, by kernel_rfl, by kernel_rfl⟩
       exact ⟨fun _ _ _ _ h => h, rfl, rfl⟩
       exact fun wS hmS => rn_move _ (Or.inl rfl) _ (he14.tmp 19 _ rfl)
       refine tk (fuel := 5) (i := 9) ?_ he15 hm8 ⟨rfl, rfl, rfl, trivial⟩ (.agg (#[.int .i64 (pa), .int .i64 (pb), .int .i64 (pc), .int .i64 (pd)])) ?_ ?_ ?_ ?_ fun a16 he16 => ?_
       rotate_left
       rw [List.getElem?_toArray]; rfl
       exact ⟨by kernel_rfl, by kernel_rfl, by kernel_rfl⟩
       exact ⟨fun _ _ _ _ h => h, rfl, rfl⟩
       exact fun wS hmS => rn_extract _ _ rfl _ (he15.tmp 11 _ rfl) _ rfl
       refine tk (fuel := 4) (i := 10) ?_ he16 hm8 ⟨rfl, rfl, rfl, trivial⟩ (.agg (#[.int .i64 (qa), .int .i64 (qb), .int .i64 (qc), .int .i64 (qd)])) ?_ ?_ ?_ ?_ fun a17 he17 => ?_
       rotate_left
       rw [List.getElem?_toArray]; rfl
       exact ⟨by kernel_rfl, by kernel_rfl, by kernel_rfl⟩
       exact ⟨fun _ _ _ _ h => h, rfl, rfl⟩
       exact fun wS hmS => rn_extract _ _ rfl _ (he16.tmp 11 _ rfl) _ rfl
       refine tk (fuel := 3) (i := 11) ?_ he17 hm8 ⟨rfl, rfl, rfl, trivial⟩ (.bool (ok)) ?_ ?_ ?_ ?_ fun a18 he18 => ?_
       rotate_left
       rw [List.getElem?_toArray]; rfl
       exact ⟨by kernel_rfl, by kernel_rfl, by kernel_rfl⟩
       exact ⟨fun _ _ _ _ h => h, rfl, rfl⟩
       exact fun wS hmS => rn_extract _ _ rfl _ (he17.tmp 11 _ rfl) _ rfl
       refine wh_store (i := 14) (op := ?op1e_107) (fuel := 2) ?hr1e_107 ?hi1e_107 he18 hm8 4 rfl ?hd1e_107 ?hw1e_107 54 (.tmp 8) (.tmp 20) ?ho1e_107 (0) (he18.tmp 8 _ rfl) _ (he18.tmp 20 _ rfl) 4 agg54.size rfl (by kernel_rfl) (by simp) (#[.int .i64 (pa), .int .i64 (pb), .int .i64 (pc), .int .i64 (pd)]) (by kernel_rfl) ⟨rfl, rfl, rfl, trivial⟩ (fun w9 hm9 => ?k1e_107)
       case hi1e_107 => rw [List.getElem?_toArray]; rfl
       case hw1e_107 => exact rfl
       case hr1e_107 => kernel_rfl
       case hd1e_107 | ho1e_107 => rfl
       refine wh_store (i := 15) (op := ?op1e_108) (fuel := 1) ?hr1e_108 ?hi1e_108 he18 hm9 5 rfl ?hd1e_108 ?hw1e_108 54 (.tmp 9) (.tmp 21) ?ho1e_108 (0) (he18.tmp 9 _ rfl) _ (he18.tmp 21 _ rfl) 4 agg54.size rfl (by kernel_rfl) (by simp) (#[.int .i64 (qa), .int .i64 (qb), .int .i64 (qc), .int .i64 (qd)]) (by kernel_rfl) ⟨rfl, rfl, rfl, trivial⟩ (fun w10 hm10 => ?k1e_108)
       case hi1e_108 => rw [List.getElem?_toArray]; rfl
       case hw1e_108 => exact rfl
       case hr1e_108 => kernel_rfl
       case hd1e_108 | ho1e_108 => rfl
       refine tk (fuel := 0) (i := 16) ?_ he18 hm10 ⟨rfl, rfl, rfl, trivial⟩ (.bool (ok)) ?_ ?_ ?_ ?_ fun a19 he19 => ?_
       rotate_left
       rw [List.getElem?_toArray]; rfl
       exact ⟨by kernel_rfl, by kernel_rfl, by kernel_rfl⟩
       exact ⟨fun _ _ _ _ h => h, rfl, rfl⟩
       exact fun wS hmS => rn_move _ (Or.inr rfl) _ (he18.tmp 22 _ rfl)
       refine wpAnyH_done (by kernel_rfl) ?_ _
       exact ⟨b4, b5, he19.sub _ ⟨rfl, rfl, rfl, rfl, rfl, rfl, rfl, rfl, rfl, rfl, rfl, rfl, rfl, rfl, rfl, rfl, rfl, rfl, rfl, rfl, rfl, rfl, trivial⟩, hm10.sub _ ⟨rfl, rfl, rfl, rfl, rfl, trivial⟩⟩
  rintro a20 w12 ⟨b4, b5, he20, hm12⟩
  refine then_normal ?_
  refine wp_seqR ?_
  refine wl_val he20 rfl rfl (.agg (#[.int .i64 (pa), .int .i64 (pb), .int .i64 (pc), .int .i64 (pd)])) (rn_loadA hm12 4 rfl _ _ rfl (0) (he20.tmp 8 _ rfl) 4 agg54 (#[.int .i64 (pa), .int .i64 (pb), .int .i64 (pc), .int .i64 (pd)]) rfl rfl) (fun a21 he21 => ?_)
  clear he20
  refine wl_val he21 rfl rfl (.bool (ok)) (rn_move _ (Or.inl rfl) _ (he21.tmp 10 _ rfl)) (fun a22 he22 => ?_)
  clear he21
  refine wl_store he22 hm12 3 rfl rfl rfl _ _ _ rfl (0) (he22.tmp 6 _ rfl) _ (he22.tmp 23 _ rfl) 4 agg54.size rfl (by kernel_rfl) (by simp) (#[.int .i64 (pa), .int .i64 (pb), .int .i64 (pc), .int .i64 (pd)]) (by kernel_rfl) (fun w13 hm13 => ?_)
  clear hm12
  refine wl_val he22 rfl rfl (.bool (ok)) (rn_move _ (Or.inr rfl) _ (he22.tmp 24 _ rfl)) (fun a23 he23 => ?_)
  clear he22
  refine wl_end ?_
  refine wp_ret ?_
  exact bodyPost_ret (results_cell_t he23 hm13 _ _ _ Try.results34 _ rfl 3 rfl 4 agg54 (by first | rfl | assumption) _ rfl) he23.defers ⟨rfl, hm13.below⟩
end Go.Proofs.Ytcopcajleonndaa
