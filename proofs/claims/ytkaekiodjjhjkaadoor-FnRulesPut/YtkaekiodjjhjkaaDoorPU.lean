/- Rules written, by the program. -/
import Derived.Test.YtkaekiodjjhjkaaDoorPU0
import Derived.Test.YtkaekiodjjhjkaaDoorWC
namespace Go.Proofs.YtkaekiodjjhjkaaDoor
open Go.RowKit
set_option linter.unusedVariables false
set_option linter.unusedSimpArgs false
theorem body_yess {r : Ru} (hv : 0 ≤ r.ver) (h : (((r.ver.toNat : Nat) : Int) == 2) = true) : joinB 32 ([⟨#[98, 121, 116, 101]⟩, decS r.at_.toNat, wordS r.op.toNat, decS r.num.toNat, verbS r.ver.toNat] ++ [decS r.key.toNat]) = bodyRu r := by
  have h2 : r.ver = 2 := by have := beq_iff_eq.1 h; omega
  unfold bodyRu wordsOf
  rw [if_pos h2]
theorem body_non {r : Ru} (hv : 0 ≤ r.ver) (h : (((r.ver.toNat : Nat) : Int) == 2) = false) : joinB 32 [⟨#[98, 121, 116, 101]⟩, decS r.at_.toNat, wordS r.op.toNat, decS r.num.toNat, verbS r.ver.toNat] = bodyRu r := by
  have h2 : ¬ r.ver = 2 := by have := beq_eq_false_iff_ne.1 h; omega
  unfold bodyRu wordsOf
  rw [if_neg h2]; rfl
set_option maxRecDepth 100000 in
set_option maxHeartbeats 4000000 in
theorem c_rulePut (r : Ru) (w : World) (hT : TabsR w) (hok : ruOk r = true) :
    Calls Tryd.prog 16 #[.agg (Ru.arr (r))] w fun e w' => e = .returned (.string (bodyRu r)) ∧ Below w.heap.size w w' := by
  refine calls_begin Tryd.func16 rfl 30 rfl (Nat.le_of_ble_eq_true rfl) [(0, .agg (Ru.arr (r)))] ⟨rfl, trivial⟩ (fun a0 he0 hm0 => ?_)
  have hi := ruOk_is hok
  have i1 := hi.at0
  have i2 := hi.at1
  have i3 := hi.op0
  have i4 := hi.op1
  have i5 := hi.num0
  have i6 := hi.num1
  have i7 := hi.ver0
  have i8 := hi.ver1
  have i9 := hi.key0
  have i10 := hi.key1
  refine wp_seqR ?_
  refine wl_box he0 hm0 1 rfl rfl rfl _ _ rfl _ (he0.tmp 0 _ rfl) (Ru.arr (r)) rfl (fun a1 w1 b1 he1 hm1 => ?_)
  clear he0 hm0
  refine wl_val he1 rfl rfl (.string (⟨#[]⟩)) (rn_move _ (Or.inr rfl) _ rfl) (fun a2 he2 => ?_)
  clear he1
  refine wl_end ?_
  refine wp_seq ?_
  refine rg_cut (fun az wz => ∃ (b2 : Nat), EV az 30 [] [(0, .agg (Ru.arr (r))), (1, .pointer (some ⟨b1, 0, none⟩)), (2, .string (⟨#[]⟩)), (4, .pointer (some ⟨b1, 0, none⟩)), (5, .int .i64 ((((r).at_.toNat : Nat) : Int))), (7, .pointer (some ⟨b1, 1, none⟩)), (8, .int .i64 ((((r).op.toNat : Nat) : Int))), (9, .pointer (some ⟨0, 0 + ((r).op.toNat) * 1, none⟩)), (10, .string (wordS ((r).op.toNat))), (11, .pointer (some ⟨b1, 2, none⟩)), (12, .int .i64 ((((r).num.toNat : Nat) : Int))), (14, .pointer (some ⟨b1, 3, none⟩)), (15, .int .i64 ((((r).ver.toNat : Nat) : Int))), (16, .pointer (some ⟨1, 0 + ((r).ver.toNat) * 1, none⟩)), (17, .string (verbS ((r).ver.toNat))), (6, .string (decS ((r).at_.toNat))), (13, .string (decS ((r).num.toNat))), (18, .slice (some ⟨b2, 0, none⟩) (5) (5)), (3, .slice (some ⟨b2, 0, none⟩) (5) (5))] ∧ MM [] w wz [(1, ⟨true, b1, 36, Ru.arr (r)⟩), (2, ⟨true, b2, 9, (cellsOf strA [⟨#[98, 121, 116, 101]⟩, decS ((r).at_.toNat), wordS ((r).op.toNat), decS ((r).num.toNat), verbS ((r).ver.toNat)]).toArray⟩)]) ?tree1_ ?cont1_
  case tree1_ =>
   refine wh_begin (by kernel_rfl) hm1 [(1, ⟨true, b1, 36, Ru.arr (r)⟩)] ⟨rfl, trivial⟩ (fun w2 hm2 => ?_)
   refine tk (fuel := 15) (i := 0) ?_ he2 hm2 ⟨rfl, trivial⟩ (.pointer (some ⟨b1, 0, none⟩)) ?_ ?_ ?_ ?_ fun a3 he3 => ?_
   rotate_left
   rw [List.getElem?_toArray]; rfl
   exact ⟨by kernel_rfl, by kernel_rfl, by kernel_rfl⟩
   exact ⟨fun _ _ _ _ h => h, rfl, rfl⟩
   exact fun wS hmS => rn_field _ _ _ rfl _ (.pointer (some ⟨b1, 0, none⟩)) (he2.tmp 1 _ rfl) (by kernel_rfl)
   refine tk (fuel := 14) (i := 1) ?_ he3 hm2 ⟨rfl, trivial⟩ (.int .i64 ((((r).at_.toNat : Nat) : Int))) ?_ ?_ ?_ ?_ fun a4 he4 => ?_
   rotate_left
   rw [List.getElem?_toArray]; rfl
   exact ⟨by kernel_rfl, by kernel_rfl, by kernel_rfl⟩
   exact ⟨fun _ _ _ _ h => h, rfl, rfl⟩
   exact fun wS hmS => rn_load1 hmS 1 rfl _ _ rfl (0) (he3.tmp 4 _ rfl) one3 _ (Ru.g0 _ hok)
   refine tk (fuel := 13) (i := 3) ?_ he4 hm2 ⟨rfl, trivial⟩ (.pointer (some ⟨b1, 1, none⟩)) ?_ ?_ ?_ ?_ fun a5 he5 => ?_
   rotate_left
   rw [List.getElem?_toArray]; rfl
   exact ⟨by kernel_rfl, by kernel_rfl, by kernel_rfl⟩
   exact ⟨fun _ _ _ _ h => h, rfl, rfl⟩
   exact fun wS hmS => rn_field _ _ _ rfl _ (.pointer (some ⟨b1, 1, none⟩)) (he4.tmp 1 _ rfl) (by kernel_rfl)
   refine tk (fuel := 12) (i := 4) ?_ he5 hm2 ⟨rfl, trivial⟩ (.int .i64 ((((r).op.toNat : Nat) : Int))) ?_ ?_ ?_ ?_ fun a6 he6 => ?_
   rotate_left
   rw [List.getElem?_toArray]; rfl
   exact ⟨by kernel_rfl, by kernel_rfl, by kernel_rfl⟩
   exact ⟨fun _ _ _ _ h => h, rfl, rfl⟩
   exact fun wS hmS => rn_load1 hmS 1 rfl _ _ rfl (1) (he5.tmp 7 _ rfl) one3 _ (Ru.g1 _ hok)
   refine tk (fuel := 11) (i := 5) ?_ he6 hm2 ⟨rfl, trivial⟩ (.pointer (some ⟨0, 0 + ((r).op.toNat) * 1, none⟩)) ?_ ?_ ?_ ?_ fun a7 he7 => ?_
   rotate_left
   rw [List.getElem?_toArray]; rfl
   exact ⟨by kernel_rfl, by kernel_rfl, by kernel_rfl⟩
   exact ⟨fun _ _ _ _ h => h, rfl, rfl⟩
   exact fun wS hmS => rn_indexA _ _ _ rfl _ _ (.pointer (some ⟨0, 0 + ((r).op.toNat) * 1, none⟩)) rfl (he6.tmp 8 _ rfl) (ixA 21 9 1 (by kernel_rfl) (fun w => by kernel_rfl) 0 0 ((r).op.toNat) (by omega) (by decide) _)
   refine tk (fuel := 10) (i := 6) ?_ he7 hm2 ⟨rfl, trivial⟩ (.string (wordS ((r).op.toNat))) ?_ ?_ ?_ ?_ fun a8 he8 => ?_
   rotate_left
   rw [List.getElem?_toArray]; rfl
   exact ⟨by kernel_rfl, by kernel_rfl, by kernel_rfl⟩
   exact ⟨fun _ _ _ _ h => h, rfl, rfl⟩
   exact fun wS hmS => rn_row1 hmS hT.ops (by simp) (((r).op.toNat)) (by omega) 0 (by omega) _ _ rfl (he7.tmp 9 _ rfl) one9 _ rfl
   refine tk (fuel := 9) (i := 7) ?_ he8 hm2 ⟨rfl, trivial⟩ (.pointer (some ⟨b1, 2, none⟩)) ?_ ?_ ?_ ?_ fun a9 he9 => ?_
   rotate_left
   rw [List.getElem?_toArray]; rfl
   exact ⟨by kernel_rfl, by kernel_rfl, by kernel_rfl⟩
   exact ⟨fun _ _ _ _ h => h, rfl, rfl⟩
   exact fun wS hmS => rn_field _ _ _ rfl _ (.pointer (some ⟨b1, 2, none⟩)) (he8.tmp 1 _ rfl) (by kernel_rfl)
   refine tk (fuel := 8) (i := 8) ?_ he9 hm2 ⟨rfl, trivial⟩ (.int .i64 ((((r).num.toNat : Nat) : Int))) ?_ ?_ ?_ ?_ fun a10 he10 => ?_
   rotate_left
   rw [List.getElem?_toArray]; rfl
   exact ⟨by kernel_rfl, by kernel_rfl, by kernel_rfl⟩
   exact ⟨fun _ _ _ _ h => h, rfl, rfl⟩
   exact fun wS hmS => rn_load1 hmS 1 rfl _ _ rfl (2) (he9.tmp 11 _ rfl) one3 _ (Ru.g2 _ hok)
   refine tk (fuel := 7) (i := 10) ?_ he10 hm2 ⟨rfl, trivial⟩ (.pointer (some ⟨b1, 3, none⟩)) ?_ ?_ ?_ ?_ fun a11 he11 => ?_
   rotate_left
   rw [List.getElem?_toArray]; rfl
   exact ⟨by kernel_rfl, by kernel_rfl, by kernel_rfl⟩
   exact ⟨fun _ _ _ _ h => h, rfl, rfl⟩
   exact fun wS hmS => rn_field _ _ _ rfl _ (.pointer (some ⟨b1, 3, none⟩)) (he10.tmp 1 _ rfl) (by kernel_rfl)
   refine tk (fuel := 6) (i := 11) ?_ he11 hm2 ⟨rfl, trivial⟩ (.int .i64 ((((r).ver.toNat : Nat) : Int))) ?_ ?_ ?_ ?_ fun a12 he12 => ?_
   rotate_left
   rw [List.getElem?_toArray]; rfl
   exact ⟨by kernel_rfl, by kernel_rfl, by kernel_rfl⟩
   exact ⟨fun _ _ _ _ h => h, rfl, rfl⟩
   exact fun wS hmS => rn_load1 hmS 1 rfl _ _ rfl (3) (he11.tmp 14 _ rfl) one3 _ (Ru.g3 _ hok)
   refine tk (fuel := 5) (i := 12) ?_ he12 hm2 ⟨rfl, trivial⟩ (.pointer (some ⟨1, 0 + ((r).ver.toNat) * 1, none⟩)) ?_ ?_ ?_ ?_ fun a13 he13 => ?_
   rotate_left
   rw [List.getElem?_toArray]; rfl
   exact ⟨by kernel_rfl, by kernel_rfl, by kernel_rfl⟩
   exact ⟨fun _ _ _ _ h => h, rfl, rfl⟩
   exact fun wS hmS => rn_indexA _ _ _ rfl _ _ (.pointer (some ⟨1, 0 + ((r).ver.toNat) * 1, none⟩)) rfl (he12.tmp 15 _ rfl) (ixA 3 9 1 (by kernel_rfl) (fun w => by kernel_rfl) 1 0 ((r).ver.toNat) (by omega) (by decide) _)
   refine tk (fuel := 4) (i := 13) ?_ he13 hm2 ⟨rfl, trivial⟩ (.string (verbS ((r).ver.toNat))) ?_ ?_ ?_ ?_ fun a14 he14 => ?_
   rotate_left
   rw [List.getElem?_toArray]; rfl
   exact ⟨by kernel_rfl, by kernel_rfl, by kernel_rfl⟩
   exact ⟨fun _ _ _ _ h => h, rfl, rfl⟩
   exact fun wS hmS => rn_row1 hmS hT.verbs (by simp) (((r).ver.toNat)) (by omega) 0 (by omega) _ _ rfl (he13.tmp 16 _ rfl) one9 _ rfl
   refine wpAnyH_ready (fuel := 3) (rs := [2]) ?hr1e_13 (by simp) (AllReadyH.cons (o := ?o1e_13_0) ?hi1e_13_0 ?st1e_13_0 AllReadyH.nil)
   case hr1e_13 => kernel_rfl
   case hi1e_13_0 => rw [List.getElem?_toArray]; rfl
   case st1e_13_0 =>
    refine st_call he14 hm2 ⟨rfl, trivial⟩ rfl rfl _ #[.int .i64 ((((r).at_.toNat : Nat) : Int))] (enter_call _ _ _ rfl 28 #[] #[] rfl #[.int .i64 ((((r).at_.toNat : Nat) : Int))] (map1 (he14.tmp 5 _ rfl)) #[.int .i64 ((((r).at_.toNat : Nat) : Int))] rfl (fun _ _ => by kernel_rfl)) (.string (decS ((r).at_.toNat))) (c_itoa ((r).at_.toNat) _ (hT.kb hm2.keep rfl) (by omega)) (fun a15 w3 he15 hm3 => ?_)
    refine wpAnyH_ready (fuel := 2) (rs := [9]) ?hr1e_14 (by simp) (AllReadyH.cons (o := ?o1e_14_0) ?hi1e_14_0 ?st1e_14_0 AllReadyH.nil)
    case hr1e_14 => kernel_rfl
    case hi1e_14_0 => rw [List.getElem?_toArray]; rfl
    case st1e_14_0 =>
     refine st_call he15 hm3 ⟨rfl, trivial⟩ rfl rfl _ #[.int .i64 ((((r).num.toNat : Nat) : Int))] (enter_call _ _ _ rfl 28 #[] #[] rfl #[.int .i64 ((((r).num.toNat : Nat) : Int))] (map1 (he15.tmp 12 _ rfl)) #[.int .i64 ((((r).num.toNat : Nat) : Int))] rfl (fun _ _ => by kernel_rfl)) (.string (decS ((r).num.toNat))) (c_itoa ((r).num.toNat) _ (hT.kb hm3.keep rfl) (by omega)) (fun a16 w4 he16 hm4 => ?_)
     refine wh_build (i := 14) (op := ?op1e_15) (fuel := 1) ?hr1e_15 ?hi1e_15 he16 hm4 2 rfl ?hd1e_15 ?hw1e_15 47 5 #[(0, (.const (.string (⟨#[98, 121, 116, 101]⟩)))), (1, (.tmp 6)), (2, (.tmp 10)), (3, (.tmp 13)), (4, (.tmp 17))] ?ho1e_15 #[(0, .string (⟨#[98, 121, 116, 101]⟩)), (1, .string (decS ((r).at_.toNat))), (2, .string (wordS ((r).op.toNat))), (3, .string (decS ((r).num.toNat))), (4, .string (verbS ((r).ver.toNat)))] (pmap5 rfl (he16.tmp 6 _ rfl) (he16.tmp 10 _ rfl) (he16.tmp 13 _ rfl) (he16.tmp 17 _ rfl)) 9 ((cellsOf strA [⟨#[98, 121, 116, 101]⟩, decS ((r).at_.toNat), wordS ((r).op.toNat), decS ((r).num.toNat), verbS ((r).ver.toNat)]).toArray) (fun w => by kernel_rfl) (fun _ => ⟨rfl, trivial⟩) (fun a17 w5 b2 he17 hm5 => ?k1e_15)
     case hi1e_15 => rw [List.getElem?_toArray]; rfl
     case hw1e_15 => exact rfl
     case hr1e_15 => kernel_rfl
     case hd1e_15 | ho1e_15 => rfl
     refine tk (fuel := 0) (i := 15) ?_ he17 hm5 ⟨rfl, trivial⟩ (.slice (some ⟨b2, 0, none⟩) (5) (5)) ?_ ?_ ?_ ?_ fun a18 he18 => ?_
     rotate_left
     rw [List.getElem?_toArray]; rfl
     exact ⟨by kernel_rfl, by kernel_rfl, by kernel_rfl⟩
     exact ⟨fun _ _ _ _ h => h, rfl, rfl⟩
     exact fun wS hmS => rn_move _ (Or.inr rfl) _ (he17.tmp 18 _ rfl)
     refine wpAnyH_done (by kernel_rfl) ?_ _
     exact ⟨b2, he18.sub _ ⟨rfl, rfl, rfl, rfl, rfl, rfl, rfl, rfl, rfl, rfl, rfl, rfl, rfl, rfl, rfl, rfl, rfl, rfl, rfl, trivial⟩, hm5.sub _ ⟨rfl, rfl, trivial⟩⟩
  rintro a19 w7 ⟨b2, he19, hm7⟩
  refine then_normal ?_
  refine wp_seq ?_
  refine wp_seqR ?_
  refine wl_val he19 rfl rfl (.pointer (some ⟨b1, 3, none⟩)) (rn_field _ _ _ rfl _ (.pointer (some ⟨b1, 3, none⟩)) (he19.tmp 1 _ rfl) (by kernel_rfl)) (fun a20 he20 => ?_)
  clear he19
  refine wl_val he20 rfl rfl (.int .i64 ((((r).ver.toNat : Nat) : Int))) (rn_load1 hm7 1 rfl _ _ rfl (3) (he20.tmp 19 _ rfl) one3 _ (Ru.g3 _ hok)) (fun a21 he21 => ?_)
  clear he20
  cases hd1 : (((((r).ver.toNat : Nat) : Int) == 2))
  ·
   have hjn : joinB 32 ([⟨#[98, 121, 116, 101]⟩, decS (r).at_.toNat, wordS (r).op.toNat, decS (r).num.toNat, verbS (r).ver.toNat]) = bodyRu r := body_non i7 hd1
   have hd1p : (((r).ver.toNat : Nat) : Int) ≠ 2 := by simpa using hd1
   refine wl_val he21 rfl rfl (.bool false) (rn_bin _ _ _ _ _ rfl .i64 _ _ (he21.tmp 20 _ rfl) rfl (.bool (((((r).ver.toNat : Nat) : Int) == 2))) _ rfl (congrArg Value.bool (hd1))) (fun a22 he22 => ?_)
   clear he21
   refine wl_end ?_
   refine wp_condF (he := he22) rfl ?_
   refine wp_skip ?_
   refine then_normal ?_
   refine wp_seqR ?_
   refine wl_val he22 rfl rfl (.slice (some ⟨b2, 0, none⟩) (5) (5)) (rn_move _ (Or.inl rfl) _ (he22.tmp 3 _ rfl)) (fun a23 he23 => ?_)
   clear he22
   have hJ : ∀ w1 : World, BX w1 b2 9 ((cellsOf strA [⟨#[98, 121, 116, 101]⟩, decS ((r).at_.toNat), wordS ((r).op.toNat), decS ((r).num.toNat), verbS ((r).ver.toNat)]).toArray) → Calls Tryd.prog 29 #[.slice (some ⟨b2, 0, none⟩) (5) (5), .string (⟨#[32]⟩)] w1 fun e w' => e = .returned (.string (bodyRu r)) ∧ Below w1.heap.size w1 w' := fun w1 hx1 => c_joinZ _ _ hjn _ _ _ _ w1 hx1 (Rw.lits strA.sz [⟨#[98, 121, 116, 101]⟩, decS ((r).at_.toNat), wordS ((r).op.toNat), decS ((r).num.toNat), verbS ((r).ver.toNat)] (by simp [maxLen]) : Rw ((cellsOf strA [⟨#[98, 121, 116, 101]⟩, decS ((r).at_.toNat), wordS ((r).op.toNat), decS ((r).num.toNat), verbS ((r).ver.toNat)]).toArray) 5 5 1 (cellsOf strA ([⟨#[98, 121, 116, 101]⟩, decS ((r).at_.toNat), wordS ((r).op.toNat), decS ((r).num.toNat), verbS ((r).ver.toNat)]))) (by simp) (by simp) (by have := body_le hok; omega)
   refine wl_call he23 hm7 rfl rfl _ #[.slice (some ⟨b2, 0, none⟩) (5) (5), .string (⟨#[32]⟩)] (enter_call _ _ _ rfl 29 #[] #[] rfl #[.slice (some ⟨b2, 0, none⟩) (5) (5), .string (⟨#[32]⟩)] (map2 (he23.tmp 28 _ rfl) rfl) #[.slice (some ⟨b2, 0, none⟩) (5) (5), .string (⟨#[32]⟩)] rfl (fun _ _ => by kernel_rfl)) (.string (bodyRu r)) (hJ _ (hm7.bx 2 _ _ _ _ rfl)) (fun a24 w8 he24 hm8 => ?_)
   clear he23 hm7
   refine wl_val he24 rfl rfl (.string (bodyRu r)) (rn_move _ (Or.inr rfl) _ (he24.tmp 29 _ rfl)) (fun a25 he25 => ?_)
   clear he24
   refine wl_end ?_
   refine wp_ret ?_
   exact bodyPost_ret (results_tmp he25 _ Tryd.results16 _ rfl) he25.defers ⟨rfl, hm8.below⟩
  ·
   have hjn : joinB 32 (([⟨#[98, 121, 116, 101]⟩, decS (r).at_.toNat, wordS (r).op.toNat, decS (r).num.toNat, verbS (r).ver.toNat]) ++ ([decS (r).key.toNat])) = bodyRu r := body_yess i7 hd1
   have hd1p : (((r).ver.toNat : Nat) : Int) = 2 := by simpa using hd1
   refine wl_val he21 rfl rfl (.bool true) (rn_bin _ _ _ _ _ rfl .i64 _ _ (he21.tmp 20 _ rfl) rfl (.bool (((((r).ver.toNat : Nat) : Int) == 2))) _ rfl (congrArg Value.bool (hd1))) (fun a22 he22 => ?_)
   clear he21
   refine wl_end ?_
   refine wp_condT (he := he22) rfl ?_
   refine wp_region_lit ?_
   refine wl_val he22 rfl rfl (.slice (some ⟨b2, 0, none⟩) (5) (5)) (rn_move _ (Or.inl rfl) _ (he22.tmp 3 _ rfl)) (fun a23 he23 => ?_)
   clear he22
   refine wl_val he23 rfl rfl (.pointer (some ⟨b1, 4, none⟩)) (rn_field _ _ _ rfl _ (.pointer (some ⟨b1, 4, none⟩)) (he23.tmp 1 _ rfl) (by kernel_rfl)) (fun a24 he24 => ?_)
   clear he23
   refine wl_val he24 rfl rfl (.int .i64 ((((r).key.toNat : Nat) : Int))) (rn_load1 hm7 1 rfl _ _ rfl (4) (he24.tmp 23 _ rfl) one3 _ (Ru.g4 _ hok)) (fun a25 he25 => ?_)
   clear he24
   refine wl_call he25 hm7 rfl rfl _ #[.int .i64 ((((r).key.toNat : Nat) : Int))] (enter_call _ _ _ rfl 28 #[] #[] rfl #[.int .i64 ((((r).key.toNat : Nat) : Int))] (map1 (he25.tmp 24 _ rfl)) #[.int .i64 ((((r).key.toNat : Nat) : Int))] rfl (fun _ _ => by kernel_rfl)) (.string (decS ((r).key.toNat))) (c_itoa ((r).key.toNat) _ (hT.kb hm7.keep rfl) (by omega)) (fun a26 w8 he26 hm8 => ?_)
   clear he25 hm7
   refine wl_buildSlice he26 hm8 3 rfl rfl rfl _ _ _ rfl #[(0, .string (decS ((r).key.toNat)))] (pmap1 (he26.tmp 25 _ rfl)) 9 ((cellsOf strA [decS ((r).key.toNat)]).toArray) (by kernel_rfl) (fun a27 w9 b3 he27 hm9 => ?_)
   clear he26 hm8
   have rw3_0 : Rw ((cellsOf strA [decS ((r).key.toNat)]).toArray) 1 1 1 (cellsOf strA ([decS ((r).key.toNat)])) := Rw.lits strA.sz [decS ((r).key.toNat)] (by simp [maxLen])
   refine wl_append (k := 5) (cap := 5) he27 hm9 2 rfl rfl rfl _ _ _ rfl el9 (he27.tmp 22 _ rfl) (Rw.lits strA.sz [⟨#[98, 121, 116, 101]⟩, decS ((r).at_.toNat), wordS ((r).op.toNat), decS ((r).num.toNat), verbS ((r).ver.toNat)] (by simp [maxLen]) : Rw ((cellsOf strA [⟨#[98, 121, 116, 101]⟩, decS ((r).at_.toNat), wordS ((r).op.toNat), decS ((r).num.toNat), verbS ((r).ver.toNat)]).toArray) 5 5 1 (cellsOf strA ([⟨#[98, 121, 116, 101]⟩, decS ((r).at_.toNat), wordS ((r).op.toNat), decS ((r).num.toNat), verbS ((r).ver.toNat)]))) ⟨b3, 0, none⟩ 1 1 (he27.tmp 26 _ rfl) (cellsOf strA ([decS ((r).key.toNat)])) (rw3_0.len) (fun j u hu => by rw [Addr.add_mid, Nat.zero_add, (hm9.bx 3 _ _ _ _ rfl).cell]; exact rw3_0.get j u hu) (cellsOf_one strA.one _) (by simp only [maxLen]; omega) (by omega) (fun a28 w10 b2_28 cap2_28 cur2_28 he28 hm10 rw2_28 => ?_)
   clear he27 hm9
   replace rw2_28 := rw2_28.app
   refine wl_val he28 rfl rfl (.slice (some ⟨b2_28, 0, none⟩) (5 + 1) (cap2_28)) (rn_move _ (Or.inr rfl) _ (he28.tmp 27 _ rfl)) (fun a29 he29 => ?_)
   clear he28
   refine wpList_nil ?_
   refine then_normal ?_
   refine wp_seqR ?_
   refine wl_val he29 rfl rfl (.slice (some ⟨b2_28, 0, none⟩) (5 + 1) (cap2_28)) (rn_move _ (Or.inl rfl) _ (he29.tmp 3 _ rfl)) (fun a30 he30 => ?_)
   clear he29
   have hJ : ∀ w1 : World, BX w1 b2_28 9 (cur2_28) → Calls Tryd.prog 29 #[.slice (some ⟨b2_28, 0, none⟩) (5 + 1) (cap2_28), .string (⟨#[32]⟩)] w1 fun e w' => e = .returned (.string (bodyRu r)) ∧ Below w1.heap.size w1 w' := fun w1 hx1 => c_joinZ _ _ hjn _ _ _ _ w1 hx1 rw2_28 (by simp) (by simp) (by have := body_le hok; omega)
   refine wl_call he30 hm10 rfl rfl _ #[.slice (some ⟨b2_28, 0, none⟩) (5 + 1) (cap2_28), .string (⟨#[32]⟩)] (enter_call _ _ _ rfl 29 #[] #[] rfl #[.slice (some ⟨b2_28, 0, none⟩) (5 + 1) (cap2_28), .string (⟨#[32]⟩)] (map2 (he30.tmp 28 _ rfl) rfl) #[.slice (some ⟨b2_28, 0, none⟩) (5 + 1) (cap2_28), .string (⟨#[32]⟩)] rfl (fun _ _ => by kernel_rfl)) (.string (bodyRu r)) (hJ _ (hm10.bx 2 _ _ _ _ rfl)) (fun a31 w11 he31 hm11 => ?_)
   clear he30 hm10
   refine wl_val he31 rfl rfl (.string (bodyRu r)) (rn_move _ (Or.inr rfl) _ (he31.tmp 29 _ rfl)) (fun a32 he32 => ?_)
   clear he31
   refine wl_end ?_
   refine wp_ret ?_
   exact bodyPost_ret (results_tmp he32 _ Tryd.results16 _ rfl) he32.defers ⟨rfl, hm11.below⟩
theorem c_iput_no (f : Nat → Ru) (b p n c : Nat) (w : World) (hR : RowAt w b p n 5 fun i => (f i).arr) (hn : n ≤ 1048576) (hT : TabsR w) (hok : ruOks f n = false) :
    Calls Tryd.prog 6 #[.slice (some ⟨b, p, none⟩) (n) (c)] w fun e w' => e = .returned (.string (putR f n)) ∧ Below w.heap.size w w' := by
  refine calls_begin Tryd.func6 rfl 22 rfl (Nat.le_of_ble_eq_true rfl) [(0, .slice (some ⟨b, p, none⟩) (n) (c))] ⟨rfl, trivial⟩ (fun a0 he0 hm0 => ?_)
  refine wp_seqR ?_
  refine wl_val he0 rfl rfl (.string (⟨#[]⟩)) (rn_move _ (Or.inr rfl) _ rfl) (fun a1 he1 => ?_)
  clear he0
  refine wl_end ?_
  refine wp_seq ?_
  refine wp_seqR ?_
  refine wl_val he1 rfl rfl (.slice (some ⟨b, p, none⟩) (n) (c)) (rn_move _ (Or.inl rfl) _ (he1.tmp 0 _ rfl)) (fun a2 he2 => ?_)
  clear he1
  refine wl_call he2 hm0 rfl rfl _ #[.slice (some ⟨b, p, none⟩) (n) (c)] (enter_call _ _ _ rfl 8 #[] #[] rfl #[.slice (some ⟨b, p, none⟩) (n) (c)] (map1 (he2.tmp 6 _ rfl)) #[.slice (some ⟨b, p, none⟩) (n) (c)] rfl (fun _ _ => by kernel_rfl)) (.bool false) (callsV (congrArg Value.bool (hok)) (c_Oks f b p n c _ (hR.kb hm0.keep (by simp)) hn)) (fun a3 w1 he3 hm1 => ?_)
  clear he2 hm0
  refine wl_val he3 rfl rfl (.bool true) (rn_un _ _ _ rfl _ (.bool (!false)) _ (he3.tmp 7 _ rfl) rfl rfl) (fun a4 he4 => ?_)
  clear he3
  refine wl_end ?_
  refine wp_condT (he := he4) rfl ?_
  refine wp_seqR ?_
  refine wl_val he4 rfl rfl (.string (⟨#[]⟩)) (rn_move _ (Or.inr rfl) _ rfl) (fun a5 he5 => ?_)
  clear he4
  refine wl_end ?_
  refine wp_ret ?_
  refine ret_then ?_
  exact bodyPost_ret (results_tmp he5 _ Tryd.results6 _ rfl) he5.defers ⟨(by rw [putR, hok]; first | rfl | rw [hrel1.2, show i = n by omega]; rfl), hm1.below⟩
theorem c_iput_yes (f : Nat → Ru) (b p n c : Nat) (w : World) (hR : RowAt w b p n 5 fun i => (f i).arr) (hn : n ≤ 1048576) (hT : TabsR w) (hok : ruOks f n = true) :
    Calls Tryd.prog 6 #[.slice (some ⟨b, p, none⟩) (n) (c)] w fun e w' => e = .returned (.string (putR f n)) ∧ Below w.heap.size w w' := by
  refine calls_begin Tryd.func6 rfl 22 rfl (Nat.le_of_ble_eq_true rfl) [(0, .slice (some ⟨b, p, none⟩) (n) (c))] ⟨rfl, trivial⟩ (fun a0 he0 hm0 => ?_)
  obtain ⟨hall, hn6⟩ := ruOks_all hok
  refine wp_seqR ?_
  refine wl_val he0 rfl rfl (.string (⟨#[]⟩)) (rn_move _ (Or.inr rfl) _ rfl) (fun a1 he1 => ?_)
  clear he0
  refine wl_end ?_
  refine wp_seq ?_
  refine wp_seqR ?_
  refine wl_val he1 rfl rfl (.slice (some ⟨b, p, none⟩) (n) (c)) (rn_move _ (Or.inl rfl) _ (he1.tmp 0 _ rfl)) (fun a2 he2 => ?_)
  clear he1
  refine wl_call he2 hm0 rfl rfl _ #[.slice (some ⟨b, p, none⟩) (n) (c)] (enter_call _ _ _ rfl 8 #[] #[] rfl #[.slice (some ⟨b, p, none⟩) (n) (c)] (map1 (he2.tmp 6 _ rfl)) #[.slice (some ⟨b, p, none⟩) (n) (c)] rfl (fun _ _ => by kernel_rfl)) (.bool true) (callsV (congrArg Value.bool (hok)) (c_Oks f b p n c _ (hR.kb hm0.keep (by simp)) hn)) (fun a3 w1 he3 hm1 => ?_)
  clear he2 hm0
  refine wl_val he3 rfl rfl (.bool false) (rn_un _ _ _ rfl _ (.bool (!true)) _ (he3.tmp 7 _ rfl) rfl rfl) (fun a4 he4 => ?_)
  clear he3
  refine wl_end ?_
  refine wp_condF (he := he4) rfl ?_
  refine wp_skip ?_
  refine then_normal ?_
  refine wp_seqR ?_
  refine wl_val he4 rfl rfl (.string (⟨#[]⟩)) (rn_move _ (Or.inr rfl) _ rfl) (fun a5 he5 => ?_)
  clear he4
  refine wl_end ?_
  refine wp_seq ?_
  refine wp_seqR ?_
  refine wl_val he5 rfl rfl (.slice (some ⟨b, p, none⟩) (n) (c)) (rn_move _ (Or.inl rfl) _ (he5.tmp 0 _ rfl)) (fun a6 he6 => ?_)
  clear he5
  refine wl_val he6 rfl rfl (.int .i64 (((n : Nat) : Int))) (rn_builtin _ _ _ rfl #[.slice (some ⟨b, p, none⟩) (n) (c)] (map1 (he6.tmp 9 _ rfl)) (.int .i64 (((n : Nat) : Int))) (by kernel_rfl)) (fun a7 he7 => ?_)
  clear he6
  refine wl_val he7 rfl rfl (.int .i64 (0)) (rn_move _ (Or.inl rfl) _ rfl) (fun a8 he8 => ?_)
  clear he7
  refine wl_end ?_
  refine wp_block ?_
  refine wp_loopN (fun mz az wz => ∃ (i : Nat), ∃ (o : ByteArray), mz = n - (i) ∧ (i ≤ n ∧ o = catR f (i)) ∧ EV az 22 [] [(0, .slice (some ⟨b, p, none⟩) (n) (c)), (2, .string (⟨#[]⟩)), (6, .slice (some ⟨b, p, none⟩) (n) (c)), (7, .bool true), (8, .bool false), (9, .slice (some ⟨b, p, none⟩) (n) (c)), (10, .int .i64 (((n : Nat) : Int))), (11, .int .i64 (((i : Nat) : Int))), (3, .string (o))] ∧ MM [] w wz []) ⟨_, 0, ⟨#[]⟩, rfl, ⟨by omega, rfl⟩, he8.sub _ ⟨rfl, rfl, rfl, rfl, rfl, rfl, rfl, rfl, rfl, trivial⟩, hm1.sub _ trivial⟩ ?_
  rintro mz1 a9 w2 ⟨i, o, rfl, hrel1, he9, hm2⟩
  clear he8 hm1
  have hrel1a := hrel1.1
  have ho : o.size ≤ 100 * i := by rw [hrel1.2]; exact catR_le fun j hj => hall j (by omega)
  refine wp_seqR ?_
  cases hd1 : (decide (((i : Nat) : Int) < ((n : Nat) : Int)))
  ·
   have hd1p := of_decide_eq_false hd1
   refine wl_val he9 rfl rfl (.bool false) (rn_bin _ _ _ _ _ rfl .i64 _ _ (he9.tmp 11 _ rfl) (he9.tmp 10 _ rfl) (.bool (decide (((i : Nat) : Int) < ((n : Nat) : Int)))) _ rfl (congrArg Value.bool (hd1))) (fun a10 he10 => ?_)
   clear he9
   refine wl_end ?_
   refine wp_seq ?_
   refine wp_condF (he := he10) rfl ?_
   refine wp_exit ?_
   refine exit_then ?_
   refine exit_then ?_
   refine exit_here ?_
   refine then_normal ?_
   refine wp_seqR ?_
   refine wl_val he10 rfl rfl (.string (o)) (rn_move _ (Or.inl rfl) _ (he10.tmp 3 _ rfl)) (fun a11 he11 => ?_)
   clear he10
   refine wl_val he11 rfl rfl (.string (o)) (rn_move _ (Or.inr rfl) _ (he11.tmp 21 _ rfl)) (fun a12 he12 => ?_)
   clear he11
   refine wl_end ?_
   refine wp_ret ?_
   exact bodyPost_ret (results_tmp he12 _ Tryd.results6 _ rfl) he12.defers ⟨(by rw [putR, hok]; first | rfl | rw [hrel1.2, show i = n by omega]; rfl), hm2.below⟩
  ·
   have hd1p := of_decide_eq_true hd1
   refine wl_val he9 rfl rfl (.bool true) (rn_bin _ _ _ _ _ rfl .i64 _ _ (he9.tmp 11 _ rfl) (he9.tmp 10 _ rfl) (.bool (decide (((i : Nat) : Int) < ((n : Nat) : Int)))) _ rfl (congrArg Value.bool (hd1))) (fun a10 he10 => ?_)
   clear he9
   refine wl_end ?_
   refine wp_seq ?_
   refine wp_condT (he := he10) rfl ?_
   refine wp_skip ?_
   refine then_normal ?_
   refine wp_seq ?_
   refine wp_block ?_
   refine wp_seqR ?_
   refine wl_val he10 rfl rfl (.pointer (some ⟨b, p + i * 5, none⟩)) (rn_indexA _ _ _ rfl _ _ (.pointer (some ⟨b, p + i * 5, none⟩)) (he10.tmp 9 _ rfl) (he10.tmp 11 _ rfl) (ixS 36 5 (by kernel_rfl) (fun w => by kernel_rfl) (b) (p) (n) (c) (i) (by omega) _)) (fun a11 he11 => ?_)
   clear he10
   refine wl_val he11 rfl rfl (.agg (Ru.arr (f i))) (rn_rowA hm2 hR (by simp) (i) (by omega) _ _ rfl (he11.tmp 13 _ rfl) agg36 (by kernel_rfl)) (fun a12 he12 => ?_)
   clear he11
   refine wl_alloc he12 hm2 1 rfl rfl rfl _ rfl (.agg #[.int .i64 0, .int .i64 0, .int .i64 0, .int .i64 0, .int .i64 0]) (fun w => by kernel_rfl) (#[.int .i64 (0), .int .i64 (0), .int .i64 (0), .int .i64 (0), .int .i64 (0)]) rfl (fun a13 w3 b1 he13 hm3 => ?_)
   clear he12 hm2
   refine wl_store he13 hm3 1 rfl rfl rfl _ _ _ rfl (0) (he13.tmp 5 _ rfl) _ (he13.tmp 14 _ rfl) 5 agg36.size rfl (Ru.one _) (by decide) (Ru.arr (f i)) (by kernel_rfl) (fun w4 hm4 => ?_)
   clear hm3
   refine wl_end ?_
   refine wp_region_lit ?_
   refine wl_val he13 rfl rfl (.string (o)) (rn_move _ (Or.inl rfl) _ (he13.tmp 3 _ rfl)) (fun a14 he14 => ?_)
   clear he13
   refine wl_val he14 rfl rfl (.agg (Ru.arr (f i))) (rn_loadA hm4 1 rfl _ _ rfl (0) (he14.tmp 5 _ rfl) 5 agg36 (Ru.arr (f i)) (by kernel_rfl) rfl) (fun a15 he15 => ?_)
   clear he14
   have hbd := body_le (hall i (by omega))
   have hs10 : (⟨#[10]⟩ : ByteArray).size = 1 := rfl
   refine wl_call he15 hm4 rfl rfl _ #[.agg (Ru.arr (f i))] (enter_call _ _ _ rfl 16 #[] #[] rfl #[.agg (Ru.arr (f i))] (map1 (he15.tmp 16 _ rfl)) #[.agg (Ru.arr (f i))] rfl (fun _ _ => by kernel_rfl)) (.string (bodyRu (f i))) (c_rulePut (f i) _ (hT.kb hm4.keep rfl) (hall i (by omega))) (fun a16 w5 he16 hm5 => ?_)
   clear he15 hm4
   obtain ⟨z1, hz1⟩ : ∃ z : ByteArray, z = (bodyRu (f i)) ++ (⟨#[10]⟩) := ⟨_, rfl⟩
   have hsz1 : z1.size = (bodyRu (f i) : ByteArray).size + (⟨#[10]⟩ : ByteArray).size := by rw [hz1, ByteArray.size_append]
   refine wl_val he16 rfl rfl (.string (z1)) (rn_saddZ _ _ _ _ rfl _ _ (he16.tmp 17 _ rfl) rfl (by omega) z1 hz1) (fun a17 he17 => ?_)
   clear he16
   obtain ⟨z2, hz2⟩ : ∃ z : ByteArray, z = (o) ++ (z1) := ⟨_, rfl⟩
   have hsz2 : z2.size = (o : ByteArray).size + (z1 : ByteArray).size := by rw [hz2, ByteArray.size_append]
   refine wl_val he17 rfl rfl (.string (z2)) (rn_saddZ _ _ _ _ rfl _ _ (he17.tmp 15 _ rfl) (he17.tmp 18 _ rfl) (by omega) z2 hz2) (fun a18 he18 => ?_)
   clear he17
   refine wl_val he18 rfl rfl (.string (z2)) (rn_move _ (Or.inr rfl) _ (he18.tmp 19 _ rfl)) (fun a19 he19 => ?_)
   clear he18
   refine wpList_nil ?_
   refine in_normal ?_
   refine then_normal ?_
   refine wp_region_lit ?_
   refine wl_val he19 rfl rfl (.int .i64 (((i + 1 : Nat) : Int))) (rn_bin _ _ _ _ _ rfl .i64 _ _ (he19.tmp 11 _ rfl) rfl (.int .i64 (IntKind.wrap .i64 (((i : Nat) : Int) + 1))) _ rfl (addN (i := i) (c := 1) (by omega))) (fun a20 he20 => ?_)
   clear he19
   refine wl_val he20 rfl rfl (.int .i64 (((i + 1 : Nat) : Int))) (rn_move _ (Or.inl rfl) _ (he20.tmp 20 _ rfl)) (fun a21 he21 => ?_)
   clear he20
   refine wpList_nil ?_
   exact ⟨n - (i + 1), by omega, i + 1, z2, rfl, ⟨by omega, by rw [hz2, hz1, catR, line_body (hall i (by omega)), hrel1.2]; rfl⟩, he21.sub _ ⟨rfl, rfl, rfl, rfl, rfl, rfl, rfl, rfl, rfl, trivial⟩, hm5.sub _ trivial⟩
theorem c_iput (f : Nat → Ru) (b p n c : Nat) (w : World) (hR : RowAt w b p n 5 fun i => (f i).arr) (hn : n ≤ 1048576) (hT : TabsR w) : Calls Tryd.prog 6 #[.slice (some ⟨b, p, none⟩) n c] w fun e w' => e = .returned (.string (putR f n)) ∧ Below w.heap.size w w' := by
  cases hok : ruOks f n
  · exact c_iput_no f b p n c w hR hn hT hok
  · exact c_iput_yes f b p n c w hR hn hT hok
end Go.Proofs.YtkaekiodjjhjkaaDoor
