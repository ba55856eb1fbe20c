/- Rules: their words and lines, by the specification. -/
import Derived.Test.YtkaekiodjjhjkaaDoorWA
import Derived.Test.YtkaekiodjjhjkaaDoorWD
import Derived.Test.YtkaekiodjjhjkaaDoorSM
namespace Go.Proofs.YtkaekiodjjhjkaaDoor
open Go.RowKit
set_option linter.unusedVariables false
set_option linter.unusedSimpArgs false
theorem c_words  (w : World)  :
    Calls Tryd.prog 32 #[] w fun e w' => NewRow w (fun (_ : Unit) b => .slice (some ⟨b, 0, none⟩) 21 21) 9 (fun _ => wordA) (fun _ => True) e w' := by
  refine calls_begin Tryd.func32 rfl 2 rfl (Nat.le_of_ble_eq_true rfl) [] trivial (fun a0 he0 hm0 => ?_)
  refine wp_seqR ?_
  refine wl_val he0 rfl rfl (.slice none 0 0) (rn_move _ (Or.inr rfl) _ rfl) (fun a1 he1 => ?_)
  clear he0
  refine wl_end ?_
  refine wp_seqR ?_
  refine wl_buildSlice he1 hm0 1 rfl rfl rfl _ _ _ rfl #[(0, .string (⟨#[]⟩)), (1, .string (⟨#[109, 111, 118]⟩)), (2, .string (⟨#[97, 100, 100]⟩)), (3, .string (⟨#[115, 117, 98]⟩)), (4, .string (⟨#[109, 117, 108]⟩)), (5, .string (⟨#[97, 110, 100]⟩)), (6, .string (⟨#[111, 114]⟩)), (7, .string (⟨#[120, 111, 114]⟩)), (8, .string (⟨#[115, 104, 108]⟩)), (9, .string (⟨#[115, 104, 114]⟩)), (10, .string (⟨#[100, 105, 118]⟩)), (11, .string (⟨#[109, 111, 100]⟩)), (12, .string (⟨#[115, 97, 109, 101]⟩)), (13, .string (⟨#[111, 116, 104, 101, 114]⟩)), (14, .string (⟨#[108, 101, 115, 115]⟩)), (15, .string (⟨#[109, 111, 114, 101]⟩)), (16, .string (⟨#[103, 111]⟩)), (17, .string (⟨#[108, 111, 97, 100]⟩)), (18, .string (⟨#[115, 116, 111, 114, 101]⟩)), (19, .string (⟨#[99, 97, 108, 108]⟩)), (20, .string (⟨#[101, 120, 105, 116]⟩))] (by kernel_rfl) 9 (#[.string (⟨#[]⟩), .string (⟨#[109, 111, 118]⟩), .string (⟨#[97, 100, 100]⟩), .string (⟨#[115, 117, 98]⟩), .string (⟨#[109, 117, 108]⟩), .string (⟨#[97, 110, 100]⟩), .string (⟨#[111, 114]⟩), .string (⟨#[120, 111, 114]⟩), .string (⟨#[115, 104, 108]⟩), .string (⟨#[115, 104, 114]⟩), .string (⟨#[100, 105, 118]⟩), .string (⟨#[109, 111, 100]⟩), .string (⟨#[115, 97, 109, 101]⟩), .string (⟨#[111, 116, 104, 101, 114]⟩), .string (⟨#[108, 101, 115, 115]⟩), .string (⟨#[109, 111, 114, 101]⟩), .string (⟨#[103, 111]⟩), .string (⟨#[108, 111, 97, 100]⟩), .string (⟨#[115, 116, 111, 114, 101]⟩), .string (⟨#[99, 97, 108, 108]⟩), .string (⟨#[101, 120, 105, 116]⟩)]) (by kernel_rfl) (fun a2 w1 b1 he2 hm1 => ?_)
  clear he1 hm0
  refine wl_val he2 rfl rfl (.slice (some ⟨b1, 0, none⟩) (21) (21)) (rn_move _ (Or.inr rfl) _ (he2.tmp 1 _ rfl)) (fun a3 he3 => ?_)
  clear he2
  refine wl_end ?_
  refine wp_ret ?_
  exact bodyPost_ret (results_tmp he3 _ Tryd.results32 _ rfl) he3.defers ⟨(), _, rfl, hm1.bx 1 _ _ _ _ rfl, trivial, by have := hm1.own 1 _ rfl rfl; simpa using this, hm1.below⟩
theorem c_verbs  (w : World)  :
    Calls Tryd.prog 33 #[] w fun e w' => NewRow w (fun (_ : Unit) b => .slice (some ⟨b, 0, none⟩) 3 3) 9 (fun _ => verbA) (fun _ => True) e w' := by
  refine calls_begin Tryd.func33 rfl 2 rfl (Nat.le_of_ble_eq_true rfl) [] trivial (fun a0 he0 hm0 => ?_)
  refine wp_seqR ?_
  refine wl_val he0 rfl rfl (.slice none 0 0) (rn_move _ (Or.inr rfl) _ rfl) (fun a1 he1 => ?_)
  clear he0
  refine wl_end ?_
  refine wp_seqR ?_
  refine wl_buildSlice he1 hm0 1 rfl rfl rfl _ _ _ rfl #[(0, .string (⟨#[100, 114, 111, 112]⟩)), (1, .string (⟨#[107, 101, 101, 112]⟩)), (2, .string (⟨#[115, 101, 110, 100]⟩))] (pmap3 rfl rfl rfl) 9 (#[.string (⟨#[100, 114, 111, 112]⟩), .string (⟨#[107, 101, 101, 112]⟩), .string (⟨#[115, 101, 110, 100]⟩)]) (by kernel_rfl) (fun a2 w1 b1 he2 hm1 => ?_)
  clear he1 hm0
  refine wl_val he2 rfl rfl (.slice (some ⟨b1, 0, none⟩) (3) (3)) (rn_move _ (Or.inr rfl) _ (he2.tmp 1 _ rfl)) (fun a3 he3 => ?_)
  clear he2
  refine wl_end ?_
  refine wp_ret ?_
  exact bodyPost_ret (results_tmp he3 _ Tryd.results33 _ rfl) he3.defers ⟨(), _, rfl, hm1.bx 1 _ _ _ _ rfl, trivial, by have := hm1.own 1 _ rfl rfl; simpa using this, hm1.below⟩
set_option maxHeartbeats 4000000 in
theorem c_line (xa xo xn xv xk : Nat) (w : World) (ha : xa ≤ 11) (ho0 : 12 ≤ xo) (ho : xo ≤ 15) (hnn : xn ≤ 255) (hv : xv ≤ 2) (hk : xk ≤ 4294967295) :
    Calls Tryd.prog 18 #[.agg (#[.int .i64 (((xa : Nat) : Int)), .int .i64 (((xo : Nat) : Int)), .int .i64 (((xn : Nat) : Int)), .int .i64 (((xv : Nat) : Int)), .int .i64 (((xk : Nat) : Int))])] w fun e w' => e = .returned (.string (lineS xa xo xn xv xk)) ∧ Below w.heap.size w w' := by
  refine calls_begin Tryd.func18 rfl 38 rfl (Nat.le_of_ble_eq_true rfl) [(0, .agg (#[.int .i64 (((xa : Nat) : Int)), .int .i64 (((xo : Nat) : Int)), .int .i64 (((xn : Nat) : Int)), .int .i64 (((xv : Nat) : Int)), .int .i64 (((xk : Nat) : Int))]))] ⟨rfl, trivial⟩ (fun a0 he0 hm0 => ?_)
  have s1 := decS_size 18 xa (by omega)
  have s2 := decS_size 18 xn (by omega)
  have s3 := decS_size 18 xk (by omega)
  have s4 := word_le xo (by omega)
  have s5 := verb_le xv (by omega)
  have l5 : (⟨#[98, 121, 116, 101, 32]⟩ : ByteArray).size = 5 := rfl
  have l1 : (⟨#[32]⟩ : ByteArray).size = 1 := rfl
  have l2 : (⟨#[10]⟩ : ByteArray).size = 1 := rfl
  refine wp_seqR ?_
  refine wl_box he0 hm0 1 rfl rfl rfl _ _ rfl _ (he0.tmp 0 _ rfl) (#[.int .i64 (((xa : Nat) : Int)), .int .i64 (((xo : Nat) : Int)), .int .i64 (((xn : Nat) : Int)), .int .i64 (((xv : Nat) : Int)), .int .i64 (((xk : Nat) : Int))]) rfl (fun a1 w1 b1 he1 hm1 => ?_)
  clear he0 hm0
  refine wl_val he1 rfl rfl (.string (⟨#[]⟩)) (rn_move _ (Or.inr rfl) _ rfl) (fun a2 he2 => ?_)
  clear he1
  refine wl_end ?_
  refine wp_seq ?_
  refine wh_begin (by kernel_rfl) hm1 [(1, ⟨true, b1, 36, #[.int .i64 (((xa : Nat) : Int)), .int .i64 (((xo : Nat) : Int)), .int .i64 (((xn : Nat) : Int)), .int .i64 (((xv : Nat) : Int)), .int .i64 (((xk : Nat) : Int))]⟩)] ⟨rfl, trivial⟩ (fun w2 hm2 => ?_)
  clear hm1
  refine tk (fuel := 23) (i := 0) ?_ he2 hm2 ⟨rfl, trivial⟩ (.pointer (some ⟨b1, 0, none⟩)) ?_ ?_ ?_ ?_ fun a3 he3 => ?_
  rotate_left
  rw [List.getElem?_toArray]; rfl
  exact ⟨by kernel_rfl, by kernel_rfl, by kernel_rfl⟩
  exact ⟨fun _ _ _ _ h => h, rfl, rfl⟩
  exact fun wS hmS => rn_field _ _ _ rfl _ (.pointer (some ⟨b1, 0, none⟩)) (he2.tmp 1 _ rfl) (by kernel_rfl)
  clear he2
  refine tk (fuel := 22) (i := 1) ?_ he3 hm2 ⟨rfl, trivial⟩ (.int .i64 (((xa : Nat) : Int))) ?_ ?_ ?_ ?_ fun a4 he4 => ?_
  rotate_left
  rw [List.getElem?_toArray]; rfl
  exact ⟨by kernel_rfl, by kernel_rfl, by kernel_rfl⟩
  exact ⟨fun _ _ _ _ h => h, rfl, rfl⟩
  exact fun wS hmS => rn_load1 hmS 1 rfl _ _ rfl (0) (he3.tmp 4 _ rfl) one3 _ rfl
  clear he3
  refine tk (fuel := 21) (i := 6) ?_ he4 hm2 ⟨rfl, trivial⟩ (.pointer (some ⟨b1, 1, none⟩)) ?_ ?_ ?_ ?_ fun a5 he5 => ?_
  rotate_left
  rw [List.getElem?_toArray]; rfl
  exact ⟨by kernel_rfl, by kernel_rfl, by kernel_rfl⟩
  exact ⟨fun _ _ _ _ h => h, rfl, rfl⟩
  exact fun wS hmS => rn_field _ _ _ rfl _ (.pointer (some ⟨b1, 1, none⟩)) (he4.tmp 1 _ rfl) (by kernel_rfl)
  clear he4
  refine tk (fuel := 20) (i := 7) ?_ he5 hm2 ⟨rfl, trivial⟩ (.int .i64 (((xo : Nat) : Int))) ?_ ?_ ?_ ?_ fun a6 he6 => ?_
  rotate_left
  rw [List.getElem?_toArray]; rfl
  exact ⟨by kernel_rfl, by kernel_rfl, by kernel_rfl⟩
  exact ⟨fun _ _ _ _ h => h, rfl, rfl⟩
  exact fun wS hmS => rn_load1 hmS 1 rfl _ _ rfl (1) (he5.tmp 10 _ rfl) one3 _ rfl
  clear he5
  refine tk (fuel := 19) (i := 12) ?_ he6 hm2 ⟨rfl, trivial⟩ (.pointer (some ⟨b1, 2, none⟩)) ?_ ?_ ?_ ?_ fun a7 he7 => ?_
  rotate_left
  rw [List.getElem?_toArray]; rfl
  exact ⟨by kernel_rfl, by kernel_rfl, by kernel_rfl⟩
  exact ⟨fun _ _ _ _ h => h, rfl, rfl⟩
  exact fun wS hmS => rn_field _ _ _ rfl _ (.pointer (some ⟨b1, 2, none⟩)) (he6.tmp 1 _ rfl) (by kernel_rfl)
  clear he6
  refine tk (fuel := 18) (i := 13) ?_ he7 hm2 ⟨rfl, trivial⟩ (.int .i64 (((xn : Nat) : Int))) ?_ ?_ ?_ ?_ fun a8 he8 => ?_
  rotate_left
  rw [List.getElem?_toArray]; rfl
  exact ⟨by kernel_rfl, by kernel_rfl, by kernel_rfl⟩
  exact ⟨fun _ _ _ _ h => h, rfl, rfl⟩
  exact fun wS hmS => rn_load1 hmS 1 rfl _ _ rfl (2) (he7.tmp 16 _ rfl) one3 _ rfl
  clear he7
  refine tk (fuel := 17) (i := 18) ?_ he8 hm2 ⟨rfl, trivial⟩ (.pointer (some ⟨b1, 3, none⟩)) ?_ ?_ ?_ ?_ fun a9 he9 => ?_
  rotate_left
  rw [List.getElem?_toArray]; rfl
  exact ⟨by kernel_rfl, by kernel_rfl, by kernel_rfl⟩
  exact ⟨fun _ _ _ _ h => h, rfl, rfl⟩
  exact fun wS hmS => rn_field _ _ _ rfl _ (.pointer (some ⟨b1, 3, none⟩)) (he8.tmp 1 _ rfl) (by kernel_rfl)
  clear he8
  refine tk (fuel := 16) (i := 19) ?_ he9 hm2 ⟨rfl, trivial⟩ (.int .i64 (((xv : Nat) : Int))) ?_ ?_ ?_ ?_ fun a10 he10 => ?_
  rotate_left
  rw [List.getElem?_toArray]; rfl
  exact ⟨by kernel_rfl, by kernel_rfl, by kernel_rfl⟩
  exact ⟨fun _ _ _ _ h => h, rfl, rfl⟩
  exact fun wS hmS => rn_load1 hmS 1 rfl _ _ rfl (3) (he9.tmp 22 _ rfl) one3 _ rfl
  clear he9
  refine wh_call (i := 2) (op := ?op1d_2) (fuel := 15) ?hr1d_2 ?hi1d_2 he10 hm2 ⟨rfl, trivial⟩ ?hd1d_2 ?hw1d_2 _ #[.int .i64 (((xa : Nat) : Int))] ?en1d_2 (.string (decS xa)) (c_dec _ _ (by omega)) (fun a11 w3 he11 hm3 => ?k1d_2)
  case hi1d_2 => rw [List.getElem?_toArray]; rfl
  case hw1d_2 => exact rfl
  case hr1d_2 => kernel_rfl
  case hd1d_2 => rfl
  case en1d_2 => exact (enter_call _ _ _ rfl 31 #[] #[] rfl #[.int .i64 (((xa : Nat) : Int))] (map1 (he10.tmp 5 _ rfl)) #[.int .i64 (((xa : Nat) : Int))] rfl (fun _ _ => by kernel_rfl))
  clear he10 hm2
  obtain ⟨z1, hz1⟩ : ∃ z : ByteArray, z = (⟨#[98, 121, 116, 101, 32]⟩) ++ (decS xa) := ⟨_, rfl⟩
  have hsz1 : z1.size = (⟨#[98, 121, 116, 101, 32]⟩ : ByteArray).size + (decS xa : ByteArray).size := by rw [hz1, ByteArray.size_append]
  refine tk (fuel := 14) (i := 3) ?_ he11 hm3 ⟨rfl, trivial⟩ (.string (z1)) ?_ ?_ ?_ ?_ fun a12 he12 => ?_
  rotate_left
  rw [List.getElem?_toArray]; rfl
  exact ⟨by kernel_rfl, by kernel_rfl, by kernel_rfl⟩
  exact ⟨fun _ _ _ _ h => h, rfl, rfl⟩
  exact fun wS hmS => rn_saddZ _ _ _ _ rfl _ _ rfl (he11.tmp 6 _ rfl) (by omega) z1 hz1
  clear he11
  obtain ⟨z2, hz2⟩ : ∃ z : ByteArray, z = (z1) ++ (⟨#[32]⟩) := ⟨_, rfl⟩
  have hsz2 : z2.size = (z1 : ByteArray).size + (⟨#[32]⟩ : ByteArray).size := by rw [hz2, ByteArray.size_append]
  refine tk (fuel := 13) (i := 4) ?_ he12 hm3 ⟨rfl, trivial⟩ (.string (z2)) ?_ ?_ ?_ ?_ fun a13 he13 => ?_
  rotate_left
  rw [List.getElem?_toArray]; rfl
  exact ⟨by kernel_rfl, by kernel_rfl, by kernel_rfl⟩
  exact ⟨fun _ _ _ _ h => h, rfl, rfl⟩
  exact fun wS hmS => rn_saddZ _ _ _ _ rfl _ _ (he12.tmp 7 _ rfl) rfl (by omega) z2 hz2
  clear he12
  refine wh_callN (i := 5) (op := ?op1d_5) (fuel := 12) ?hr1d_5 ?hi1d_5 he13 hm3 2 rfl ?hd1d_5 ?hw1d_5 _ #[] ?en1d_5 (c_words _) (fun _ _ => ⟨rfl, trivial⟩) (fun _ _ => ⟨rfl, trivial⟩) (fun x2 b2 a14 w4 hx2 he14 hm4 => ?k1d_5)
  case hi1d_5 => rw [List.getElem?_toArray]; rfl
  case hw1d_5 => exact rfl
  case hr1d_5 => kernel_rfl
  case hd1d_5 => rfl
  case en1d_5 => exact (enter_call _ _ _ rfl 32 #[] #[] rfl #[] (map0 _ ) #[] rfl (fun _ _ => by kernel_rfl))
  clear he13 hm3
  refine tk (fuel := 11) (i := 8) ?_ he14 hm4 ⟨rfl, rfl, trivial⟩ (.pointer (some ⟨b2, 0 + xo * 1, none⟩)) ?_ ?_ ?_ ?_ fun a15 he15 => ?_
  rotate_left
  rw [List.getElem?_toArray]; rfl
  exact ⟨by kernel_rfl, by kernel_rfl, by kernel_rfl⟩
  exact ⟨fun _ _ _ _ h => h, rfl, rfl⟩
  exact fun wS hmS => rn_indexA _ _ _ rfl _ _ (.pointer (some ⟨b2, 0 + xo * 1, none⟩)) (he14.tmp 9 _ rfl) (he14.tmp 11 _ rfl) (ixS 9 1 (by kernel_rfl) (fun w => by kernel_rfl) (b2) (0) (21) (21) (xo) (by omega) _)
  clear he14
  refine tk (fuel := 10) (i := 9) ?_ he15 hm4 ⟨rfl, rfl, trivial⟩ (.string (wordS xo)) ?_ ?_ ?_ ?_ fun a16 he16 => ?_
  rotate_left
  rw [List.getElem?_toArray]; rfl
  exact ⟨by kernel_rfl, by kernel_rfl, by kernel_rfl⟩
  exact ⟨fun _ _ _ _ h => h, rfl, rfl⟩
  exact fun wS hmS => rn_load1 hmS 2 rfl _ _ rfl (0 + xo * 1) (he15.tmp 12 _ rfl) one9 _ (g_word xo (by omega))
  clear he15
  obtain ⟨z3, hz3⟩ : ∃ z : ByteArray, z = (z2) ++ (wordS xo) := ⟨_, rfl⟩
  have hsz3 : z3.size = (z2 : ByteArray).size + (wordS xo : ByteArray).size := by rw [hz3, ByteArray.size_append]
  refine tk (fuel := 9) (i := 10) ?_ he16 hm4 ⟨rfl, rfl, trivial⟩ (.string (z3)) ?_ ?_ ?_ ?_ fun a17 he17 => ?_
  rotate_left
  rw [List.getElem?_toArray]; rfl
  exact ⟨by kernel_rfl, by kernel_rfl, by kernel_rfl⟩
  exact ⟨fun _ _ _ _ h => h, rfl, rfl⟩
  exact fun wS hmS => rn_saddZ _ _ _ _ rfl _ _ (he16.tmp 8 _ rfl) (he16.tmp 13 _ rfl) (by omega) z3 hz3
  clear he16
  obtain ⟨z4, hz4⟩ : ∃ z : ByteArray, z = (z3) ++ (⟨#[32]⟩) := ⟨_, rfl⟩
  have hsz4 : z4.size = (z3 : ByteArray).size + (⟨#[32]⟩ : ByteArray).size := by rw [hz4, ByteArray.size_append]
  refine tk (fuel := 8) (i := 11) ?_ he17 hm4 ⟨rfl, rfl, trivial⟩ (.string (z4)) ?_ ?_ ?_ ?_ fun a18 he18 => ?_
  rotate_left
  rw [List.getElem?_toArray]; rfl
  exact ⟨by kernel_rfl, by kernel_rfl, by kernel_rfl⟩
  exact ⟨fun _ _ _ _ h => h, rfl, rfl⟩
  exact fun wS hmS => rn_saddZ _ _ _ _ rfl _ _ (he17.tmp 14 _ rfl) rfl (by omega) z4 hz4
  clear he17
  refine wh_call (i := 14) (op := ?op1d_14) (fuel := 7) ?hr1d_14 ?hi1d_14 he18 hm4 ⟨rfl, rfl, trivial⟩ ?hd1d_14 ?hw1d_14 _ #[.int .i64 (((xn : Nat) : Int))] ?en1d_14 (.string (decS xn)) (c_dec _ _ (by omega)) (fun a19 w5 he19 hm5 => ?k1d_14)
  case hi1d_14 => rw [List.getElem?_toArray]; rfl
  case hw1d_14 => exact rfl
  case hr1d_14 => kernel_rfl
  case hd1d_14 => rfl
  case en1d_14 => exact (enter_call _ _ _ rfl 31 #[] #[] rfl #[.int .i64 (((xn : Nat) : Int))] (map1 (he18.tmp 17 _ rfl)) #[.int .i64 (((xn : Nat) : Int))] rfl (fun _ _ => by kernel_rfl))
  clear he18 hm4
  obtain ⟨z5, hz5⟩ : ∃ z : ByteArray, z = (z4) ++ (decS xn) := ⟨_, rfl⟩
  have hsz5 : z5.size = (z4 : ByteArray).size + (decS xn : ByteArray).size := by rw [hz5, ByteArray.size_append]
  refine tk (fuel := 6) (i := 15) ?_ he19 hm5 ⟨rfl, rfl, trivial⟩ (.string (z5)) ?_ ?_ ?_ ?_ fun a20 he20 => ?_
  rotate_left
  rw [List.getElem?_toArray]; rfl
  exact ⟨by kernel_rfl, by kernel_rfl, by kernel_rfl⟩
  exact ⟨fun _ _ _ _ h => h, rfl, rfl⟩
  exact fun wS hmS => rn_saddZ _ _ _ _ rfl _ _ (he19.tmp 15 _ rfl) (he19.tmp 18 _ rfl) (by omega) z5 hz5
  clear he19
  obtain ⟨z6, hz6⟩ : ∃ z : ByteArray, z = (z5) ++ (⟨#[32]⟩) := ⟨_, rfl⟩
  have hsz6 : z6.size = (z5 : ByteArray).size + (⟨#[32]⟩ : ByteArray).size := by rw [hz6, ByteArray.size_append]
  refine tk (fuel := 5) (i := 16) ?_ he20 hm5 ⟨rfl, rfl, trivial⟩ (.string (z6)) ?_ ?_ ?_ ?_ fun a21 he21 => ?_
  rotate_left
  rw [List.getElem?_toArray]; rfl
  exact ⟨by kernel_rfl, by kernel_rfl, by kernel_rfl⟩
  exact ⟨fun _ _ _ _ h => h, rfl, rfl⟩
  exact fun wS hmS => rn_saddZ _ _ _ _ rfl _ _ (he20.tmp 19 _ rfl) rfl (by omega) z6 hz6
  clear he20
  refine wh_callN (i := 17) (op := ?op1d_17) (fuel := 4) ?hr1d_17 ?hi1d_17 he21 hm5 3 rfl ?hd1d_17 ?hw1d_17 _ #[] ?en1d_17 (c_verbs _) (fun _ _ => ⟨rfl, rfl, trivial⟩) (fun _ _ => ⟨rfl, rfl, trivial⟩) (fun x3 b3 a22 w6 hx3 he22 hm6 => ?k1d_17)
  case hi1d_17 => rw [List.getElem?_toArray]; rfl
  case hw1d_17 => exact rfl
  case hr1d_17 => kernel_rfl
  case hd1d_17 => rfl
  case en1d_17 => exact (enter_call _ _ _ rfl 33 #[] #[] rfl #[] (map0 _ ) #[] rfl (fun _ _ => by kernel_rfl))
  clear he21 hm5
  refine tk (fuel := 3) (i := 20) ?_ he22 hm6 ⟨rfl, rfl, rfl, trivial⟩ (.pointer (some ⟨b3, 0 + xv * 1, none⟩)) ?_ ?_ ?_ ?_ fun a23 he23 => ?_
  rotate_left
  rw [List.getElem?_toArray]; rfl
  exact ⟨by kernel_rfl, by kernel_rfl, by kernel_rfl⟩
  exact ⟨fun _ _ _ _ h => h, rfl, rfl⟩
  exact fun wS hmS => rn_indexA _ _ _ rfl _ _ (.pointer (some ⟨b3, 0 + xv * 1, none⟩)) (he22.tmp 21 _ rfl) (he22.tmp 23 _ rfl) (ixS 9 1 (by kernel_rfl) (fun w => by kernel_rfl) (b3) (0) (3) (3) (xv) (by omega) _)
  clear he22
  refine tk (fuel := 2) (i := 21) ?_ he23 hm6 ⟨rfl, rfl, rfl, trivial⟩ (.string (verbS xv)) ?_ ?_ ?_ ?_ fun a24 he24 => ?_
  rotate_left
  rw [List.getElem?_toArray]; rfl
  exact ⟨by kernel_rfl, by kernel_rfl, by kernel_rfl⟩
  exact ⟨fun _ _ _ _ h => h, rfl, rfl⟩
  exact fun wS hmS => rn_load1 hmS 3 rfl _ _ rfl (0 + xv * 1) (he23.tmp 24 _ rfl) one9 _ (g_verb xv (by omega))
  clear he23
  obtain ⟨z7, hz7⟩ : ∃ z : ByteArray, z = (z6) ++ (verbS xv) := ⟨_, rfl⟩
  have hsz7 : z7.size = (z6 : ByteArray).size + (verbS xv : ByteArray).size := by rw [hz7, ByteArray.size_append]
  refine tk (fuel := 1) (i := 22) ?_ he24 hm6 ⟨rfl, rfl, rfl, trivial⟩ (.string (z7)) ?_ ?_ ?_ ?_ fun a25 he25 => ?_
  rotate_left
  rw [List.getElem?_toArray]; rfl
  exact ⟨by kernel_rfl, by kernel_rfl, by kernel_rfl⟩
  exact ⟨fun _ _ _ _ h => h, rfl, rfl⟩
  exact fun wS hmS => rn_saddZ _ _ _ _ rfl _ _ (he24.tmp 20 _ rfl) (he24.tmp 25 _ rfl) (by omega) z7 hz7
  clear he24
  refine tk (fuel := 0) (i := 23) ?_ he25 hm6 ⟨rfl, rfl, rfl, trivial⟩ (.string (z7)) ?_ ?_ ?_ ?_ fun a26 he26 => ?_
  rotate_left
  rw [List.getElem?_toArray]; rfl
  exact ⟨by kernel_rfl, by kernel_rfl, by kernel_rfl⟩
  exact ⟨fun _ _ _ _ h => h, rfl, rfl⟩
  exact fun wS hmS => rn_move _ (Or.inr rfl) _ (he25.tmp 26 _ rfl)
  clear he25
  refine wpAnyH_done (by kernel_rfl) ?_ _
  refine then_normal ?_
  refine wp_seq ?_
  refine wp_seqR ?_
  refine wl_val he26 rfl rfl (.pointer (some ⟨b1, 3, none⟩)) (rn_field _ _ _ rfl _ (.pointer (some ⟨b1, 3, none⟩)) (he26.tmp 1 _ rfl) (by kernel_rfl)) (fun a27 he27 => ?_)
  clear he26
  refine wl_val he27 rfl rfl (.int .i64 (((xv : Nat) : Int))) (rn_load1 hm6 1 rfl _ _ rfl (3) (he27.tmp 27 _ rfl) one3 _ rfl) (fun a28 he28 => ?_)
  clear he27
  cases hd1 : ((((xv : Nat) : Int) == 2))
  ·
   have hd1p : ((xv : Nat) : Int) ≠ 2 := by simpa using hd1
   refine wl_val he28 rfl rfl (.bool false) (rn_bin _ _ _ _ _ rfl .i64 _ _ (he28.tmp 28 _ rfl) rfl (.bool ((((xv : Nat) : Int) == 2))) _ rfl (congrArg Value.bool (hd1))) (fun a29 he29 => ?_)
   clear he28
   refine wl_end ?_
   refine wp_condF (he := he29) rfl ?_
   refine wp_skip ?_
   refine then_normal ?_
   refine wp_seqR ?_
   refine wl_val he29 rfl rfl (.string (z7)) (rn_move _ (Or.inl rfl) _ (he29.tmp 3 _ rfl)) (fun a30 he30 => ?_)
   clear he29
   obtain ⟨z8, hz8⟩ : ∃ z : ByteArray, z = (z7) ++ (⟨#[10]⟩) := ⟨_, rfl⟩
   have hsz8 : z8.size = (z7 : ByteArray).size + (⟨#[10]⟩ : ByteArray).size := by rw [hz8, ByteArray.size_append]
   refine wl_val he30 rfl rfl (.string (z8)) (rn_saddZ _ _ _ _ rfl _ _ (he30.tmp 36 _ rfl) rfl (by omega) z8 hz8) (fun a31 he31 => ?_)
   clear he30
   refine wl_val he31 rfl rfl (.string (z8)) (rn_move _ (Or.inr rfl) _ (he31.tmp 37 _ rfl)) (fun a32 he32 => ?_)
   clear he31
   refine wl_end ?_
   refine wp_ret ?_
   exact bodyPost_ret (results_tmp he32 _ Tryd.results18 _ rfl) he32.defers ⟨(by simp only [lineS, hd1, hz8, hz7, hz6, hz5, hz4, hz3, hz2, hz1, Bool.false_eq_true, if_false, if_true, reduceIte]), hm6.below⟩
  ·
   have hd1p : ((xv : Nat) : Int) = 2 := by simpa using hd1
   refine wl_val he28 rfl rfl (.bool true) (rn_bin _ _ _ _ _ rfl .i64 _ _ (he28.tmp 28 _ rfl) rfl (.bool ((((xv : Nat) : Int) == 2))) _ rfl (congrArg Value.bool (hd1))) (fun a29 he29 => ?_)
   clear he28
   refine wl_end ?_
   refine wp_condT (he := he29) rfl ?_
   refine wp_region_lit ?_
   refine wl_val he29 rfl rfl (.string (z7)) (rn_move _ (Or.inl rfl) _ (he29.tmp 3 _ rfl)) (fun a30 he30 => ?_)
   clear he29
   obtain ⟨z8, hz8⟩ : ∃ z : ByteArray, z = (z7) ++ (⟨#[32]⟩) := ⟨_, rfl⟩
   have hsz8 : z8.size = (z7 : ByteArray).size + (⟨#[32]⟩ : ByteArray).size := by rw [hz8, ByteArray.size_append]
   refine wl_val he30 rfl rfl (.string (z8)) (rn_saddZ _ _ _ _ rfl _ _ (he30.tmp 30 _ rfl) rfl (by omega) z8 hz8) (fun a31 he31 => ?_)
   clear he30
   refine wl_val he31 rfl rfl (.pointer (some ⟨b1, 4, none⟩)) (rn_field _ _ _ rfl _ (.pointer (some ⟨b1, 4, none⟩)) (he31.tmp 1 _ rfl) (by kernel_rfl)) (fun a32 he32 => ?_)
   clear he31
   refine wl_val he32 rfl rfl (.int .i64 (((xk : Nat) : Int))) (rn_load1 hm6 1 rfl _ _ rfl (4) (he32.tmp 32 _ rfl) one3 _ rfl) (fun a33 he33 => ?_)
   clear he32
   refine wl_call he33 hm6 rfl rfl _ #[.int .i64 (((xk : Nat) : Int))] (enter_call _ _ _ rfl 31 #[] #[] rfl #[.int .i64 (((xk : Nat) : Int))] (map1 (he33.tmp 33 _ rfl)) #[.int .i64 (((xk : Nat) : Int))] rfl (fun _ _ => by kernel_rfl)) (.string (decS xk)) (c_dec _ _ (by omega)) (fun a34 w7 he34 hm7 => ?_)
   clear he33 hm6
   obtain ⟨z9, hz9⟩ : ∃ z : ByteArray, z = (z8) ++ (decS xk) := ⟨_, rfl⟩
   have hsz9 : z9.size = (z8 : ByteArray).size + (decS xk : ByteArray).size := by rw [hz9, ByteArray.size_append]
   refine wl_val he34 rfl rfl (.string (z9)) (rn_saddZ _ _ _ _ rfl _ _ (he34.tmp 31 _ rfl) (he34.tmp 34 _ rfl) (by omega) z9 hz9) (fun a35 he35 => ?_)
   clear he34
   refine wl_val he35 rfl rfl (.string (z9)) (rn_move _ (Or.inr rfl) _ (he35.tmp 35 _ rfl)) (fun a36 he36 => ?_)
   clear he35
   refine wpList_nil ?_
   refine then_normal ?_
   refine wp_seqR ?_
   refine wl_val he36 rfl rfl (.string (z9)) (rn_move _ (Or.inl rfl) _ (he36.tmp 3 _ rfl)) (fun a37 he37 => ?_)
   clear he36
   obtain ⟨z10, hz10⟩ : ∃ z : ByteArray, z = (z9) ++ (⟨#[10]⟩) := ⟨_, rfl⟩
   have hsz10 : z10.size = (z9 : ByteArray).size + (⟨#[10]⟩ : ByteArray).size := by rw [hz10, ByteArray.size_append]
   refine wl_val he37 rfl rfl (.string (z10)) (rn_saddZ _ _ _ _ rfl _ _ (he37.tmp 36 _ rfl) rfl (by omega) z10 hz10) (fun a38 he38 => ?_)
   clear he37
   refine wl_val he38 rfl rfl (.string (z10)) (rn_move _ (Or.inr rfl) _ (he38.tmp 37 _ rfl)) (fun a39 he39 => ?_)
   clear he38
   refine wl_end ?_
   refine wp_ret ?_
   exact bodyPost_ret (results_tmp he39 _ Tryd.results18 _ rfl) he39.defers ⟨(by simp only [lineS, hd1, hz10, hz9, hz8, hz7, hz6, hz5, hz4, hz3, hz2, hz1, Bool.false_eq_true, if_false, if_true, reduceIte]), hm7.below⟩
end Go.Proofs.YtkaekiodjjhjkaaDoor
