/- The law of rules written: its walk. -/
import Derived.Test.YtcopcajleonndaaDoorPU
import Derived.Test.YtcopcajleonndaaDoorRLW
namespace Go.Proofs.YtcopcajleonndaaDoor
open Go.RowKit
set_option linter.unusedVariables false
set_option linter.unusedSimpArgs false
theorem law_put_n (f : Nat → Ru) (b p n c : Nat) (w : World) (hT : TabsR w) (hR : RowAt w b p n 5 fun i => (f i).arr) (hn : n ≤ 9223372036854775807) :
    Calls Tryd.prog 3 #[.slice (some ⟨b, p, none⟩) (n) (c)] w fun e w' => e = .returned (.bool true) ∧ Below w.heap.size w w' := by
  refine calls_begin Tryd.func3 rfl 27 rfl (Nat.le_of_ble_eq_true rfl) [(0, .slice (some ⟨b, p, none⟩) (n) (c))] ⟨rfl, trivial⟩ (fun a0 he0 hm0 => ?_)
  have hsame : (!((putR f n).toList == (putR f n).toList)) = false := by simp
  refine wp_seqR ?_
  refine wl_val he0 rfl rfl (.bool false) (rn_move _ (Or.inr rfl) _ rfl) (fun a1 he1 => ?_)
  clear he0
  refine wl_end ?_
  refine wp_seqR ?_
  refine wl_val he1 rfl rfl (.int .i64 (1048576)) (rn_move _ (Or.inr rfl) _ rfl) (fun a2 he2 => ?_)
  clear he1
  refine wl_end ?_
  refine wp_seqR ?_
  refine wl_val he2 rfl rfl (.slice (some ⟨b, p, none⟩) (n) (c)) (rn_move _ (Or.inl rfl) _ (he2.tmp 0 _ rfl)) (fun a3 he3 => ?_)
  clear he2
  refine wl_val he3 rfl rfl (.int .i64 (1048576)) (rn_move _ (Or.inl rfl) _ (he3.tmp 3 _ rfl)) (fun a4 he4 => ?_)
  clear he3
  refine wl_call he4 hm0 rfl rfl _ #[.slice (some ⟨b, p, none⟩) (n) (c), .int .i64 (1048576)] (enter_call _ _ _ rfl 5 #[] #[] rfl #[.slice (some ⟨b, p, none⟩) (n) (c), .int .i64 (1048576)] (map2 (he4.tmp 7 _ rfl) (he4.tmp 8 _ rfl)) #[.slice (some ⟨b, p, none⟩) (n) (c), .int .i64 (1048576)] rfl (fun _ _ => by kernel_rfl)) (.int .i64 (szN n)) (c_sz _ _ _ _ (by omega)) (fun a5 w1 he5 hm1 => ?_)
  clear he4 hm0
  refine wl_val he5 rfl rfl (.int .i64 (szN n)) (rn_move _ (Or.inr rfl) _ (he5.tmp 9 _ rfl)) (fun a6 he6 => ?_)
  clear he5
  refine wl_end ?_
  refine wp_seq ?_
  refine wp_seqR ?_
  refine wl_val he6 rfl rfl (.int .i64 (szN n)) (rn_move _ (Or.inl rfl) _ (he6.tmp 3 _ rfl)) (fun a7 he7 => ?_)
  clear he6
  cases hd1 : (decide (szN n < 0))
  ·
   have hd1p := of_decide_eq_false hd1
   refine wl_val he7 rfl rfl (.bool false) (rn_bin _ _ _ _ _ rfl .i64 _ _ (he7.tmp 10 _ rfl) rfl (.bool (decide (szN n < 0))) _ rfl (congrArg Value.bool (hd1))) (fun a8 he8 => ?_)
   clear he7
   refine wl_end ?_
   refine wp_condF (he := he8) rfl ?_
   refine wp_skip ?_
   refine then_normal ?_
   refine wp_seqR ?_
   refine wl_val he8 rfl rfl (.slice (some ⟨b, p, none⟩) (n) (c)) (rn_move _ (Or.inl rfl) _ (he8.tmp 0 _ rfl)) (fun a9 he9 => ?_)
   clear he8
   refine wl_callN he9 hm1 1 rfl rfl rfl _ #[.slice (some ⟨b, p, none⟩) (n) (c)] (enter_call _ _ _ rfl 7 #[] #[] rfl #[.slice (some ⟨b, p, none⟩) (n) (c)] (map1 (he9.tmp 12 _ rfl)) #[.slice (some ⟨b, p, none⟩) (n) (c)] rfl (fun _ _ => by kernel_rfl)) (c_toRuleS f b p n c _ (hR.kb hm1.keep (by simp)) (szN_ge hd1p)) (fun x1 b1 a10 w2 hx1 he10 hm2 => ?_)
   clear he9 hm1
   refine wl_call he10 hm2 rfl rfl _ #[.slice (some ⟨b1, 0, none⟩) (n) (n)] (enter_call _ _ _ rfl 6 #[] #[] rfl #[.slice (some ⟨b1, 0, none⟩) (n) (n)] (map1 (he10.tmp 13 _ rfl)) #[.slice (some ⟨b1, 0, none⟩) (n) (n)] rfl (fun _ _ => by kernel_rfl)) (.string (putR f n)) (c_put f b1 0 n n _ (hx1.at (hm2.bx 1 _ _ _ _ rfl)) (szN_ge hd1p)) (fun a11 w3 he11 hm3 => ?_)
   clear he10 hm2
   refine wl_val he11 rfl rfl (.string (putR f n)) (rn_move _ (Or.inr rfl) _ (he11.tmp 14 _ rfl)) (fun a12 he12 => ?_)
   clear he11
   refine wl_end ?_
   refine wp_seqR ?_
   refine wl_val he12 rfl rfl (.slice (some ⟨b, p, none⟩) (n) (c)) (rn_move _ (Or.inl rfl) _ (he12.tmp 0 _ rfl)) (fun a13 he13 => ?_)
   clear he12
   refine wl_callN he13 hm3 2 rfl rfl rfl _ #[.slice (some ⟨b, p, none⟩) (n) (c)] (enter_call _ _ _ rfl 7 #[] #[] rfl #[.slice (some ⟨b, p, none⟩) (n) (c)] (map1 (he13.tmp 15 _ rfl)) #[.slice (some ⟨b, p, none⟩) (n) (c)] rfl (fun _ _ => by kernel_rfl)) (c_toRuleS f b p n c _ (hR.kb hm3.keep (by simp)) (szN_ge hd1p)) (fun x2 b2 a14 w4 hx2 he14 hm4 => ?_)
   clear he13 hm3
   refine wl_val he14 rfl rfl (.slice (some ⟨b2, 0, none⟩) (n) (n)) (rn_move _ (Or.inr rfl) _ (he14.tmp 16 _ rfl)) (fun a15 he15 => ?_)
   clear he14
   refine wl_end ?_
   refine wp_seqR ?_
   refine wl_val he15 rfl rfl (.slice (some ⟨b2, 0, none⟩) (n) (n)) (rn_move _ (Or.inl rfl) _ (he15.tmp 5 _ rfl)) (fun a16 he16 => ?_)
   clear he15
   refine wl_call he16 hm4 rfl rfl _ #[.slice (some ⟨b2, 0, none⟩) (n) (n)] (enter_call _ _ _ rfl 8 #[] #[] rfl #[.slice (some ⟨b2, 0, none⟩) (n) (n)] (map1 (he16.tmp 17 _ rfl)) #[.slice (some ⟨b2, 0, none⟩) (n) (n)] rfl (fun _ _ => by kernel_rfl)) (.string (putR f n)) (c_iput f b2 0 n n _ (hx2.at (hm4.bx 2 _ _ _ _ rfl)) (szN_ge hd1p) (hT.kb hm4.keep rfl)) (fun a17 w5 he17 hm5 => ?_)
   clear he16 hm4
   refine wl_val he17 rfl rfl (.string (putR f n)) (rn_move _ (Or.inr rfl) _ (he17.tmp 18 _ rfl)) (fun a18 he18 => ?_)
   clear he17
   refine wl_end ?_
   refine wp_seq ?_
   refine wp_seqR ?_
   refine wl_val he18 rfl rfl (.string (putR f n)) (rn_move _ (Or.inl rfl) _ (he18.tmp 6 _ rfl)) (fun a19 he19 => ?_)
   clear he18
   refine wl_val he19 rfl rfl (.string (putR f n)) (rn_move _ (Or.inl rfl) _ (he19.tmp 4 _ rfl)) (fun a20 he20 => ?_)
   clear he19
   refine wl_val he20 rfl rfl (.bool false) (rn_seq _ (by simp) _ _ _ _ rfl _ _ (he20.tmp 19 _ rfl) (he20.tmp 20 _ rfl) _ (by simp [hsame])) (fun a21 he21 => ?_)
   clear he20
   refine wl_end ?_
   refine wp_condF (he := he21) rfl ?_
   refine wp_skip ?_
   refine then_normal ?_
   refine wp_seq ?_
   refine wp_seqR ?_
   refine wl_val he21 rfl rfl (.slice (some ⟨b2, 0, none⟩) (n) (n)) (rn_move _ (Or.inl rfl) _ (he21.tmp 5 _ rfl)) (fun a22 he22 => ?_)
   clear he21
   refine wl_val he22 rfl rfl (.slice (some ⟨b, p, none⟩) (n) (c)) (rn_move _ (Or.inl rfl) _ (he22.tmp 0 _ rfl)) (fun a23 he23 => ?_)
   clear he22
   refine wl_callN he23 hm5 3 rfl rfl rfl _ #[.slice (some ⟨b, p, none⟩) (n) (c)] (enter_call _ _ _ rfl 7 #[] #[] rfl #[.slice (some ⟨b, p, none⟩) (n) (c)] (map1 (he23.tmp 23 _ rfl)) #[.slice (some ⟨b, p, none⟩) (n) (c)] rfl (fun _ _ => by kernel_rfl)) (c_toRuleS f b p n c _ (hR.kb hm5.keep (by simp)) (szN_ge hd1p)) (fun x3 b3 a24 w6 hx3 he24 hm6 => ?_)
   clear he23 hm5
   refine wl_call he24 hm6 rfl rfl _ #[.slice (some ⟨b2, 0, none⟩) (n) (n), .slice (some ⟨b3, 0, none⟩) (n) (n)] (enter_call _ _ _ rfl 9 #[] #[] rfl #[.slice (some ⟨b2, 0, none⟩) (n) (n), .slice (some ⟨b3, 0, none⟩) (n) (n)] (map2 (he24.tmp 22 _ rfl) (he24.tmp 24 _ rfl)) #[.slice (some ⟨b2, 0, none⟩) (n) (n), .slice (some ⟨b3, 0, none⟩) (n) (n)] rfl (fun _ _ => by kernel_rfl)) (.bool true) (callsV (congrArg Value.bool (eqRus_same f _)) (c_eqRuleS f f b2 0 n n b3 0 n n _ (hx2.at (hm6.bx 2 _ _ _ _ rfl)) (szN_ge hd1p) (hx3.at (hm6.bx 3 _ _ _ _ rfl)) (szN_ge hd1p))) (fun a25 w7 he25 hm7 => ?_)
   clear he24 hm6
   refine wl_val he25 rfl rfl (.bool false) (rn_un _ _ _ rfl _ (.bool (!true)) _ (he25.tmp 25 _ rfl) rfl rfl) (fun a26 he26 => ?_)
   clear he25
   refine wl_end ?_
   refine wp_condF (he := he26) rfl ?_
   refine wp_skip ?_
   refine then_normal ?_
   refine wp_seqR ?_
   refine wl_val he26 rfl rfl (.bool true) (rn_move _ (Or.inr rfl) _ rfl) (fun a27 he27 => ?_)
   clear he26
   refine wl_end ?_
   refine wp_ret ?_
   exact bodyPost_ret (results_tmp he27 _ Tryd.results3 _ rfl) he27.defers ⟨rfl, hm7.below⟩
  ·
   have hd1p := of_decide_eq_true hd1
   refine wl_val he7 rfl rfl (.bool true) (rn_bin _ _ _ _ _ rfl .i64 _ _ (he7.tmp 10 _ rfl) rfl (.bool (decide (szN n < 0))) _ rfl (congrArg Value.bool (hd1))) (fun a8 he8 => ?_)
   clear he7
   refine wl_end ?_
   refine wp_condT (he := he8) rfl ?_
   refine wp_seqR ?_
   refine wl_val he8 rfl rfl (.bool true) (rn_move _ (Or.inr rfl) _ rfl) (fun a9 he9 => ?_)
   clear he8
   refine wl_end ?_
   refine wp_ret ?_
   refine ret_then ?_
   exact bodyPost_ret (results_tmp he9 _ Tryd.results3 _ rfl) he9.defers ⟨rfl, hm1.below⟩
theorem law_put_0 (f : Nat → Ru) (a : Option Addr) (c : Nat) (w : World) (hT : TabsR w) :
    Calls Tryd.prog 3 #[.slice (a) (0) (c)] w fun e w' => e = .returned (.bool true) ∧ Below w.heap.size w w' := by
  refine calls_begin Tryd.func3 rfl 27 rfl (Nat.le_of_ble_eq_true rfl) [(0, .slice (a) (0) (c))] ⟨rfl, trivial⟩ (fun a0 he0 hm0 => ?_)
  have hsame : (!((putR f 0).toList == (putR f 0).toList)) = false := by simp
  refine wp_seqR ?_
  refine wl_val he0 rfl rfl (.bool false) (rn_move _ (Or.inr rfl) _ rfl) (fun a1 he1 => ?_)
  clear he0
  refine wl_end ?_
  refine wp_seqR ?_
  refine wl_val he1 rfl rfl (.int .i64 (1048576)) (rn_move _ (Or.inr rfl) _ rfl) (fun a2 he2 => ?_)
  clear he1
  refine wl_end ?_
  refine wp_seqR ?_
  refine wl_val he2 rfl rfl (.slice (a) (0) (c)) (rn_move _ (Or.inl rfl) _ (he2.tmp 0 _ rfl)) (fun a3 he3 => ?_)
  clear he2
  refine wl_val he3 rfl rfl (.int .i64 (1048576)) (rn_move _ (Or.inl rfl) _ (he3.tmp 3 _ rfl)) (fun a4 he4 => ?_)
  clear he3
  refine wl_call he4 hm0 rfl rfl _ #[.slice (a) (0) (c), .int .i64 (1048576)] (enter_call _ _ _ rfl 5 #[] #[] rfl #[.slice (a) (0) (c), .int .i64 (1048576)] (map2 (he4.tmp 7 _ rfl) (he4.tmp 8 _ rfl)) #[.slice (a) (0) (c), .int .i64 (1048576)] rfl (fun _ _ => by kernel_rfl)) (.int .i64 (szN 0)) (c_sz _ _ _ _ (by omega)) (fun a5 w1 he5 hm1 => ?_)
  clear he4 hm0
  refine wl_val he5 rfl rfl (.int .i64 (szN 0)) (rn_move _ (Or.inr rfl) _ (he5.tmp 9 _ rfl)) (fun a6 he6 => ?_)
  clear he5
  refine wl_end ?_
  refine wp_seq ?_
  refine wp_seqR ?_
  refine wl_val he6 rfl rfl (.int .i64 (szN 0)) (rn_move _ (Or.inl rfl) _ (he6.tmp 3 _ rfl)) (fun a7 he7 => ?_)
  clear he6
  cases hd1 : (decide (szN 0 < 0))
  ·
   have hd1p := of_decide_eq_false hd1
   refine wl_val he7 rfl rfl (.bool false) (rn_bin _ _ _ _ _ rfl .i64 _ _ (he7.tmp 10 _ rfl) rfl (.bool (decide (szN 0 < 0))) _ rfl (congrArg Value.bool (hd1))) (fun a8 he8 => ?_)
   clear he7
   refine wl_end ?_
   refine wp_condF (he := he8) rfl ?_
   refine wp_skip ?_
   refine then_normal ?_
   refine wp_seqR ?_
   refine wl_val he8 rfl rfl (.slice (a) (0) (c)) (rn_move _ (Or.inl rfl) _ (he8.tmp 0 _ rfl)) (fun a9 he9 => ?_)
   clear he8
   refine wl_callN he9 hm1 1 rfl rfl rfl _ #[.slice (a) (0) (c)] (enter_call _ _ _ rfl 7 #[] #[] rfl #[.slice (a) (0) (c)] (map1 (he9.tmp 12 _ rfl)) #[.slice (a) (0) (c)] rfl (fun _ _ => by kernel_rfl)) (c_toRuleS0 f a c _) (fun x1 b1 a10 w2 hx1 he10 hm2 => ?_)
   clear he9 hm1
   refine wl_call he10 hm2 rfl rfl _ #[.slice (some ⟨b1, 0, none⟩) (0) (0)] (enter_call _ _ _ rfl 6 #[] #[] rfl #[.slice (some ⟨b1, 0, none⟩) (0) (0)] (map1 (he10.tmp 13 _ rfl)) #[.slice (some ⟨b1, 0, none⟩) (0) (0)] rfl (fun _ _ => by kernel_rfl)) (.string (putR f 0)) (c_put f b1 0 0 0 _ (hx1.at (hm2.bx 1 _ _ _ _ rfl)) (by omega)) (fun a11 w3 he11 hm3 => ?_)
   clear he10 hm2
   refine wl_val he11 rfl rfl (.string (putR f 0)) (rn_move _ (Or.inr rfl) _ (he11.tmp 14 _ rfl)) (fun a12 he12 => ?_)
   clear he11
   refine wl_end ?_
   refine wp_seqR ?_
   refine wl_val he12 rfl rfl (.slice (a) (0) (c)) (rn_move _ (Or.inl rfl) _ (he12.tmp 0 _ rfl)) (fun a13 he13 => ?_)
   clear he12
   refine wl_callN he13 hm3 2 rfl rfl rfl _ #[.slice (a) (0) (c)] (enter_call _ _ _ rfl 7 #[] #[] rfl #[.slice (a) (0) (c)] (map1 (he13.tmp 15 _ rfl)) #[.slice (a) (0) (c)] rfl (fun _ _ => by kernel_rfl)) (c_toRuleS0 f a c _) (fun x2 b2 a14 w4 hx2 he14 hm4 => ?_)
   clear he13 hm3
   refine wl_val he14 rfl rfl (.slice (some ⟨b2, 0, none⟩) (0) (0)) (rn_move _ (Or.inr rfl) _ (he14.tmp 16 _ rfl)) (fun a15 he15 => ?_)
   clear he14
   refine wl_end ?_
   refine wp_seqR ?_
   refine wl_val he15 rfl rfl (.slice (some ⟨b2, 0, none⟩) (0) (0)) (rn_move _ (Or.inl rfl) _ (he15.tmp 5 _ rfl)) (fun a16 he16 => ?_)
   clear he15
   refine wl_call he16 hm4 rfl rfl _ #[.slice (some ⟨b2, 0, none⟩) (0) (0)] (enter_call _ _ _ rfl 8 #[] #[] rfl #[.slice (some ⟨b2, 0, none⟩) (0) (0)] (map1 (he16.tmp 17 _ rfl)) #[.slice (some ⟨b2, 0, none⟩) (0) (0)] rfl (fun _ _ => by kernel_rfl)) (.string (putR f 0)) (c_iput f b2 0 0 0 _ (hx2.at (hm4.bx 2 _ _ _ _ rfl)) (by omega) (hT.kb hm4.keep rfl)) (fun a17 w5 he17 hm5 => ?_)
   clear he16 hm4
   refine wl_val he17 rfl rfl (.string (putR f 0)) (rn_move _ (Or.inr rfl) _ (he17.tmp 18 _ rfl)) (fun a18 he18 => ?_)
   clear he17
   refine wl_end ?_
   refine wp_seq ?_
   refine wp_seqR ?_
   refine wl_val he18 rfl rfl (.string (putR f 0)) (rn_move _ (Or.inl rfl) _ (he18.tmp 6 _ rfl)) (fun a19 he19 => ?_)
   clear he18
   refine wl_val he19 rfl rfl (.string (putR f 0)) (rn_move _ (Or.inl rfl) _ (he19.tmp 4 _ rfl)) (fun a20 he20 => ?_)
   clear he19
   refine wl_val he20 rfl rfl (.bool false) (rn_seq _ (by simp) _ _ _ _ rfl _ _ (he20.tmp 19 _ rfl) (he20.tmp 20 _ rfl) _ (by simp [hsame])) (fun a21 he21 => ?_)
   clear he20
   refine wl_end ?_
   refine wp_condF (he := he21) rfl ?_
   refine wp_skip ?_
   refine then_normal ?_
   refine wp_seq ?_
   refine wp_seqR ?_
   refine wl_val he21 rfl rfl (.slice (some ⟨b2, 0, none⟩) (0) (0)) (rn_move _ (Or.inl rfl) _ (he21.tmp 5 _ rfl)) (fun a22 he22 => ?_)
   clear he21
   refine wl_val he22 rfl rfl (.slice (a) (0) (c)) (rn_move _ (Or.inl rfl) _ (he22.tmp 0 _ rfl)) (fun a23 he23 => ?_)
   clear he22
   refine wl_callN he23 hm5 3 rfl rfl rfl _ #[.slice (a) (0) (c)] (enter_call _ _ _ rfl 7 #[] #[] rfl #[.slice (a) (0) (c)] (map1 (he23.tmp 23 _ rfl)) #[.slice (a) (0) (c)] rfl (fun _ _ => by kernel_rfl)) (c_toRuleS0 f a c _) (fun x3 b3 a24 w6 hx3 he24 hm6 => ?_)
   clear he23 hm5
   refine wl_call he24 hm6 rfl rfl _ #[.slice (some ⟨b2, 0, none⟩) (0) (0), .slice (some ⟨b3, 0, none⟩) (0) (0)] (enter_call _ _ _ rfl 9 #[] #[] rfl #[.slice (some ⟨b2, 0, none⟩) (0) (0), .slice (some ⟨b3, 0, none⟩) (0) (0)] (map2 (he24.tmp 22 _ rfl) (he24.tmp 24 _ rfl)) #[.slice (some ⟨b2, 0, none⟩) (0) (0), .slice (some ⟨b3, 0, none⟩) (0) (0)] rfl (fun _ _ => by kernel_rfl)) (.bool true) (callsV (congrArg Value.bool (eqRus_same f _)) (c_eqRuleS f f b2 0 0 0 b3 0 0 0 _ (hx2.at (hm6.bx 2 _ _ _ _ rfl)) (by omega) (hx3.at (hm6.bx 3 _ _ _ _ rfl)) (by omega))) (fun a25 w7 he25 hm7 => ?_)
   clear he24 hm6
   refine wl_val he25 rfl rfl (.bool false) (rn_un _ _ _ rfl _ (.bool (!true)) _ (he25.tmp 25 _ rfl) rfl rfl) (fun a26 he26 => ?_)
   clear he25
   refine wl_end ?_
   refine wp_condF (he := he26) rfl ?_
   refine wp_skip ?_
   refine then_normal ?_
   refine wp_seqR ?_
   refine wl_val he26 rfl rfl (.bool true) (rn_move _ (Or.inr rfl) _ rfl) (fun a27 he27 => ?_)
   clear he26
   refine wl_end ?_
   refine wp_ret ?_
   exact bodyPost_ret (results_tmp he27 _ Tryd.results3 _ rfl) he27.defers ⟨rfl, hm7.below⟩
  ·
   have hd1p := of_decide_eq_true hd1
   refine wl_val he7 rfl rfl (.bool true) (rn_bin _ _ _ _ _ rfl .i64 _ _ (he7.tmp 10 _ rfl) rfl (.bool (decide (szN 0 < 0))) _ rfl (congrArg Value.bool (hd1))) (fun a8 he8 => ?_)
   clear he7
   refine wl_end ?_
   refine wp_condT (he := he8) rfl ?_
   refine wp_seqR ?_
   refine wl_val he8 rfl rfl (.bool true) (rn_move _ (Or.inr rfl) _ rfl) (fun a9 he9 => ?_)
   clear he8
   refine wl_end ?_
   refine wp_ret ?_
   refine ret_then ?_
   exact bodyPost_ret (results_tmp he9 _ Tryd.results3 _ rfl) he9.defers ⟨rfl, hm1.below⟩
theorem law_put (f : Nat → Ru) (a : Option Addr) (n c : Nat) (w : World) (hT : TabsR w) (hm : n ≤ maxLen) (hr : ArgRu w a n f) : Calls Tryd.prog 3 #[.slice a n c] w fun e w' => e = .returned (.bool true) ∧ Below w.heap.size w w' := by
  rcases hr with rfl | ⟨b, p, rfl, hR⟩
  · exact law_put_0 f a c w hT
  · exact law_put_n f b p n c w hT hR (by simpa [maxLen] using hm)
end Go.Proofs.YtcopcajleonndaaDoor
