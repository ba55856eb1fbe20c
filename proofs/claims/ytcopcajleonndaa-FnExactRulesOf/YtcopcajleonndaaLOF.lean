/- The law of rules and bytes: its walk. -/
import Derived.Test.YtcopcajleonndaaRLW
import Derived.Test.YtcopcajleonndaaROF
namespace Go.Proofs.Ytcopcajleonndaa
open Go.RowKit
set_option linter.unusedVariables false
set_option linter.unusedSimpArgs false
theorem law_of_n (f : Nat → Ru) (b p n c : Nat) (s : ByteArray) (w : World) (hR : RowAt w b p n 5 fun i => (f i).arr) (hn : n ≤ 9223372036854775807) :
    Calls Try.prog 4 #[.slice (some ⟨b, p, none⟩) (n) (c), .string (s)] w fun e w' => e = .returned (.bool true) ∧ Below w.heap.size w w' := by
  refine calls_begin Try.func4 rfl 47 rfl (Nat.le_of_ble_eq_true rfl) [(0, .slice (some ⟨b, p, none⟩) (n) (c)), (1, .string (s))] ⟨rfl, rfl, trivial⟩ (fun a0 he0 hm0 => ?_)
  have hs1 : ((ofM f n s).1 != (ofM f n s).1) = false := by simp
  have hs2 : ((ofM f n s).2 != (ofM f n s).2) = false := by simp
  refine wp_seqR ?_
  refine wl_val he0 rfl rfl (.bool false) (rn_move _ (Or.inr rfl) _ rfl) (fun a1 he1 => ?_)
  clear he0
  refine wl_end ?_
  refine wp_seq ?_
  refine wp_seqR ?_
  refine wl_val he1 rfl rfl (.string (s)) (rn_move _ (Or.inl rfl) _ (he1.tmp 1 _ rfl)) (fun a2 he2 => ?_)
  clear he1
  refine wl_val he2 rfl rfl (.int .i64 ((((s).size : Nat) : Int))) (rn_builtin _ _ _ rfl #[.string (s)] (map1 (he2.tmp 11 _ rfl)) (.int .i64 ((((s).size : Nat) : Int))) (by kernel_rfl)) (fun a3 he3 => ?_)
  clear he2
  cases hd1 : (decide ((((s).size : Nat) : Int) > 1048576))
  · have hd1p := of_decide_eq_false hd1
    refine wl_val he3 rfl rfl (.bool false) (rn_bin _ _ _ _ _ rfl .i64 _ _ (he3.tmp 12 _ rfl) rfl (.bool (decide ((((s).size : Nat) : Int) > 1048576))) _ rfl (congrArg Value.bool (hd1))) (fun a4 he4 => ?_)
    clear he3
    refine wl_end ?_
    refine wp_condF (he := he4) rfl ?_
    refine wp_skip ?_
    refine then_normal ?_
    refine wp_seqR ?_
    refine wl_val he4 rfl rfl (.int .i64 (1048576)) (rn_move _ (Or.inr rfl) _ rfl) (fun a5 he5 => ?_)
    clear he4
    refine wl_end ?_
    refine wp_seqR ?_
    refine wl_val he5 rfl rfl (.slice (some ⟨b, p, none⟩) (n) (c)) (rn_move _ (Or.inl rfl) _ (he5.tmp 0 _ rfl)) (fun a6 he6 => ?_)
    clear he5
    refine wl_val he6 rfl rfl (.int .i64 (1048576)) (rn_move _ (Or.inl rfl) _ (he6.tmp 5 _ rfl)) (fun a7 he7 => ?_)
    clear he6
    refine wl_call he7 hm0 rfl rfl _ #[.slice (some ⟨b, p, none⟩) (n) (c), .int .i64 (1048576)] (enter_call _ _ _ rfl 7 #[] #[] rfl #[.slice (some ⟨b, p, none⟩) (n) (c), .int .i64 (1048576)] (map2 (he7.tmp 14 _ rfl) (he7.tmp 15 _ rfl)) #[.slice (some ⟨b, p, none⟩) (n) (c), .int .i64 (1048576)] rfl (fun _ _ => by kernel_rfl)) (.int .i64 (szN n)) (c_sz _ _ _ _ (by omega)) (fun a8 w1 he8 hm1 => ?_)
    clear he7 hm0
    refine wl_val he8 rfl rfl (.int .i64 (szN n)) (rn_move _ (Or.inr rfl) _ (he8.tmp 16 _ rfl)) (fun a9 he9 => ?_)
    clear he8
    refine wl_end ?_
    refine wp_seq ?_
    refine wp_seqR ?_
    refine wl_val he9 rfl rfl (.int .i64 (szN n)) (rn_move _ (Or.inl rfl) _ (he9.tmp 5 _ rfl)) (fun a10 he10 => ?_)
    clear he9
    cases hd2 : (decide (szN n < 0))
    · have hd2p := of_decide_eq_false hd2
      refine wl_val he10 rfl rfl (.bool false) (rn_bin _ _ _ _ _ rfl .i64 _ _ (he10.tmp 17 _ rfl) rfl (.bool (decide (szN n < 0))) _ rfl (congrArg Value.bool (hd2))) (fun a11 he11 => ?_)
      clear he10
      refine wl_end ?_
      refine wp_condF (he := he11) rfl ?_
      refine wp_skip ?_
      refine then_normal ?_
      refine wp_seqR ?_
      refine wl_val he11 rfl rfl (.slice (some ⟨b, p, none⟩) (n) (c)) (rn_move _ (Or.inl rfl) _ (he11.tmp 0 _ rfl)) (fun a12 he12 => ?_)
      clear he11
      refine wl_callN he12 hm1 1 rfl rfl rfl _ #[.slice (some ⟨b, p, none⟩) (n) (c)] (enter_call _ _ _ rfl 9 #[] #[] rfl #[.slice (some ⟨b, p, none⟩) (n) (c)] (map1 (he12.tmp 20 _ rfl)) #[.slice (some ⟨b, p, none⟩) (n) (c)] rfl (fun _ _ => by kernel_rfl)) (c_toRuleS f b p n c _ (hR.kb hm1.keep (by simp)) (szN_ge hd2p)) (fun x1 b1 a13 w2 hx1 he13 hm2 => ?_)
      clear he12 hm1
      refine wl_val he13 rfl rfl (.string (s)) (rn_move _ (Or.inl rfl) _ (he13.tmp 1 _ rfl)) (fun a14 he14 => ?_)
      clear he13
      refine wl_call he14 hm2 rfl rfl _ #[.slice (some ⟨b1, 0, none⟩) (n) (n), .string (s)] (enter_call _ _ _ rfl 12 #[] #[] rfl #[.slice (some ⟨b1, 0, none⟩) (n) (n), .string (s)] (map2 (he14.tmp 21 _ rfl) (he14.tmp 22 _ rfl)) #[.slice (some ⟨b1, 0, none⟩) (n) (n), .string (s)] rfl (fun _ _ => by kernel_rfl)) (.tuple #[.int .i64 ((ofM f n s).1), .int .i64 ((ofM f n s).2)]) (c_spOf f b1 0 n n s _ (hx1.at (hm2.bx 1 _ _ _ _ rfl)) (szN_ge hd2p)) (fun a15 w3 he15 hm3 => ?_)
      clear he14 hm2
      refine wl_val he15 rfl rfl (.tuple #[.int .i64 ((ofM f n s).1), .int .i64 ((ofM f n s).2)]) (rn_move _ (Or.inl rfl) _ (he15.tmp 23 _ rfl)) (fun a16 he16 => ?_)
      clear he15
      refine wl_val he16 rfl rfl (.int .i64 ((ofM f n s).1)) (rn_extract _ _ rfl _ (he16.tmp 19 _ rfl) _ rfl) (fun a17 he17 => ?_)
      clear he16
      refine wl_val he17 rfl rfl (.int .i64 ((ofM f n s).2)) (rn_extract _ _ rfl _ (he17.tmp 19 _ rfl) _ rfl) (fun a18 he18 => ?_)
      clear he17
      refine wl_val he18 rfl rfl (.int .i64 ((ofM f n s).1)) (rn_move _ (Or.inr rfl) _ (he18.tmp 24 _ rfl)) (fun a19 he19 => ?_)
      clear he18
      refine wl_val he19 rfl rfl (.int .i64 ((ofM f n s).2)) (rn_move _ (Or.inr rfl) _ (he19.tmp 25 _ rfl)) (fun a20 he20 => ?_)
      clear he19
      refine wl_end ?_
      refine wp_seqR ?_
      refine wl_val he20 rfl rfl (.slice (some ⟨b, p, none⟩) (n) (c)) (rn_move _ (Or.inl rfl) _ (he20.tmp 0 _ rfl)) (fun a21 he21 => ?_)
      clear he20
      refine wl_callN he21 hm3 2 rfl rfl rfl _ #[.slice (some ⟨b, p, none⟩) (n) (c)] (enter_call _ _ _ rfl 9 #[] #[] rfl #[.slice (some ⟨b, p, none⟩) (n) (c)] (map1 (he21.tmp 26 _ rfl)) #[.slice (some ⟨b, p, none⟩) (n) (c)] rfl (fun _ _ => by kernel_rfl)) (c_toRuleS f b p n c _ (hR.kb hm3.keep (by simp)) (szN_ge hd2p)) (fun x2 b2 a22 w4 hx2 he22 hm4 => ?_)
      clear he21 hm3
      refine wl_val he22 rfl rfl (.slice (some ⟨b2, 0, none⟩) (n) (n)) (rn_move _ (Or.inr rfl) _ (he22.tmp 27 _ rfl)) (fun a23 he23 => ?_)
      clear he22
      refine wl_end ?_
      refine wp_seqR ?_
      refine wl_val he23 rfl rfl (.slice (some ⟨b2, 0, none⟩) (n) (n)) (rn_move _ (Or.inl rfl) _ (he23.tmp 8 _ rfl)) (fun a24 he24 => ?_)
      clear he23
      refine wl_val he24 rfl rfl (.string (s)) (rn_move _ (Or.inl rfl) _ (he24.tmp 1 _ rfl)) (fun a25 he25 => ?_)
      clear he24
      refine wl_call he25 hm4 rfl rfl _ #[.slice (some ⟨b2, 0, none⟩) (n) (n), .string (s)] (enter_call _ _ _ rfl 13 #[] #[] rfl #[.slice (some ⟨b2, 0, none⟩) (n) (n), .string (s)] (map2 (he25.tmp 29 _ rfl) (he25.tmp 30 _ rfl)) #[.slice (some ⟨b2, 0, none⟩) (n) (n), .string (s)] rfl (fun _ _ => by kernel_rfl)) (.tuple #[.int .i64 ((ofM f n s).1), .int .i64 ((ofM f n s).2)]) (c_Of f b2 0 n n s _ (hx2.at (hm4.bx 2 _ _ _ _ rfl)) (szN_ge hd2p)) (fun a26 w5 he26 hm5 => ?_)
      clear he25 hm4
      refine wl_val he26 rfl rfl (.tuple #[.int .i64 ((ofM f n s).1), .int .i64 ((ofM f n s).2)]) (rn_move _ (Or.inl rfl) _ (he26.tmp 31 _ rfl)) (fun a27 he27 => ?_)
      clear he26
      refine wl_val he27 rfl rfl (.int .i64 ((ofM f n s).1)) (rn_extract _ _ rfl _ (he27.tmp 28 _ rfl) _ rfl) (fun a28 he28 => ?_)
      clear he27
      refine wl_val he28 rfl rfl (.int .i64 ((ofM f n s).2)) (rn_extract _ _ rfl _ (he28.tmp 28 _ rfl) _ rfl) (fun a29 he29 => ?_)
      clear he28
      refine wl_val he29 rfl rfl (.int .i64 ((ofM f n s).1)) (rn_move _ (Or.inr rfl) _ (he29.tmp 32 _ rfl)) (fun a30 he30 => ?_)
      clear he29
      refine wl_val he30 rfl rfl (.int .i64 ((ofM f n s).2)) (rn_move _ (Or.inr rfl) _ (he30.tmp 33 _ rfl)) (fun a31 he31 => ?_)
      clear he30
      refine wl_end ?_
      refine wp_seq ?_
      refine wp_seqR ?_
      refine wl_val he31 rfl rfl (.int .i64 ((ofM f n s).1)) (rn_move _ (Or.inl rfl) _ (he31.tmp 9 _ rfl)) (fun a32 he32 => ?_)
      clear he31
      refine wl_val he32 rfl rfl (.int .i64 ((ofM f n s).1)) (rn_move _ (Or.inl rfl) _ (he32.tmp 6 _ rfl)) (fun a33 he33 => ?_)
      clear he32
      refine wl_val he33 rfl rfl (.bool false) (rn_bin _ _ _ _ _ rfl .i64 _ _ (he33.tmp 34 _ rfl) (he33.tmp 35 _ rfl) (.bool (((ofM f n s).1 != (ofM f n s).1))) _ rfl (congrArg Value.bool (hs1))) (fun a34 he34 => ?_)
      clear he33
      refine wl_val he34 rfl rfl (.bool false) (rn_move _ (Or.inl rfl) _ (he34.tmp 36 _ rfl)) (fun a35 he35 => ?_)
      clear he34
      refine wl_val he35 rfl (wanted_slot he35 3 false rfl 37 rfl false rfl true rfl) (.int .i64 ((ofM f n s).2)) (rn_move _ (Or.inl rfl) _ (he35.tmp 10 _ rfl)) (fun a36 he36 => ?_)
      clear he35
      refine wl_val he36 rfl (wanted_slot he36 3 false rfl 37 rfl false rfl true rfl) (.int .i64 ((ofM f n s).2)) (rn_move _ (Or.inl rfl) _ (he36.tmp 7 _ rfl)) (fun a37 he37 => ?_)
      clear he36
      refine wl_val he37 rfl (wanted_slot he37 3 false rfl 37 rfl false rfl true rfl) (.bool false) (rn_bin _ _ _ _ _ rfl .i64 _ _ (he37.tmp 38 _ rfl) (he37.tmp 39 _ rfl) (.bool (((ofM f n s).2 != (ofM f n s).2))) _ rfl (congrArg Value.bool (hs2))) (fun a38 he38 => ?_)
      clear he37
      refine wl_val he38 rfl rfl (.bool false) (rn_pickF _ _ _ rfl (he38.tmp 37 _ rfl) _ (he38.tmp 40 _ rfl)) (fun a39 he39 => ?_)
      clear he38
      refine wl_end ?_
      refine wp_condF (he := he39) rfl ?_
      refine wp_skip ?_
      refine then_normal ?_
      refine wp_seq ?_
      refine wp_seqR ?_
      refine wl_val he39 rfl rfl (.slice (some ⟨b2, 0, none⟩) (n) (n)) (rn_move _ (Or.inl rfl) _ (he39.tmp 8 _ rfl)) (fun a40 he40 => ?_)
      clear he39
      refine wl_val he40 rfl rfl (.slice (some ⟨b, p, none⟩) (n) (c)) (rn_move _ (Or.inl rfl) _ (he40.tmp 0 _ rfl)) (fun a41 he41 => ?_)
      clear he40
      refine wl_callN he41 hm5 3 rfl rfl rfl _ #[.slice (some ⟨b, p, none⟩) (n) (c)] (enter_call _ _ _ rfl 9 #[] #[] rfl #[.slice (some ⟨b, p, none⟩) (n) (c)] (map1 (he41.tmp 43 _ rfl)) #[.slice (some ⟨b, p, none⟩) (n) (c)] rfl (fun _ _ => by kernel_rfl)) (c_toRuleS f b p n c _ (hR.kb hm5.keep (by simp)) (szN_ge hd2p)) (fun x3 b3 a42 w6 hx3 he42 hm6 => ?_)
      clear he41 hm5
      refine wl_call he42 hm6 rfl rfl _ #[.slice (some ⟨b2, 0, none⟩) (n) (n), .slice (some ⟨b3, 0, none⟩) (n) (n)] (enter_call _ _ _ rfl 11 #[] #[] rfl #[.slice (some ⟨b2, 0, none⟩) (n) (n), .slice (some ⟨b3, 0, none⟩) (n) (n)] (map2 (he42.tmp 42 _ rfl) (he42.tmp 44 _ rfl)) #[.slice (some ⟨b2, 0, none⟩) (n) (n), .slice (some ⟨b3, 0, none⟩) (n) (n)] rfl (fun _ _ => by kernel_rfl)) (.bool true) (callsV (congrArg Value.bool (eqRus_same f _)) (c_eqRuleS f f b2 0 n n b3 0 n n _ (hx2.at (hm6.bx 2 _ _ _ _ rfl)) (szN_ge hd2p) (hx3.at (hm6.bx 3 _ _ _ _ rfl)) (szN_ge hd2p))) (fun a43 w7 he43 hm7 => ?_)
      clear he42 hm6
      refine wl_val he43 rfl rfl (.bool false) (rn_un _ _ _ rfl _ (.bool (!true)) _ (he43.tmp 45 _ rfl) rfl rfl) (fun a44 he44 => ?_)
      clear he43
      refine wl_end ?_
      refine wp_condF (he := he44) rfl ?_
      refine wp_skip ?_
      refine then_normal ?_
      refine wp_seqR ?_
      refine wl_val he44 rfl rfl (.bool true) (rn_move _ (Or.inr rfl) _ rfl) (fun a45 he45 => ?_)
      clear he44
      refine wl_end ?_
      refine wp_ret ?_
      exact bodyPost_ret (results_tmp he45 _ Try.results4 _ rfl) he45.defers ⟨rfl, hm7.below⟩
    · have hd2p := of_decide_eq_true hd2
      refine wl_val he10 rfl rfl (.bool true) (rn_bin _ _ _ _ _ rfl .i64 _ _ (he10.tmp 17 _ rfl) rfl (.bool (decide (szN n < 0))) _ rfl (congrArg Value.bool (hd2))) (fun a11 he11 => ?_)
      clear he10
      refine wl_end ?_
      refine wp_condT (he := he11) rfl ?_
      refine wp_seqR ?_
      refine wl_val he11 rfl rfl (.bool true) (rn_move _ (Or.inr rfl) _ rfl) (fun a12 he12 => ?_)
      clear he11
      refine wl_end ?_
      refine wp_ret ?_
      refine ret_then ?_
      exact bodyPost_ret (results_tmp he12 _ Try.results4 _ rfl) he12.defers ⟨rfl, hm1.below⟩
  · have hd1p := of_decide_eq_true hd1
    refine wl_val he3 rfl rfl (.bool true) (rn_bin _ _ _ _ _ rfl .i64 _ _ (he3.tmp 12 _ rfl) rfl (.bool (decide ((((s).size : Nat) : Int) > 1048576))) _ rfl (congrArg Value.bool (hd1))) (fun a4 he4 => ?_)
    clear he3
    refine wl_end ?_
    refine wp_condT (he := he4) rfl ?_
    refine wp_seqR ?_
    refine wl_val he4 rfl rfl (.bool true) (rn_move _ (Or.inr rfl) _ rfl) (fun a5 he5 => ?_)
    clear he4
    refine wl_end ?_
    refine wp_ret ?_
    refine ret_then ?_
    exact bodyPost_ret (results_tmp he5 _ Try.results4 _ rfl) he5.defers ⟨rfl, hm0.below⟩
theorem law_of_0 (f : Nat → Ru) (a : Option Addr) (c : Nat) (s : ByteArray) (w : World)  :
    Calls Try.prog 4 #[.slice (a) (0) (c), .string (s)] w fun e w' => e = .returned (.bool true) ∧ Below w.heap.size w w' := by
  refine calls_begin Try.func4 rfl 47 rfl (Nat.le_of_ble_eq_true rfl) [(0, .slice (a) (0) (c)), (1, .string (s))] ⟨rfl, rfl, trivial⟩ (fun a0 he0 hm0 => ?_)
  have hs1 : ((ofM f 0 s).1 != (ofM f 0 s).1) = false := by simp
  have hs2 : ((ofM f 0 s).2 != (ofM f 0 s).2) = false := by simp
  refine wp_seqR ?_
  refine wl_val he0 rfl rfl (.bool false) (rn_move _ (Or.inr rfl) _ rfl) (fun a1 he1 => ?_)
  clear he0
  refine wl_end ?_
  refine wp_seq ?_
  refine wp_seqR ?_
  refine wl_val he1 rfl rfl (.string (s)) (rn_move _ (Or.inl rfl) _ (he1.tmp 1 _ rfl)) (fun a2 he2 => ?_)
  clear he1
  refine wl_val he2 rfl rfl (.int .i64 ((((s).size : Nat) : Int))) (rn_builtin _ _ _ rfl #[.string (s)] (map1 (he2.tmp 11 _ rfl)) (.int .i64 ((((s).size : Nat) : Int))) (by kernel_rfl)) (fun a3 he3 => ?_)
  clear he2
  cases hd1 : (decide ((((s).size : Nat) : Int) > 1048576))
  · have hd1p := of_decide_eq_false hd1
    refine wl_val he3 rfl rfl (.bool false) (rn_bin _ _ _ _ _ rfl .i64 _ _ (he3.tmp 12 _ rfl) rfl (.bool (decide ((((s).size : Nat) : Int) > 1048576))) _ rfl (congrArg Value.bool (hd1))) (fun a4 he4 => ?_)
    clear he3
    refine wl_end ?_
    refine wp_condF (he := he4) rfl ?_
    refine wp_skip ?_
    refine then_normal ?_
    refine wp_seqR ?_
    refine wl_val he4 rfl rfl (.int .i64 (1048576)) (rn_move _ (Or.inr rfl) _ rfl) (fun a5 he5 => ?_)
    clear he4
    refine wl_end ?_
    refine wp_seqR ?_
    refine wl_val he5 rfl rfl (.slice (a) (0) (c)) (rn_move _ (Or.inl rfl) _ (he5.tmp 0 _ rfl)) (fun a6 he6 => ?_)
    clear he5
    refine wl_val he6 rfl rfl (.int .i64 (1048576)) (rn_move _ (Or.inl rfl) _ (he6.tmp 5 _ rfl)) (fun a7 he7 => ?_)
    clear he6
    refine wl_call he7 hm0 rfl rfl _ #[.slice (a) (0) (c), .int .i64 (1048576)] (enter_call _ _ _ rfl 7 #[] #[] rfl #[.slice (a) (0) (c), .int .i64 (1048576)] (map2 (he7.tmp 14 _ rfl) (he7.tmp 15 _ rfl)) #[.slice (a) (0) (c), .int .i64 (1048576)] rfl (fun _ _ => by kernel_rfl)) (.int .i64 (szN 0)) (c_sz _ _ _ _ (by omega)) (fun a8 w1 he8 hm1 => ?_)
    clear he7 hm0
    refine wl_val he8 rfl rfl (.int .i64 (szN 0)) (rn_move _ (Or.inr rfl) _ (he8.tmp 16 _ rfl)) (fun a9 he9 => ?_)
    clear he8
    refine wl_end ?_
    refine wp_seq ?_
    refine wp_seqR ?_
    refine wl_val he9 rfl rfl (.int .i64 (szN 0)) (rn_move _ (Or.inl rfl) _ (he9.tmp 5 _ rfl)) (fun a10 he10 => ?_)
    clear he9
    cases hd2 : (decide (szN 0 < 0))
    · have hd2p := of_decide_eq_false hd2
      refine wl_val he10 rfl rfl (.bool false) (rn_bin _ _ _ _ _ rfl .i64 _ _ (he10.tmp 17 _ rfl) rfl (.bool (decide (szN 0 < 0))) _ rfl (congrArg Value.bool (hd2))) (fun a11 he11 => ?_)
      clear he10
      refine wl_end ?_
      refine wp_condF (he := he11) rfl ?_
      refine wp_skip ?_
      refine then_normal ?_
      refine wp_seqR ?_
      refine wl_val he11 rfl rfl (.slice (a) (0) (c)) (rn_move _ (Or.inl rfl) _ (he11.tmp 0 _ rfl)) (fun a12 he12 => ?_)
      clear he11
      refine wl_callN he12 hm1 1 rfl rfl rfl _ #[.slice (a) (0) (c)] (enter_call _ _ _ rfl 9 #[] #[] rfl #[.slice (a) (0) (c)] (map1 (he12.tmp 20 _ rfl)) #[.slice (a) (0) (c)] rfl (fun _ _ => by kernel_rfl)) (c_toRuleS0 f a c _) (fun x1 b1 a13 w2 hx1 he13 hm2 => ?_)
      clear he12 hm1
      refine wl_val he13 rfl rfl (.string (s)) (rn_move _ (Or.inl rfl) _ (he13.tmp 1 _ rfl)) (fun a14 he14 => ?_)
      clear he13
      refine wl_call he14 hm2 rfl rfl _ #[.slice (some ⟨b1, 0, none⟩) (0) (0), .string (s)] (enter_call _ _ _ rfl 12 #[] #[] rfl #[.slice (some ⟨b1, 0, none⟩) (0) (0), .string (s)] (map2 (he14.tmp 21 _ rfl) (he14.tmp 22 _ rfl)) #[.slice (some ⟨b1, 0, none⟩) (0) (0), .string (s)] rfl (fun _ _ => by kernel_rfl)) (.tuple #[.int .i64 ((ofM f 0 s).1), .int .i64 ((ofM f 0 s).2)]) (c_spOf f b1 0 0 0 s _ (hx1.at (hm2.bx 1 _ _ _ _ rfl)) (by omega)) (fun a15 w3 he15 hm3 => ?_)
      clear he14 hm2
      refine wl_val he15 rfl rfl (.tuple #[.int .i64 ((ofM f 0 s).1), .int .i64 ((ofM f 0 s).2)]) (rn_move _ (Or.inl rfl) _ (he15.tmp 23 _ rfl)) (fun a16 he16 => ?_)
      clear he15
      refine wl_val he16 rfl rfl (.int .i64 ((ofM f 0 s).1)) (rn_extract _ _ rfl _ (he16.tmp 19 _ rfl) _ rfl) (fun a17 he17 => ?_)
      clear he16
      refine wl_val he17 rfl rfl (.int .i64 ((ofM f 0 s).2)) (rn_extract _ _ rfl _ (he17.tmp 19 _ rfl) _ rfl) (fun a18 he18 => ?_)
      clear he17
      refine wl_val he18 rfl rfl (.int .i64 ((ofM f 0 s).1)) (rn_move _ (Or.inr rfl) _ (he18.tmp 24 _ rfl)) (fun a19 he19 => ?_)
      clear he18
      refine wl_val he19 rfl rfl (.int .i64 ((ofM f 0 s).2)) (rn_move _ (Or.inr rfl) _ (he19.tmp 25 _ rfl)) (fun a20 he20 => ?_)
      clear he19
      refine wl_end ?_
      refine wp_seqR ?_
      refine wl_val he20 rfl rfl (.slice (a) (0) (c)) (rn_move _ (Or.inl rfl) _ (he20.tmp 0 _ rfl)) (fun a21 he21 => ?_)
      clear he20
      refine wl_callN he21 hm3 2 rfl rfl rfl _ #[.slice (a) (0) (c)] (enter_call _ _ _ rfl 9 #[] #[] rfl #[.slice (a) (0) (c)] (map1 (he21.tmp 26 _ rfl)) #[.slice (a) (0) (c)] rfl (fun _ _ => by kernel_rfl)) (c_toRuleS0 f a c _) (fun x2 b2 a22 w4 hx2 he22 hm4 => ?_)
      clear he21 hm3
      refine wl_val he22 rfl rfl (.slice (some ⟨b2, 0, none⟩) (0) (0)) (rn_move _ (Or.inr rfl) _ (he22.tmp 27 _ rfl)) (fun a23 he23 => ?_)
      clear he22
      refine wl_end ?_
      refine wp_seqR ?_
      refine wl_val he23 rfl rfl (.slice (some ⟨b2, 0, none⟩) (0) (0)) (rn_move _ (Or.inl rfl) _ (he23.tmp 8 _ rfl)) (fun a24 he24 => ?_)
      clear he23
      refine wl_val he24 rfl rfl (.string (s)) (rn_move _ (Or.inl rfl) _ (he24.tmp 1 _ rfl)) (fun a25 he25 => ?_)
      clear he24
      refine wl_call he25 hm4 rfl rfl _ #[.slice (some ⟨b2, 0, none⟩) (0) (0), .string (s)] (enter_call _ _ _ rfl 13 #[] #[] rfl #[.slice (some ⟨b2, 0, none⟩) (0) (0), .string (s)] (map2 (he25.tmp 29 _ rfl) (he25.tmp 30 _ rfl)) #[.slice (some ⟨b2, 0, none⟩) (0) (0), .string (s)] rfl (fun _ _ => by kernel_rfl)) (.tuple #[.int .i64 ((ofM f 0 s).1), .int .i64 ((ofM f 0 s).2)]) (c_Of f b2 0 0 0 s _ (hx2.at (hm4.bx 2 _ _ _ _ rfl)) (by omega)) (fun a26 w5 he26 hm5 => ?_)
      clear he25 hm4
      refine wl_val he26 rfl rfl (.tuple #[.int .i64 ((ofM f 0 s).1), .int .i64 ((ofM f 0 s).2)]) (rn_move _ (Or.inl rfl) _ (he26.tmp 31 _ rfl)) (fun a27 he27 => ?_)
      clear he26
      refine wl_val he27 rfl rfl (.int .i64 ((ofM f 0 s).1)) (rn_extract _ _ rfl _ (he27.tmp 28 _ rfl) _ rfl) (fun a28 he28 => ?_)
      clear he27
      refine wl_val he28 rfl rfl (.int .i64 ((ofM f 0 s).2)) (rn_extract _ _ rfl _ (he28.tmp 28 _ rfl) _ rfl) (fun a29 he29 => ?_)
      clear he28
      refine wl_val he29 rfl rfl (.int .i64 ((ofM f 0 s).1)) (rn_move _ (Or.inr rfl) _ (he29.tmp 32 _ rfl)) (fun a30 he30 => ?_)
      clear he29
      refine wl_val he30 rfl rfl (.int .i64 ((ofM f 0 s).2)) (rn_move _ (Or.inr rfl) _ (he30.tmp 33 _ rfl)) (fun a31 he31 => ?_)
      clear he30
      refine wl_end ?_
      refine wp_seq ?_
      refine wp_seqR ?_
      refine wl_val he31 rfl rfl (.int .i64 ((ofM f 0 s).1)) (rn_move _ (Or.inl rfl) _ (he31.tmp 9 _ rfl)) (fun a32 he32 => ?_)
      clear he31
      refine wl_val he32 rfl rfl (.int .i64 ((ofM f 0 s).1)) (rn_move _ (Or.inl rfl) _ (he32.tmp 6 _ rfl)) (fun a33 he33 => ?_)
      clear he32
      refine wl_val he33 rfl rfl (.bool false) (rn_bin _ _ _ _ _ rfl .i64 _ _ (he33.tmp 34 _ rfl) (he33.tmp 35 _ rfl) (.bool (((ofM f 0 s).1 != (ofM f 0 s).1))) _ rfl (congrArg Value.bool (hs1))) (fun a34 he34 => ?_)
      clear he33
      refine wl_val he34 rfl rfl (.bool false) (rn_move _ (Or.inl rfl) _ (he34.tmp 36 _ rfl)) (fun a35 he35 => ?_)
      clear he34
      refine wl_val he35 rfl (wanted_slot he35 3 false rfl 37 rfl false rfl true rfl) (.int .i64 ((ofM f 0 s).2)) (rn_move _ (Or.inl rfl) _ (he35.tmp 10 _ rfl)) (fun a36 he36 => ?_)
      clear he35
      refine wl_val he36 rfl (wanted_slot he36 3 false rfl 37 rfl false rfl true rfl) (.int .i64 ((ofM f 0 s).2)) (rn_move _ (Or.inl rfl) _ (he36.tmp 7 _ rfl)) (fun a37 he37 => ?_)
      clear he36
      refine wl_val he37 rfl (wanted_slot he37 3 false rfl 37 rfl false rfl true rfl) (.bool false) (rn_bin _ _ _ _ _ rfl .i64 _ _ (he37.tmp 38 _ rfl) (he37.tmp 39 _ rfl) (.bool (((ofM f 0 s).2 != (ofM f 0 s).2))) _ rfl (congrArg Value.bool (hs2))) (fun a38 he38 => ?_)
      clear he37
      refine wl_val he38 rfl rfl (.bool false) (rn_pickF _ _ _ rfl (he38.tmp 37 _ rfl) _ (he38.tmp 40 _ rfl)) (fun a39 he39 => ?_)
      clear he38
      refine wl_end ?_
      refine wp_condF (he := he39) rfl ?_
      refine wp_skip ?_
      refine then_normal ?_
      refine wp_seq ?_
      refine wp_seqR ?_
      refine wl_val he39 rfl rfl (.slice (some ⟨b2, 0, none⟩) (0) (0)) (rn_move _ (Or.inl rfl) _ (he39.tmp 8 _ rfl)) (fun a40 he40 => ?_)
      clear he39
      refine wl_val he40 rfl rfl (.slice (a) (0) (c)) (rn_move _ (Or.inl rfl) _ (he40.tmp 0 _ rfl)) (fun a41 he41 => ?_)
      clear he40
      refine wl_callN he41 hm5 3 rfl rfl rfl _ #[.slice (a) (0) (c)] (enter_call _ _ _ rfl 9 #[] #[] rfl #[.slice (a) (0) (c)] (map1 (he41.tmp 43 _ rfl)) #[.slice (a) (0) (c)] rfl (fun _ _ => by kernel_rfl)) (c_toRuleS0 f a c _) (fun x3 b3 a42 w6 hx3 he42 hm6 => ?_)
      clear he41 hm5
      refine wl_call he42 hm6 rfl rfl _ #[.slice (some ⟨b2, 0, none⟩) (0) (0), .slice (some ⟨b3, 0, none⟩) (0) (0)] (enter_call _ _ _ rfl 11 #[] #[] rfl #[.slice (some ⟨b2, 0, none⟩) (0) (0), .slice (some ⟨b3, 0, none⟩) (0) (0)] (map2 (he42.tmp 42 _ rfl) (he42.tmp 44 _ rfl)) #[.slice (some ⟨b2, 0, none⟩) (0) (0), .slice (some ⟨b3, 0, none⟩) (0) (0)] rfl (fun _ _ => by kernel_rfl)) (.bool true) (callsV (congrArg Value.bool (eqRus_same f _)) (c_eqRuleS f f b2 0 0 0 b3 0 0 0 _ (hx2.at (hm6.bx 2 _ _ _ _ rfl)) (by omega) (hx3.at (hm6.bx 3 _ _ _ _ rfl)) (by omega))) (fun a43 w7 he43 hm7 => ?_)
      clear he42 hm6
      refine wl_val he43 rfl rfl (.bool false) (rn_un _ _ _ rfl _ (.bool (!true)) _ (he43.tmp 45 _ rfl) rfl rfl) (fun a44 he44 => ?_)
      clear he43
      refine wl_end ?_
      refine wp_condF (he := he44) rfl ?_
      refine wp_skip ?_
      refine then_normal ?_
      refine wp_seqR ?_
      refine wl_val he44 rfl rfl (.bool true) (rn_move _ (Or.inr rfl) _ rfl) (fun a45 he45 => ?_)
      clear he44
      refine wl_end ?_
      refine wp_ret ?_
      exact bodyPost_ret (results_tmp he45 _ Try.results4 _ rfl) he45.defers ⟨rfl, hm7.below⟩
    · have hd2p := of_decide_eq_true hd2
      refine wl_val he10 rfl rfl (.bool true) (rn_bin _ _ _ _ _ rfl .i64 _ _ (he10.tmp 17 _ rfl) rfl (.bool (decide (szN 0 < 0))) _ rfl (congrArg Value.bool (hd2))) (fun a11 he11 => ?_)
      clear he10
      refine wl_end ?_
      refine wp_condT (he := he11) rfl ?_
      refine wp_seqR ?_
      refine wl_val he11 rfl rfl (.bool true) (rn_move _ (Or.inr rfl) _ rfl) (fun a12 he12 => ?_)
      clear he11
      refine wl_end ?_
      refine wp_ret ?_
      refine ret_then ?_
      exact bodyPost_ret (results_tmp he12 _ Try.results4 _ rfl) he12.defers ⟨rfl, hm1.below⟩
  · have hd1p := of_decide_eq_true hd1
    refine wl_val he3 rfl rfl (.bool true) (rn_bin _ _ _ _ _ rfl .i64 _ _ (he3.tmp 12 _ rfl) rfl (.bool (decide ((((s).size : Nat) : Int) > 1048576))) _ rfl (congrArg Value.bool (hd1))) (fun a4 he4 => ?_)
    clear he3
    refine wl_end ?_
    refine wp_condT (he := he4) rfl ?_
    refine wp_seqR ?_
    refine wl_val he4 rfl rfl (.bool true) (rn_move _ (Or.inr rfl) _ rfl) (fun a5 he5 => ?_)
    clear he4
    refine wl_end ?_
    refine wp_ret ?_
    refine ret_then ?_
    exact bodyPost_ret (results_tmp he5 _ Try.results4 _ rfl) he5.defers ⟨rfl, hm0.below⟩
theorem law_of (f : Nat → Ru) (a : Option Addr) (n c : Nat) (s : ByteArray) (w : World) (hm : n ≤ maxLen) (hr : ArgRu w a n f) : Calls Try.prog 4 #[.slice a n c, .string s] w fun e w' => e = .returned (.bool true) ∧ Below w.heap.size w w' := by
  rcases hr with rfl | ⟨b, p, rfl, hR⟩
  · exact law_of_0 f a c s w
  · exact law_of_n f b p n c s w hR (by simpa [maxLen] using hm)
end Go.Proofs.Ytcopcajleonndaa
