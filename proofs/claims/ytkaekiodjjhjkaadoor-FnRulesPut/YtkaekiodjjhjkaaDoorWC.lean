/- Rules written, by the specification. -/
import Derived.Test.YtkaekiodjjhjkaaDoorWB
namespace Go.Proofs.YtkaekiodjjhjkaaDoor
open Go.RowKit
set_option linter.unusedVariables false
set_option linter.unusedSimpArgs false
theorem c_lineR (r : Ru) (w : World) (h : ruOk r = true) : Calls Tryd.prog 18 #[.agg r.arr] w fun e w' => e = .returned (.string (lineRu r)) ∧ Below w.heap.size w w' := by
  have h := ruOk_is h
  obtain ⟨a, o, n, v, k⟩ := r
  have h1 := h.at0; have h2 := h.at1; have h3 := h.op0; have h4 := h.op1; have h5 := h.num0; have h6 := h.num1; have h7 := h.ver0; have h8 := h.ver1; have h9 := h.key0; have h10 := h.key1
  simp only at h1 h2 h3 h4 h5 h6 h7 h8 h9 h10
  obtain ⟨a, rfl⟩ := Int.eq_ofNat_of_zero_le h1
  obtain ⟨o, rfl⟩ := Int.eq_ofNat_of_zero_le (show (0 : Int) ≤ o by omega)
  obtain ⟨n, rfl⟩ := Int.eq_ofNat_of_zero_le h5
  obtain ⟨v, rfl⟩ := Int.eq_ofNat_of_zero_le h7
  obtain ⟨k, rfl⟩ := Int.eq_ofNat_of_zero_le h9
  exact c_line a o n v k w (by omega) (by omega) (by omega) (by omega) (by omega) (by omega)
theorem c_put_no (f : Nat → Ru) (b p n c : Nat) (w : World) (hR : RowAt w b p n 5 fun i => (f i).arr) (hn : n ≤ 1048576) (hok : ruOks f n = false) :
    Calls Tryd.prog 7 #[.slice (some ⟨b, p, none⟩) (n) (c)] w fun e w' => e = .returned (.string ⟨#[]⟩) ∧ Below w.heap.size w w' := by
  refine calls_begin Tryd.func7 rfl 23 rfl (Nat.le_of_ble_eq_true rfl) [(0, .slice (some ⟨b, p, none⟩) (n) (c))] ⟨rfl, trivial⟩ (fun a0 he0 hm0 => ?_)
  refine wp_seqR ?_
  refine wl_val he0 rfl rfl (.string (⟨#[]⟩)) (rn_move _ (Or.inr rfl) _ rfl) (fun a1 he1 => ?_)
  clear he0
  refine wl_end ?_
  refine wp_seqR ?_
  refine wl_val he1 rfl rfl (.string (⟨#[]⟩)) (rn_move _ (Or.inr rfl) _ rfl) (fun a2 he2 => ?_)
  clear he1
  refine wl_end ?_
  refine wp_seq ?_
  refine wp_seqR ?_
  refine wl_val he2 rfl rfl (.int .i64 (0)) (rn_move _ (Or.inr rfl) _ rfl) (fun a3 he3 => ?_)
  clear he2
  refine wl_end ?_
  refine wp_block ?_
  refine wp_loop_rounds 1 ?_
  rw [rounds_succ]
  refine wp_seq ?_
  refine wp_seqR ?_
  refine wl_val he3 rfl rfl (.int .i64 (0)) (rn_move _ (Or.inl rfl) _ (he3.tmp 4 _ rfl)) (fun a4 he4 => ?_)
  clear he3
  refine wl_val he4 rfl rfl (.slice (some ⟨b, p, none⟩) (n) (c)) (rn_move _ (Or.inl rfl) _ (he4.tmp 0 _ rfl)) (fun a5 he5 => ?_)
  clear he4
  refine wl_val he5 rfl rfl (.int .i64 (((n : Nat) : Int))) (rn_builtin _ _ _ rfl #[.slice (some ⟨b, p, none⟩) (n) (c)] (map1 (he5.tmp 6 _ rfl)) (.int .i64 (((n : Nat) : Int))) (by kernel_rfl)) (fun a6 he6 => ?_)
  clear he5
  cases hd1 : (decide (0 < ((n : Nat) : Int)))
  ·
   have hd1p := of_decide_eq_false hd1
   refine wl_val he6 rfl rfl (.bool false) (rn_bin _ _ _ _ _ rfl .i64 _ _ (he6.tmp 5 _ rfl) (he6.tmp 7 _ rfl) (.bool (decide (0 < ((n : Nat) : Int)))) _ rfl (congrArg Value.bool (hd1))) (fun a7 he7 => ?_)
   clear he6
   refine wl_val he7 rfl rfl (.bool false) (rn_move _ (Or.inl rfl) _ (he7.tmp 8 _ rfl)) (fun a8 he8 => ?_)
   clear he7
   refine wl_not he8 rfl (wanted_slot he8 4 true rfl 9 rfl false rfl false rfl) (fun a9 he9 => ?_)
   clear he8
   refine wl_not he9 rfl (wanted_slot he9 4 true rfl 9 rfl false rfl false rfl) (fun a10 he10 => ?_)
   clear he9
   refine wl_val he10 rfl rfl (.bool false) (rn_pickF _ _ _ rfl (he10.tmp 9 _ rfl) _ rfl) (fun a11 he11 => ?_)
   clear he10
   refine wl_end ?_
   refine wp_condF (he := he11) rfl ?_
   refine wp_exit ?_
   refine exit_then ?_
   refine exit_then ?_
   refine exit_here ?_
   refine then_normal ?_
   refine wp_seqR ?_
   refine wl_val he11 rfl rfl (.string (⟨#[]⟩)) (rn_move _ (Or.inl rfl) _ (he11.tmp 3 _ rfl)) (fun a12 he12 => ?_)
   clear he11
   refine wl_val he12 rfl rfl (.string (⟨#[]⟩)) (rn_move _ (Or.inr rfl) _ (he12.tmp 22 _ rfl)) (fun a13 he13 => ?_)
   clear he12
   refine wl_end ?_
   refine wp_ret ?_
   exact bodyPost_ret (results_tmp he13 _ Tryd.results7 _ rfl) he13.defers ⟨rfl, hm0.below⟩
  ·
   have hd1p := of_decide_eq_true hd1
   refine wl_val he6 rfl rfl (.bool true) (rn_bin _ _ _ _ _ rfl .i64 _ _ (he6.tmp 5 _ rfl) (he6.tmp 7 _ rfl) (.bool (decide (0 < ((n : Nat) : Int)))) _ rfl (congrArg Value.bool (hd1))) (fun a7 he7 => ?_)
   clear he6
   refine wl_val he7 rfl rfl (.bool true) (rn_move _ (Or.inl rfl) _ (he7.tmp 8 _ rfl)) (fun a8 he8 => ?_)
   clear he7
   refine wl_val he8 rfl (wanted_slot he8 4 true rfl 9 rfl true rfl true rfl) (.slice (some ⟨b, p, none⟩) (n) (c)) (rn_move _ (Or.inl rfl) _ (he8.tmp 0 _ rfl)) (fun a9 he9 => ?_)
   clear he8
   refine wl_call he9 hm0 rfl (wanted_slot he9 4 true rfl 9 rfl true rfl true rfl) _ #[.slice (some ⟨b, p, none⟩) (n) (c)] (enter_call _ _ _ rfl 17 #[] #[] rfl #[.slice (some ⟨b, p, none⟩) (n) (c)] (map1 (he9.tmp 10 _ rfl)) #[.slice (some ⟨b, p, none⟩) (n) (c)] rfl (fun _ _ => by kernel_rfl)) (.bool false) (callsV (congrArg Value.bool (hok)) (c_oks f b p n c _ (hR.kb hm0.keep (by simp)) hn)) (fun a10 w1 he10 hm1 => ?_)
   clear he9 hm0
   refine wl_val he10 rfl rfl (.bool false) (rn_pickT _ _ _ rfl (he10.tmp 9 _ rfl) _ (he10.tmp 11 _ rfl)) (fun a11 he11 => ?_)
   clear he10
   refine wl_end ?_
   refine wp_condF (he := he11) rfl ?_
   refine wp_exit ?_
   refine exit_then ?_
   refine exit_then ?_
   refine exit_here ?_
   refine then_normal ?_
   refine wp_seqR ?_
   refine wl_val he11 rfl rfl (.string (⟨#[]⟩)) (rn_move _ (Or.inl rfl) _ (he11.tmp 3 _ rfl)) (fun a12 he12 => ?_)
   clear he11
   refine wl_val he12 rfl rfl (.string (⟨#[]⟩)) (rn_move _ (Or.inr rfl) _ (he12.tmp 22 _ rfl)) (fun a13 he13 => ?_)
   clear he12
   refine wl_end ?_
   refine wp_ret ?_
   exact bodyPost_ret (results_tmp he13 _ Tryd.results7 _ rfl) he13.defers ⟨rfl, hm1.below⟩
theorem c_put_yes (f : Nat → Ru) (b p n c : Nat) (w : World) (hR : RowAt w b p n 5 fun i => (f i).arr) (hn : n ≤ 1048576) (hok : ruOks f n = true) :
    Calls Tryd.prog 7 #[.slice (some ⟨b, p, none⟩) (n) (c)] w fun e w' => e = .returned (.string (catR f n)) ∧ Below w.heap.size w w' := by
  refine calls_begin Tryd.func7 rfl 23 rfl (Nat.le_of_ble_eq_true rfl) [(0, .slice (some ⟨b, p, none⟩) (n) (c))] ⟨rfl, trivial⟩ (fun a0 he0 hm0 => ?_)
  obtain ⟨hall, hn6⟩ := ruOks_all hok
  refine wp_seqR ?_
  refine wl_val he0 rfl rfl (.string (⟨#[]⟩)) (rn_move _ (Or.inr rfl) _ rfl) (fun a1 he1 => ?_)
  clear he0
  refine wl_end ?_
  refine wp_seqR ?_
  refine wl_val he1 rfl rfl (.string (⟨#[]⟩)) (rn_move _ (Or.inr rfl) _ rfl) (fun a2 he2 => ?_)
  clear he1
  refine wl_end ?_
  refine wp_seq ?_
  refine wp_seqR ?_
  refine wl_val he2 rfl rfl (.int .i64 (0)) (rn_move _ (Or.inr rfl) _ rfl) (fun a3 he3 => ?_)
  clear he2
  refine wl_end ?_
  refine wp_block ?_
  refine wp_loopN (fun mz az wz => ∃ (i : Nat), ∃ (o : ByteArray), mz = n - (i) ∧ (i ≤ n ∧ o = catR f (i)) ∧ EV az 23 [] [(0, .slice (some ⟨b, p, none⟩) (n) (c)), (2, .string (⟨#[]⟩)), (4, .int .i64 (((i : Nat) : Int))), (3, .string (o))] ∧ MM [] w wz []) ⟨_, 0, ⟨#[]⟩, rfl, ⟨by omega, rfl⟩, he3.sub _ ⟨rfl, rfl, rfl, rfl, trivial⟩, hm0.sub _ trivial⟩ ?_
  rintro mz1 a4 w1 ⟨i, o, rfl, hrel1, he4, hm1⟩
  clear he3 hm0
  have hrel1a := hrel1.1
  have ho : o.size ≤ 100 * i := by rw [hrel1.2]; exact catR_le fun j hj => hall j (by omega)
  refine wp_seq ?_
  refine wp_seqR ?_
  refine wl_val he4 rfl rfl (.int .i64 (((i : Nat) : Int))) (rn_move _ (Or.inl rfl) _ (he4.tmp 4 _ rfl)) (fun a5 he5 => ?_)
  clear he4
  refine wl_val he5 rfl rfl (.slice (some ⟨b, p, none⟩) (n) (c)) (rn_move _ (Or.inl rfl) _ (he5.tmp 0 _ rfl)) (fun a6 he6 => ?_)
  clear he5
  refine wl_val he6 rfl rfl (.int .i64 (((n : Nat) : Int))) (rn_builtin _ _ _ rfl #[.slice (some ⟨b, p, none⟩) (n) (c)] (map1 (he6.tmp 6 _ rfl)) (.int .i64 (((n : Nat) : Int))) (by kernel_rfl)) (fun a7 he7 => ?_)
  clear he6
  cases hd1 : (decide (((i : Nat) : Int) < ((n : Nat) : Int)))
  ·
   have hd1p := of_decide_eq_false hd1
   refine wl_val he7 rfl rfl (.bool false) (rn_bin _ _ _ _ _ rfl .i64 _ _ (he7.tmp 5 _ rfl) (he7.tmp 7 _ rfl) (.bool (decide (((i : Nat) : Int) < ((n : Nat) : Int)))) _ rfl (congrArg Value.bool (hd1))) (fun a8 he8 => ?_)
   clear he7
   refine wl_val he8 rfl rfl (.bool false) (rn_move _ (Or.inl rfl) _ (he8.tmp 8 _ rfl)) (fun a9 he9 => ?_)
   clear he8
   refine wl_not he9 rfl (wanted_slot he9 4 true rfl 9 rfl false rfl false rfl) (fun a10 he10 => ?_)
   clear he9
   refine wl_not he10 rfl (wanted_slot he10 4 true rfl 9 rfl false rfl false rfl) (fun a11 he11 => ?_)
   clear he10
   refine wl_val he11 rfl rfl (.bool false) (rn_pickF _ _ _ rfl (he11.tmp 9 _ rfl) _ rfl) (fun a12 he12 => ?_)
   clear he11
   refine wl_end ?_
   refine wp_condF (he := he12) rfl ?_
   refine wp_exit ?_
   refine exit_then ?_
   refine exit_then ?_
   refine exit_here ?_
   refine then_normal ?_
   refine wp_seqR ?_
   refine wl_val he12 rfl rfl (.string (o)) (rn_move _ (Or.inl rfl) _ (he12.tmp 3 _ rfl)) (fun a13 he13 => ?_)
   clear he12
   refine wl_val he13 rfl rfl (.string (o)) (rn_move _ (Or.inr rfl) _ (he13.tmp 22 _ rfl)) (fun a14 he14 => ?_)
   clear he13
   refine wl_end ?_
   refine wp_ret ?_
   exact bodyPost_ret (results_tmp he14 _ Tryd.results7 _ rfl) he14.defers ⟨(by rw [hrel1.2, show i = n by omega]), hm1.below⟩
  ·
   have hd1p := of_decide_eq_true hd1
   refine wl_val he7 rfl rfl (.bool true) (rn_bin _ _ _ _ _ rfl .i64 _ _ (he7.tmp 5 _ rfl) (he7.tmp 7 _ rfl) (.bool (decide (((i : Nat) : Int) < ((n : Nat) : Int)))) _ rfl (congrArg Value.bool (hd1))) (fun a8 he8 => ?_)
   clear he7
   refine wl_val he8 rfl rfl (.bool true) (rn_move _ (Or.inl rfl) _ (he8.tmp 8 _ rfl)) (fun a9 he9 => ?_)
   clear he8
   refine wl_val he9 rfl (wanted_slot he9 4 true rfl 9 rfl true rfl true rfl) (.slice (some ⟨b, p, none⟩) (n) (c)) (rn_move _ (Or.inl rfl) _ (he9.tmp 0 _ rfl)) (fun a10 he10 => ?_)
   clear he9
   refine wl_call he10 hm1 rfl (wanted_slot he10 4 true rfl 9 rfl true rfl true rfl) _ #[.slice (some ⟨b, p, none⟩) (n) (c)] (enter_call _ _ _ rfl 17 #[] #[] rfl #[.slice (some ⟨b, p, none⟩) (n) (c)] (map1 (he10.tmp 10 _ rfl)) #[.slice (some ⟨b, p, none⟩) (n) (c)] rfl (fun _ _ => by kernel_rfl)) (.bool true) (callsV (congrArg Value.bool (hok)) (c_oks f b p n c _ (hR.kb hm1.keep (by simp)) hn)) (fun a11 w2 he11 hm2 => ?_)
   clear he10 hm1
   refine wl_val he11 rfl rfl (.bool true) (rn_pickT _ _ _ rfl (he11.tmp 9 _ rfl) _ (he11.tmp 11 _ rfl)) (fun a12 he12 => ?_)
   clear he11
   refine wl_end ?_
   refine wp_condT (he := he12) rfl ?_
   refine wp_skip ?_
   refine then_normal ?_
   refine wp_seq ?_
   refine wp_block ?_
   refine wp_region_lit ?_
   refine wl_val he12 rfl rfl (.string (o)) (rn_move _ (Or.inl rfl) _ (he12.tmp 3 _ rfl)) (fun a13 he13 => ?_)
   clear he12
   refine wl_val he13 rfl rfl (.slice (some ⟨b, p, none⟩) (n) (c)) (rn_move _ (Or.inl rfl) _ (he13.tmp 0 _ rfl)) (fun a14 he14 => ?_)
   clear he13
   refine wl_val he14 rfl rfl (.int .i64 (((i : Nat) : Int))) (rn_move _ (Or.inl rfl) _ (he14.tmp 4 _ rfl)) (fun a15 he15 => ?_)
   clear he14
   refine wl_val he15 rfl rfl (.pointer (some ⟨b, p + i * 5, none⟩)) (rn_indexA _ _ _ rfl _ _ (.pointer (some ⟨b, p + i * 5, none⟩)) (he15.tmp 16 _ rfl) (he15.tmp 17 _ rfl) (ixS 36 5 (by kernel_rfl) (fun w => by kernel_rfl) (b) (p) (n) (c) (i) (by omega) _)) (fun a16 he16 => ?_)
   clear he15
   refine wl_val he16 rfl rfl (.agg (Ru.arr (f i))) (rn_rowA hm2 hR (by simp) (i) (by omega) _ _ rfl (he16.tmp 18 _ rfl) agg36 (by kernel_rfl)) (fun a17 he17 => ?_)
   clear he16
   have hln := lineRu_le (hall (i) (by omega))
   refine wl_call he17 hm2 rfl rfl _ #[.agg (Ru.arr (f i))] (enter_call _ _ _ rfl 18 #[] #[] rfl #[.agg (Ru.arr (f i))] (map1 (he17.tmp 19 _ rfl)) #[.agg (Ru.arr (f i))] rfl (fun _ _ => by kernel_rfl)) (.string (lineRu (f i))) (c_lineR _ _ (hall (i) (by omega))) (fun a18 w3 he18 hm3 => ?_)
   clear he17 hm2
   obtain ⟨z1, hz1⟩ : ∃ z : ByteArray, z = (o) ++ (lineRu (f i)) := ⟨_, rfl⟩
   have hsz1 : z1.size = (o : ByteArray).size + (lineRu (f i) : ByteArray).size := by rw [hz1, ByteArray.size_append]
   refine wl_val he18 rfl rfl (.string (z1)) (rn_saddZ _ _ _ _ rfl _ _ (he18.tmp 15 _ rfl) (he18.tmp 20 _ rfl) (by omega) z1 hz1) (fun a19 he19 => ?_)
   clear he18
   refine wl_val he19 rfl rfl (.string (z1)) (rn_move _ (Or.inr rfl) _ (he19.tmp 21 _ rfl)) (fun a20 he20 => ?_)
   clear he19
   refine wpList_nil ?_
   refine in_normal ?_
   refine then_normal ?_
   refine wp_region_lit ?_
   refine wl_val he20 rfl rfl (.int .i64 (((i : Nat) : Int))) (rn_move _ (Or.inl rfl) _ (he20.tmp 4 _ rfl)) (fun a21 he21 => ?_)
   clear he20
   refine wl_val he21 rfl rfl (.int .i64 (((i + 1 : Nat) : Int))) (rn_bin _ _ _ _ _ rfl .i64 _ _ (he21.tmp 13 _ rfl) rfl (.int .i64 (IntKind.wrap .i64 (((i : Nat) : Int) + 1))) _ rfl (addN (i := i) (c := 1) (by omega))) (fun a22 he22 => ?_)
   clear he21
   refine wl_val he22 rfl rfl (.int .i64 (((i + 1 : Nat) : Int))) (rn_move _ (Or.inr rfl) _ (he22.tmp 14 _ rfl)) (fun a23 he23 => ?_)
   clear he22
   refine wpList_nil ?_
   exact ⟨n - (i + 1), by omega, i + 1, z1, rfl, ⟨by omega, by rw [hz1, hrel1.2]; rfl⟩, he23.sub _ ⟨rfl, rfl, rfl, rfl, trivial⟩, hm3.sub _ trivial⟩
theorem c_put (f : Nat → Ru) (b p n c : Nat) (w : World) (hR : RowAt w b p n 5 fun i => (f i).arr) (hn : n ≤ 1048576) : Calls Tryd.prog 7 #[.slice (some ⟨b, p, none⟩) n c] w fun e w' => e = .returned (.string (putR f n)) ∧ Below w.heap.size w w' := by
  unfold putR
  cases hok : ruOks f n
  · exact c_put_no f b p n c w hR hn hok
  · exact c_put_yes f b p n c w hR hn hok
end Go.Proofs.YtkaekiodjjhjkaaDoor
