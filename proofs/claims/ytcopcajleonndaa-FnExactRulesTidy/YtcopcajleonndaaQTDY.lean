/- Rules tidied, by both. -/
import Derived.Test.YtcopcajleonndaaQTDY0
import Derived.Test.YtcopcajleonndaaQIVW
import Derived.Test.YtcopcajleonndaaQRA2
namespace Go.Proofs.Ytcopcajleonndaa
open Go.RowKit
set_option linter.unusedVariables false
set_option linter.unusedSimpArgs false
theorem c_from255  (w : World)  :
    Calls Try.prog 35 #[.int .i64 (0), .int .i64 (255)] w fun e w' => e = .returned (.agg (ivArr full)) ∧ Below w.heap.size w w' := by
  refine calls_begin Try.func35 rfl 9 rfl (Nat.le_of_ble_eq_true rfl) [(0, .int .i64 (0)), (1, .int .i64 (255))] ⟨rfl, rfl, trivial⟩ (fun a0 he0 hm0 => ?_)
  refine wp_seqR ?_
  refine wl_alloc he0 hm0 1 rfl rfl rfl _ rfl (.agg #[.int .i64 0, .int .i64 0, .int .i64 0, .int .i64 0]) (fun w => by kernel_rfl) (#[.int .i64 (0), .int .i64 (0), .int .i64 (0), .int .i64 (0)]) rfl (fun a1 w1 b1 he1 hm1 => ?_)
  clear he0 hm0
  refine wl_end ?_
  refine wp_seqR ?_
  refine wl_val he1 rfl rfl (.int .i64 (0)) (rn_move _ (Or.inl rfl) _ (he1.tmp 0 _ rfl)) (fun a2 he2 => ?_)
  clear he1
  refine wl_val he2 rfl rfl (.int .i64 (255)) (rn_move _ (Or.inl rfl) _ (he2.tmp 1 _ rfl)) (fun a3 he3 => ?_)
  clear he2
  refine wl_val he3 rfl rfl (.agg (#[.int .i64 (0), .int .i64 (255), .int .i64 (0), .int .i64 (4294967295)])) (rn_build _ _ rfl #[(0, .int .i64 (0)), (1, .int .i64 (255)), (3, .int .i64 (4294967295))] (pmap3 (he3.tmp 5 _ rfl) (he3.tmp 6 _ rfl) rfl) _ (by kernel_rfl)) (fun a4 he4 => ?_)
  clear he3
  refine wl_call he4 hm1 rfl rfl _ #[.agg (#[.int .i64 (0), .int .i64 (255), .int .i64 (0), .int .i64 (4294967295)])] (enter_call _ _ _ rfl 51 #[] #[] rfl #[.agg (#[.int .i64 (0), .int .i64 (255), .int .i64 (0), .int .i64 (4294967295)])] (map1 (he4.tmp 7 _ rfl)) #[.agg (#[.int .i64 (0), .int .i64 (255), .int .i64 (0), .int .i64 (4294967295)])] rfl (fun _ _ => by kernel_rfl)) (.agg (ivArr (full))) (c_tidy255 _) (fun a5 w2 he5 hm2 => ?_)
  clear he4 hm1
  refine wl_store he5 hm2 1 rfl rfl rfl _ _ _ rfl (0) (he5.tmp 4 _ rfl) _ (he5.tmp 8 _ rfl) 4 agg54.size rfl (ivArr.one _) (by decide) (ivArr (full)) (by kernel_rfl) (fun w3 hm3 => ?_)
  clear hm2
  refine wl_end ?_
  refine wp_ret ?_
  exact bodyPost_ret (results_cell he5 hm3 _ _ Try.results35 _ rfl 1 rfl 4 agg54 (by first | rfl | assumption)) he5.defers ⟨rfl, hm3.below⟩
theorem c_One (k : Nat) (w : World) (hk : k ≤ 255) :
    Calls Try.prog 36 #[.int .i64 (((k : Nat) : Int))] w fun e w' => e = .returned (.agg (ivArr (k, k))) ∧ Below w.heap.size w w' := by
  refine calls_begin Try.func36 rfl 11 rfl (Nat.le_of_ble_eq_true rfl) [(0, .int .i64 (((k : Nat) : Int)))] ⟨rfl, trivial⟩ (fun a0 he0 hm0 => ?_)
  have hin : inR (((k : Nat) : Int)) 0 4294967295 = true := by simp [inR]; omega
  refine wp_seqR ?_
  refine wl_alloc he0 hm0 1 rfl rfl rfl _ rfl (.agg #[.int .i64 0, .int .i64 0, .int .i64 0, .int .i64 0]) (fun w => by kernel_rfl) (#[.int .i64 (0), .int .i64 (0), .int .i64 (0), .int .i64 (0)]) rfl (fun a1 w1 b1 he1 hm1 => ?_)
  clear he0 hm0
  refine wl_end ?_
  refine wp_seq ?_
  refine wp_seqR ?_
  refine wl_val he1 rfl rfl (.int .i64 (((k : Nat) : Int))) (rn_move _ (Or.inl rfl) _ (he1.tmp 0 _ rfl)) (fun a2 he2 => ?_)
  clear he1
  refine wl_call he2 hm1 rfl rfl _ #[.int .i64 (((k : Nat) : Int))] (enter_call _ _ _ rfl 41 #[] #[] rfl #[.int .i64 (((k : Nat) : Int))] (map1 (he2.tmp 3 _ rfl)) #[.int .i64 (((k : Nat) : Int))] rfl (fun _ _ => by kernel_rfl)) (.bool true) (callsV (congrArg Value.bool (hin)) (c_isnum _ _)) (fun a3 w2 he3 hm2 => ?_)
  clear he2 hm1
  refine wl_val he3 rfl rfl (.bool false) (rn_un _ _ _ rfl _ (.bool (!true)) _ (he3.tmp 4 _ rfl) rfl rfl) (fun a4 he4 => ?_)
  clear he3
  refine wl_end ?_
  refine wp_condF (he := he4) rfl ?_
  refine wp_skip ?_
  refine then_normal ?_
  refine wp_seqR ?_
  refine wl_val he4 rfl rfl (.int .i64 (((k : Nat) : Int))) (rn_move _ (Or.inl rfl) _ (he4.tmp 0 _ rfl)) (fun a5 he5 => ?_)
  clear he4
  refine wl_val he5 rfl rfl (.int .i64 (((k : Nat) : Int))) (rn_move _ (Or.inl rfl) _ (he5.tmp 0 _ rfl)) (fun a6 he6 => ?_)
  clear he5
  refine wl_val he6 rfl rfl (.int .i64 (((k : Nat) : Int))) (rn_move _ (Or.inl rfl) _ (he6.tmp 0 _ rfl)) (fun a7 he7 => ?_)
  clear he6
  refine wl_val he7 rfl rfl (.agg (#[.int .i64 (((k : Nat) : Int)), .int .i64 (((k : Nat) : Int)), .int .i64 (((k : Nat) : Int)), .int .i64 (0)])) (rn_build _ _ rfl #[(0, .int .i64 (((k : Nat) : Int))), (1, .int .i64 (((k : Nat) : Int))), (2, .int .i64 (((k : Nat) : Int)))] (pmap3 (he7.tmp 7 _ rfl) (he7.tmp 8 _ rfl) (he7.tmp 9 _ rfl)) _ (by kernel_rfl)) (fun a8 he8 => ?_)
  clear he7
  refine wl_store he8 hm2 1 rfl rfl rfl _ _ _ rfl (0) (he8.tmp 2 _ rfl) _ (he8.tmp 10 _ rfl) 4 agg54.size rfl (by kernel_rfl) (by simp) (#[.int .i64 (((k : Nat) : Int)), .int .i64 (((k : Nat) : Int)), .int .i64 (((k : Nat) : Int)), .int .i64 (0)]) (by kernel_rfl) (fun w3 hm3 => ?_)
  clear hm2
  refine wl_end ?_
  refine wp_ret ?_
  exact bodyPost_ret (results_cell he8 hm3 _ _ Try.results36 _ rfl 1 rfl 4 agg54 (by first | rfl | assumption)) he8.defers ⟨(by rw [ivArr_one (by omega)]), hm3.below⟩
set_option maxHeartbeats 8000000 in
theorem c_RTidy0 (f : Nat → Ru) (b p n c : Nat) (w : World) (hR : RowAt w b p n 5 fun i => (f i).arr) (hn : n ≤ 1048576) (hok : ruOks f n = true) :
    Calls Try.prog 21 #[.slice (some ⟨b, p, none⟩) (n) (c)] w fun e w' => (tidM f n = [] ∧ e = .returned (.slice none 0 0) ∧ Below w.heap.size w w') ∨ (tidM f n ≠ [] ∧ NewRu w (tidM f n) e w') := by
  refine calls_begin Try.func21 rfl 72 rfl (Nat.le_of_ble_eq_true rfl) [(0, .slice (some ⟨b, p, none⟩) (n) (c))] ⟨rfl, trivial⟩ (fun a0 he0 hm0 => ?_)
  obtain ⟨hall, hn6⟩ := ruOks_all hok
  refine wp_seqR ?_
  refine wl_val he0 rfl rfl (.slice none 0 0) (rn_move _ (Or.inr rfl) _ rfl) (fun a1 he1 => ?_)
  clear he0
  refine wl_end ?_
  refine wp_seq ?_
  refine wp_seqR ?_
  refine wl_val he1 rfl rfl (.slice (some ⟨b, p, none⟩) (n) (c)) (rn_move _ (Or.inl rfl) _ (he1.tmp 0 _ rfl)) (fun a2 he2 => ?_)
  clear he1
  refine wl_call he2 hm0 rfl rfl _ #[.slice (some ⟨b, p, none⟩) (n) (c)] (enter_call _ _ _ rfl 10 #[] #[] rfl #[.slice (some ⟨b, p, none⟩) (n) (c)] (map1 (he2.tmp 15 _ rfl)) #[.slice (some ⟨b, p, none⟩) (n) (c)] rfl (fun _ _ => by kernel_rfl)) (.bool true) (callsV (congrArg Value.bool (hok)) (c_Oks f b p n c _ (hR.kb hm0.keep (by simp)) hn)) (fun a3 w1 he3 hm1 => ?_)
  clear he2 hm0
  refine wl_val he3 rfl rfl (.bool false) (rn_un _ _ _ rfl _ (.bool (!true)) _ (he3.tmp 16 _ rfl) rfl rfl) (fun a4 he4 => ?_)
  clear he3
  refine wl_end ?_
  refine wp_condF (he := he4) rfl ?_
  refine wp_skip ?_
  refine then_normal ?_
  refine wp_seqR ?_
  refine wl_alloc he4 hm1 1 rfl rfl rfl _ rfl (.agg zero12) (fun w => by kernel_rfl) (zero12) rfl (fun a5 w2 b1 he5 hm2 => ?_)
  clear he4 hm1
  refine wl_end ?_
  refine wp_seq ?_
  refine wp_seqR ?_
  refine wl_val he5 rfl rfl (.int .i64 (0)) (rn_move _ (Or.inl rfl) _ rfl) (fun a6 he6 => ?_)
  clear he5
  refine wl_end ?_
  refine wp_block ?_
  refine wp_loopN (fun mz az wz => ∃ (i0 : Nat), ∃ (cur0 : Array Value), mz = 12 - (i0) ∧ (i0 ≤ 12 ∧ Rw (cur0) 12 12 4 (cellsOf ivArr (initS i0))) ∧ EV az 72 [] [(0, .slice (some ⟨b, p, none⟩) (n) (c)), (2, .slice none 0 0), (15, .slice (some ⟨b, p, none⟩) (n) (c)), (16, .bool true), (17, .bool false), (3, .pointer (some ⟨b1, 0, none⟩)), (18, .int .i64 (((i0 : Nat) : Int)))] ∧ MM [] w wz [(1, ⟨true, b1, 58, cur0⟩)]) ⟨_, 0, zero12, rfl, ⟨by omega, zero12_rw⟩, he6.sub _ ⟨rfl, rfl, rfl, rfl, rfl, rfl, rfl, trivial⟩, hm2.sub _ ⟨rfl, trivial⟩⟩ ?_
  rintro mz1 a7 w3 ⟨i0, cur0, rfl, hrel1, he7, hm3⟩
  clear he6 hm2
  obtain ⟨hra, hrw⟩ := hrel1
  refine wp_seqR ?_
  cases hd1 : (decide (((i0 : Nat) : Int) < 12))
  ·
   have hd1p := of_decide_eq_false hd1
   refine wl_val he7 rfl rfl (.bool false) (rn_bin _ _ _ _ _ rfl .i64 _ _ (he7.tmp 18 _ rfl) rfl (.bool (decide (((i0 : Nat) : Int) < 12))) _ rfl (congrArg Value.bool (hd1))) (fun a8 he8 => ?_)
   clear he7
   refine wl_end ?_
   refine wp_seq ?_
   refine wp_condF (he := he8) rfl ?_
   refine wp_exit ?_
   refine exit_then ?_
   refine exit_then ?_
   refine exit_here ?_
   refine then_normal ?_
   refine wp_seqR ?_
   refine wl_val he8 rfl rfl (.slice none 0 0) (rn_move _ (Or.inr rfl) _ rfl) (fun a9 he9 => ?_)
   clear he8
   refine wl_end ?_
   refine wp_seq ?_
   refine wp_seqR ?_
   refine wl_val he9 rfl rfl (.slice (some ⟨b, p, none⟩) (n) (c)) (rn_move _ (Or.inl rfl) _ (he9.tmp 0 _ rfl)) (fun a10 he10 => ?_)
   clear he9
   refine wl_val he10 rfl rfl (.int .i64 (((n : Nat) : Int))) (rn_builtin _ _ _ rfl #[.slice (some ⟨b, p, none⟩) (n) (c)] (map1 (he10.tmp 25 _ rfl)) (.int .i64 (((n : Nat) : Int))) (by kernel_rfl)) (fun a11 he11 => ?_)
   clear he10
   refine wl_val he11 rfl rfl (.int .i64 (0)) (rn_move _ (Or.inl rfl) _ rfl) (fun a12 he12 => ?_)
   clear he11
   refine wl_end ?_
   refine wp_block ?_
   refine wp_loopN (fun mz az wz => (∃ (i : Nat), ∃ (S : List (Nat × Nat)), ∃ (cur : Array Value), mz = n - (i) ∧ (i ≤ n ∧ OkS (S) ∧ Rw (cur) 12 12 4 (cellsOf ivArr (S)) ∧ tidM f n = [] ++ tidR f (n - (i)) (i) (S)) ∧ EV az 72 [] [(0, .slice (some ⟨b, p, none⟩) (n) (c)), (2, .slice none 0 0), (15, .slice (some ⟨b, p, none⟩) (n) (c)), (16, .bool true), (17, .bool false), (3, .pointer (some ⟨b1, 0, none⟩)), (18, .int .i64 (((i0 : Nat) : Int))), (19, .bool false), (25, .slice (some ⟨b, p, none⟩) (n) (c)), (26, .int .i64 (((n : Nat) : Int))), (27, .int .i64 (((i : Nat) : Int))), (5, .slice none 0 0)] ∧ MM [] w wz [(1, ⟨true, b1, 58, cur⟩)]) ∨ (∃ (i : Nat), ∃ (S : List (Nat × Nat)), ∃ (cur : Array Value), ∃ (o : List Ru), ∃ (on : Nat), ∃ (ob : Nat), ∃ (oc : Nat), ∃ (oa : Array Value), mz = n - (i) ∧ (i ≤ n ∧ OkS (S) ∧ Rw (cur) 12 12 4 (cellsOf ivArr (S)) ∧ tidM f n = (o) ++ tidR f (n - (i)) (i) (S) ∧ on = (o).length ∧ 1 ≤ on ∧ on ≤ i ∧ Rw (oa) (on) (oc) 5 (cellsOf Ru.arr (o))) ∧ EV az 72 [] [(0, .slice (some ⟨b, p, none⟩) (n) (c)), (2, .slice none 0 0), (15, .slice (some ⟨b, p, none⟩) (n) (c)), (16, .bool true), (17, .bool false), (3, .pointer (some ⟨b1, 0, none⟩)), (18, .int .i64 (((i0 : Nat) : Int))), (19, .bool false), (25, .slice (some ⟨b, p, none⟩) (n) (c)), (26, .int .i64 (((n : Nat) : Int))), (27, .int .i64 (((i : Nat) : Int))), (5, .slice (some ⟨ob, 0, none⟩) (on) (oc))] ∧ MM [] w wz [(1, ⟨true, b1, 58, cur⟩), (90, ⟨true, ob, 39, oa⟩)])) ⟨_, Or.inl ⟨0, (List.replicate 12 full), cur0, rfl, ⟨by omega, OkS.full, by have := hrw; rw [show i0 = 12 by omega] at this; exact this, rfl⟩, he12.sub _ ⟨rfl, rfl, rfl, rfl, rfl, rfl, rfl, rfl, rfl, rfl, rfl, rfl, trivial⟩, hm3.sub _ ⟨rfl, trivial⟩⟩⟩ ?_
   rintro mz2 a13 w4 (⟨i, S, cur, rfl, hrel2, he13, hm4⟩ | ⟨i, S, cur, o, on, ob, oc, oa, rfl, hrel2, he13, hm4⟩)
   ·
    clear he12 hm3
    obtain ⟨hra, hS, hrw, htd⟩ := hrel2
    refine wp_seqR ?_
    cases hd2 : (decide (((i : Nat) : Int) < ((n : Nat) : Int)))
    ·
     have hd2p := of_decide_eq_false hd2
     refine wl_val he13 rfl rfl (.bool false) (rn_bin _ _ _ _ _ rfl .i64 _ _ (he13.tmp 27 _ rfl) (he13.tmp 26 _ rfl) (.bool (decide (((i : Nat) : Int) < ((n : Nat) : Int)))) _ rfl (congrArg Value.bool (hd2))) (fun a14 he14 => ?_)
     clear he13
     refine wl_end ?_
     refine wp_seq ?_
     refine wp_condF (he := he14) rfl ?_
     refine wp_exit ?_
     refine exit_then ?_
     refine exit_then ?_
     refine exit_here ?_
     refine then_normal ?_
     refine wp_seqR ?_
     refine wl_val he14 rfl rfl (.slice none 0 0) (rn_move _ (Or.inl rfl) _ (he14.tmp 5 _ rfl)) (fun a15 he15 => ?_)
     clear he14
     refine wl_val he15 rfl rfl (.slice none 0 0) (rn_move _ (Or.inr rfl) _ (he15.tmp 71 _ rfl)) (fun a16 he16 => ?_)
     clear he15
     refine wl_end ?_
     refine wp_ret ?_
     exact bodyPost_ret (results_tmp he16 _ Try.results21 _ rfl) he16.defers (Or.inl ⟨tid_end htd (by omega), rfl, hm4.below⟩)
    ·
     have hd2p := of_decide_eq_true hd2
     have hri := hall i (by omega)
     have hat := at_lt12 hri
     obtain ⟨P1, hP1⟩ := c_Br hri hS true
     obtain ⟨P2, hP2⟩ := c_Br hri hS false
     refine wl_val he13 rfl rfl (.bool true) (rn_bin _ _ _ _ _ rfl .i64 _ _ (he13.tmp 27 _ rfl) (he13.tmp 26 _ rfl) (.bool (decide (((i : Nat) : Int) < ((n : Nat) : Int)))) _ rfl (congrArg Value.bool (hd2))) (fun a14 he14 => ?_)
     clear he13
     refine wl_end ?_
     refine wp_seq ?_
     refine wp_condT (he := he14) rfl ?_
     refine wp_skip ?_
     refine then_normal ?_
     refine wp_seq ?_
     refine wp_block ?_
     refine wp_seqR ?_
     refine wl_val he14 rfl rfl (.pointer (some ⟨b, p + i * 5, none⟩)) (rn_indexA _ _ _ rfl _ _ (.pointer (some ⟨b, p + i * 5, none⟩)) (he14.tmp 25 _ rfl) (he14.tmp 27 _ rfl) (ixS 39 5 (by kernel_rfl) (fun w => by kernel_rfl) (b) (p) (n) (c) (i) (by omega) _)) (fun a15 he15 => ?_)
     clear he14
     refine wl_val he15 rfl rfl (.agg (Ru.arr (f i))) (rn_rowA hm4 hR (by simp) (i) (by omega) _ _ rfl (he15.tmp 29 _ rfl) agg39 (by kernel_rfl)) (fun a16 he16 => ?_)
     clear he15
     refine wl_alloc he16 hm4 2 rfl rfl rfl _ rfl (.agg #[.int .i64 0, .int .i64 0, .int .i64 0, .int .i64 0, .int .i64 0]) (fun w => by kernel_rfl) (#[.int .i64 (0), .int .i64 (0), .int .i64 (0), .int .i64 (0), .int .i64 (0)]) rfl (fun a17 w5 b2 he17 hm5 => ?_)
     clear he16 hm4
     refine wl_store he17 hm5 2 rfl rfl rfl _ _ _ rfl (0) (he17.tmp 7 _ rfl) _ (he17.tmp 30 _ rfl) 5 agg39.size rfl (Ru.one _) (by decide) (Ru.arr (f i)) (by kernel_rfl) (fun w6 hm6 => ?_)
     clear hm5
     refine wl_end ?_
     refine wp_seqR ?_
     refine wl_val he17 rfl rfl (.pointer (some ⟨b2, 2, none⟩)) (rn_field _ _ _ rfl _ (.pointer (some ⟨b2, 2, none⟩)) (he17.tmp 7 _ rfl) (by kernel_rfl)) (fun a18 he18 => ?_)
     clear he17
     refine wl_val he18 rfl rfl (.int .i64 ((((f i).num.toNat : Nat) : Int))) (rn_load1 hm6 2 rfl _ _ rfl (2) (he18.tmp 31 _ rfl) one3 _ (Ru.g_num' _ hri)) (fun a19 he19 => ?_)
     clear he18
     refine wl_call he19 hm6 rfl rfl _ #[.int .i64 ((((f i).num.toNat : Nat) : Int))] (enter_call _ _ _ rfl 36 #[] #[] rfl #[.int .i64 ((((f i).num.toNat : Nat) : Int))] (map1 (he19.tmp 32 _ rfl)) #[.int .i64 ((((f i).num.toNat : Nat) : Int))] rfl (fun _ _ => by kernel_rfl)) (.agg (ivArr (((f i).num.toNat, (f i).num.toNat)))) (c_One _ _ (num_le hri)) (fun a20 w7 he20 hm7 => ?_)
     clear he19 hm6
     refine wl_alloc he20 hm7 3 rfl rfl rfl _ rfl (.agg #[.int .i64 0, .int .i64 0, .int .i64 0, .int .i64 0]) (fun w => by kernel_rfl) (#[.int .i64 (0), .int .i64 (0), .int .i64 (0), .int .i64 (0)]) rfl (fun a21 w8 b3 he21 hm8 => ?_)
     clear he20 hm7
     refine wl_store he21 hm8 3 rfl rfl rfl _ _ _ rfl (0) (he21.tmp 8 _ rfl) _ (he21.tmp 33 _ rfl) 4 agg54.size rfl (ivArr.one _) (by decide) (ivArr (((f i).num.toNat, (f i).num.toNat))) (by kernel_rfl) (fun w9 hm9 => ?_)
     clear hm8
     refine wl_end ?_
     refine wp_seq ?_
     refine wp_seq ?_
     refine rg_cut (fun az wz => ∃ (b4 : Nat), ∃ (b5 : Nat), EV az 72 [] [(0, .slice (some ⟨b, p, none⟩) (n) (c)), (2, .slice none 0 0), (15, .slice (some ⟨b, p, none⟩) (n) (c)), (16, .bool true), (17, .bool false), (3, .pointer (some ⟨b1, 0, none⟩)), (18, .int .i64 (((i0 : Nat) : Int))), (19, .bool false), (25, .slice (some ⟨b, p, none⟩) (n) (c)), (26, .int .i64 (((n : Nat) : Int))), (27, .int .i64 (((i : Nat) : Int))), (5, .slice none 0 0), (28, .bool true), (29, .pointer (some ⟨b, p + i * 5, none⟩)), (30, .agg (Ru.arr (f i))), (7, .pointer (some ⟨b2, 0, none⟩)), (31, .pointer (some ⟨b2, 2, none⟩)), (32, .int .i64 ((((f i).num.toNat : Nat) : Int))), (33, .agg (ivArr (((f i).num.toNat, (f i).num.toNat)))), (8, .pointer (some ⟨b3, 0, none⟩)), (35, .pointer (some ⟨b2, 1, none⟩)), (36, .int .i64 ((f i).op)), (37, .pointer (some ⟨b2, 0, none⟩)), (38, .int .i64 ((((f i).at_.toNat : Nat) : Int))), (39, .pointer (some ⟨b1, 0 + ((f i).at_.toNat) * 4, none⟩)), (40, .agg (ivArr (atS (S) (((f i).at_.toNat))))), (41, .agg (ivArr (((f i).num.toNat, (f i).num.toNat)))), (42, .tuple #[.agg (optA (brR (f i) S true)), .agg (#[.int .i64 (P1.1), .int .i64 (P1.2.1), .int .i64 (P1.2.2.1), .int .i64 (P1.2.2.2)]), .bool ((brR (f i) S true).isSome)]), (34, .tuple #[.agg (optA (brR (f i) S true)), .agg (#[.int .i64 (P1.1), .int .i64 (P1.2.1), .int .i64 (P1.2.2.1), .int .i64 (P1.2.2.2)]), .bool ((brR (f i) S true).isSome)]), (43, .agg (optA (brR (f i) S true))), (44, .agg (#[.int .i64 (P1.1), .int .i64 (P1.2.1), .int .i64 (P1.2.2.1), .int .i64 (P1.2.2.2)])), (45, .bool ((brR (f i) S true).isSome)), (9, .pointer (some ⟨b4, 0, none⟩)), (10, .pointer (some ⟨b5, 0, none⟩)), (11, .bool ((brR (f i) S true).isSome))] ∧ MM [] w wz [(1, ⟨true, b1, 58, cur⟩), (2, ⟨true, b2, 39, Ru.arr (f i)⟩), (3, ⟨true, b3, 54, ivArr (((f i).num.toNat, (f i).num.toNat))⟩), (4, ⟨true, b4, 54, optA (brR (f i) S true)⟩), (5, ⟨true, b5, 54, #[.int .i64 (P1.1), .int .i64 (P1.2.1), .int .i64 (P1.2.2.1), .int .i64 (P1.2.2.2)]⟩)]) ?tree1_001 ?cont1_001
     case tree1_001 =>
      refine wh_begin (by kernel_rfl) hm9 [(1, ⟨true, b1, 58, cur⟩), (2, ⟨true, b2, 39, Ru.arr (f i)⟩), (3, ⟨true, b3, 54, ivArr (((f i).num.toNat, (f i).num.toNat))⟩)] ⟨rfl, rfl, rfl, trivial⟩ (fun w10 hm10 => ?_)
      refine tk (fuel := 16) (i := 0) ?_ he21 hm10 ⟨rfl, rfl, rfl, trivial⟩ (.pointer (some ⟨b2, 1, none⟩)) ?_ ?_ ?_ ?_ fun a22 he22 => ?_
      rotate_left
      rw [List.getElem?_toArray]; rfl
      exact ⟨by kernel_rfl, by kernel_rfl, by kernel_rfl⟩
      exact ⟨fun _ _ _ _ h => h, rfl, rfl⟩
      exact fun wS hmS => rn_field _ _ _ rfl _ (.pointer (some ⟨b2, 1, none⟩)) (he21.tmp 7 _ rfl) (by kernel_rfl)
      refine tk (fuel := 15) (i := 1) ?_ he22 hm10 ⟨rfl, rfl, rfl, trivial⟩ (.int .i64 ((f i).op)) ?_ ?_ ?_ ?_ fun a23 he23 => ?_
      rotate_left
      rw [List.getElem?_toArray]; rfl
      exact ⟨by kernel_rfl, by kernel_rfl, by kernel_rfl⟩
      exact ⟨fun _ _ _ _ h => h, rfl, rfl⟩
      exact fun wS hmS => rn_load1 hmS 2 rfl _ _ rfl (1) (he22.tmp 35 _ rfl) one3 _ rfl
      refine tk (fuel := 14) (i := 2) ?_ he23 hm10 ⟨rfl, rfl, rfl, trivial⟩ (.pointer (some ⟨b2, 0, none⟩)) ?_ ?_ ?_ ?_ fun a24 he24 => ?_
      rotate_left
      rw [List.getElem?_toArray]; rfl
      exact ⟨by kernel_rfl, by kernel_rfl, by kernel_rfl⟩
      exact ⟨fun _ _ _ _ h => h, rfl, rfl⟩
      exact fun wS hmS => rn_field _ _ _ rfl _ (.pointer (some ⟨b2, 0, none⟩)) (he23.tmp 7 _ rfl) (by kernel_rfl)
      refine tk (fuel := 13) (i := 3) ?_ he24 hm10 ⟨rfl, rfl, rfl, trivial⟩ (.int .i64 ((((f i).at_.toNat : Nat) : Int))) ?_ ?_ ?_ ?_ fun a25 he25 => ?_
      rotate_left
      rw [List.getElem?_toArray]; rfl
      exact ⟨by kernel_rfl, by kernel_rfl, by kernel_rfl⟩
      exact ⟨fun _ _ _ _ h => h, rfl, rfl⟩
      exact fun wS hmS => rn_load1 hmS 2 rfl _ _ rfl (0) (he24.tmp 37 _ rfl) one3 _ (Ru.g_at' _ hri)
      refine tk (fuel := 12) (i := 4) ?_ he25 hm10 ⟨rfl, rfl, rfl, trivial⟩ (.pointer (some ⟨b1, 0 + ((f i).at_.toNat) * 4, none⟩)) ?_ ?_ ?_ ?_ fun a26 he26 => ?_
      rotate_left
      rw [List.getElem?_toArray]; rfl
      exact ⟨by kernel_rfl, by kernel_rfl, by kernel_rfl⟩
      exact ⟨fun _ _ _ _ h => h, rfl, rfl⟩
      exact fun wS hmS => rn_indexA _ _ _ rfl _ _ (.pointer (some ⟨b1, 0 + ((f i).at_.toNat) * 4, none⟩)) (he25.tmp 3 _ rfl) (he25.tmp 38 _ rfl) (ixA 12 54 4 (by kernel_rfl) (fun w => by kernel_rfl) b1 0 ((f i).at_.toNat) (by omega) (by decide) _)
      refine tk (fuel := 11) (i := 5) ?_ he26 hm10 ⟨rfl, rfl, rfl, trivial⟩ (.agg (ivArr (atS (S) (((f i).at_.toNat))))) ?_ ?_ ?_ ?_ fun a27 he27 => ?_
      rotate_left
      rw [List.getElem?_toArray]; rfl
      exact ⟨by kernel_rfl, by kernel_rfl, by kernel_rfl⟩
      exact ⟨fun _ _ _ _ h => h, rfl, rfl⟩
      exact fun wS hmS => rn_loadA hmS 1 rfl _ _ rfl (0 + ((f i).at_.toNat) * 4) (he26.tmp 39 _ rfl) 4 agg54 (ivArr (atS (S) (((f i).at_.toNat)))) (hrw.ext ivArr.sz (hS.get hat) _ (by omega)) rfl
      refine tk (fuel := 10) (i := 6) ?_ he27 hm10 ⟨rfl, rfl, rfl, trivial⟩ (.agg (ivArr (((f i).num.toNat, (f i).num.toNat)))) ?_ ?_ ?_ ?_ fun a28 he28 => ?_
      rotate_left
      rw [List.getElem?_toArray]; rfl
      exact ⟨by kernel_rfl, by kernel_rfl, by kernel_rfl⟩
      exact ⟨fun _ _ _ _ h => h, rfl, rfl⟩
      exact fun wS hmS => rn_loadA hmS 3 rfl _ _ rfl (0) (he27.tmp 8 _ rfl) 4 agg54 (ivArr (((f i).num.toNat, (f i).num.toNat))) (by kernel_rfl) rfl
      refine wpAnyH_ready (fuel := 9) (rs := [7, 12, 13]) ?hr1e001_8 (by simp) (AllReadyH.cons (o := ?o1e001_8_0) ?hi1e001_8_0 ?st1e001_8_0 (AllReadyH.cons (o := ?o1e001_8_1) ?hi1e001_8_1 ?st1e001_8_1 (AllReadyH.cons (o := ?o1e001_8_2) ?hi1e001_8_2 ?st1e001_8_2 AllReadyH.nil)))
      case hr1e001_8 => kernel_rfl
      case hi1e001_8_0 => rw [List.getElem?_toArray]; rfl
      case hi1e001_8_1 => rw [List.getElem?_toArray]; rfl
      case hi1e001_8_2 => rw [List.getElem?_toArray]; rfl
      case st1e001_8_0 =>
       refine st_call he28 hm10 ⟨rfl, rfl, rfl, trivial⟩ rfl rfl _ #[.int .i64 ((f i).op), .agg (ivArr (atS (S) (((f i).at_.toNat)))), .agg (ivArr (((f i).num.toNat, (f i).num.toNat))), .bool true] (enter_call _ _ _ rfl 37 #[] #[] rfl #[.int .i64 ((f i).op), .agg (ivArr (atS (S) (((f i).at_.toNat)))), .agg (ivArr (((f i).num.toNat, (f i).num.toNat))), .bool true] (map4 (he28.tmp 36 _ rfl) (he28.tmp 40 _ rfl) (he28.tmp 41 _ rfl) rfl) #[.int .i64 ((f i).op), .agg (ivArr (atS (S) (((f i).at_.toNat)))), .agg (ivArr (((f i).num.toNat, (f i).num.toNat))), .bool true] rfl (fun _ _ => by kernel_rfl)) (.tuple #[.agg (optA (brR (f i) S true)), .agg (#[.int .i64 (P1.1), .int .i64 (P1.2.1), .int .i64 (P1.2.2.1), .int .i64 (P1.2.2.2)]), .bool ((brR (f i) S true).isSome)]) (hP1 _) (fun a29 w11 he29 hm11 => ?_)
       refine tk (fuel := 8) (i := 8) ?_ he29 hm11 ⟨rfl, rfl, rfl, trivial⟩ (.tuple #[.agg (optA (brR (f i) S true)), .agg (#[.int .i64 (P1.1), .int .i64 (P1.2.1), .int .i64 (P1.2.2.1), .int .i64 (P1.2.2.2)]), .bool ((brR (f i) S true).isSome)]) ?_ ?_ ?_ ?_ fun a30 he30 => ?_
       rotate_left
       rw [List.getElem?_toArray]; rfl
       exact ⟨by kernel_rfl, by kernel_rfl, by kernel_rfl⟩
       exact ⟨fun _ _ _ _ h => h, rfl, rfl⟩
       exact fun wS hmS => rn_move _ (Or.inl rfl) _ (he29.tmp 42 _ rfl)
       refine tk (fuel := 7) (i := 9) ?_ he30 hm11 ⟨rfl, rfl, rfl, trivial⟩ (.agg (optA (brR (f i) S true))) ?_ ?_ ?_ ?_ fun a31 he31 => ?_
       rotate_left
       rw [List.getElem?_toArray]; rfl
       exact ⟨by kernel_rfl, by kernel_rfl, by kernel_rfl⟩
       exact ⟨fun _ _ _ _ h => h, rfl, rfl⟩
       exact fun wS hmS => rn_extract _ _ rfl _ (he30.tmp 34 _ rfl) _ rfl
       refine tk (fuel := 6) (i := 10) ?_ he31 hm11 ⟨rfl, rfl, rfl, trivial⟩ (.agg (#[.int .i64 (P1.1), .int .i64 (P1.2.1), .int .i64 (P1.2.2.1), .int .i64 (P1.2.2.2)])) ?_ ?_ ?_ ?_ fun a32 he32 => ?_
       rotate_left
       rw [List.getElem?_toArray]; rfl
       exact ⟨by kernel_rfl, by kernel_rfl, by kernel_rfl⟩
       exact ⟨fun _ _ _ _ h => h, rfl, rfl⟩
       exact fun wS hmS => rn_extract _ _ rfl _ (he31.tmp 34 _ rfl) _ rfl
       refine tk (fuel := 5) (i := 11) ?_ he32 hm11 ⟨rfl, rfl, rfl, trivial⟩ (.bool ((brR (f i) S true).isSome)) ?_ ?_ ?_ ?_ fun a33 he33 => ?_
       rotate_left
       rw [List.getElem?_toArray]; rfl
       exact ⟨by kernel_rfl, by kernel_rfl, by kernel_rfl⟩
       exact ⟨fun _ _ _ _ h => h, rfl, rfl⟩
       exact fun wS hmS => rn_extract _ _ rfl _ (he32.tmp 34 _ rfl) _ rfl
       refine wpAnyH_ready (fuel := 4) (rs := [12, 13]) ?hr1e001_13 (by simp) (AllReadyH.cons (o := ?o1e001_13_0) ?hi1e001_13_0 ?st1e001_13_0 (AllReadyH.cons (o := ?o1e001_13_1) ?hi1e001_13_1 ?st1e001_13_1 AllReadyH.nil))
       case hr1e001_13 => kernel_rfl
       case hi1e001_13_0 => rw [List.getElem?_toArray]; rfl
       case hi1e001_13_1 => rw [List.getElem?_toArray]; rfl
       case st1e001_13_0 =>
        refine st_alloc he33 hm11 4 rfl ⟨rfl, rfl, rfl, trivial⟩ rfl rfl _ rfl (.agg #[.int .i64 0, .int .i64 0, .int .i64 0, .int .i64 0]) (fun w => by kernel_rfl) (#[.int .i64 (0), .int .i64 (0), .int .i64 (0), .int .i64 (0)]) rfl (fun _ => ⟨rfl, rfl, rfl, trivial⟩) (fun a34 w12 b4 he34 hm12 => ?_)
        refine wpAnyH_ready (fuel := 3) (rs := [13]) ?hr1e001_14 (by simp) (AllReadyH.cons (o := ?o1e001_14_0) ?hi1e001_14_0 ?st1e001_14_0 AllReadyH.nil)
        case hr1e001_14 => kernel_rfl
        case hi1e001_14_0 => rw [List.getElem?_toArray]; rfl
        case st1e001_14_0 =>
         refine st_alloc he34 hm12 5 rfl ⟨rfl, rfl, rfl, trivial⟩ rfl rfl _ rfl (.agg #[.int .i64 0, .int .i64 0, .int .i64 0, .int .i64 0]) (fun w => by kernel_rfl) (#[.int .i64 (0), .int .i64 (0), .int .i64 (0), .int .i64 (0)]) rfl (fun _ => ⟨rfl, rfl, rfl, trivial⟩) (fun a35 w13 b5 he35 hm13 => ?_)
         refine wh_store (i := 14) (op := ?op1e001_15) (fuel := 2) ?hr1e001_15 ?hi1e001_15 he35 hm13 4 rfl ?hd1e001_15 ?hw1e001_15 54 (.tmp 9) (.tmp 43) ?ho1e001_15 (0) (he35.tmp 9 _ rfl) _ (he35.tmp 43 _ rfl) 4 agg54.size (optA.sz _) (optA.one _) (by decide) (optA (brR (f i) S true)) (optA_ovw _ _ _ _ _) ⟨rfl, rfl, rfl, trivial⟩ (fun w14 hm14 => ?k1e001_15)
         case hi1e001_15 => rw [List.getElem?_toArray]; rfl
         case hw1e001_15 => exact rfl
         case hr1e001_15 => kernel_rfl
         case hd1e001_15 | ho1e001_15 => rfl
         refine wh_store (i := 15) (op := ?op1e001_16) (fuel := 1) ?hr1e001_16 ?hi1e001_16 he35 hm14 5 rfl ?hd1e001_16 ?hw1e001_16 54 (.tmp 10) (.tmp 44) ?ho1e001_16 (0) (he35.tmp 10 _ rfl) _ (he35.tmp 44 _ rfl) 4 agg54.size rfl (by kernel_rfl) (by simp) (#[.int .i64 (P1.1), .int .i64 (P1.2.1), .int .i64 (P1.2.2.1), .int .i64 (P1.2.2.2)]) (by kernel_rfl) ⟨rfl, rfl, rfl, trivial⟩ (fun w15 hm15 => ?k1e001_16)
         case hi1e001_16 => rw [List.getElem?_toArray]; rfl
         case hw1e001_16 => exact rfl
         case hr1e001_16 => kernel_rfl
         case hd1e001_16 | ho1e001_16 => rfl
         refine tk (fuel := 0) (i := 16) ?_ he35 hm15 ⟨rfl, rfl, rfl, trivial⟩ (.bool ((brR (f i) S true).isSome)) ?_ ?_ ?_ ?_ fun a36 he36 => ?_
         rotate_left
         rw [List.getElem?_toArray]; rfl
         exact ⟨by kernel_rfl, by kernel_rfl, by kernel_rfl⟩
         exact ⟨fun _ _ _ _ h => h, rfl, rfl⟩
         exact fun wS hmS => rn_move _ (Or.inr rfl) _ (he35.tmp 45 _ rfl)
         refine wpAnyH_done (by kernel_rfl) ?_ _
         exact ⟨b4, b5, he36.sub _ ⟨rfl, rfl, rfl, rfl, rfl, rfl, rfl, rfl, rfl, rfl, rfl, rfl, rfl, rfl, rfl, rfl, rfl, rfl, rfl, rfl, rfl, rfl, rfl, rfl, rfl, rfl, rfl, rfl, rfl, rfl, rfl, rfl, rfl, rfl, rfl, trivial⟩, hm15.sub _ ⟨rfl, rfl, rfl, rfl, rfl, trivial⟩⟩
       case st1e001_13_1 =>
        refine st_alloc he33 hm11 5 rfl ⟨rfl, rfl, rfl, trivial⟩ rfl rfl _ rfl (.agg #[.int .i64 0, .int .i64 0, .int .i64 0, .int .i64 0]) (fun w => by kernel_rfl) (#[.int .i64 (0), .int .i64 (0), .int .i64 (0), .int .i64 (0)]) rfl (fun _ => ⟨rfl, rfl, rfl, trivial⟩) (fun a34 w12 b5 he34 hm12 => ?_)
        refine wpAnyH_ready (fuel := 3) (rs := [12]) ?hr1e001_18 (by simp) (AllReadyH.cons (o := ?o1e001_18_0) ?hi1e001_18_0 ?st1e001_18_0 AllReadyH.nil)
        case hr1e001_18 => kernel_rfl
        case hi1e001_18_0 => rw [List.getElem?_toArray]; rfl
        case st1e001_18_0 =>
         refine st_alloc he34 hm12 4 rfl ⟨rfl, rfl, rfl, trivial⟩ rfl rfl _ rfl (.agg #[.int .i64 0, .int .i64 0, .int .i64 0, .int .i64 0]) (fun w => by kernel_rfl) (#[.int .i64 (0), .int .i64 (0), .int .i64 (0), .int .i64 (0)]) rfl (fun _ => ⟨rfl, rfl, rfl, trivial⟩) (fun a35 w13 b4 he35 hm13 => ?_)
         refine wh_store (i := 14) (op := ?op1e001_19) (fuel := 2) ?hr1e001_19 ?hi1e001_19 he35 hm13 4 rfl ?hd1e001_19 ?hw1e001_19 54 (.tmp 9) (.tmp 43) ?ho1e001_19 (0) (he35.tmp 9 _ rfl) _ (he35.tmp 43 _ rfl) 4 agg54.size (optA.sz _) (optA.one _) (by decide) (optA (brR (f i) S true)) (optA_ovw _ _ _ _ _) ⟨rfl, rfl, rfl, trivial⟩ (fun w14 hm14 => ?k1e001_19)
         case hi1e001_19 => rw [List.getElem?_toArray]; rfl
         case hw1e001_19 => exact rfl
         case hr1e001_19 => kernel_rfl
         case hd1e001_19 | ho1e001_19 => rfl
         refine wh_store (i := 15) (op := ?op1e001_20) (fuel := 1) ?hr1e001_20 ?hi1e001_20 he35 hm14 5 rfl ?hd1e001_20 ?hw1e001_20 54 (.tmp 10) (.tmp 44) ?ho1e001_20 (0) (he35.tmp 10 _ rfl) _ (he35.tmp 44 _ rfl) 4 agg54.size rfl (by kernel_rfl) (by simp) (#[.int .i64 (P1.1), .int .i64 (P1.2.1), .int .i64 (P1.2.2.1), .int .i64 (P1.2.2.2)]) (by kernel_rfl) ⟨rfl, rfl, rfl, trivial⟩ (fun w15 hm15 => ?k1e001_20)
         case hi1e001_20 => rw [List.getElem?_toArray]; rfl
         case hw1e001_20 => exact rfl
         case hr1e001_20 => kernel_rfl
         case hd1e001_20 | ho1e001_20 => rfl
         refine tk (fuel := 0) (i := 16) ?_ he35 hm15 ⟨rfl, rfl, rfl, trivial⟩ (.bool ((brR (f i) S true).isSome)) ?_ ?_ ?_ ?_ fun a36 he36 => ?_
         rotate_left
         rw [List.getElem?_toArray]; rfl
         exact ⟨by kernel_rfl, by kernel_rfl, by kernel_rfl⟩
         exact ⟨fun _ _ _ _ h => h, rfl, rfl⟩
         exact fun wS hmS => rn_move _ (Or.inr rfl) _ (he35.tmp 45 _ rfl)
         refine wpAnyH_done (by kernel_rfl) ?_ _
         exact ⟨b4, b5, he36.sub _ ⟨rfl, rfl, rfl, rfl, rfl, rfl, rfl, rfl, rfl, rfl, rfl, rfl, rfl, rfl, rfl, rfl, rfl, rfl, rfl, rfl, rfl, rfl, rfl, rfl, rfl, rfl, rfl, rfl, rfl, rfl, rfl, rfl, rfl, rfl, rfl, trivial⟩, hm15.sub _ ⟨rfl, rfl, rfl, rfl, rfl, trivial⟩⟩
      case st1e001_8_1 =>
       refine st_alloc he28 hm10 4 rfl ⟨rfl, rfl, rfl, trivial⟩ rfl rfl _ rfl (.agg #[.int .i64 0, .int .i64 0, .int .i64 0, .int .i64 0]) (fun w => by kernel_rfl) (#[.int .i64 (0), .int .i64 (0), .int .i64 (0), .int .i64 (0)]) rfl (fun _ => ⟨rfl, rfl, rfl, trivial⟩) (fun a29 w11 b4 he29 hm11 => ?_)
       refine wpAnyH_ready (fuel := 8) (rs := [7, 13]) ?hr1e001_22 (by simp) (AllReadyH.cons (o := ?o1e001_22_0) ?hi1e001_22_0 ?st1e001_22_0 (AllReadyH.cons (o := ?o1e001_22_1) ?hi1e001_22_1 ?st1e001_22_1 AllReadyH.nil))
       case hr1e001_22 => kernel_rfl
       case hi1e001_22_0 => rw [List.getElem?_toArray]; rfl
       case hi1e001_22_1 => rw [List.getElem?_toArray]; rfl
       case st1e001_22_0 =>
        refine st_call he29 hm11 ⟨rfl, rfl, rfl, trivial⟩ rfl rfl _ #[.int .i64 ((f i).op), .agg (ivArr (atS (S) (((f i).at_.toNat)))), .agg (ivArr (((f i).num.toNat, (f i).num.toNat))), .bool true] (enter_call _ _ _ rfl 37 #[] #[] rfl #[.int .i64 ((f i).op), .agg (ivArr (atS (S) (((f i).at_.toNat)))), .agg (ivArr (((f i).num.toNat, (f i).num.toNat))), .bool true] (map4 (he29.tmp 36 _ rfl) (he29.tmp 40 _ rfl) (he29.tmp 41 _ rfl) rfl) #[.int .i64 ((f i).op), .agg (ivArr (atS (S) (((f i).at_.toNat)))), .agg (ivArr (((f i).num.toNat, (f i).num.toNat))), .bool true] rfl (fun _ _ => by kernel_rfl)) (.tuple #[.agg (optA (brR (f i) S true)), .agg (#[.int .i64 (P1.1), .int .i64 (P1.2.1), .int .i64 (P1.2.2.1), .int .i64 (P1.2.2.2)]), .bool ((brR (f i) S true).isSome)]) (hP1 _) (fun a30 w12 he30 hm12 => ?_)
        refine tk (fuel := 7) (i := 8) ?_ he30 hm12 ⟨rfl, rfl, rfl, trivial⟩ (.tuple #[.agg (optA (brR (f i) S true)), .agg (#[.int .i64 (P1.1), .int .i64 (P1.2.1), .int .i64 (P1.2.2.1), .int .i64 (P1.2.2.2)]), .bool ((brR (f i) S true).isSome)]) ?_ ?_ ?_ ?_ fun a31 he31 => ?_
        rotate_left
        rw [List.getElem?_toArray]; rfl
        exact ⟨by kernel_rfl, by kernel_rfl, by kernel_rfl⟩
        exact ⟨fun _ _ _ _ h => h, rfl, rfl⟩
        exact fun wS hmS => rn_move _ (Or.inl rfl) _ (he30.tmp 42 _ rfl)
        refine tk (fuel := 6) (i := 9) ?_ he31 hm12 ⟨rfl, rfl, rfl, trivial⟩ (.agg (optA (brR (f i) S true))) ?_ ?_ ?_ ?_ fun a32 he32 => ?_
        rotate_left
        rw [List.getElem?_toArray]; rfl
        exact ⟨by kernel_rfl, by kernel_rfl, by kernel_rfl⟩
        exact ⟨fun _ _ _ _ h => h, rfl, rfl⟩
        exact fun wS hmS => rn_extract _ _ rfl _ (he31.tmp 34 _ rfl) _ rfl
        refine tk (fuel := 5) (i := 10) ?_ he32 hm12 ⟨rfl, rfl, rfl, trivial⟩ (.agg (#[.int .i64 (P1.1), .int .i64 (P1.2.1), .int .i64 (P1.2.2.1), .int .i64 (P1.2.2.2)])) ?_ ?_ ?_ ?_ fun a33 he33 => ?_
        rotate_left
        rw [List.getElem?_toArray]; rfl
        exact ⟨by kernel_rfl, by kernel_rfl, by kernel_rfl⟩
        exact ⟨fun _ _ _ _ h => h, rfl, rfl⟩
        exact fun wS hmS => rn_extract _ _ rfl _ (he32.tmp 34 _ rfl) _ rfl
        refine tk (fuel := 4) (i := 11) ?_ he33 hm12 ⟨rfl, rfl, rfl, trivial⟩ (.bool ((brR (f i) S true).isSome)) ?_ ?_ ?_ ?_ fun a34 he34 => ?_
        rotate_left
        rw [List.getElem?_toArray]; rfl
        exact ⟨by kernel_rfl, by kernel_rfl, by kernel_rfl⟩
        exact ⟨fun _ _ _ _ h => h, rfl, rfl⟩
        exact fun wS hmS => rn_extract _ _ rfl _ (he33.tmp 34 _ rfl) _ rfl
        refine wpAnyH_ready (fuel := 3) (rs := [13]) ?hr1e001_27 (by simp) (AllReadyH.cons (o := ?o1e001_27_0) ?hi1e001_27_0 ?st1e001_27_0 AllReadyH.nil)
        case hr1e001_27 => kernel_rfl
        case hi1e001_27_0 => rw [List.getElem?_toArray]; rfl
        case st1e001_27_0 =>
         refine st_alloc he34 hm12 5 rfl ⟨rfl, rfl, rfl, trivial⟩ rfl rfl _ rfl (.agg #[.int .i64 0, .int .i64 0, .int .i64 0, .int .i64 0]) (fun w => by kernel_rfl) (#[.int .i64 (0), .int .i64 (0), .int .i64 (0), .int .i64 (0)]) rfl (fun _ => ⟨rfl, rfl, rfl, trivial⟩) (fun a35 w13 b5 he35 hm13 => ?_)
         refine wh_store (i := 14) (op := ?op1e001_28) (fuel := 2) ?hr1e001_28 ?hi1e001_28 he35 hm13 4 rfl ?hd1e001_28 ?hw1e001_28 54 (.tmp 9) (.tmp 43) ?ho1e001_28 (0) (he35.tmp 9 _ rfl) _ (he35.tmp 43 _ rfl) 4 agg54.size (optA.sz _) (optA.one _) (by decide) (optA (brR (f i) S true)) (optA_ovw _ _ _ _ _) ⟨rfl, rfl, rfl, trivial⟩ (fun w14 hm14 => ?k1e001_28)
         case hi1e001_28 => rw [List.getElem?_toArray]; rfl
         case hw1e001_28 => exact rfl
         case hr1e001_28 => kernel_rfl
         case hd1e001_28 | ho1e001_28 => rfl
         refine wh_store (i := 15) (op := ?op1e001_29) (fuel := 1) ?hr1e001_29 ?hi1e001_29 he35 hm14 5 rfl ?hd1e001_29 ?hw1e001_29 54 (.tmp 10) (.tmp 44) ?ho1e001_29 (0) (he35.tmp 10 _ rfl) _ (he35.tmp 44 _ rfl) 4 agg54.size rfl (by kernel_rfl) (by simp) (#[.int .i64 (P1.1), .int .i64 (P1.2.1), .int .i64 (P1.2.2.1), .int .i64 (P1.2.2.2)]) (by kernel_rfl) ⟨rfl, rfl, rfl, trivial⟩ (fun w15 hm15 => ?k1e001_29)
         case hi1e001_29 => rw [List.getElem?_toArray]; rfl
         case hw1e001_29 => exact rfl
         case hr1e001_29 => kernel_rfl
         case hd1e001_29 | ho1e001_29 => rfl
         refine tk (fuel := 0) (i := 16) ?_ he35 hm15 ⟨rfl, rfl, rfl, trivial⟩ (.bool ((brR (f i) S true).isSome)) ?_ ?_ ?_ ?_ fun a36 he36 => ?_
         rotate_left
         rw [List.getElem?_toArray]; rfl
         exact ⟨by kernel_rfl, by kernel_rfl, by kernel_rfl⟩
         exact ⟨fun _ _ _ _ h => h, rfl, rfl⟩
         exact fun wS hmS => rn_move _ (Or.inr rfl) _ (he35.tmp 45 _ rfl)
         refine wpAnyH_done (by kernel_rfl) ?_ _
         exact ⟨b4, b5, he36.sub _ ⟨rfl, rfl, rfl, rfl, rfl, rfl, rfl, rfl, rfl, rfl, rfl, rfl, rfl, rfl, rfl, rfl, rfl, rfl, rfl, rfl, rfl, rfl, rfl, rfl, rfl, rfl, rfl, rfl, rfl, rfl, rfl, rfl, rfl, rfl, rfl, trivial⟩, hm15.sub _ ⟨rfl, rfl, rfl, rfl, rfl, trivial⟩⟩
       case st1e001_22_1 =>
        refine st_alloc he29 hm11 5 rfl ⟨rfl, rfl, rfl, trivial⟩ rfl rfl _ rfl (.agg #[.int .i64 0, .int .i64 0, .int .i64 0, .int .i64 0]) (fun w => by kernel_rfl) (#[.int .i64 (0), .int .i64 (0), .int .i64 (0), .int .i64 (0)]) rfl (fun _ => ⟨rfl, rfl, rfl, trivial⟩) (fun a30 w12 b5 he30 hm12 => ?_)
        refine wpAnyH_ready (fuel := 7) (rs := [7]) ?hr1e001_31 (by simp) (AllReadyH.cons (o := ?o1e001_31_0) ?hi1e001_31_0 ?st1e001_31_0 AllReadyH.nil)
        case hr1e001_31 => kernel_rfl
        case hi1e001_31_0 => rw [List.getElem?_toArray]; rfl
        case st1e001_31_0 =>
         refine st_call he30 hm12 ⟨rfl, rfl, rfl, trivial⟩ rfl rfl _ #[.int .i64 ((f i).op), .agg (ivArr (atS (S) (((f i).at_.toNat)))), .agg (ivArr (((f i).num.toNat, (f i).num.toNat))), .bool true] (enter_call _ _ _ rfl 37 #[] #[] rfl #[.int .i64 ((f i).op), .agg (ivArr (atS (S) (((f i).at_.toNat)))), .agg (ivArr (((f i).num.toNat, (f i).num.toNat))), .bool true] (map4 (he30.tmp 36 _ rfl) (he30.tmp 40 _ rfl) (he30.tmp 41 _ rfl) rfl) #[.int .i64 ((f i).op), .agg (ivArr (atS (S) (((f i).at_.toNat)))), .agg (ivArr (((f i).num.toNat, (f i).num.toNat))), .bool true] rfl (fun _ _ => by kernel_rfl)) (.tuple #[.agg (optA (brR (f i) S true)), .agg (#[.int .i64 (P1.1), .int .i64 (P1.2.1), .int .i64 (P1.2.2.1), .int .i64 (P1.2.2.2)]), .bool ((brR (f i) S true).isSome)]) (hP1 _) (fun a31 w13 he31 hm13 => ?_)
         refine tk (fuel := 6) (i := 8) ?_ he31 hm13 ⟨rfl, rfl, rfl, trivial⟩ (.tuple #[.agg (optA (brR (f i) S true)), .agg (#[.int .i64 (P1.1), .int .i64 (P1.2.1), .int .i64 (P1.2.2.1), .int .i64 (P1.2.2.2)]), .bool ((brR (f i) S true).isSome)]) ?_ ?_ ?_ ?_ fun a32 he32 => ?_
         rotate_left
         rw [List.getElem?_toArray]; rfl
         exact ⟨by kernel_rfl, by kernel_rfl, by kernel_rfl⟩
         exact ⟨fun _ _ _ _ h => h, rfl, rfl⟩
         exact fun wS hmS => rn_move _ (Or.inl rfl) _ (he31.tmp 42 _ rfl)
         refine tk (fuel := 5) (i := 9) ?_ he32 hm13 ⟨rfl, rfl, rfl, trivial⟩ (.agg (optA (brR (f i) S true))) ?_ ?_ ?_ ?_ fun a33 he33 => ?_
         rotate_left
         rw [List.getElem?_toArray]; rfl
         exact ⟨by kernel_rfl, by kernel_rfl, by kernel_rfl⟩
         exact ⟨fun _ _ _ _ h => h, rfl, rfl⟩
         exact fun wS hmS => rn_extract _ _ rfl _ (he32.tmp 34 _ rfl) _ rfl
         refine tk (fuel := 4) (i := 10) ?_ he33 hm13 ⟨rfl, rfl, rfl, trivial⟩ (.agg (#[.int .i64 (P1.1), .int .i64 (P1.2.1), .int .i64 (P1.2.2.1), .int .i64 (P1.2.2.2)])) ?_ ?_ ?_ ?_ fun a34 he34 => ?_
         rotate_left
         rw [List.getElem?_toArray]; rfl
         exact ⟨by kernel_rfl, by kernel_rfl, by kernel_rfl⟩
         exact ⟨fun _ _ _ _ h => h, rfl, rfl⟩
         exact fun wS hmS => rn_extract _ _ rfl _ (he33.tmp 34 _ rfl) _ rfl
         refine tk (fuel := 3) (i := 11) ?_ he34 hm13 ⟨rfl, rfl, rfl, trivial⟩ (.bool ((brR (f i) S true).isSome)) ?_ ?_ ?_ ?_ fun a35 he35 => ?_
         rotate_left
         rw [List.getElem?_toArray]; rfl
         exact ⟨by kernel_rfl, by kernel_rfl, by kernel_rfl⟩
         exact ⟨fun _ _ _ _ h => h, rfl, rfl⟩
         exact fun wS hmS => rn_extract _ _ rfl _ (he34.tmp 34 _ rfl) _ rfl
         refine wh_store (i := 14) (op := ?op1e001_36) (fuel := 2) ?hr1e001_36 ?hi1e001_36 he35 hm13 4 rfl ?hd1e001_36 ?hw1e001_36 54 (.tmp 9) (.tmp 43) ?ho1e001_36 (0) (he35.tmp 9 _ rfl) _ (he35.tmp 43 _ rfl) 4 agg54.size (optA.sz _) (optA.one _) (by decide) (optA (brR (f i) S true)) (optA_ovw _ _ _ _ _) ⟨rfl, rfl, rfl, trivial⟩ (fun w14 hm14 => ?k1e001_36)
         case hi1e001_36 => rw [List.getElem?_toArray]; rfl
         case hw1e001_36 => exact rfl
         case hr1e001_36 => kernel_rfl
         case hd1e001_36 | ho1e001_36 => rfl
         refine wh_store (i := 15) (op := ?op1e001_37) (fuel := 1) ?hr1e001_37 ?hi1e001_37 he35 hm14 5 rfl ?hd1e001_37 ?hw1e001_37 54 (.tmp 10) (.tmp 44) ?ho1e001_37 (0) (he35.tmp 10 _ rfl) _ (he35.tmp 44 _ rfl) 4 agg54.size rfl (by kernel_rfl) (by simp) (#[.int .i64 (P1.1), .int .i64 (P1.2.1), .int .i64 (P1.2.2.1), .int .i64 (P1.2.2.2)]) (by kernel_rfl) ⟨rfl, rfl, rfl, trivial⟩ (fun w15 hm15 => ?k1e001_37)
         case hi1e001_37 => rw [List.getElem?_toArray]; rfl
         case hw1e001_37 => exact rfl
         case hr1e001_37 => kernel_rfl
         case hd1e001_37 | ho1e001_37 => rfl
         refine tk (fuel := 0) (i := 16) ?_ he35 hm15 ⟨rfl, rfl, rfl, trivial⟩ (.bool ((brR (f i) S true).isSome)) ?_ ?_ ?_ ?_ fun a36 he36 => ?_
         rotate_left
         rw [List.getElem?_toArray]; rfl
         exact ⟨by kernel_rfl, by kernel_rfl, by kernel_rfl⟩
         exact ⟨fun _ _ _ _ h => h, rfl, rfl⟩
         exact fun wS hmS => rn_move _ (Or.inr rfl) _ (he35.tmp 45 _ rfl)
         refine wpAnyH_done (by kernel_rfl) ?_ _
         exact ⟨b4, b5, he36.sub _ ⟨rfl, rfl, rfl, rfl, rfl, rfl, rfl, rfl, rfl, rfl, rfl, rfl, rfl, rfl, rfl, rfl, rfl, rfl, rfl, rfl, rfl, rfl, rfl, rfl, rfl, rfl, rfl, rfl, rfl, rfl, rfl, rfl, rfl, rfl, rfl, trivial⟩, hm15.sub _ ⟨rfl, rfl, rfl, rfl, rfl, trivial⟩⟩
      case st1e001_8_2 =>
       refine st_alloc he28 hm10 5 rfl ⟨rfl, rfl, rfl, trivial⟩ rfl rfl _ rfl (.agg #[.int .i64 0, .int .i64 0, .int .i64 0, .int .i64 0]) (fun w => by kernel_rfl) (#[.int .i64 (0), .int .i64 (0), .int .i64 (0), .int .i64 (0)]) rfl (fun _ => ⟨rfl, rfl, rfl, trivial⟩) (fun a29 w11 b5 he29 hm11 => ?_)
       refine wpAnyH_ready (fuel := 8) (rs := [7, 12]) ?hr1e001_39 (by simp) (AllReadyH.cons (o := ?o1e001_39_0) ?hi1e001_39_0 ?st1e001_39_0 (AllReadyH.cons (o := ?o1e001_39_1) ?hi1e001_39_1 ?st1e001_39_1 AllReadyH.nil))
       case hr1e001_39 => kernel_rfl
       case hi1e001_39_0 => rw [List.getElem?_toArray]; rfl
       case hi1e001_39_1 => rw [List.getElem?_toArray]; rfl
       case st1e001_39_0 =>
        refine st_call he29 hm11 ⟨rfl, rfl, rfl, trivial⟩ rfl rfl _ #[.int .i64 ((f i).op), .agg (ivArr (atS (S) (((f i).at_.toNat)))), .agg (ivArr (((f i).num.toNat, (f i).num.toNat))), .bool true] (enter_call _ _ _ rfl 37 #[] #[] rfl #[.int .i64 ((f i).op), .agg (ivArr (atS (S) (((f i).at_.toNat)))), .agg (ivArr (((f i).num.toNat, (f i).num.toNat))), .bool true] (map4 (he29.tmp 36 _ rfl) (he29.tmp 40 _ rfl) (he29.tmp 41 _ rfl) rfl) #[.int .i64 ((f i).op), .agg (ivArr (atS (S) (((f i).at_.toNat)))), .agg (ivArr (((f i).num.toNat, (f i).num.toNat))), .bool true] rfl (fun _ _ => by kernel_rfl)) (.tuple #[.agg (optA (brR (f i) S true)), .agg (#[.int .i64 (P1.1), .int .i64 (P1.2.1), .int .i64 (P1.2.2.1), .int .i64 (P1.2.2.2)]), .bool ((brR (f i) S true).isSome)]) (hP1 _) (fun a30 w12 he30 hm12 => ?_)
        refine tk (fuel := 7) (i := 8) ?_ he30 hm12 ⟨rfl, rfl, rfl, trivial⟩ (.tuple #[.agg (optA (brR (f i) S true)), .agg (#[.int .i64 (P1.1), .int .i64 (P1.2.1), .int .i64 (P1.2.2.1), .int .i64 (P1.2.2.2)]), .bool ((brR (f i) S true).isSome)]) ?_ ?_ ?_ ?_ fun a31 he31 => ?_
        rotate_left
        rw [List.getElem?_toArray]; rfl
        exact ⟨by kernel_rfl, by kernel_rfl, by kernel_rfl⟩
        exact ⟨fun _ _ _ _ h => h, rfl, rfl⟩
        exact fun wS hmS => rn_move _ (Or.inl rfl) _ (he30.tmp 42 _ rfl)
        refine tk (fuel := 6) (i := 9) ?_ he31 hm12 ⟨rfl, rfl, rfl, trivial⟩ (.agg (optA (brR (f i) S true))) ?_ ?_ ?_ ?_ fun a32 he32 => ?_
        rotate_left
        rw [List.getElem?_toArray]; rfl
        exact ⟨by kernel_rfl, by kernel_rfl, by kernel_rfl⟩
        exact ⟨fun _ _ _ _ h => h, rfl, rfl⟩
        exact fun wS hmS => rn_extract _ _ rfl _ (he31.tmp 34 _ rfl) _ rfl
        refine tk (fuel := 5) (i := 10) ?_ he32 hm12 ⟨rfl, rfl, rfl, trivial⟩ (.agg (#[.int .i64 (P1.1), .int .i64 (P1.2.1), .int .i64 (P1.2.2.1), .int .i64 (P1.2.2.2)])) ?_ ?_ ?_ ?_ fun a33 he33 => ?_
        rotate_left
        rw [List.getElem?_toArray]; rfl
        exact ⟨by kernel_rfl, by kernel_rfl, by kernel_rfl⟩
        exact ⟨fun _ _ _ _ h => h, rfl, rfl⟩
        exact fun wS hmS => rn_extract _ _ rfl _ (he32.tmp 34 _ rfl) _ rfl
        refine tk (fuel := 4) (i := 11) ?_ he33 hm12 ⟨rfl, rfl, rfl, trivial⟩ (.bool ((brR (f i) S true).isSome)) ?_ ?_ ?_ ?_ fun a34 he34 => ?_
        rotate_left
        rw [List.getElem?_toArray]; rfl
        exact ⟨by kernel_rfl, by kernel_rfl, by kernel_rfl⟩
        exact ⟨fun _ _ _ _ h => h, rfl, rfl⟩
        exact fun wS hmS => rn_extract _ _ rfl _ (he33.tmp 34 _ rfl) _ rfl
        refine wpAnyH_ready (fuel := 3) (rs := [12]) ?hr1e001_44 (by simp) (AllReadyH.cons (o := ?o1e001_44_0) ?hi1e001_44_0 ?st1e001_44_0 AllReadyH.nil)
        case hr1e001_44 => kernel_rfl
        case hi1e001_44_0 => rw [List.getElem?_toArray]; rfl
        case st1e001_44_0 =>
         refine st_alloc he34 hm12 4 rfl ⟨rfl, rfl, rfl, trivial⟩ rfl rfl _ rfl (.agg #[.int .i64 0, .int .i64 0, .int .i64 0, .int .i64 0]) (fun w => by kernel_rfl) (#[.int .i64 (0), .int .i64 (0), .int .i64 (0), .int .i64 (0)]) rfl (fun _ => ⟨rfl, rfl, rfl, trivial⟩) (fun a35 w13 b4 he35 hm13 => ?_)
         refine wh_store (i := 14) (op := ?op1e001_45) (fuel := 2) ?hr1e001_45 ?hi1e001_45 he35 hm13 4 rfl ?hd1e001_45 ?hw1e001_45 54 (.tmp 9) (.tmp 43) ?ho1e001_45 (0) (he35.tmp 9 _ rfl) _ (he35.tmp 43 _ rfl) 4 agg54.size (optA.sz _) (optA.one _) (by decide) (optA (brR (f i) S true)) (optA_ovw _ _ _ _ _) ⟨rfl, rfl, rfl, trivial⟩ (fun w14 hm14 => ?k1e001_45)
         case hi1e001_45 => rw [List.getElem?_toArray]; rfl
         case hw1e001_45 => exact rfl
         case hr1e001_45 => kernel_rfl
         case hd1e001_45 | ho1e001_45 => rfl
         refine wh_store (i := 15) (op := ?op1e001_46) (fuel := 1) ?hr1e001_46 ?hi1e001_46 he35 hm14 5 rfl ?hd1e001_46 ?hw1e001_46 54 (.tmp 10) (.tmp 44) ?ho1e001_46 (0) (he35.tmp 10 _ rfl) _ (he35.tmp 44 _ rfl) 4 agg54.size rfl (by kernel_rfl) (by simp) (#[.int .i64 (P1.1), .int .i64 (P1.2.1), .int .i64 (P1.2.2.1), .int .i64 (P1.2.2.2)]) (by kernel_rfl) ⟨rfl, rfl, rfl, trivial⟩ (fun w15 hm15 => ?k1e001_46)
         case hi1e001_46 => rw [List.getElem?_toArray]; rfl
         case hw1e001_46 => exact rfl
         case hr1e001_46 => kernel_rfl
         case hd1e001_46 | ho1e001_46 => rfl
         refine tk (fuel := 0) (i := 16) ?_ he35 hm15 ⟨rfl, rfl, rfl, trivial⟩ (.bool ((brR (f i) S true).isSome)) ?_ ?_ ?_ ?_ fun a36 he36 => ?_
         rotate_left
         rw [List.getElem?_toArray]; rfl
         exact ⟨by kernel_rfl, by kernel_rfl, by kernel_rfl⟩
         exact ⟨fun _ _ _ _ h => h, rfl, rfl⟩
         exact fun wS hmS => rn_move _ (Or.inr rfl) _ (he35.tmp 45 _ rfl)
         refine wpAnyH_done (by kernel_rfl) ?_ _
         exact ⟨b4, b5, he36.sub _ ⟨rfl, rfl, rfl, rfl, rfl, rfl, rfl, rfl, rfl, rfl, rfl, rfl, rfl, rfl, rfl, rfl, rfl, rfl, rfl, rfl, rfl, rfl, rfl, rfl, rfl, rfl, rfl, rfl, rfl, rfl, rfl, rfl, rfl, rfl, rfl, trivial⟩, hm15.sub _ ⟨rfl, rfl, rfl, rfl, rfl, trivial⟩⟩
       case st1e001_39_1 =>
        refine st_alloc he29 hm11 4 rfl ⟨rfl, rfl, rfl, trivial⟩ rfl rfl _ rfl (.agg #[.int .i64 0, .int .i64 0, .int .i64 0, .int .i64 0]) (fun w => by kernel_rfl) (#[.int .i64 (0), .int .i64 (0), .int .i64 (0), .int .i64 (0)]) rfl (fun _ => ⟨rfl, rfl, rfl, trivial⟩) (fun a30 w12 b4 he30 hm12 => ?_)
        refine wpAnyH_ready (fuel := 7) (rs := [7]) ?hr1e001_48 (by simp) (AllReadyH.cons (o := ?o1e001_48_0) ?hi1e001_48_0 ?st1e001_48_0 AllReadyH.nil)
        case hr1e001_48 => kernel_rfl
        case hi1e001_48_0 => rw [List.getElem?_toArray]; rfl
        case st1e001_48_0 =>
         refine st_call he30 hm12 ⟨rfl, rfl, rfl, trivial⟩ rfl rfl _ #[.int .i64 ((f i).op), .agg (ivArr (atS (S) (((f i).at_.toNat)))), .agg (ivArr (((f i).num.toNat, (f i).num.toNat))), .bool true] (enter_call _ _ _ rfl 37 #[] #[] rfl #[.int .i64 ((f i).op), .agg (ivArr (atS (S) (((f i).at_.toNat)))), .agg (ivArr (((f i).num.toNat, (f i).num.toNat))), .bool true] (map4 (he30.tmp 36 _ rfl) (he30.tmp 40 _ rfl) (he30.tmp 41 _ rfl) rfl) #[.int .i64 ((f i).op), .agg (ivArr (atS (S) (((f i).at_.toNat)))), .agg (ivArr (((f i).num.toNat, (f i).num.toNat))), .bool true] rfl (fun _ _ => by kernel_rfl)) (.tuple #[.agg (optA (brR (f i) S true)), .agg (#[.int .i64 (P1.1), .int .i64 (P1.2.1), .int .i64 (P1.2.2.1), .int .i64 (P1.2.2.2)]), .bool ((brR (f i) S true).isSome)]) (hP1 _) (fun a31 w13 he31 hm13 => ?_)
         refine tk (fuel := 6) (i := 8) ?_ he31 hm13 ⟨rfl, rfl, rfl, trivial⟩ (.tuple #[.agg (optA (brR (f i) S true)), .agg (#[.int .i64 (P1.1), .int .i64 (P1.2.1), .int .i64 (P1.2.2.1), .int .i64 (P1.2.2.2)]), .bool ((brR (f i) S true).isSome)]) ?_ ?_ ?_ ?_ fun a32 he32 => ?_
         rotate_left
         rw [List.getElem?_toArray]; rfl
         exact ⟨by kernel_rfl, by kernel_rfl, by kernel_rfl⟩
         exact ⟨fun _ _ _ _ h => h, rfl, rfl⟩
         exact fun wS hmS => rn_move _ (Or.inl rfl) _ (he31.tmp 42 _ rfl)
         refine tk (fuel := 5) (i := 9) ?_ he32 hm13 ⟨rfl, rfl, rfl, trivial⟩ (.agg (optA (brR (f i) S true))) ?_ ?_ ?_ ?_ fun a33 he33 => ?_
         rotate_left
         rw [List.getElem?_toArray]; rfl
         exact ⟨by kernel_rfl, by kernel_rfl, by kernel_rfl⟩
         exact ⟨fun _ _ _ _ h => h, rfl, rfl⟩
         exact fun wS hmS => rn_extract _ _ rfl _ (he32.tmp 34 _ rfl) _ rfl
         refine tk (fuel := 4) (i := 10) ?_ he33 hm13 ⟨rfl, rfl, rfl, trivial⟩ (.agg (#[.int .i64 (P1.1), .int .i64 (P1.2.1), .int .i64 (P1.2.2.1), .int .i64 (P1.2.2.2)])) ?_ ?_ ?_ ?_ fun a34 he34 => ?_
         rotate_left
         rw [List.getElem?_toArray]; rfl
         exact ⟨by kernel_rfl, by kernel_rfl, by kernel_rfl⟩
         exact ⟨fun _ _ _ _ h => h, rfl, rfl⟩
         exact fun wS hmS => rn_extract _ _ rfl _ (he33.tmp 34 _ rfl) _ rfl
         refine tk (fuel := 3) (i := 11) ?_ he34 hm13 ⟨rfl, rfl, rfl, trivial⟩ (.bool ((brR (f i) S true).isSome)) ?_ ?_ ?_ ?_ fun a35 he35 => ?_
         rotate_left
         rw [List.getElem?_toArray]; rfl
         exact ⟨by kernel_rfl, by kernel_rfl, by kernel_rfl⟩
         exact ⟨fun _ _ _ _ h => h, rfl, rfl⟩
         exact fun wS hmS => rn_extract _ _ rfl _ (he34.tmp 34 _ rfl) _ rfl
         refine wh_store (i := 14) (op := ?op1e001_53) (fuel := 2) ?hr1e001_53 ?hi1e001_53 he35 hm13 4 rfl ?hd1e001_53 ?hw1e001_53 54 (.tmp 9) (.tmp 43) ?ho1e001_53 (0) (he35.tmp 9 _ rfl) _ (he35.tmp 43 _ rfl) 4 agg54.size (optA.sz _) (optA.one _) (by decide) (optA (brR (f i) S true)) (optA_ovw _ _ _ _ _) ⟨rfl, rfl, rfl, trivial⟩ (fun w14 hm14 => ?k1e001_53)
         case hi1e001_53 => rw [List.getElem?_toArray]; rfl
         case hw1e001_53 => exact rfl
         case hr1e001_53 => kernel_rfl
         case hd1e001_53 | ho1e001_53 => rfl
         refine wh_store (i := 15) (op := ?op1e001_54) (fuel := 1) ?hr1e001_54 ?hi1e001_54 he35 hm14 5 rfl ?hd1e001_54 ?hw1e001_54 54 (.tmp 10) (.tmp 44) ?ho1e001_54 (0) (he35.tmp 10 _ rfl) _ (he35.tmp 44 _ rfl) 4 agg54.size rfl (by kernel_rfl) (by simp) (#[.int .i64 (P1.1), .int .i64 (P1.2.1), .int .i64 (P1.2.2.1), .int .i64 (P1.2.2.2)]) (by kernel_rfl) ⟨rfl, rfl, rfl, trivial⟩ (fun w15 hm15 => ?k1e001_54)
         case hi1e001_54 => rw [List.getElem?_toArray]; rfl
         case hw1e001_54 => exact rfl
         case hr1e001_54 => kernel_rfl
         case hd1e001_54 | ho1e001_54 => rfl
         refine tk (fuel := 0) (i := 16) ?_ he35 hm15 ⟨rfl, rfl, rfl, trivial⟩ (.bool ((brR (f i) S true).isSome)) ?_ ?_ ?_ ?_ fun a36 he36 => ?_
         rotate_left
         rw [List.getElem?_toArray]; rfl
         exact ⟨by kernel_rfl, by kernel_rfl, by kernel_rfl⟩
         exact ⟨fun _ _ _ _ h => h, rfl, rfl⟩
         exact fun wS hmS => rn_move _ (Or.inr rfl) _ (he35.tmp 45 _ rfl)
         refine wpAnyH_done (by kernel_rfl) ?_ _
         exact ⟨b4, b5, he36.sub _ ⟨rfl, rfl, rfl, rfl, rfl, rfl, rfl, rfl, rfl, rfl, rfl, rfl, rfl, rfl, rfl, rfl, rfl, rfl, rfl, rfl, rfl, rfl, rfl, rfl, rfl, rfl, rfl, rfl, rfl, rfl, rfl, rfl, rfl, rfl, rfl, trivial⟩, hm15.sub _ ⟨rfl, rfl, rfl, rfl, rfl, trivial⟩⟩
     rintro a37 w17 ⟨b4, b5, he37, hm17⟩
     refine then_normal ?_
     refine wp_seqR ?_
     refine wl_val he37 rfl rfl (.bool ((brR (f i) S true).isSome)) (rn_move _ (Or.inl rfl) _ (he37.tmp 11 _ rfl)) (fun a38 he38 => ?_)
     clear he37
     cases hd3 : ((brR (f i) S true).isSome)
     ·
      have hb1 : brR (f i) S true = none := by simpa using hd3
      refine wl_val he38 rfl rfl (.bool true) (rn_un _ _ _ rfl _ (.bool (!(brR (f i) S true).isSome)) _ (he38.tmp 46 _ rfl) rfl (congrArg (fun q => Value.bool (!q)) hd3)) (fun a39 he39 => ?_)
      clear he38
      refine wl_end ?_
      refine wp_condT (he := he39) rfl ?_
      refine wp_exit ?_
      refine exit_then ?_
      refine exit_here ?_
      refine then_normal ?_
      refine wp_region_lit ?_
      refine wl_val he39 rfl rfl (.int .i64 (((i + 1 : Nat) : Int))) (rn_bin _ _ _ _ _ rfl .i64 _ _ (he39.tmp 27 _ rfl) rfl (.int .i64 (IntKind.wrap .i64 (((i : Nat) : Int) + 1))) _ rfl (addN (i := i) (c := 1) (by omega))) (fun a40 he40 => ?_)
      clear he39
      refine wl_val he40 rfl rfl (.int .i64 (((i + 1 : Nat) : Int))) (rn_move _ (Or.inl rfl) _ (he40.tmp 70 _ rfl)) (fun a41 he41 => ?_)
      clear he40
      refine wpList_nil ?_
      exact ⟨n - (i + 1), by omega, Or.inl ⟨i + 1, S, cur, rfl, ⟨by omega, hS, hrw, tid_skip htd (by omega) hb1⟩, he41.sub _ ⟨rfl, rfl, rfl, rfl, rfl, rfl, rfl, rfl, rfl, rfl, rfl, rfl, trivial⟩, hm17.sub _ ⟨rfl, trivial⟩⟩⟩
     ·
      obtain ⟨y1, hb1⟩ := Option.isSome_iff_exists.1 hd3
      refine wl_val he38 rfl rfl (.bool false) (rn_un _ _ _ rfl _ (.bool (!(brR (f i) S true).isSome)) _ (he38.tmp 46 _ rfl) rfl (congrArg (fun q => Value.bool (!q)) hd3)) (fun a39 he39 => ?_)
      clear he38
      refine wl_end ?_
      refine wp_condF (he := he39) rfl ?_
      refine wp_skip ?_
      refine then_normal ?_
      refine wp_seqR ?_
      refine wl_val he39 rfl rfl (.slice none 0 0) (rn_move _ (Or.inl rfl) _ (he39.tmp 5 _ rfl)) (fun a40 he40 => ?_)
      clear he39
      refine wl_val he40 rfl rfl (.agg (Ru.arr (f i))) (rn_loadA hm17 2 rfl _ _ rfl (0) (he40.tmp 7 _ rfl) 5 agg39 (Ru.arr (f i)) (by kernel_rfl) rfl) (fun a41 he41 => ?_)
      clear he40
      refine wl_buildSlice he41 hm17 6 rfl rfl rfl _ _ _ rfl #[(0, .agg (Ru.arr (f i)))] (pmap1 (he41.tmp 49 _ rfl)) 39 ((cellsOf Ru.arr [f i]).toArray) (by kernel_rfl) (fun a42 w18 b6 he42 hm18 => ?_)
      clear he41 hm17
      have rw6_0 : Rw ((cellsOf Ru.arr [f i]).toArray) 1 1 5 (cellsOf Ru.arr ([f i])) := Rw.lits Ru.sz [f i] (by simp [maxLen])
      refine wl_append0 he42 hm18 90 rfl rfl rfl _ _ _ rfl el39 (he42.tmp 48 _ rfl) ⟨b6, 0, none⟩ 1 1 (he42.tmp 50 _ rfl) (by omega) (cellsOf Ru.arr ([f i])) (rw6_0.len) (fun j u hu => by rw [Addr.add_mid, Nat.zero_add, (hm18.bx 6 _ _ _ _ rfl).cell]; exact rw6_0.get j u hu) (by simp only [maxLen]; omega) (by omega) (fun a43 w19 b90_43 cap90_43 cur90_43 he43 hm19 rw90_43 => ?_)
      clear he42 hm18
      refine wl_val he43 rfl rfl (.slice (some ⟨b90_43, 0, none⟩) (1) (cap90_43)) (rn_move _ (Or.inr rfl) _ (he43.tmp 51 _ rfl)) (fun a44 he44 => ?_)
      clear he43
      refine wl_end ?_
      refine wp_seq ?_
      refine rg_cut (fun az wz => ∃ (b7 : Nat), ∃ (b8 : Nat), EV az 72 [] [(0, .slice (some ⟨b, p, none⟩) (n) (c)), (2, .slice none 0 0), (15, .slice (some ⟨b, p, none⟩) (n) (c)), (16, .bool true), (17, .bool false), (3, .pointer (some ⟨b1, 0, none⟩)), (18, .int .i64 (((i0 : Nat) : Int))), (19, .bool false), (25, .slice (some ⟨b, p, none⟩) (n) (c)), (26, .int .i64 (((n : Nat) : Int))), (27, .int .i64 (((i : Nat) : Int))), (5, .slice (some ⟨b90_43, 0, none⟩) (1) (cap90_43)), (28, .bool true), (29, .pointer (some ⟨b, p + i * 5, none⟩)), (30, .agg (Ru.arr (f i))), (7, .pointer (some ⟨b2, 0, none⟩)), (31, .pointer (some ⟨b2, 2, none⟩)), (32, .int .i64 ((((f i).num.toNat : Nat) : Int))), (33, .agg (ivArr (((f i).num.toNat, (f i).num.toNat)))), (8, .pointer (some ⟨b3, 0, none⟩)), (35, .pointer (some ⟨b2, 1, none⟩)), (36, .int .i64 ((f i).op)), (37, .pointer (some ⟨b2, 0, none⟩)), (38, .int .i64 ((((f i).at_.toNat : Nat) : Int))), (39, .pointer (some ⟨b1, 0 + ((f i).at_.toNat) * 4, none⟩)), (40, .agg (ivArr (atS (S) (((f i).at_.toNat))))), (41, .agg (ivArr (((f i).num.toNat, (f i).num.toNat)))), (42, .tuple #[.agg (optA (brR (f i) S true)), .agg (#[.int .i64 (P1.1), .int .i64 (P1.2.1), .int .i64 (P1.2.2.1), .int .i64 (P1.2.2.2)]), .bool ((brR (f i) S true).isSome)]), (34, .tuple #[.agg (optA (brR (f i) S true)), .agg (#[.int .i64 (P1.1), .int .i64 (P1.2.1), .int .i64 (P1.2.2.1), .int .i64 (P1.2.2.2)]), .bool ((brR (f i) S true).isSome)]), (43, .agg (optA (brR (f i) S true))), (44, .agg (#[.int .i64 (P1.1), .int .i64 (P1.2.1), .int .i64 (P1.2.2.1), .int .i64 (P1.2.2.2)])), (45, .bool ((brR (f i) S true).isSome)), (9, .pointer (some ⟨b4, 0, none⟩)), (10, .pointer (some ⟨b5, 0, none⟩)), (11, .bool ((brR (f i) S true).isSome)), (46, .bool ((brR (f i) S true).isSome)), (47, .bool false), (48, .slice none 0 0), (49, .agg (Ru.arr (f i))), (50, .slice (some ⟨b6, 0, none⟩) (1) (1)), (51, .slice (some ⟨b90_43, 0, none⟩) (1) (cap90_43)), (53, .pointer (some ⟨b2, 1, none⟩)), (54, .int .i64 ((f i).op)), (55, .pointer (some ⟨b2, 0, none⟩)), (56, .int .i64 ((((f i).at_.toNat : Nat) : Int))), (57, .pointer (some ⟨b1, 0 + ((f i).at_.toNat) * 4, none⟩)), (58, .agg (ivArr (atS (S) (((f i).at_.toNat))))), (59, .agg (ivArr (((f i).num.toNat, (f i).num.toNat)))), (60, .tuple #[.agg (optA (brR (f i) S false)), .agg (#[.int .i64 (P2.1), .int .i64 (P2.2.1), .int .i64 (P2.2.2.1), .int .i64 (P2.2.2.2)]), .bool ((brR (f i) S false).isSome)]), (52, .tuple #[.agg (optA (brR (f i) S false)), .agg (#[.int .i64 (P2.1), .int .i64 (P2.2.1), .int .i64 (P2.2.2.1), .int .i64 (P2.2.2.2)]), .bool ((brR (f i) S false).isSome)]), (61, .agg (optA (brR (f i) S false))), (62, .agg (#[.int .i64 (P2.1), .int .i64 (P2.2.1), .int .i64 (P2.2.2.1), .int .i64 (P2.2.2.2)])), (63, .bool ((brR (f i) S false).isSome)), (12, .pointer (some ⟨b7, 0, none⟩)), (13, .pointer (some ⟨b8, 0, none⟩)), (14, .bool ((brR (f i) S false).isSome))] ∧ MM [] w wz [(1, ⟨true, b1, 58, cur⟩), (2, ⟨true, b2, 39, Ru.arr (f i)⟩), (3, ⟨true, b3, 54, ivArr (((f i).num.toNat, (f i).num.toNat))⟩), (4, ⟨true, b4, 54, optA (brR (f i) S true)⟩), (5, ⟨true, b5, 54, #[.int .i64 (P1.1), .int .i64 (P1.2.1), .int .i64 (P1.2.2.1), .int .i64 (P1.2.2.2)]⟩), (6, ⟨true, b6, 39, (cellsOf Ru.arr [f i]).toArray⟩), (90, ⟨true, b90_43, 39, cur90_43⟩), (7, ⟨true, b7, 54, optA (brR (f i) S false)⟩), (8, ⟨true, b8, 54, #[.int .i64 (P2.1), .int .i64 (P2.2.1), .int .i64 (P2.2.2.1), .int .i64 (P2.2.2.2)]⟩)]) ?tree2_0011 ?cont2_0011
      case tree2_0011 =>
       refine wh_begin (by kernel_rfl) hm19 [(1, ⟨true, b1, 58, cur⟩), (2, ⟨true, b2, 39, Ru.arr (f i)⟩), (3, ⟨true, b3, 54, ivArr (((f i).num.toNat, (f i).num.toNat))⟩), (4, ⟨true, b4, 54, optA (brR (f i) S true)⟩), (5, ⟨true, b5, 54, #[.int .i64 (P1.1), .int .i64 (P1.2.1), .int .i64 (P1.2.2.1), .int .i64 (P1.2.2.2)]⟩), (6, ⟨true, b6, 39, (cellsOf Ru.arr [f i]).toArray⟩), (90, ⟨true, b90_43, 39, cur90_43⟩)] ⟨rfl, rfl, rfl, rfl, rfl, rfl, rfl, trivial⟩ (fun w20 hm20 => ?_)
       refine tk (fuel := 16) (i := 0) ?_ he44 hm20 ⟨rfl, rfl, rfl, rfl, rfl, rfl, rfl, trivial⟩ (.pointer (some ⟨b2, 1, none⟩)) ?_ ?_ ?_ ?_ fun a45 he45 => ?_
       rotate_left
       rw [List.getElem?_toArray]; rfl
       exact ⟨by kernel_rfl, by kernel_rfl, by kernel_rfl⟩
       exact ⟨fun _ _ _ _ h => h, rfl, rfl⟩
       exact fun wS hmS => rn_field _ _ _ rfl _ (.pointer (some ⟨b2, 1, none⟩)) (he44.tmp 7 _ rfl) (by kernel_rfl)
       refine tk (fuel := 15) (i := 1) ?_ he45 hm20 ⟨rfl, rfl, rfl, rfl, rfl, rfl, rfl, trivial⟩ (.int .i64 ((f i).op)) ?_ ?_ ?_ ?_ fun a46 he46 => ?_
       rotate_left
       rw [List.getElem?_toArray]; rfl
       exact ⟨by kernel_rfl, by kernel_rfl, by kernel_rfl⟩
       exact ⟨fun _ _ _ _ h => h, rfl, rfl⟩
       exact fun wS hmS => rn_load1 hmS 2 rfl _ _ rfl (1) (he45.tmp 53 _ rfl) one3 _ rfl
       refine tk (fuel := 14) (i := 2) ?_ he46 hm20 ⟨rfl, rfl, rfl, rfl, rfl, rfl, rfl, trivial⟩ (.pointer (some ⟨b2, 0, none⟩)) ?_ ?_ ?_ ?_ fun a47 he47 => ?_
       rotate_left
       rw [List.getElem?_toArray]; rfl
       exact ⟨by kernel_rfl, by kernel_rfl, by kernel_rfl⟩
       exact ⟨fun _ _ _ _ h => h, rfl, rfl⟩
       exact fun wS hmS => rn_field _ _ _ rfl _ (.pointer (some ⟨b2, 0, none⟩)) (he46.tmp 7 _ rfl) (by kernel_rfl)
       refine tk (fuel := 13) (i := 3) ?_ he47 hm20 ⟨rfl, rfl, rfl, rfl, rfl, rfl, rfl, trivial⟩ (.int .i64 ((((f i).at_.toNat : Nat) : Int))) ?_ ?_ ?_ ?_ fun a48 he48 => ?_
       rotate_left
       rw [List.getElem?_toArray]; rfl
       exact ⟨by kernel_rfl, by kernel_rfl, by kernel_rfl⟩
       exact ⟨fun _ _ _ _ h => h, rfl, rfl⟩
       exact fun wS hmS => rn_load1 hmS 2 rfl _ _ rfl (0) (he47.tmp 55 _ rfl) one3 _ (Ru.g_at' _ hri)
       refine tk (fuel := 12) (i := 4) ?_ he48 hm20 ⟨rfl, rfl, rfl, rfl, rfl, rfl, rfl, trivial⟩ (.pointer (some ⟨b1, 0 + ((f i).at_.toNat) * 4, none⟩)) ?_ ?_ ?_ ?_ fun a49 he49 => ?_
       rotate_left
       rw [List.getElem?_toArray]; rfl
       exact ⟨by kernel_rfl, by kernel_rfl, by kernel_rfl⟩
       exact ⟨fun _ _ _ _ h => h, rfl, rfl⟩
       exact fun wS hmS => rn_indexA _ _ _ rfl _ _ (.pointer (some ⟨b1, 0 + ((f i).at_.toNat) * 4, none⟩)) (he48.tmp 3 _ rfl) (he48.tmp 56 _ rfl) (ixA 12 54 4 (by kernel_rfl) (fun w => by kernel_rfl) b1 0 ((f i).at_.toNat) (by omega) (by decide) _)
       refine tk (fuel := 11) (i := 5) ?_ he49 hm20 ⟨rfl, rfl, rfl, rfl, rfl, rfl, rfl, trivial⟩ (.agg (ivArr (atS (S) (((f i).at_.toNat))))) ?_ ?_ ?_ ?_ fun a50 he50 => ?_
       rotate_left
       rw [List.getElem?_toArray]; rfl
       exact ⟨by kernel_rfl, by kernel_rfl, by kernel_rfl⟩
       exact ⟨fun _ _ _ _ h => h, rfl, rfl⟩
       exact fun wS hmS => rn_loadA hmS 1 rfl _ _ rfl (0 + ((f i).at_.toNat) * 4) (he49.tmp 57 _ rfl) 4 agg54 (ivArr (atS (S) (((f i).at_.toNat)))) (hrw.ext ivArr.sz (hS.get hat) _ (by omega)) rfl
       refine tk (fuel := 10) (i := 6) ?_ he50 hm20 ⟨rfl, rfl, rfl, rfl, rfl, rfl, rfl, trivial⟩ (.agg (ivArr (((f i).num.toNat, (f i).num.toNat)))) ?_ ?_ ?_ ?_ fun a51 he51 => ?_
       rotate_left
       rw [List.getElem?_toArray]; rfl
       exact ⟨by kernel_rfl, by kernel_rfl, by kernel_rfl⟩
       exact ⟨fun _ _ _ _ h => h, rfl, rfl⟩
       exact fun wS hmS => rn_loadA hmS 3 rfl _ _ rfl (0) (he50.tmp 8 _ rfl) 4 agg54 (ivArr (((f i).num.toNat, (f i).num.toNat))) (by kernel_rfl) rfl
       refine wpAnyH_ready (fuel := 9) (rs := [7, 12, 13]) ?hr2e0011_8 (by simp) (AllReadyH.cons (o := ?o2e0011_8_0) ?hi2e0011_8_0 ?st2e0011_8_0 (AllReadyH.cons (o := ?o2e0011_8_1) ?hi2e0011_8_1 ?st2e0011_8_1 (AllReadyH.cons (o := ?o2e0011_8_2) ?hi2e0011_8_2 ?st2e0011_8_2 AllReadyH.nil)))
       case hr2e0011_8 => kernel_rfl
       case hi2e0011_8_0 => rw [List.getElem?_toArray]; rfl
       case hi2e0011_8_1 => rw [List.getElem?_toArray]; rfl
       case hi2e0011_8_2 => rw [List.getElem?_toArray]; rfl
       case st2e0011_8_0 =>
        refine st_call he51 hm20 ⟨rfl, rfl, rfl, rfl, rfl, rfl, rfl, trivial⟩ rfl rfl _ #[.int .i64 ((f i).op), .agg (ivArr (atS (S) (((f i).at_.toNat)))), .agg (ivArr (((f i).num.toNat, (f i).num.toNat))), .bool false] (enter_call _ _ _ rfl 37 #[] #[] rfl #[.int .i64 ((f i).op), .agg (ivArr (atS (S) (((f i).at_.toNat)))), .agg (ivArr (((f i).num.toNat, (f i).num.toNat))), .bool false] (map4 (he51.tmp 54 _ rfl) (he51.tmp 58 _ rfl) (he51.tmp 59 _ rfl) rfl) #[.int .i64 ((f i).op), .agg (ivArr (atS (S) (((f i).at_.toNat)))), .agg (ivArr (((f i).num.toNat, (f i).num.toNat))), .bool false] rfl (fun _ _ => by kernel_rfl)) (.tuple #[.agg (optA (brR (f i) S false)), .agg (#[.int .i64 (P2.1), .int .i64 (P2.2.1), .int .i64 (P2.2.2.1), .int .i64 (P2.2.2.2)]), .bool ((brR (f i) S false).isSome)]) (hP2 _) (fun a52 w21 he52 hm21 => ?_)
        refine tk (fuel := 8) (i := 8) ?_ he52 hm21 ⟨rfl, rfl, rfl, rfl, rfl, rfl, rfl, trivial⟩ (.tuple #[.agg (optA (brR (f i) S false)), .agg (#[.int .i64 (P2.1), .int .i64 (P2.2.1), .int .i64 (P2.2.2.1), .int .i64 (P2.2.2.2)]), .bool ((brR (f i) S false).isSome)]) ?_ ?_ ?_ ?_ fun a53 he53 => ?_
        rotate_left
        rw [List.getElem?_toArray]; rfl
        exact ⟨by kernel_rfl, by kernel_rfl, by kernel_rfl⟩
        exact ⟨fun _ _ _ _ h => h, rfl, rfl⟩
        exact fun wS hmS => rn_move _ (Or.inl rfl) _ (he52.tmp 60 _ rfl)
        refine tk (fuel := 7) (i := 9) ?_ he53 hm21 ⟨rfl, rfl, rfl, rfl, rfl, rfl, rfl, trivial⟩ (.agg (optA (brR (f i) S false))) ?_ ?_ ?_ ?_ fun a54 he54 => ?_
        rotate_left
        rw [List.getElem?_toArray]; rfl
        exact ⟨by kernel_rfl, by kernel_rfl, by kernel_rfl⟩
        exact ⟨fun _ _ _ _ h => h, rfl, rfl⟩
        exact fun wS hmS => rn_extract _ _ rfl _ (he53.tmp 52 _ rfl) _ rfl
        refine tk (fuel := 6) (i := 10) ?_ he54 hm21 ⟨rfl, rfl, rfl, rfl, rfl, rfl, rfl, trivial⟩ (.agg (#[.int .i64 (P2.1), .int .i64 (P2.2.1), .int .i64 (P2.2.2.1), .int .i64 (P2.2.2.2)])) ?_ ?_ ?_ ?_ fun a55 he55 => ?_
        rotate_left
        rw [List.getElem?_toArray]; rfl
        exact ⟨by kernel_rfl, by kernel_rfl, by kernel_rfl⟩
        exact ⟨fun _ _ _ _ h => h, rfl, rfl⟩
        exact fun wS hmS => rn_extract _ _ rfl _ (he54.tmp 52 _ rfl) _ rfl
        refine tk (fuel := 5) (i := 11) ?_ he55 hm21 ⟨rfl, rfl, rfl, rfl, rfl, rfl, rfl, trivial⟩ (.bool ((brR (f i) S false).isSome)) ?_ ?_ ?_ ?_ fun a56 he56 => ?_
        rotate_left
        rw [List.getElem?_toArray]; rfl
        exact ⟨by kernel_rfl, by kernel_rfl, by kernel_rfl⟩
        exact ⟨fun _ _ _ _ h => h, rfl, rfl⟩
        exact fun wS hmS => rn_extract _ _ rfl _ (he55.tmp 52 _ rfl) _ rfl
        refine wpAnyH_ready (fuel := 4) (rs := [12, 13]) ?hr2e0011_13 (by simp) (AllReadyH.cons (o := ?o2e0011_13_0) ?hi2e0011_13_0 ?st2e0011_13_0 (AllReadyH.cons (o := ?o2e0011_13_1) ?hi2e0011_13_1 ?st2e0011_13_1 AllReadyH.nil))
        case hr2e0011_13 => kernel_rfl
        case hi2e0011_13_0 => rw [List.getElem?_toArray]; rfl
        case hi2e0011_13_1 => rw [List.getElem?_toArray]; rfl
        case st2e0011_13_0 =>
         refine st_alloc he56 hm21 7 rfl ⟨rfl, rfl, rfl, rfl, rfl, rfl, rfl, trivial⟩ rfl rfl _ rfl (.agg #[.int .i64 0, .int .i64 0, .int .i64 0, .int .i64 0]) (fun w => by kernel_rfl) (#[.int .i64 (0), .int .i64 (0), .int .i64 (0), .int .i64 (0)]) rfl (fun _ => ⟨rfl, rfl, rfl, rfl, rfl, rfl, rfl, trivial⟩) (fun a57 w22 b7 he57 hm22 => ?_)
         refine wpAnyH_ready (fuel := 3) (rs := [13]) ?hr2e0011_14 (by simp) (AllReadyH.cons (o := ?o2e0011_14_0) ?hi2e0011_14_0 ?st2e0011_14_0 AllReadyH.nil)
         case hr2e0011_14 => kernel_rfl
         case hi2e0011_14_0 => rw [List.getElem?_toArray]; rfl
         case st2e0011_14_0 =>
          refine st_alloc he57 hm22 8 rfl ⟨rfl, rfl, rfl, rfl, rfl, rfl, rfl, trivial⟩ rfl rfl _ rfl (.agg #[.int .i64 0, .int .i64 0, .int .i64 0, .int .i64 0]) (fun w => by kernel_rfl) (#[.int .i64 (0), .int .i64 (0), .int .i64 (0), .int .i64 (0)]) rfl (fun _ => ⟨rfl, rfl, rfl, rfl, rfl, rfl, rfl, trivial⟩) (fun a58 w23 b8 he58 hm23 => ?_)
          refine wh_store (i := 14) (op := ?op2e0011_15) (fuel := 2) ?hr2e0011_15 ?hi2e0011_15 he58 hm23 7 rfl ?hd2e0011_15 ?hw2e0011_15 54 (.tmp 12) (.tmp 61) ?ho2e0011_15 (0) (he58.tmp 12 _ rfl) _ (he58.tmp 61 _ rfl) 4 agg54.size (optA.sz _) (optA.one _) (by decide) (optA (brR (f i) S false)) (optA_ovw _ _ _ _ _) ⟨rfl, rfl, rfl, rfl, rfl, rfl, rfl, trivial⟩ (fun w24 hm24 => ?k2e0011_15)
          case hi2e0011_15 => rw [List.getElem?_toArray]; rfl
          case hw2e0011_15 => exact rfl
          case hr2e0011_15 => kernel_rfl
          case hd2e0011_15 | ho2e0011_15 => rfl
          refine wh_store (i := 15) (op := ?op2e0011_16) (fuel := 1) ?hr2e0011_16 ?hi2e0011_16 he58 hm24 8 rfl ?hd2e0011_16 ?hw2e0011_16 54 (.tmp 13) (.tmp 62) ?ho2e0011_16 (0) (he58.tmp 13 _ rfl) _ (he58.tmp 62 _ rfl) 4 agg54.size rfl (by kernel_rfl) (by simp) (#[.int .i64 (P2.1), .int .i64 (P2.2.1), .int .i64 (P2.2.2.1), .int .i64 (P2.2.2.2)]) (by kernel_rfl) ⟨rfl, rfl, rfl, rfl, rfl, rfl, rfl, trivial⟩ (fun w25 hm25 => ?k2e0011_16)
          case hi2e0011_16 => rw [List.getElem?_toArray]; rfl
          case hw2e0011_16 => exact rfl
          case hr2e0011_16 => kernel_rfl
          case hd2e0011_16 | ho2e0011_16 => rfl
          refine tk (fuel := 0) (i := 16) ?_ he58 hm25 ⟨rfl, rfl, rfl, rfl, rfl, rfl, rfl, trivial⟩ (.bool ((brR (f i) S false).isSome)) ?_ ?_ ?_ ?_ fun a59 he59 => ?_
          rotate_left
          rw [List.getElem?_toArray]; rfl
          exact ⟨by kernel_rfl, by kernel_rfl, by kernel_rfl⟩
          exact ⟨fun _ _ _ _ h => h, rfl, rfl⟩
          exact fun wS hmS => rn_move _ (Or.inr rfl) _ (he58.tmp 63 _ rfl)
          refine wpAnyH_done (by kernel_rfl) ?_ _
          exact ⟨b7, b8, he59.sub _ ⟨rfl, rfl, rfl, rfl, rfl, rfl, rfl, rfl, rfl, rfl, rfl, rfl, rfl, rfl, rfl, rfl, rfl, rfl, rfl, rfl, rfl, rfl, rfl, rfl, rfl, rfl, rfl, rfl, rfl, rfl, rfl, rfl, rfl, rfl, rfl, rfl, rfl, rfl, rfl, rfl, rfl, rfl, rfl, rfl, rfl, rfl, rfl, rfl, rfl, rfl, rfl, rfl, rfl, rfl, rfl, rfl, trivial⟩, hm25.sub _ ⟨rfl, rfl, rfl, rfl, rfl, rfl, rfl, rfl, rfl, trivial⟩⟩
        case st2e0011_13_1 =>
         refine st_alloc he56 hm21 8 rfl ⟨rfl, rfl, rfl, rfl, rfl, rfl, rfl, trivial⟩ rfl rfl _ rfl (.agg #[.int .i64 0, .int .i64 0, .int .i64 0, .int .i64 0]) (fun w => by kernel_rfl) (#[.int .i64 (0), .int .i64 (0), .int .i64 (0), .int .i64 (0)]) rfl (fun _ => ⟨rfl, rfl, rfl, rfl, rfl, rfl, rfl, trivial⟩) (fun a57 w22 b8 he57 hm22 => ?_)
         refine wpAnyH_ready (fuel := 3) (rs := [12]) ?hr2e0011_18 (by simp) (AllReadyH.cons (o := ?o2e0011_18_0) ?hi2e0011_18_0 ?st2e0011_18_0 AllReadyH.nil)
         case hr2e0011_18 => kernel_rfl
         case hi2e0011_18_0 => rw [List.getElem?_toArray]; rfl
         case st2e0011_18_0 =>
          refine st_alloc he57 hm22 7 rfl ⟨rfl, rfl, rfl, rfl, rfl, rfl, rfl, trivial⟩ rfl rfl _ rfl (.agg #[.int .i64 0, .int .i64 0, .int .i64 0, .int .i64 0]) (fun w => by kernel_rfl) (#[.int .i64 (0), .int .i64 (0), .int .i64 (0), .int .i64 (0)]) rfl (fun _ => ⟨rfl, rfl, rfl, rfl, rfl, rfl, rfl, trivial⟩) (fun a58 w23 b7 he58 hm23 => ?_)
          refine wh_store (i := 14) (op := ?op2e0011_19) (fuel := 2) ?hr2e0011_19 ?hi2e0011_19 he58 hm23 7 rfl ?hd2e0011_19 ?hw2e0011_19 54 (.tmp 12) (.tmp 61) ?ho2e0011_19 (0) (he58.tmp 12 _ rfl) _ (he58.tmp 61 _ rfl) 4 agg54.size (optA.sz _) (optA.one _) (by decide) (optA (brR (f i) S false)) (optA_ovw _ _ _ _ _) ⟨rfl, rfl, rfl, rfl, rfl, rfl, rfl, trivial⟩ (fun w24 hm24 => ?k2e0011_19)
          case hi2e0011_19 => rw [List.getElem?_toArray]; rfl
          case hw2e0011_19 => exact rfl
          case hr2e0011_19 => kernel_rfl
          case hd2e0011_19 | ho2e0011_19 => rfl
          refine wh_store (i := 15) (op := ?op2e0011_20) (fuel := 1) ?hr2e0011_20 ?hi2e0011_20 he58 hm24 8 rfl ?hd2e0011_20 ?hw2e0011_20 54 (.tmp 13) (.tmp 62) ?ho2e0011_20 (0) (he58.tmp 13 _ rfl) _ (he58.tmp 62 _ rfl) 4 agg54.size rfl (by kernel_rfl) (by simp) (#[.int .i64 (P2.1), .int .i64 (P2.2.1), .int .i64 (P2.2.2.1), .int .i64 (P2.2.2.2)]) (by kernel_rfl) ⟨rfl, rfl, rfl, rfl, rfl, rfl, rfl, trivial⟩ (fun w25 hm25 => ?k2e0011_20)
          case hi2e0011_20 => rw [List.getElem?_toArray]; rfl
          case hw2e0011_20 => exact rfl
          case hr2e0011_20 => kernel_rfl
          case hd2e0011_20 | ho2e0011_20 => rfl
          refine tk (fuel := 0) (i := 16) ?_ he58 hm25 ⟨rfl, rfl, rfl, rfl, rfl, rfl, rfl, trivial⟩ (.bool ((brR (f i) S false).isSome)) ?_ ?_ ?_ ?_ fun a59 he59 => ?_
          rotate_left
          rw [List.getElem?_toArray]; rfl
          exact ⟨by kernel_rfl, by kernel_rfl, by kernel_rfl⟩
          exact ⟨fun _ _ _ _ h => h, rfl, rfl⟩
          exact fun wS hmS => rn_move _ (Or.inr rfl) _ (he58.tmp 63 _ rfl)
          refine wpAnyH_done (by kernel_rfl) ?_ _
          exact ⟨b7, b8, he59.sub _ ⟨rfl, rfl, rfl, rfl, rfl, rfl, rfl, rfl, rfl, rfl, rfl, rfl, rfl, rfl, rfl, rfl, rfl, rfl, rfl, rfl, rfl, rfl, rfl, rfl, rfl, rfl, rfl, rfl, rfl, rfl, rfl, rfl, rfl, rfl, rfl, rfl, rfl, rfl, rfl, rfl, rfl, rfl, rfl, rfl, rfl, rfl, rfl, rfl, rfl, rfl, rfl, rfl, rfl, rfl, rfl, rfl, trivial⟩, hm25.sub _ ⟨rfl, rfl, rfl, rfl, rfl, rfl, rfl, rfl, rfl, trivial⟩⟩
       case st2e0011_8_1 =>
        refine st_alloc he51 hm20 7 rfl ⟨rfl, rfl, rfl, rfl, rfl, rfl, rfl, trivial⟩ rfl rfl _ rfl (.agg #[.int .i64 0, .int .i64 0, .int .i64 0, .int .i64 0]) (fun w => by kernel_rfl) (#[.int .i64 (0), .int .i64 (0), .int .i64 (0), .int .i64 (0)]) rfl (fun _ => ⟨rfl, rfl, rfl, rfl, rfl, rfl, rfl, trivial⟩) (fun a52 w21 b7 he52 hm21 => ?_)
        refine wpAnyH_ready (fuel := 8) (rs := [7, 13]) ?hr2e0011_22 (by simp) (AllReadyH.cons (o := ?o2e0011_22_0) ?hi2e0011_22_0 ?st2e0011_22_0 (AllReadyH.cons (o := ?o2e0011_22_1) ?hi2e0011_22_1 ?st2e0011_22_1 AllReadyH.nil))
        case hr2e0011_22 => kernel_rfl
        case hi2e0011_22_0 => rw [List.getElem?_toArray]; rfl
        case hi2e0011_22_1 => rw [List.getElem?_toArray]; rfl
        case st2e0011_22_0 =>
         refine st_call he52 hm21 ⟨rfl, rfl, rfl, rfl, rfl, rfl, rfl, trivial⟩ rfl rfl _ #[.int .i64 ((f i).op), .agg (ivArr (atS (S) (((f i).at_.toNat)))), .agg (ivArr (((f i).num.toNat, (f i).num.toNat))), .bool false] (enter_call _ _ _ rfl 37 #[] #[] rfl #[.int .i64 ((f i).op), .agg (ivArr (atS (S) (((f i).at_.toNat)))), .agg (ivArr (((f i).num.toNat, (f i).num.toNat))), .bool false] (map4 (he52.tmp 54 _ rfl) (he52.tmp 58 _ rfl) (he52.tmp 59 _ rfl) rfl) #[.int .i64 ((f i).op), .agg (ivArr (atS (S) (((f i).at_.toNat)))), .agg (ivArr (((f i).num.toNat, (f i).num.toNat))), .bool false] rfl (fun _ _ => by kernel_rfl)) (.tuple #[.agg (optA (brR (f i) S false)), .agg (#[.int .i64 (P2.1), .int .i64 (P2.2.1), .int .i64 (P2.2.2.1), .int .i64 (P2.2.2.2)]), .bool ((brR (f i) S false).isSome)]) (hP2 _) (fun a53 w22 he53 hm22 => ?_)
         refine tk (fuel := 7) (i := 8) ?_ he53 hm22 ⟨rfl, rfl, rfl, rfl, rfl, rfl, rfl, trivial⟩ (.tuple #[.agg (optA (brR (f i) S false)), .agg (#[.int .i64 (P2.1), .int .i64 (P2.2.1), .int .i64 (P2.2.2.1), .int .i64 (P2.2.2.2)]), .bool ((brR (f i) S false).isSome)]) ?_ ?_ ?_ ?_ fun a54 he54 => ?_
         rotate_left
         rw [List.getElem?_toArray]; rfl
         exact ⟨by kernel_rfl, by kernel_rfl, by kernel_rfl⟩
         exact ⟨fun _ _ _ _ h => h, rfl, rfl⟩
         exact fun wS hmS => rn_move _ (Or.inl rfl) _ (he53.tmp 60 _ rfl)
         refine tk (fuel := 6) (i := 9) ?_ he54 hm22 ⟨rfl, rfl, rfl, rfl, rfl, rfl, rfl, trivial⟩ (.agg (optA (brR (f i) S false))) ?_ ?_ ?_ ?_ fun a55 he55 => ?_
         rotate_left
         rw [List.getElem?_toArray]; rfl
         exact ⟨by kernel_rfl, by kernel_rfl, by kernel_rfl⟩
         exact ⟨fun _ _ _ _ h => h, rfl, rfl⟩
         exact fun wS hmS => rn_extract _ _ rfl _ (he54.tmp 52 _ rfl) _ rfl
         refine tk (fuel := 5) (i := 10) ?_ he55 hm22 ⟨rfl, rfl, rfl, rfl, rfl, rfl, rfl, trivial⟩ (.agg (#[.int .i64 (P2.1), .int .i64 (P2.2.1), .int .i64 (P2.2.2.1), .int .i64 (P2.2.2.2)])) ?_ ?_ ?_ ?_ fun a56 he56 => ?_
         rotate_left
         rw [List.getElem?_toArray]; rfl
         exact ⟨by kernel_rfl, by kernel_rfl, by kernel_rfl⟩
         exact ⟨fun _ _ _ _ h => h, rfl, rfl⟩
         exact fun wS hmS => rn_extract _ _ rfl _ (he55.tmp 52 _ rfl) _ rfl
         refine tk (fuel := 4) (i := 11) ?_ he56 hm22 ⟨rfl, rfl, rfl, rfl, rfl, rfl, rfl, trivial⟩ (.bool ((brR (f i) S false).isSome)) ?_ ?_ ?_ ?_ fun a57 he57 => ?_
         rotate_left
         rw [List.getElem?_toArray]; rfl
         exact ⟨by kernel_rfl, by kernel_rfl, by kernel_rfl⟩
         exact ⟨fun _ _ _ _ h => h, rfl, rfl⟩
         exact fun wS hmS => rn_extract _ _ rfl _ (he56.tmp 52 _ rfl) _ rfl
         refine wpAnyH_ready (fuel := 3) (rs := [13]) ?hr2e0011_27 (by simp) (AllReadyH.cons (o := ?o2e0011_27_0) ?hi2e0011_27_0 ?st2e0011_27_0 AllReadyH.nil)
         case hr2e0011_27 => kernel_rfl
         case hi2e0011_27_0 => rw [List.getElem?_toArray]; rfl
         case st2e0011_27_0 =>
          refine st_alloc he57 hm22 8 rfl ⟨rfl, rfl, rfl, rfl, rfl, rfl, rfl, trivial⟩ rfl rfl _ rfl (.agg #[.int .i64 0, .int .i64 0, .int .i64 0, .int .i64 0]) (fun w => by kernel_rfl) (#[.int .i64 (0), .int .i64 (0), .int .i64 (0), .int .i64 (0)]) rfl (fun _ => ⟨rfl, rfl, rfl, rfl, rfl, rfl, rfl, trivial⟩) (fun a58 w23 b8 he58 hm23 => ?_)
          refine wh_store (i := 14) (op := ?op2e0011_28) (fuel := 2) ?hr2e0011_28 ?hi2e0011_28 he58 hm23 7 rfl ?hd2e0011_28 ?hw2e0011_28 54 (.tmp 12) (.tmp 61) ?ho2e0011_28 (0) (he58.tmp 12 _ rfl) _ (he58.tmp 61 _ rfl) 4 agg54.size (optA.sz _) (optA.one _) (by decide) (optA (brR (f i) S false)) (optA_ovw _ _ _ _ _) ⟨rfl, rfl, rfl, rfl, rfl, rfl, rfl, trivial⟩ (fun w24 hm24 => ?k2e0011_28)
          case hi2e0011_28 => rw [List.getElem?_toArray]; rfl
          case hw2e0011_28 => exact rfl
          case hr2e0011_28 => kernel_rfl
          case hd2e0011_28 | ho2e0011_28 => rfl
          refine wh_store (i := 15) (op := ?op2e0011_29) (fuel := 1) ?hr2e0011_29 ?hi2e0011_29 he58 hm24 8 rfl ?hd2e0011_29 ?hw2e0011_29 54 (.tmp 13) (.tmp 62) ?ho2e0011_29 (0) (he58.tmp 13 _ rfl) _ (he58.tmp 62 _ rfl) 4 agg54.size rfl (by kernel_rfl) (by simp) (#[.int .i64 (P2.1), .int .i64 (P2.2.1), .int .i64 (P2.2.2.1), .int .i64 (P2.2.2.2)]) (by kernel_rfl) ⟨rfl, rfl, rfl, rfl, rfl, rfl, rfl, trivial⟩ (fun w25 hm25 => ?k2e0011_29)
          case hi2e0011_29 => rw [List.getElem?_toArray]; rfl
          case hw2e0011_29 => exact rfl
          case hr2e0011_29 => kernel_rfl
          case hd2e0011_29 | ho2e0011_29 => rfl
          refine tk (fuel := 0) (i := 16) ?_ he58 hm25 ⟨rfl, rfl, rfl, rfl, rfl, rfl, rfl, trivial⟩ (.bool ((brR (f i) S false).isSome)) ?_ ?_ ?_ ?_ fun a59 he59 => ?_
          rotate_left
          rw [List.getElem?_toArray]; rfl
          exact ⟨by kernel_rfl, by kernel_rfl, by kernel_rfl⟩
          exact ⟨fun _ _ _ _ h => h, rfl, rfl⟩
          exact fun wS hmS => rn_move _ (Or.inr rfl) _ (he58.tmp 63 _ rfl)
          refine wpAnyH_done (by kernel_rfl) ?_ _
          exact ⟨b7, b8, he59.sub _ ⟨rfl, rfl, rfl, rfl, rfl, rfl, rfl, rfl, rfl, rfl, rfl, rfl, rfl, rfl, rfl, rfl, rfl, rfl, rfl, rfl, rfl, rfl, rfl, rfl, rfl, rfl, rfl, rfl, rfl, rfl, rfl, rfl, rfl, rfl, rfl, rfl, rfl, rfl, rfl, rfl, rfl, rfl, rfl, rfl, rfl, rfl, rfl, rfl, rfl, rfl, rfl, rfl, rfl, rfl, rfl, rfl, trivial⟩, hm25.sub _ ⟨rfl, rfl, rfl, rfl, rfl, rfl, rfl, rfl, rfl, trivial⟩⟩
        case st2e0011_22_1 =>
         refine st_alloc he52 hm21 8 rfl ⟨rfl, rfl, rfl, rfl, rfl, rfl, rfl, trivial⟩ rfl rfl _ rfl (.agg #[.int .i64 0, .int .i64 0, .int .i64 0, .int .i64 0]) (fun w => by kernel_rfl) (#[.int .i64 (0), .int .i64 (0), .int .i64 (0), .int .i64 (0)]) rfl (fun _ => ⟨rfl, rfl, rfl, rfl, rfl, rfl, rfl, trivial⟩) (fun a53 w22 b8 he53 hm22 => ?_)
         refine wpAnyH_ready (fuel := 7) (rs := [7]) ?hr2e0011_31 (by simp) (AllReadyH.cons (o := ?o2e0011_31_0) ?hi2e0011_31_0 ?st2e0011_31_0 AllReadyH.nil)
         case hr2e0011_31 => kernel_rfl
         case hi2e0011_31_0 => rw [List.getElem?_toArray]; rfl
         case st2e0011_31_0 =>
          refine st_call he53 hm22 ⟨rfl, rfl, rfl, rfl, rfl, rfl, rfl, trivial⟩ rfl rfl _ #[.int .i64 ((f i).op), .agg (ivArr (atS (S) (((f i).at_.toNat)))), .agg (ivArr (((f i).num.toNat, (f i).num.toNat))), .bool false] (enter_call _ _ _ rfl 37 #[] #[] rfl #[.int .i64 ((f i).op), .agg (ivArr (atS (S) (((f i).at_.toNat)))), .agg (ivArr (((f i).num.toNat, (f i).num.toNat))), .bool false] (map4 (he53.tmp 54 _ rfl) (he53.tmp 58 _ rfl) (he53.tmp 59 _ rfl) rfl) #[.int .i64 ((f i).op), .agg (ivArr (atS (S) (((f i).at_.toNat)))), .agg (ivArr (((f i).num.toNat, (f i).num.toNat))), .bool false] rfl (fun _ _ => by kernel_rfl)) (.tuple #[.agg (optA (brR (f i) S false)), .agg (#[.int .i64 (P2.1), .int .i64 (P2.2.1), .int .i64 (P2.2.2.1), .int .i64 (P2.2.2.2)]), .bool ((brR (f i) S false).isSome)]) (hP2 _) (fun a54 w23 he54 hm23 => ?_)
          refine tk (fuel := 6) (i := 8) ?_ he54 hm23 ⟨rfl, rfl, rfl, rfl, rfl, rfl, rfl, trivial⟩ (.tuple #[.agg (optA (brR (f i) S false)), .agg (#[.int .i64 (P2.1), .int .i64 (P2.2.1), .int .i64 (P2.2.2.1), .int .i64 (P2.2.2.2)]), .bool ((brR (f i) S false).isSome)]) ?_ ?_ ?_ ?_ fun a55 he55 => ?_
          rotate_left
          rw [List.getElem?_toArray]; rfl
          exact ⟨by kernel_rfl, by kernel_rfl, by kernel_rfl⟩
          exact ⟨fun _ _ _ _ h => h, rfl, rfl⟩
          exact fun wS hmS => rn_move _ (Or.inl rfl) _ (he54.tmp 60 _ rfl)
          refine tk (fuel := 5) (i := 9) ?_ he55 hm23 ⟨rfl, rfl, rfl, rfl, rfl, rfl, rfl, trivial⟩ (.agg (optA (brR (f i) S false))) ?_ ?_ ?_ ?_ fun a56 he56 => ?_
          rotate_left
          rw [List.getElem?_toArray]; rfl
          exact ⟨by kernel_rfl, by kernel_rfl, by kernel_rfl⟩
          exact ⟨fun _ _ _ _ h => h, rfl, rfl⟩
          exact fun wS hmS => rn_extract _ _ rfl _ (he55.tmp 52 _ rfl) _ rfl
          refine tk (fuel := 4) (i := 10) ?_ he56 hm23 ⟨rfl, rfl, rfl, rfl, rfl, rfl, rfl, trivial⟩ (.agg (#[.int .i64 (P2.1), .int .i64 (P2.2.1), .int .i64 (P2.2.2.1), .int .i64 (P2.2.2.2)])) ?_ ?_ ?_ ?_ fun a57 he57 => ?_
          rotate_left
          rw [List.getElem?_toArray]; rfl
          exact ⟨by kernel_rfl, by kernel_rfl, by kernel_rfl⟩
          exact ⟨fun _ _ _ _ h => h, rfl, rfl⟩
          exact fun wS hmS => rn_extract _ _ rfl _ (he56.tmp 52 _ rfl) _ rfl
          refine tk (fuel := 3) (i := 11) ?_ he57 hm23 ⟨rfl, rfl, rfl, rfl, rfl, rfl, rfl, trivial⟩ (.bool ((brR (f i) S false).isSome)) ?_ ?_ ?_ ?_ fun a58 he58 => ?_
          rotate_left
          rw [List.getElem?_toArray]; rfl
          exact ⟨by kernel_rfl, by kernel_rfl, by kernel_rfl⟩
          exact ⟨fun _ _ _ _ h => h, rfl, rfl⟩
          exact fun wS hmS => rn_extract _ _ rfl _ (he57.tmp 52 _ rfl) _ rfl
          refine wh_store (i := 14) (op := ?op2e0011_36) (fuel := 2) ?hr2e0011_36 ?hi2e0011_36 he58 hm23 7 rfl ?hd2e0011_36 ?hw2e0011_36 54 (.tmp 12) (.tmp 61) ?ho2e0011_36 (0) (he58.tmp 12 _ rfl) _ (he58.tmp 61 _ rfl) 4 agg54.size (optA.sz _) (optA.one _) (by decide) (optA (brR (f i) S false)) (optA_ovw _ _ _ _ _) ⟨rfl, rfl, rfl, rfl, rfl, rfl, rfl, trivial⟩ (fun w24 hm24 => ?k2e0011_36)
          case hi2e0011_36 => rw [List.getElem?_toArray]; rfl
          case hw2e0011_36 => exact rfl
          case hr2e0011_36 => kernel_rfl
          case hd2e0011_36 | ho2e0011_36 => rfl
          refine wh_store (i := 15) (op := ?op2e0011_37) (fuel := 1) ?hr2e0011_37 ?hi2e0011_37 he58 hm24 8 rfl ?hd2e0011_37 ?hw2e0011_37 54 (.tmp 13) (.tmp 62) ?ho2e0011_37 (0) (he58.tmp 13 _ rfl) _ (he58.tmp 62 _ rfl) 4 agg54.size rfl (by kernel_rfl) (by simp) (#[.int .i64 (P2.1), .int .i64 (P2.2.1), .int .i64 (P2.2.2.1), .int .i64 (P2.2.2.2)]) (by kernel_rfl) ⟨rfl, rfl, rfl, rfl, rfl, rfl, rfl, trivial⟩ (fun w25 hm25 => ?k2e0011_37)
          case hi2e0011_37 => rw [List.getElem?_toArray]; rfl
          case hw2e0011_37 => exact rfl
          case hr2e0011_37 => kernel_rfl
          case hd2e0011_37 | ho2e0011_37 => rfl
          refine tk (fuel := 0) (i := 16) ?_ he58 hm25 ⟨rfl, rfl, rfl, rfl, rfl, rfl, rfl, trivial⟩ (.bool ((brR (f i) S false).isSome)) ?_ ?_ ?_ ?_ fun a59 he59 => ?_
          rotate_left
          rw [List.getElem?_toArray]; rfl
          exact ⟨by kernel_rfl, by kernel_rfl, by kernel_rfl⟩
          exact ⟨fun _ _ _ _ h => h, rfl, rfl⟩
          exact fun wS hmS => rn_move _ (Or.inr rfl) _ (he58.tmp 63 _ rfl)
          refine wpAnyH_done (by kernel_rfl) ?_ _
          exact ⟨b7, b8, he59.sub _ ⟨rfl, rfl, rfl, rfl, rfl, rfl, rfl, rfl, rfl, rfl, rfl, rfl, rfl, rfl, rfl, rfl, rfl, rfl, rfl, rfl, rfl, rfl, rfl, rfl, rfl, rfl, rfl, rfl, rfl, rfl, rfl, rfl, rfl, rfl, rfl, rfl, rfl, rfl, rfl, rfl, rfl, rfl, rfl, rfl, rfl, rfl, rfl, rfl, rfl, rfl, rfl, rfl, rfl, rfl, rfl, rfl, trivial⟩, hm25.sub _ ⟨rfl, rfl, rfl, rfl, rfl, rfl, rfl, rfl, rfl, trivial⟩⟩
       case st2e0011_8_2 =>
        refine st_alloc he51 hm20 8 rfl ⟨rfl, rfl, rfl, rfl, rfl, rfl, rfl, trivial⟩ rfl rfl _ rfl (.agg #[.int .i64 0, .int .i64 0, .int .i64 0, .int .i64 0]) (fun w => by kernel_rfl) (#[.int .i64 (0), .int .i64 (0), .int .i64 (0), .int .i64 (0)]) rfl (fun _ => ⟨rfl, rfl, rfl, rfl, rfl, rfl, rfl, trivial⟩) (fun a52 w21 b8 he52 hm21 => ?_)
        refine wpAnyH_ready (fuel := 8) (rs := [7, 12]) ?hr2e0011_39 (by simp) (AllReadyH.cons (o := ?o2e0011_39_0) ?hi2e0011_39_0 ?st2e0011_39_0 (AllReadyH.cons (o := ?o2e0011_39_1) ?hi2e0011_39_1 ?st2e0011_39_1 AllReadyH.nil))
        case hr2e0011_39 => kernel_rfl
        case hi2e0011_39_0 => rw [List.getElem?_toArray]; rfl
        case hi2e0011_39_1 => rw [List.getElem?_toArray]; rfl
        case st2e0011_39_0 =>
         refine st_call he52 hm21 ⟨rfl, rfl, rfl, rfl, rfl, rfl, rfl, trivial⟩ rfl rfl _ #[.int .i64 ((f i).op), .agg (ivArr (atS (S) (((f i).at_.toNat)))), .agg (ivArr (((f i).num.toNat, (f i).num.toNat))), .bool false] (enter_call _ _ _ rfl 37 #[] #[] rfl #[.int .i64 ((f i).op), .agg (ivArr (atS (S) (((f i).at_.toNat)))), .agg (ivArr (((f i).num.toNat, (f i).num.toNat))), .bool false] (map4 (he52.tmp 54 _ rfl) (he52.tmp 58 _ rfl) (he52.tmp 59 _ rfl) rfl) #[.int .i64 ((f i).op), .agg (ivArr (atS (S) (((f i).at_.toNat)))), .agg (ivArr (((f i).num.toNat, (f i).num.toNat))), .bool false] rfl (fun _ _ => by kernel_rfl)) (.tuple #[.agg (optA (brR (f i) S false)), .agg (#[.int .i64 (P2.1), .int .i64 (P2.2.1), .int .i64 (P2.2.2.1), .int .i64 (P2.2.2.2)]), .bool ((brR (f i) S false).isSome)]) (hP2 _) (fun a53 w22 he53 hm22 => ?_)
         refine tk (fuel := 7) (i := 8) ?_ he53 hm22 ⟨rfl, rfl, rfl, rfl, rfl, rfl, rfl, trivial⟩ (.tuple #[.agg (optA (brR (f i) S false)), .agg (#[.int .i64 (P2.1), .int .i64 (P2.2.1), .int .i64 (P2.2.2.1), .int .i64 (P2.2.2.2)]), .bool ((brR (f i) S false).isSome)]) ?_ ?_ ?_ ?_ fun a54 he54 => ?_
         rotate_left
         rw [List.getElem?_toArray]; rfl
         exact ⟨by kernel_rfl, by kernel_rfl, by kernel_rfl⟩
         exact ⟨fun _ _ _ _ h => h, rfl, rfl⟩
         exact fun wS hmS => rn_move _ (Or.inl rfl) _ (he53.tmp 60 _ rfl)
         refine tk (fuel := 6) (i := 9) ?_ he54 hm22 ⟨rfl, rfl, rfl, rfl, rfl, rfl, rfl, trivial⟩ (.agg (optA (brR (f i) S false))) ?_ ?_ ?_ ?_ fun a55 he55 => ?_
         rotate_left
         rw [List.getElem?_toArray]; rfl
         exact ⟨by kernel_rfl, by kernel_rfl, by kernel_rfl⟩
         exact ⟨fun _ _ _ _ h => h, rfl, rfl⟩
         exact fun wS hmS => rn_extract _ _ rfl _ (he54.tmp 52 _ rfl) _ rfl
         refine tk (fuel := 5) (i := 10) ?_ he55 hm22 ⟨rfl, rfl, rfl, rfl, rfl, rfl, rfl, trivial⟩ (.agg (#[.int .i64 (P2.1), .int .i64 (P2.2.1), .int .i64 (P2.2.2.1), .int .i64 (P2.2.2.2)])) ?_ ?_ ?_ ?_ fun a56 he56 => ?_
         rotate_left
         rw [List.getElem?_toArray]; rfl
         exact ⟨by kernel_rfl, by kernel_rfl, by kernel_rfl⟩
         exact ⟨fun _ _ _ _ h => h, rfl, rfl⟩
         exact fun wS hmS => rn_extract _ _ rfl _ (he55.tmp 52 _ rfl) _ rfl
         refine tk (fuel := 4) (i := 11) ?_ he56 hm22 ⟨rfl, rfl, rfl, rfl, rfl, rfl, rfl, trivial⟩ (.bool ((brR (f i) S false).isSome)) ?_ ?_ ?_ ?_ fun a57 he57 => ?_
         rotate_left
         rw [List.getElem?_toArray]; rfl
         exact ⟨by kernel_rfl, by kernel_rfl, by kernel_rfl⟩
         exact ⟨fun _ _ _ _ h => h, rfl, rfl⟩
         exact fun wS hmS => rn_extract _ _ rfl _ (he56.tmp 52 _ rfl) _ rfl
         refine wpAnyH_ready (fuel := 3) (rs := [12]) ?hr2e0011_44 (by simp) (AllReadyH.cons (o := ?o2e0011_44_0) ?hi2e0011_44_0 ?st2e0011_44_0 AllReadyH.nil)
         case hr2e0011_44 => kernel_rfl
         case hi2e0011_44_0 => rw [List.getElem?_toArray]; rfl
         case st2e0011_44_0 =>
          refine st_alloc he57 hm22 7 rfl ⟨rfl, rfl, rfl, rfl, rfl, rfl, rfl, trivial⟩ rfl rfl _ rfl (.agg #[.int .i64 0, .int .i64 0, .int .i64 0, .int .i64 0]) (fun w => by kernel_rfl) (#[.int .i64 (0), .int .i64 (0), .int .i64 (0), .int .i64 (0)]) rfl (fun _ => ⟨rfl, rfl, rfl, rfl, rfl, rfl, rfl, trivial⟩) (fun a58 w23 b7 he58 hm23 => ?_)
          refine wh_store (i := 14) (op := ?op2e0011_45) (fuel := 2) ?hr2e0011_45 ?hi2e0011_45 he58 hm23 7 rfl ?hd2e0011_45 ?hw2e0011_45 54 (.tmp 12) (.tmp 61) ?ho2e0011_45 (0) (he58.tmp 12 _ rfl) _ (he58.tmp 61 _ rfl) 4 agg54.size (optA.sz _) (optA.one _) (by decide) (optA (brR (f i) S false)) (optA_ovw _ _ _ _ _) ⟨rfl, rfl, rfl, rfl, rfl, rfl, rfl, trivial⟩ (fun w24 hm24 => ?k2e0011_45)
          case hi2e0011_45 => rw [List.getElem?_toArray]; rfl
          case hw2e0011_45 => exact rfl
          case hr2e0011_45 => kernel_rfl
          case hd2e0011_45 | ho2e0011_45 => rfl
          refine wh_store (i := 15) (op := ?op2e0011_46) (fuel := 1) ?hr2e0011_46 ?hi2e0011_46 he58 hm24 8 rfl ?hd2e0011_46 ?hw2e0011_46 54 (.tmp 13) (.tmp 62) ?ho2e0011_46 (0) (he58.tmp 13 _ rfl) _ (he58.tmp 62 _ rfl) 4 agg54.size rfl (by kernel_rfl) (by simp) (#[.int .i64 (P2.1), .int .i64 (P2.2.1), .int .i64 (P2.2.2.1), .int .i64 (P2.2.2.2)]) (by kernel_rfl) ⟨rfl, rfl, rfl, rfl, rfl, rfl, rfl, trivial⟩ (fun w25 hm25 => ?k2e0011_46)
          case hi2e0011_46 => rw [List.getElem?_toArray]; rfl
          case hw2e0011_46 => exact rfl
          case hr2e0011_46 => kernel_rfl
          case hd2e0011_46 | ho2e0011_46 => rfl
          refine tk (fuel := 0) (i := 16) ?_ he58 hm25 ⟨rfl, rfl, rfl, rfl, rfl, rfl, rfl, trivial⟩ (.bool ((brR (f i) S false).isSome)) ?_ ?_ ?_ ?_ fun a59 he59 => ?_
          rotate_left
          rw [List.getElem?_toArray]; rfl
          exact ⟨by kernel_rfl, by kernel_rfl, by kernel_rfl⟩
          exact ⟨fun _ _ _ _ h => h, rfl, rfl⟩
          exact fun wS hmS => rn_move _ (Or.inr rfl) _ (he58.tmp 63 _ rfl)
          refine wpAnyH_done (by kernel_rfl) ?_ _
          exact ⟨b7, b8, he59.sub _ ⟨rfl, rfl, rfl, rfl, rfl, rfl, rfl, rfl, rfl, rfl, rfl, rfl, rfl, rfl, rfl, rfl, rfl, rfl, rfl, rfl, rfl, rfl, rfl, rfl, rfl, rfl, rfl, rfl, rfl, rfl, rfl, rfl, rfl, rfl, rfl, rfl, rfl, rfl, rfl, rfl, rfl, rfl, rfl, rfl, rfl, rfl, rfl, rfl, rfl, rfl, rfl, rfl, rfl, rfl, rfl, rfl, trivial⟩, hm25.sub _ ⟨rfl, rfl, rfl, rfl, rfl, rfl, rfl, rfl, rfl, trivial⟩⟩
        case st2e0011_39_1 =>
         refine st_alloc he52 hm21 7 rfl ⟨rfl, rfl, rfl, rfl, rfl, rfl, rfl, trivial⟩ rfl rfl _ rfl (.agg #[.int .i64 0, .int .i64 0, .int .i64 0, .int .i64 0]) (fun w => by kernel_rfl) (#[.int .i64 (0), .int .i64 (0), .int .i64 (0), .int .i64 (0)]) rfl (fun _ => ⟨rfl, rfl, rfl, rfl, rfl, rfl, rfl, trivial⟩) (fun a53 w22 b7 he53 hm22 => ?_)
         refine wpAnyH_ready (fuel := 7) (rs := [7]) ?hr2e0011_48 (by simp) (AllReadyH.cons (o := ?o2e0011_48_0) ?hi2e0011_48_0 ?st2e0011_48_0 AllReadyH.nil)
         case hr2e0011_48 => kernel_rfl
         case hi2e0011_48_0 => rw [List.getElem?_toArray]; rfl
         case st2e0011_48_0 =>
          refine st_call he53 hm22 ⟨rfl, rfl, rfl, rfl, rfl, rfl, rfl, trivial⟩ rfl rfl _ #[.int .i64 ((f i).op), .agg (ivArr (atS (S) (((f i).at_.toNat)))), .agg (ivArr (((f i).num.toNat, (f i).num.toNat))), .bool false] (enter_call _ _ _ rfl 37 #[] #[] rfl #[.int .i64 ((f i).op), .agg (ivArr (atS (S) (((f i).at_.toNat)))), .agg (ivArr (((f i).num.toNat, (f i).num.toNat))), .bool false] (map4 (he53.tmp 54 _ rfl) (he53.tmp 58 _ rfl) (he53.tmp 59 _ rfl) rfl) #[.int .i64 ((f i).op), .agg (ivArr (atS (S) (((f i).at_.toNat)))), .agg (ivArr (((f i).num.toNat, (f i).num.toNat))), .bool false] rfl (fun _ _ => by kernel_rfl)) (.tuple #[.agg (optA (brR (f i) S false)), .agg (#[.int .i64 (P2.1), .int .i64 (P2.2.1), .int .i64 (P2.2.2.1), .int .i64 (P2.2.2.2)]), .bool ((brR (f i) S false).isSome)]) (hP2 _) (fun a54 w23 he54 hm23 => ?_)
          refine tk (fuel := 6) (i := 8) ?_ he54 hm23 ⟨rfl, rfl, rfl, rfl, rfl, rfl, rfl, trivial⟩ (.tuple #[.agg (optA (brR (f i) S false)), .agg (#[.int .i64 (P2.1), .int .i64 (P2.2.1), .int .i64 (P2.2.2.1), .int .i64 (P2.2.2.2)]), .bool ((brR (f i) S false).isSome)]) ?_ ?_ ?_ ?_ fun a55 he55 => ?_
          rotate_left
          rw [List.getElem?_toArray]; rfl
          exact ⟨by kernel_rfl, by kernel_rfl, by kernel_rfl⟩
          exact ⟨fun _ _ _ _ h => h, rfl, rfl⟩
          exact fun wS hmS => rn_move _ (Or.inl rfl) _ (he54.tmp 60 _ rfl)
          refine tk (fuel := 5) (i := 9) ?_ he55 hm23 ⟨rfl, rfl, rfl, rfl, rfl, rfl, rfl, trivial⟩ (.agg (optA (brR (f i) S false))) ?_ ?_ ?_ ?_ fun a56 he56 => ?_
          rotate_left
          rw [List.getElem?_toArray]; rfl
          exact ⟨by kernel_rfl, by kernel_rfl, by kernel_rfl⟩
          exact ⟨fun _ _ _ _ h => h, rfl, rfl⟩
          exact fun wS hmS => rn_extract _ _ rfl _ (he55.tmp 52 _ rfl) _ rfl
          refine tk (fuel := 4) (i := 10) ?_ he56 hm23 ⟨rfl, rfl, rfl, rfl, rfl, rfl, rfl, trivial⟩ (.agg (#[.int .i64 (P2.1), .int .i64 (P2.2.1), .int .i64 (P2.2.2.1), .int .i64 (P2.2.2.2)])) ?_ ?_ ?_ ?_ fun a57 he57 => ?_
          rotate_left
          rw [List.getElem?_toArray]; rfl
          exact ⟨by kernel_rfl, by kernel_rfl, by kernel_rfl⟩
          exact ⟨fun _ _ _ _ h => h, rfl, rfl⟩
          exact fun wS hmS => rn_extract _ _ rfl _ (he56.tmp 52 _ rfl) _ rfl
          refine tk (fuel := 3) (i := 11) ?_ he57 hm23 ⟨rfl, rfl, rfl, rfl, rfl, rfl, rfl, trivial⟩ (.bool ((brR (f i) S false).isSome)) ?_ ?_ ?_ ?_ fun a58 he58 => ?_
          rotate_left
          rw [List.getElem?_toArray]; rfl
          exact ⟨by kernel_rfl, by kernel_rfl, by kernel_rfl⟩
          exact ⟨fun _ _ _ _ h => h, rfl, rfl⟩
          exact fun wS hmS => rn_extract _ _ rfl _ (he57.tmp 52 _ rfl) _ rfl
          refine wh_store (i := 14) (op := ?op2e0011_53) (fuel := 2) ?hr2e0011_53 ?hi2e0011_53 he58 hm23 7 rfl ?hd2e0011_53 ?hw2e0011_53 54 (.tmp 12) (.tmp 61) ?ho2e0011_53 (0) (he58.tmp 12 _ rfl) _ (he58.tmp 61 _ rfl) 4 agg54.size (optA.sz _) (optA.one _) (by decide) (optA (brR (f i) S false)) (optA_ovw _ _ _ _ _) ⟨rfl, rfl, rfl, rfl, rfl, rfl, rfl, trivial⟩ (fun w24 hm24 => ?k2e0011_53)
          case hi2e0011_53 => rw [List.getElem?_toArray]; rfl
          case hw2e0011_53 => exact rfl
          case hr2e0011_53 => kernel_rfl
          case hd2e0011_53 | ho2e0011_53 => rfl
          refine wh_store (i := 15) (op := ?op2e0011_54) (fuel := 1) ?hr2e0011_54 ?hi2e0011_54 he58 hm24 8 rfl ?hd2e0011_54 ?hw2e0011_54 54 (.tmp 13) (.tmp 62) ?ho2e0011_54 (0) (he58.tmp 13 _ rfl) _ (he58.tmp 62 _ rfl) 4 agg54.size rfl (by kernel_rfl) (by simp) (#[.int .i64 (P2.1), .int .i64 (P2.2.1), .int .i64 (P2.2.2.1), .int .i64 (P2.2.2.2)]) (by kernel_rfl) ⟨rfl, rfl, rfl, rfl, rfl, rfl, rfl, trivial⟩ (fun w25 hm25 => ?k2e0011_54)
          case hi2e0011_54 => rw [List.getElem?_toArray]; rfl
          case hw2e0011_54 => exact rfl
          case hr2e0011_54 => kernel_rfl
          case hd2e0011_54 | ho2e0011_54 => rfl
          refine tk (fuel := 0) (i := 16) ?_ he58 hm25 ⟨rfl, rfl, rfl, rfl, rfl, rfl, rfl, trivial⟩ (.bool ((brR (f i) S false).isSome)) ?_ ?_ ?_ ?_ fun a59 he59 => ?_
          rotate_left
          rw [List.getElem?_toArray]; rfl
          exact ⟨by kernel_rfl, by kernel_rfl, by kernel_rfl⟩
          exact ⟨fun _ _ _ _ h => h, rfl, rfl⟩
          exact fun wS hmS => rn_move _ (Or.inr rfl) _ (he58.tmp 63 _ rfl)
          refine wpAnyH_done (by kernel_rfl) ?_ _
          exact ⟨b7, b8, he59.sub _ ⟨rfl, rfl, rfl, rfl, rfl, rfl, rfl, rfl, rfl, rfl, rfl, rfl, rfl, rfl, rfl, rfl, rfl, rfl, rfl, rfl, rfl, rfl, rfl, rfl, rfl, rfl, rfl, rfl, rfl, rfl, rfl, rfl, rfl, rfl, rfl, rfl, rfl, rfl, rfl, rfl, rfl, rfl, rfl, rfl, rfl, rfl, rfl, rfl, rfl, rfl, rfl, rfl, rfl, rfl, rfl, rfl, trivial⟩, hm25.sub _ ⟨rfl, rfl, rfl, rfl, rfl, rfl, rfl, rfl, rfl, trivial⟩⟩
      rintro a60 w27 ⟨b7, b8, he60, hm27⟩
      refine then_normal ?_
      refine wp_seq ?_
      refine wp_seqR ?_
      refine wl_val he60 rfl rfl (.bool ((brR (f i) S false).isSome)) (rn_move _ (Or.inl rfl) _ (he60.tmp 14 _ rfl)) (fun a61 he61 => ?_)
      clear he60
      cases hd4 : ((brR (f i) S false).isSome)
      ·
       have hb2 : brR (f i) S false = none := by simpa using hd4
       refine wl_val he61 rfl rfl (.bool true) (rn_un _ _ _ rfl _ (.bool (!(brR (f i) S false).isSome)) _ (he61.tmp 64 _ rfl) rfl (congrArg (fun q => Value.bool (!q)) hd4)) (fun a62 he62 => ?_)
       clear he61
       refine wl_end ?_
       refine wp_condT (he := he62) rfl ?_
       refine wp_exit ?_
       refine exit_then ?_
       refine exit_out (by decide) ?_
       refine exit_then ?_
       refine exit_then ?_
       refine exit_here ?_
       refine then_normal ?_
       refine wp_seqR ?_
       refine wl_val he62 rfl rfl (.slice (some ⟨b90_43, 0, none⟩) (1) (cap90_43)) (rn_move _ (Or.inl rfl) _ (he62.tmp 5 _ rfl)) (fun a63 he63 => ?_)
       clear he62
       refine wl_val he63 rfl rfl (.slice (some ⟨b90_43, 0, none⟩) (1) (cap90_43)) (rn_move _ (Or.inr rfl) _ (he63.tmp 71 _ rfl)) (fun a64 he64 => ?_)
       clear he63
       refine wl_end ?_
       refine wp_ret ?_
       have htm : tidM f n = [f i] := tid_last htd (by omega) hb1 hb2
       have hN : 1 = (tidM f n).length := by rw [htm]; simp 
       have hL : cellsOf Ru.arr ([f i]) = cellsOf Ru.arr (tidM f n) := by rw [htm]
       exact bodyPost_ret (results_tmp he64 _ Try.results21 _ rfl) he64.defers (Or.inr ⟨by rw [htm]; intro h0; have := congrArg List.length h0; simp at this, ⟨(cap90_43, cur90_43), _, congrArg (fun k => Ending.returned (.slice (some ⟨b90_43, 0, none⟩) k (cap90_43))) hN, hm27.bx 90 _ _ _ _ rfl, rw90_43.cast hN hL, by have := hm27.own 90 _ rfl rfl; simpa using this, hm27.below⟩⟩)
      ·
       obtain ⟨y2, hb2⟩ := Option.isSome_iff_exists.1 hd4
       refine wl_val he61 rfl rfl (.bool false) (rn_un _ _ _ rfl _ (.bool (!(brR (f i) S false).isSome)) _ (he61.tmp 64 _ rfl) rfl (congrArg (fun q => Value.bool (!q)) hd4)) (fun a62 he62 => ?_)
       clear he61
       refine wl_end ?_
       refine wp_condF (he := he62) rfl ?_
       refine wp_skip ?_
       refine then_normal ?_
       refine wp_region_lit ?_
       refine wl_val he62 rfl rfl (.pointer (some ⟨b2, 0, none⟩)) (rn_field _ _ _ rfl _ (.pointer (some ⟨b2, 0, none⟩)) (he62.tmp 7 _ rfl) (by kernel_rfl)) (fun a63 he63 => ?_)
       clear he62
       refine wl_val he63 rfl rfl (.int .i64 ((((f i).at_.toNat : Nat) : Int))) (rn_load1 hm27 2 rfl _ _ rfl (0) (he63.tmp 66 _ rfl) one3 _ (Ru.g_at' _ hri)) (fun a64 he64 => ?_)
       clear he63
       refine wl_val he64 rfl rfl (.agg (optA (brR (f i) S false))) (rn_loadA hm27 7 rfl _ _ rfl (0) (he64.tmp 12 _ rfl) 4 agg54 (optA (brR (f i) S false)) (optA_ext _) (optA.sz _)) (fun a65 he65 => ?_)
       clear he64
       refine wl_val he65 rfl rfl (.pointer (some ⟨b1, 0 + ((f i).at_.toNat) * 4, none⟩)) (rn_indexA _ _ _ rfl _ _ (.pointer (some ⟨b1, 0 + ((f i).at_.toNat) * 4, none⟩)) (he65.tmp 3 _ rfl) (he65.tmp 67 _ rfl) (ixA 12 54 4 (by kernel_rfl) (fun w => by kernel_rfl) b1 0 ((f i).at_.toNat) (by omega) (by decide) _)) (fun a66 he66 => ?_)
       clear he65
       obtain ⟨q1, hq1⟩ : ∃ q1 : Array Value, q1 = ovw (cur) (0 + ((f i).at_.toNat) * 4) (optA (brR (f i) S false)).toList := ⟨_, rfl⟩
       have rq1 : Rw q1 12 12 4 (cellsOf ivArr ((S).set (((f i).at_.toNat)) (y2))) := by rw [hq1, hb2]; exact hrw.set ivArr.sz (by rw [hS.len]; omega) _ _ (by omega)
       have fq1 := hrw.fit'
       refine wl_store he66 hm27 1 rfl rfl rfl _ _ _ rfl (0 + ((f i).at_.toNat) * 4) (he66.tmp 69 _ rfl) _ (he66.tmp 68 _ rfl) 4 agg54.size (optA.sz _) (optA.one _) (by omega) (q1) hq1.symm (fun w28 hm28 => ?_)
       clear hm27
       refine wpList_nil ?_
       refine in_normal ?_
       refine then_normal ?_
       refine wp_region_lit ?_
       refine wl_val he66 rfl rfl (.int .i64 (((i + 1 : Nat) : Int))) (rn_bin _ _ _ _ _ rfl .i64 _ _ (he66.tmp 27 _ rfl) rfl (.int .i64 (IntKind.wrap .i64 (((i : Nat) : Int) + 1))) _ rfl (addN (i := i) (c := 1) (by omega))) (fun a67 he67 => ?_)
       clear he66
       refine wl_val he67 rfl rfl (.int .i64 (((i + 1 : Nat) : Int))) (rn_move _ (Or.inl rfl) _ (he67.tmp 70 _ rfl)) (fun a68 he68 => ?_)
       clear he67
       refine wpList_nil ?_
       exact ⟨n - (i + 1), by omega, Or.inr ⟨i + 1, S.set (f i).at_.toNat y2, q1, [f i], 1, b90_43, cap90_43, cur90_43, rfl, ⟨by omega, (hS.set hb2), rq1, tid_keep htd (by omega) hb1 hb2, by simp [], by omega, by omega, rw90_43⟩, he68.sub _ ⟨rfl, rfl, rfl, rfl, rfl, rfl, rfl, rfl, rfl, rfl, rfl, rfl, trivial⟩, hm28.sub _ ⟨rfl, rfl, trivial⟩⟩⟩
   ·
    clear he12 hm3
    obtain ⟨hra, hS, hrw, htd, hon, hon1, honi, horw⟩ := hrel2
    refine wp_seqR ?_
    cases hd2 : (decide (((i : Nat) : Int) < ((n : Nat) : Int)))
    ·
     have hd2p := of_decide_eq_false hd2
     refine wl_val he13 rfl rfl (.bool false) (rn_bin _ _ _ _ _ rfl .i64 _ _ (he13.tmp 27 _ rfl) (he13.tmp 26 _ rfl) (.bool (decide (((i : Nat) : Int) < ((n : Nat) : Int)))) _ rfl (congrArg Value.bool (hd2))) (fun a14 he14 => ?_)
     clear he13
     refine wl_end ?_
     refine wp_seq ?_
     refine wp_condF (he := he14) rfl ?_
     refine wp_exit ?_
     refine exit_then ?_
     refine exit_then ?_
     refine exit_here ?_
     refine then_normal ?_
     refine wp_seqR ?_
     refine wl_val he14 rfl rfl (.slice (some ⟨ob, 0, none⟩) (on) (oc)) (rn_move _ (Or.inl rfl) _ (he14.tmp 5 _ rfl)) (fun a15 he15 => ?_)
     clear he14
     refine wl_val he15 rfl rfl (.slice (some ⟨ob, 0, none⟩) (on) (oc)) (rn_move _ (Or.inr rfl) _ (he15.tmp 71 _ rfl)) (fun a16 he16 => ?_)
     clear he15
     refine wl_end ?_
     refine wp_ret ?_
     have htm : tidM f n = o := tid_end htd (by omega)
     have hN : on = (tidM f n).length := by rw [htm]; simp [hon]
     have hL : cellsOf Ru.arr (o) = cellsOf Ru.arr (tidM f n) := by rw [htm]
     exact bodyPost_ret (results_tmp he16 _ Try.results21 _ rfl) he16.defers (Or.inr ⟨by rw [htm]; intro h0; have := congrArg List.length h0; simp at this; subst this; simp at hon; omega, ⟨(oc, oa), _, congrArg (fun k => Ending.returned (.slice (some ⟨ob, 0, none⟩) k (oc))) hN, hm4.bx 90 _ _ _ _ rfl, horw.cast hN hL, by have := hm4.own 90 _ rfl rfl; simpa using this, hm4.below⟩⟩)
    ·
     have hd2p := of_decide_eq_true hd2
     have hri := hall i (by omega)
     have hat := at_lt12 hri
     obtain ⟨P1, hP1⟩ := c_Br hri hS true
     obtain ⟨P2, hP2⟩ := c_Br hri hS false
     refine wl_val he13 rfl rfl (.bool true) (rn_bin _ _ _ _ _ rfl .i64 _ _ (he13.tmp 27 _ rfl) (he13.tmp 26 _ rfl) (.bool (decide (((i : Nat) : Int) < ((n : Nat) : Int)))) _ rfl (congrArg Value.bool (hd2))) (fun a14 he14 => ?_)
     clear he13
     refine wl_end ?_
     refine wp_seq ?_
     refine wp_condT (he := he14) rfl ?_
     refine wp_skip ?_
     refine then_normal ?_
     refine wp_seq ?_
     refine wp_block ?_
     refine wp_seqR ?_
     refine wl_val he14 rfl rfl (.pointer (some ⟨b, p + i * 5, none⟩)) (rn_indexA _ _ _ rfl _ _ (.pointer (some ⟨b, p + i * 5, none⟩)) (he14.tmp 25 _ rfl) (he14.tmp 27 _ rfl) (ixS 39 5 (by kernel_rfl) (fun w => by kernel_rfl) (b) (p) (n) (c) (i) (by omega) _)) (fun a15 he15 => ?_)
     clear he14
     refine wl_val he15 rfl rfl (.agg (Ru.arr (f i))) (rn_rowA hm4 hR (by simp) (i) (by omega) _ _ rfl (he15.tmp 29 _ rfl) agg39 (by kernel_rfl)) (fun a16 he16 => ?_)
     clear he15
     refine wl_alloc he16 hm4 2 rfl rfl rfl _ rfl (.agg #[.int .i64 0, .int .i64 0, .int .i64 0, .int .i64 0, .int .i64 0]) (fun w => by kernel_rfl) (#[.int .i64 (0), .int .i64 (0), .int .i64 (0), .int .i64 (0), .int .i64 (0)]) rfl (fun a17 w5 b2 he17 hm5 => ?_)
     clear he16 hm4
     refine wl_store he17 hm5 2 rfl rfl rfl _ _ _ rfl (0) (he17.tmp 7 _ rfl) _ (he17.tmp 30 _ rfl) 5 agg39.size rfl (Ru.one _) (by decide) (Ru.arr (f i)) (by kernel_rfl) (fun w6 hm6 => ?_)
     clear hm5
     refine wl_end ?_
     refine wp_seqR ?_
     refine wl_val he17 rfl rfl (.pointer (some ⟨b2, 2, none⟩)) (rn_field _ _ _ rfl _ (.pointer (some ⟨b2, 2, none⟩)) (he17.tmp 7 _ rfl) (by kernel_rfl)) (fun a18 he18 => ?_)
     clear he17
     refine wl_val he18 rfl rfl (.int .i64 ((((f i).num.toNat : Nat) : Int))) (rn_load1 hm6 2 rfl _ _ rfl (2) (he18.tmp 31 _ rfl) one3 _ (Ru.g_num' _ hri)) (fun a19 he19 => ?_)
     clear he18
     refine wl_call he19 hm6 rfl rfl _ #[.int .i64 ((((f i).num.toNat : Nat) : Int))] (enter_call _ _ _ rfl 36 #[] #[] rfl #[.int .i64 ((((f i).num.toNat : Nat) : Int))] (map1 (he19.tmp 32 _ rfl)) #[.int .i64 ((((f i).num.toNat : Nat) : Int))] rfl (fun _ _ => by kernel_rfl)) (.agg (ivArr (((f i).num.toNat, (f i).num.toNat)))) (c_One _ _ (num_le hri)) (fun a20 w7 he20 hm7 => ?_)
     clear he19 hm6
     refine wl_alloc he20 hm7 3 rfl rfl rfl _ rfl (.agg #[.int .i64 0, .int .i64 0, .int .i64 0, .int .i64 0]) (fun w => by kernel_rfl) (#[.int .i64 (0), .int .i64 (0), .int .i64 (0), .int .i64 (0)]) rfl (fun a21 w8 b3 he21 hm8 => ?_)
     clear he20 hm7
     refine wl_store he21 hm8 3 rfl rfl rfl _ _ _ rfl (0) (he21.tmp 8 _ rfl) _ (he21.tmp 33 _ rfl) 4 agg54.size rfl (ivArr.one _) (by decide) (ivArr (((f i).num.toNat, (f i).num.toNat))) (by kernel_rfl) (fun w9 hm9 => ?_)
     clear hm8
     refine wl_end ?_
     refine wp_seq ?_
     refine wp_seq ?_
     refine rg_cut (fun az wz => ∃ (b4 : Nat), ∃ (b5 : Nat), EV az 72 [] [(0, .slice (some ⟨b, p, none⟩) (n) (c)), (2, .slice none 0 0), (15, .slice (some ⟨b, p, none⟩) (n) (c)), (16, .bool true), (17, .bool false), (3, .pointer (some ⟨b1, 0, none⟩)), (18, .int .i64 (((i0 : Nat) : Int))), (19, .bool false), (25, .slice (some ⟨b, p, none⟩) (n) (c)), (26, .int .i64 (((n : Nat) : Int))), (27, .int .i64 (((i : Nat) : Int))), (5, .slice (some ⟨ob, 0, none⟩) (on) (oc)), (28, .bool true), (29, .pointer (some ⟨b, p + i * 5, none⟩)), (30, .agg (Ru.arr (f i))), (7, .pointer (some ⟨b2, 0, none⟩)), (31, .pointer (some ⟨b2, 2, none⟩)), (32, .int .i64 ((((f i).num.toNat : Nat) : Int))), (33, .agg (ivArr (((f i).num.toNat, (f i).num.toNat)))), (8, .pointer (some ⟨b3, 0, none⟩)), (35, .pointer (some ⟨b2, 1, none⟩)), (36, .int .i64 ((f i).op)), (37, .pointer (some ⟨b2, 0, none⟩)), (38, .int .i64 ((((f i).at_.toNat : Nat) : Int))), (39, .pointer (some ⟨b1, 0 + ((f i).at_.toNat) * 4, none⟩)), (40, .agg (ivArr (atS (S) (((f i).at_.toNat))))), (41, .agg (ivArr (((f i).num.toNat, (f i).num.toNat)))), (42, .tuple #[.agg (optA (brR (f i) S true)), .agg (#[.int .i64 (P1.1), .int .i64 (P1.2.1), .int .i64 (P1.2.2.1), .int .i64 (P1.2.2.2)]), .bool ((brR (f i) S true).isSome)]), (34, .tuple #[.agg (optA (brR (f i) S true)), .agg (#[.int .i64 (P1.1), .int .i64 (P1.2.1), .int .i64 (P1.2.2.1), .int .i64 (P1.2.2.2)]), .bool ((brR (f i) S true).isSome)]), (43, .agg (optA (brR (f i) S true))), (44, .agg (#[.int .i64 (P1.1), .int .i64 (P1.2.1), .int .i64 (P1.2.2.1), .int .i64 (P1.2.2.2)])), (45, .bool ((brR (f i) S true).isSome)), (9, .pointer (some ⟨b4, 0, none⟩)), (10, .pointer (some ⟨b5, 0, none⟩)), (11, .bool ((brR (f i) S true).isSome))] ∧ MM [] w wz [(1, ⟨true, b1, 58, cur⟩), (90, ⟨true, ob, 39, oa⟩), (2, ⟨true, b2, 39, Ru.arr (f i)⟩), (3, ⟨true, b3, 54, ivArr (((f i).num.toNat, (f i).num.toNat))⟩), (4, ⟨true, b4, 54, optA (brR (f i) S true)⟩), (5, ⟨true, b5, 54, #[.int .i64 (P1.1), .int .i64 (P1.2.1), .int .i64 (P1.2.2.1), .int .i64 (P1.2.2.2)]⟩)]) ?tree1_011 ?cont1_011
     case tree1_011 =>
      refine wh_begin (by kernel_rfl) hm9 [(1, ⟨true, b1, 58, cur⟩), (90, ⟨true, ob, 39, oa⟩), (2, ⟨true, b2, 39, Ru.arr (f i)⟩), (3, ⟨true, b3, 54, ivArr (((f i).num.toNat, (f i).num.toNat))⟩)] ⟨rfl, rfl, rfl, rfl, trivial⟩ (fun w10 hm10 => ?_)
      refine tk (fuel := 16) (i := 0) ?_ he21 hm10 ⟨rfl, rfl, rfl, rfl, trivial⟩ (.pointer (some ⟨b2, 1, none⟩)) ?_ ?_ ?_ ?_ fun a22 he22 => ?_
      rotate_left
      rw [List.getElem?_toArray]; rfl
      exact ⟨by kernel_rfl, by kernel_rfl, by kernel_rfl⟩
      exact ⟨fun _ _ _ _ h => h, rfl, rfl⟩
      exact fun wS hmS => rn_field _ _ _ rfl _ (.pointer (some ⟨b2, 1, none⟩)) (he21.tmp 7 _ rfl) (by kernel_rfl)
      refine tk (fuel := 15) (i := 1) ?_ he22 hm10 ⟨rfl, rfl, rfl, rfl, trivial⟩ (.int .i64 ((f i).op)) ?_ ?_ ?_ ?_ fun a23 he23 => ?_
      rotate_left
      rw [List.getElem?_toArray]; rfl
      exact ⟨by kernel_rfl, by kernel_rfl, by kernel_rfl⟩
      exact ⟨fun _ _ _ _ h => h, rfl, rfl⟩
      exact fun wS hmS => rn_load1 hmS 2 rfl _ _ rfl (1) (he22.tmp 35 _ rfl) one3 _ rfl
      refine tk (fuel := 14) (i := 2) ?_ he23 hm10 ⟨rfl, rfl, rfl, rfl, trivial⟩ (.pointer (some ⟨b2, 0, none⟩)) ?_ ?_ ?_ ?_ fun a24 he24 => ?_
      rotate_left
      rw [List.getElem?_toArray]; rfl
      exact ⟨by kernel_rfl, by kernel_rfl, by kernel_rfl⟩
      exact ⟨fun _ _ _ _ h => h, rfl, rfl⟩
      exact fun wS hmS => rn_field _ _ _ rfl _ (.pointer (some ⟨b2, 0, none⟩)) (he23.tmp 7 _ rfl) (by kernel_rfl)
      refine tk (fuel := 13) (i := 3) ?_ he24 hm10 ⟨rfl, rfl, rfl, rfl, trivial⟩ (.int .i64 ((((f i).at_.toNat : Nat) : Int))) ?_ ?_ ?_ ?_ fun a25 he25 => ?_
      rotate_left
      rw [List.getElem?_toArray]; rfl
      exact ⟨by kernel_rfl, by kernel_rfl, by kernel_rfl⟩
      exact ⟨fun _ _ _ _ h => h, rfl, rfl⟩
      exact fun wS hmS => rn_load1 hmS 2 rfl _ _ rfl (0) (he24.tmp 37 _ rfl) one3 _ (Ru.g_at' _ hri)
      refine tk (fuel := 12) (i := 4) ?_ he25 hm10 ⟨rfl, rfl, rfl, rfl, trivial⟩ (.pointer (some ⟨b1, 0 + ((f i).at_.toNat) * 4, none⟩)) ?_ ?_ ?_ ?_ fun a26 he26 => ?_
      rotate_left
      rw [List.getElem?_toArray]; rfl
      exact ⟨by kernel_rfl, by kernel_rfl, by kernel_rfl⟩
      exact ⟨fun _ _ _ _ h => h, rfl, rfl⟩
      exact fun wS hmS => rn_indexA _ _ _ rfl _ _ (.pointer (some ⟨b1, 0 + ((f i).at_.toNat) * 4, none⟩)) (he25.tmp 3 _ rfl) (he25.tmp 38 _ rfl) (ixA 12 54 4 (by kernel_rfl) (fun w => by kernel_rfl) b1 0 ((f i).at_.toNat) (by omega) (by decide) _)
      refine tk (fuel := 11) (i := 5) ?_ he26 hm10 ⟨rfl, rfl, rfl, rfl, trivial⟩ (.agg (ivArr (atS (S) (((f i).at_.toNat))))) ?_ ?_ ?_ ?_ fun a27 he27 => ?_
      rotate_left
      rw [List.getElem?_toArray]; rfl
      exact ⟨by kernel_rfl, by kernel_rfl, by kernel_rfl⟩
      exact ⟨fun _ _ _ _ h => h, rfl, rfl⟩
      exact fun wS hmS => rn_loadA hmS 1 rfl _ _ rfl (0 + ((f i).at_.toNat) * 4) (he26.tmp 39 _ rfl) 4 agg54 (ivArr (atS (S) (((f i).at_.toNat)))) (hrw.ext ivArr.sz (hS.get hat) _ (by omega)) rfl
      refine tk (fuel := 10) (i := 6) ?_ he27 hm10 ⟨rfl, rfl, rfl, rfl, trivial⟩ (.agg (ivArr (((f i).num.toNat, (f i).num.toNat)))) ?_ ?_ ?_ ?_ fun a28 he28 => ?_
      rotate_left
      rw [List.getElem?_toArray]; rfl
      exact ⟨by kernel_rfl, by kernel_rfl, by kernel_rfl⟩
      exact ⟨fun _ _ _ _ h => h, rfl, rfl⟩
      exact fun wS hmS => rn_loadA hmS 3 rfl _ _ rfl (0) (he27.tmp 8 _ rfl) 4 agg54 (ivArr (((f i).num.toNat, (f i).num.toNat))) (by kernel_rfl) rfl
      refine wpAnyH_ready (fuel := 9) (rs := [7, 12, 13]) ?hr1e011_8 (by simp) (AllReadyH.cons (o := ?o1e011_8_0) ?hi1e011_8_0 ?st1e011_8_0 (AllReadyH.cons (o := ?o1e011_8_1) ?hi1e011_8_1 ?st1e011_8_1 (AllReadyH.cons (o := ?o1e011_8_2) ?hi1e011_8_2 ?st1e011_8_2 AllReadyH.nil)))
      case hr1e011_8 => kernel_rfl
      case hi1e011_8_0 => rw [List.getElem?_toArray]; rfl
      case hi1e011_8_1 => rw [List.getElem?_toArray]; rfl
      case hi1e011_8_2 => rw [List.getElem?_toArray]; rfl
      case st1e011_8_0 =>
       refine st_call he28 hm10 ⟨rfl, rfl, rfl, rfl, trivial⟩ rfl rfl _ #[.int .i64 ((f i).op), .agg (ivArr (atS (S) (((f i).at_.toNat)))), .agg (ivArr (((f i).num.toNat, (f i).num.toNat))), .bool true] (enter_call _ _ _ rfl 37 #[] #[] rfl #[.int .i64 ((f i).op), .agg (ivArr (atS (S) (((f i).at_.toNat)))), .agg (ivArr (((f i).num.toNat, (f i).num.toNat))), .bool true] (map4 (he28.tmp 36 _ rfl) (he28.tmp 40 _ rfl) (he28.tmp 41 _ rfl) rfl) #[.int .i64 ((f i).op), .agg (ivArr (atS (S) (((f i).at_.toNat)))), .agg (ivArr (((f i).num.toNat, (f i).num.toNat))), .bool true] rfl (fun _ _ => by kernel_rfl)) (.tuple #[.agg (optA (brR (f i) S true)), .agg (#[.int .i64 (P1.1), .int .i64 (P1.2.1), .int .i64 (P1.2.2.1), .int .i64 (P1.2.2.2)]), .bool ((brR (f i) S true).isSome)]) (hP1 _) (fun a29 w11 he29 hm11 => ?_)
       refine tk (fuel := 8) (i := 8) ?_ he29 hm11 ⟨rfl, rfl, rfl, rfl, trivial⟩ (.tuple #[.agg (optA (brR (f i) S true)), .agg (#[.int .i64 (P1.1), .int .i64 (P1.2.1), .int .i64 (P1.2.2.1), .int .i64 (P1.2.2.2)]), .bool ((brR (f i) S true).isSome)]) ?_ ?_ ?_ ?_ fun a30 he30 => ?_
       rotate_left
       rw [List.getElem?_toArray]; rfl
       exact ⟨by kernel_rfl, by kernel_rfl, by kernel_rfl⟩
       exact ⟨fun _ _ _ _ h => h, rfl, rfl⟩
       exact fun wS hmS => rn_move _ (Or.inl rfl) _ (he29.tmp 42 _ rfl)
       refine tk (fuel := 7) (i := 9) ?_ he30 hm11 ⟨rfl, rfl, rfl, rfl, trivial⟩ (.agg (optA (brR (f i) S true))) ?_ ?_ ?_ ?_ fun a31 he31 => ?_
       rotate_left
       rw [List.getElem?_toArray]; rfl
       exact ⟨by kernel_rfl, by kernel_rfl, by kernel_rfl⟩
       exact ⟨fun _ _ _ _ h => h, rfl, rfl⟩
       exact fun wS hmS => rn_extract _ _ rfl _ (he30.tmp 34 _ rfl) _ rfl
       refine tk (fuel := 6) (i := 10) ?_ he31 hm11 ⟨rfl, rfl, rfl, rfl, trivial⟩ (.agg (#[.int .i64 (P1.1), .int .i64 (P1.2.1), .int .i64 (P1.2.2.1), .int .i64 (P1.2.2.2)])) ?_ ?_ ?_ ?_ fun a32 he32 => ?_
       rotate_left
       rw [List.getElem?_toArray]; rfl
       exact ⟨by kernel_rfl, by kernel_rfl, by kernel_rfl⟩
       exact ⟨fun _ _ _ _ h => h, rfl, rfl⟩
       exact fun wS hmS => rn_extract _ _ rfl _ (he31.tmp 34 _ rfl) _ rfl
       refine tk (fuel := 5) (i := 11) ?_ he32 hm11 ⟨rfl, rfl, rfl, rfl, trivial⟩ (.bool ((brR (f i) S true).isSome)) ?_ ?_ ?_ ?_ fun a33 he33 => ?_
       rotate_left
       rw [List.getElem?_toArray]; rfl
       exact ⟨by kernel_rfl, by kernel_rfl, by kernel_rfl⟩
       exact ⟨fun _ _ _ _ h => h, rfl, rfl⟩
       exact fun wS hmS => rn_extract _ _ rfl _ (he32.tmp 34 _ rfl) _ rfl
       refine wpAnyH_ready (fuel := 4) (rs := [12, 13]) ?hr1e011_13 (by simp) (AllReadyH.cons (o := ?o1e011_13_0) ?hi1e011_13_0 ?st1e011_13_0 (AllReadyH.cons (o := ?o1e011_13_1) ?hi1e011_13_1 ?st1e011_13_1 AllReadyH.nil))
       case hr1e011_13 => kernel_rfl
       case hi1e011_13_0 => rw [List.getElem?_toArray]; rfl
       case hi1e011_13_1 => rw [List.getElem?_toArray]; rfl
       case st1e011_13_0 =>
        refine st_alloc he33 hm11 4 rfl ⟨rfl, rfl, rfl, rfl, trivial⟩ rfl rfl _ rfl (.agg #[.int .i64 0, .int .i64 0, .int .i64 0, .int .i64 0]) (fun w => by kernel_rfl) (#[.int .i64 (0), .int .i64 (0), .int .i64 (0), .int .i64 (0)]) rfl (fun _ => ⟨rfl, rfl, rfl, rfl, trivial⟩) (fun a34 w12 b4 he34 hm12 => ?_)
        refine wpAnyH_ready (fuel := 3) (rs := [13]) ?hr1e011_14 (by simp) (AllReadyH.cons (o := ?o1e011_14_0) ?hi1e011_14_0 ?st1e011_14_0 AllReadyH.nil)
        case hr1e011_14 => kernel_rfl
        case hi1e011_14_0 => rw [List.getElem?_toArray]; rfl
        case st1e011_14_0 =>
         refine st_alloc he34 hm12 5 rfl ⟨rfl, rfl, rfl, rfl, trivial⟩ rfl rfl _ rfl (.agg #[.int .i64 0, .int .i64 0, .int .i64 0, .int .i64 0]) (fun w => by kernel_rfl) (#[.int .i64 (0), .int .i64 (0), .int .i64 (0), .int .i64 (0)]) rfl (fun _ => ⟨rfl, rfl, rfl, rfl, trivial⟩) (fun a35 w13 b5 he35 hm13 => ?_)
         refine wh_store (i := 14) (op := ?op1e011_15) (fuel := 2) ?hr1e011_15 ?hi1e011_15 he35 hm13 4 rfl ?hd1e011_15 ?hw1e011_15 54 (.tmp 9) (.tmp 43) ?ho1e011_15 (0) (he35.tmp 9 _ rfl) _ (he35.tmp 43 _ rfl) 4 agg54.size (optA.sz _) (optA.one _) (by decide) (optA (brR (f i) S true)) (optA_ovw _ _ _ _ _) ⟨rfl, rfl, rfl, rfl, trivial⟩ (fun w14 hm14 => ?k1e011_15)
         case hi1e011_15 => rw [List.getElem?_toArray]; rfl
         case hw1e011_15 => exact rfl
         case hr1e011_15 => kernel_rfl
         case hd1e011_15 | ho1e011_15 => rfl
         refine wh_store (i := 15) (op := ?op1e011_16) (fuel := 1) ?hr1e011_16 ?hi1e011_16 he35 hm14 5 rfl ?hd1e011_16 ?hw1e011_16 54 (.tmp 10) (.tmp 44) ?ho1e011_16 (0) (he35.tmp 10 _ rfl) _ (he35.tmp 44 _ rfl) 4 agg54.size rfl (by kernel_rfl) (by simp) (#[.int .i64 (P1.1), .int .i64 (P1.2.1), .int .i64 (P1.2.2.1), .int .i64 (P1.2.2.2)]) (by kernel_rfl) ⟨rfl, rfl, rfl, rfl, trivial⟩ (fun w15 hm15 => ?k1e011_16)
         case hi1e011_16 => rw [List.getElem?_toArray]; rfl
         case hw1e011_16 => exact rfl
         case hr1e011_16 => kernel_rfl
         case hd1e011_16 | ho1e011_16 => rfl
         refine tk (fuel := 0) (i := 16) ?_ he35 hm15 ⟨rfl, rfl, rfl, rfl, trivial⟩ (.bool ((brR (f i) S true).isSome)) ?_ ?_ ?_ ?_ fun a36 he36 => ?_
         rotate_left
         rw [List.getElem?_toArray]; rfl
         exact ⟨by kernel_rfl, by kernel_rfl, by kernel_rfl⟩
         exact ⟨fun _ _ _ _ h => h, rfl, rfl⟩
         exact fun wS hmS => rn_move _ (Or.inr rfl) _ (he35.tmp 45 _ rfl)
         refine wpAnyH_done (by kernel_rfl) ?_ _
         exact ⟨b4, b5, he36.sub _ ⟨rfl, rfl, rfl, rfl, rfl, rfl, rfl, rfl, rfl, rfl, rfl, rfl, rfl, rfl, rfl, rfl, rfl, rfl, rfl, rfl, rfl, rfl, rfl, rfl, rfl, rfl, rfl, rfl, rfl, rfl, rfl, rfl, rfl, rfl, rfl, trivial⟩, hm15.sub _ ⟨rfl, rfl, rfl, rfl, rfl, rfl, trivial⟩⟩
       case st1e011_13_1 =>
        refine st_alloc he33 hm11 5 rfl ⟨rfl, rfl, rfl, rfl, trivial⟩ rfl rfl _ rfl (.agg #[.int .i64 0, .int .i64 0, .int .i64 0, .int .i64 0]) (fun w => by kernel_rfl) (#[.int .i64 (0), .int .i64 (0), .int .i64 (0), .int .i64 (0)]) rfl (fun _ => ⟨rfl, rfl, rfl, rfl, trivial⟩) (fun a34 w12 b5 he34 hm12 => ?_)
        refine wpAnyH_ready (fuel := 3) (rs := [12]) ?hr1e011_18 (by simp) (AllReadyH.cons (o := ?o1e011_18_0) ?hi1e011_18_0 ?st1e011_18_0 AllReadyH.nil)
        case hr1e011_18 => kernel_rfl
        case hi1e011_18_0 => rw [List.getElem?_toArray]; rfl
        case st1e011_18_0 =>
         refine st_alloc he34 hm12 4 rfl ⟨rfl, rfl, rfl, rfl, trivial⟩ rfl rfl _ rfl (.agg #[.int .i64 0, .int .i64 0, .int .i64 0, .int .i64 0]) (fun w => by kernel_rfl) (#[.int .i64 (0), .int .i64 (0), .int .i64 (0), .int .i64 (0)]) rfl (fun _ => ⟨rfl, rfl, rfl, rfl, trivial⟩) (fun a35 w13 b4 he35 hm13 => ?_)
         refine wh_store (i := 14) (op := ?op1e011_19) (fuel := 2) ?hr1e011_19 ?hi1e011_19 he35 hm13 4 rfl ?hd1e011_19 ?hw1e011_19 54 (.tmp 9) (.tmp 43) ?ho1e011_19 (0) (he35.tmp 9 _ rfl) _ (he35.tmp 43 _ rfl) 4 agg54.size (optA.sz _) (optA.one _) (by decide) (optA (brR (f i) S true)) (optA_ovw _ _ _ _ _) ⟨rfl, rfl, rfl, rfl, trivial⟩ (fun w14 hm14 => ?k1e011_19)
         case hi1e011_19 => rw [List.getElem?_toArray]; rfl
         case hw1e011_19 => exact rfl
         case hr1e011_19 => kernel_rfl
         case hd1e011_19 | ho1e011_19 => rfl
         refine wh_store (i := 15) (op := ?op1e011_20) (fuel := 1) ?hr1e011_20 ?hi1e011_20 he35 hm14 5 rfl ?hd1e011_20 ?hw1e011_20 54 (.tmp 10) (.tmp 44) ?ho1e011_20 (0) (he35.tmp 10 _ rfl) _ (he35.tmp 44 _ rfl) 4 agg54.size rfl (by kernel_rfl) (by simp) (#[.int .i64 (P1.1), .int .i64 (P1.2.1), .int .i64 (P1.2.2.1), .int .i64 (P1.2.2.2)]) (by kernel_rfl) ⟨rfl, rfl, rfl, rfl, trivial⟩ (fun w15 hm15 => ?k1e011_20)
         case hi1e011_20 => rw [List.getElem?_toArray]; rfl
         case hw1e011_20 => exact rfl
         case hr1e011_20 => kernel_rfl
         case hd1e011_20 | ho1e011_20 => rfl
         refine tk (fuel := 0) (i := 16) ?_ he35 hm15 ⟨rfl, rfl, rfl, rfl, trivial⟩ (.bool ((brR (f i) S true).isSome)) ?_ ?_ ?_ ?_ fun a36 he36 => ?_
         rotate_left
         rw [List.getElem?_toArray]; rfl
         exact ⟨by kernel_rfl, by kernel_rfl, by kernel_rfl⟩
         exact ⟨fun _ _ _ _ h => h, rfl, rfl⟩
         exact fun wS hmS => rn_move _ (Or.inr rfl) _ (he35.tmp 45 _ rfl)
         refine wpAnyH_done (by kernel_rfl) ?_ _
         exact ⟨b4, b5, he36.sub _ ⟨rfl, rfl, rfl, rfl, rfl, rfl, rfl, rfl, rfl, rfl, rfl, rfl, rfl, rfl, rfl, rfl, rfl, rfl, rfl, rfl, rfl, rfl, rfl, rfl, rfl, rfl, rfl, rfl, rfl, rfl, rfl, rfl, rfl, rfl, rfl, trivial⟩, hm15.sub _ ⟨rfl, rfl, rfl, rfl, rfl, rfl, trivial⟩⟩
      case st1e011_8_1 =>
       refine st_alloc he28 hm10 4 rfl ⟨rfl, rfl, rfl, rfl, trivial⟩ rfl rfl _ rfl (.agg #[.int .i64 0, .int .i64 0, .int .i64 0, .int .i64 0]) (fun w => by kernel_rfl) (#[.int .i64 (0), .int .i64 (0), .int .i64 (0), .int .i64 (0)]) rfl (fun _ => ⟨rfl, rfl, rfl, rfl, trivial⟩) (fun a29 w11 b4 he29 hm11 => ?_)
       refine wpAnyH_ready (fuel := 8) (rs := [7, 13]) ?hr1e011_22 (by simp) (AllReadyH.cons (o := ?o1e011_22_0) ?hi1e011_22_0 ?st1e011_22_0 (AllReadyH.cons (o := ?o1e011_22_1) ?hi1e011_22_1 ?st1e011_22_1 AllReadyH.nil))
       case hr1e011_22 => kernel_rfl
       case hi1e011_22_0 => rw [List.getElem?_toArray]; rfl
       case hi1e011_22_1 => rw [List.getElem?_toArray]; rfl
       case st1e011_22_0 =>
        refine st_call he29 hm11 ⟨rfl, rfl, rfl, rfl, trivial⟩ rfl rfl _ #[.int .i64 ((f i).op), .agg (ivArr (atS (S) (((f i).at_.toNat)))), .agg (ivArr (((f i).num.toNat, (f i).num.toNat))), .bool true] (enter_call _ _ _ rfl 37 #[] #[] rfl #[.int .i64 ((f i).op), .agg (ivArr (atS (S) (((f i).at_.toNat)))), .agg (ivArr (((f i).num.toNat, (f i).num.toNat))), .bool true] (map4 (he29.tmp 36 _ rfl) (he29.tmp 40 _ rfl) (he29.tmp 41 _ rfl) rfl) #[.int .i64 ((f i).op), .agg (ivArr (atS (S) (((f i).at_.toNat)))), .agg (ivArr (((f i).num.toNat, (f i).num.toNat))), .bool true] rfl (fun _ _ => by kernel_rfl)) (.tuple #[.agg (optA (brR (f i) S true)), .agg (#[.int .i64 (P1.1), .int .i64 (P1.2.1), .int .i64 (P1.2.2.1), .int .i64 (P1.2.2.2)]), .bool ((brR (f i) S true).isSome)]) (hP1 _) (fun a30 w12 he30 hm12 => ?_)
        refine tk (fuel := 7) (i := 8) ?_ he30 hm12 ⟨rfl, rfl, rfl, rfl, trivial⟩ (.tuple #[.agg (optA (brR (f i) S true)), .agg (#[.int .i64 (P1.1), .int .i64 (P1.2.1), .int .i64 (P1.2.2.1), .int .i64 (P1.2.2.2)]), .bool ((brR (f i) S true).isSome)]) ?_ ?_ ?_ ?_ fun a31 he31 => ?_
        rotate_left
        rw [List.getElem?_toArray]; rfl
        exact ⟨by kernel_rfl, by kernel_rfl, by kernel_rfl⟩
        exact ⟨fun _ _ _ _ h => h, rfl, rfl⟩
        exact fun wS hmS => rn_move _ (Or.inl rfl) _ (he30.tmp 42 _ rfl)
        refine tk (fuel := 6) (i := 9) ?_ he31 hm12 ⟨rfl, rfl, rfl, rfl, trivial⟩ (.agg (optA (brR (f i) S true))) ?_ ?_ ?_ ?_ fun a32 he32 => ?_
        rotate_left
        rw [List.getElem?_toArray]; rfl
        exact ⟨by kernel_rfl, by kernel_rfl, by kernel_rfl⟩
        exact ⟨fun _ _ _ _ h => h, rfl, rfl⟩
        exact fun wS hmS => rn_extract _ _ rfl _ (he31.tmp 34 _ rfl) _ rfl
        refine tk (fuel := 5) (i := 10) ?_ he32 hm12 ⟨rfl, rfl, rfl, rfl, trivial⟩ (.agg (#[.int .i64 (P1.1), .int .i64 (P1.2.1), .int .i64 (P1.2.2.1), .int .i64 (P1.2.2.2)])) ?_ ?_ ?_ ?_ fun a33 he33 => ?_
        rotate_left
        rw [List.getElem?_toArray]; rfl
        exact ⟨by kernel_rfl, by kernel_rfl, by kernel_rfl⟩
        exact ⟨fun _ _ _ _ h => h, rfl, rfl⟩
        exact fun wS hmS => rn_extract _ _ rfl _ (he32.tmp 34 _ rfl) _ rfl
        refine tk (fuel := 4) (i := 11) ?_ he33 hm12 ⟨rfl, rfl, rfl, rfl, trivial⟩ (.bool ((brR (f i) S true).isSome)) ?_ ?_ ?_ ?_ fun a34 he34 => ?_
        rotate_left
        rw [List.getElem?_toArray]; rfl
        exact ⟨by kernel_rfl, by kernel_rfl, by kernel_rfl⟩
        exact ⟨fun _ _ _ _ h => h, rfl, rfl⟩
        exact fun wS hmS => rn_extract _ _ rfl _ (he33.tmp 34 _ rfl) _ rfl
        refine wpAnyH_ready (fuel := 3) (rs := [13]) ?hr1e011_27 (by simp) (AllReadyH.cons (o := ?o1e011_27_0) ?hi1e011_27_0 ?st1e011_27_0 AllReadyH.nil)
        case hr1e011_27 => kernel_rfl
        case hi1e011_27_0 => rw [List.getElem?_toArray]; rfl
        case st1e011_27_0 =>
         refine st_alloc he34 hm12 5 rfl ⟨rfl, rfl, rfl, rfl, trivial⟩ rfl rfl _ rfl (.agg #[.int .i64 0, .int .i64 0, .int .i64 0, .int .i64 0]) (fun w => by kernel_rfl) (#[.int .i64 (0), .int .i64 (0), .int .i64 (0), .int .i64 (0)]) rfl (fun _ => ⟨rfl, rfl, rfl, rfl, trivial⟩) (fun a35 w13 b5 he35 hm13 => ?_)
         refine wh_store (i := 14) (op := ?op1e011_28) (fuel := 2) ?hr1e011_28 ?hi1e011_28 he35 hm13 4 rfl ?hd1e011_28 ?hw1e011_28 54 (.tmp 9) (.tmp 43) ?ho1e011_28 (0) (he35.tmp 9 _ rfl) _ (he35.tmp 43 _ rfl) 4 agg54.size (optA.sz _) (optA.one _) (by decide) (optA (brR (f i) S true)) (optA_ovw _ _ _ _ _) ⟨rfl, rfl, rfl, rfl, trivial⟩ (fun w14 hm14 => ?k1e011_28)
         case hi1e011_28 => rw [List.getElem?_toArray]; rfl
         case hw1e011_28 => exact rfl
         case hr1e011_28 => kernel_rfl
         case hd1e011_28 | ho1e011_28 => rfl
         refine wh_store (i := 15) (op := ?op1e011_29) (fuel := 1) ?hr1e011_29 ?hi1e011_29 he35 hm14 5 rfl ?hd1e011_29 ?hw1e011_29 54 (.tmp 10) (.tmp 44) ?ho1e011_29 (0) (he35.tmp 10 _ rfl) _ (he35.tmp 44 _ rfl) 4 agg54.size rfl (by kernel_rfl) (by simp) (#[.int .i64 (P1.1), .int .i64 (P1.2.1), .int .i64 (P1.2.2.1), .int .i64 (P1.2.2.2)]) (by kernel_rfl) ⟨rfl, rfl, rfl, rfl, trivial⟩ (fun w15 hm15 => ?k1e011_29)
         case hi1e011_29 => rw [List.getElem?_toArray]; rfl
         case hw1e011_29 => exact rfl
         case hr1e011_29 => kernel_rfl
         case hd1e011_29 | ho1e011_29 => rfl
         refine tk (fuel := 0) (i := 16) ?_ he35 hm15 ⟨rfl, rfl, rfl, rfl, trivial⟩ (.bool ((brR (f i) S true).isSome)) ?_ ?_ ?_ ?_ fun a36 he36 => ?_
         rotate_left
         rw [List.getElem?_toArray]; rfl
         exact ⟨by kernel_rfl, by kernel_rfl, by kernel_rfl⟩
         exact ⟨fun _ _ _ _ h => h, rfl, rfl⟩
         exact fun wS hmS => rn_move _ (Or.inr rfl) _ (he35.tmp 45 _ rfl)
         refine wpAnyH_done (by kernel_rfl) ?_ _
         exact ⟨b4, b5, he36.sub _ ⟨rfl, rfl, rfl, rfl, rfl, rfl, rfl, rfl, rfl, rfl, rfl, rfl, rfl, rfl, rfl, rfl, rfl, rfl, rfl, rfl, rfl, rfl, rfl, rfl, rfl, rfl, rfl, rfl, rfl, rfl, rfl, rfl, rfl, rfl, rfl, trivial⟩, hm15.sub _ ⟨rfl, rfl, rfl, rfl, rfl, rfl, trivial⟩⟩
       case st1e011_22_1 =>
        refine st_alloc he29 hm11 5 rfl ⟨rfl, rfl, rfl, rfl, trivial⟩ rfl rfl _ rfl (.agg #[.int .i64 0, .int .i64 0, .int .i64 0, .int .i64 0]) (fun w => by kernel_rfl) (#[.int .i64 (0), .int .i64 (0), .int .i64 (0), .int .i64 (0)]) rfl (fun _ => ⟨rfl, rfl, rfl, rfl, trivial⟩) (fun a30 w12 b5 he30 hm12 => ?_)
        refine wpAnyH_ready (fuel := 7) (rs := [7]) ?hr1e011_31 (by simp) (AllReadyH.cons (o := ?o1e011_31_0) ?hi1e011_31_0 ?st1e011_31_0 AllReadyH.nil)
        case hr1e011_31 => kernel_rfl
        case hi1e011_31_0 => rw [List.getElem?_toArray]; rfl
        case st1e011_31_0 =>
         refine st_call he30 hm12 ⟨rfl, rfl, rfl, rfl, trivial⟩ rfl rfl _ #[.int .i64 ((f i).op), .agg (ivArr (atS (S) (((f i).at_.toNat)))), .agg (ivArr (((f i).num.toNat, (f i).num.toNat))), .bool true] (enter_call _ _ _ rfl 37 #[] #[] rfl #[.int .i64 ((f i).op), .agg (ivArr (atS (S) (((f i).at_.toNat)))), .agg (ivArr (((f i).num.toNat, (f i).num.toNat))), .bool true] (map4 (he30.tmp 36 _ rfl) (he30.tmp 40 _ rfl) (he30.tmp 41 _ rfl) rfl) #[.int .i64 ((f i).op), .agg (ivArr (atS (S) (((f i).at_.toNat)))), .agg (ivArr (((f i).num.toNat, (f i).num.toNat))), .bool true] rfl (fun _ _ => by kernel_rfl)) (.tuple #[.agg (optA (brR (f i) S true)), .agg (#[.int .i64 (P1.1), .int .i64 (P1.2.1), .int .i64 (P1.2.2.1), .int .i64 (P1.2.2.2)]), .bool ((brR (f i) S true).isSome)]) (hP1 _) (fun a31 w13 he31 hm13 => ?_)
         refine tk (fuel := 6) (i := 8) ?_ he31 hm13 ⟨rfl, rfl, rfl, rfl, trivial⟩ (.tuple #[.agg (optA (brR (f i) S true)), .agg (#[.int .i64 (P1.1), .int .i64 (P1.2.1), .int .i64 (P1.2.2.1), .int .i64 (P1.2.2.2)]), .bool ((brR (f i) S true).isSome)]) ?_ ?_ ?_ ?_ fun a32 he32 => ?_
         rotate_left
         rw [List.getElem?_toArray]; rfl
         exact ⟨by kernel_rfl, by kernel_rfl, by kernel_rfl⟩
         exact ⟨fun _ _ _ _ h => h, rfl, rfl⟩
         exact fun wS hmS => rn_move _ (Or.inl rfl) _ (he31.tmp 42 _ rfl)
         refine tk (fuel := 5) (i := 9) ?_ he32 hm13 ⟨rfl, rfl, rfl, rfl, trivial⟩ (.agg (optA (brR (f i) S true))) ?_ ?_ ?_ ?_ fun a33 he33 => ?_
         rotate_left
         rw [List.getElem?_toArray]; rfl
         exact ⟨by kernel_rfl, by kernel_rfl, by kernel_rfl⟩
         exact ⟨fun _ _ _ _ h => h, rfl, rfl⟩
         exact fun wS hmS => rn_extract _ _ rfl _ (he32.tmp 34 _ rfl) _ rfl
         refine tk (fuel := 4) (i := 10) ?_ he33 hm13 ⟨rfl, rfl, rfl, rfl, trivial⟩ (.agg (#[.int .i64 (P1.1), .int .i64 (P1.2.1), .int .i64 (P1.2.2.1), .int .i64 (P1.2.2.2)])) ?_ ?_ ?_ ?_ fun a34 he34 => ?_
         rotate_left
         rw [List.getElem?_toArray]; rfl
         exact ⟨by kernel_rfl, by kernel_rfl, by kernel_rfl⟩
         exact ⟨fun _ _ _ _ h => h, rfl, rfl⟩
         exact fun wS hmS => rn_extract _ _ rfl _ (he33.tmp 34 _ rfl) _ rfl
         refine tk (fuel := 3) (i := 11) ?_ he34 hm13 ⟨rfl, rfl, rfl, rfl, trivial⟩ (.bool ((brR (f i) S true).isSome)) ?_ ?_ ?_ ?_ fun a35 he35 => ?_
         rotate_left
         rw [List.getElem?_toArray]; rfl
         exact ⟨by kernel_rfl, by kernel_rfl, by kernel_rfl⟩
         exact ⟨fun _ _ _ _ h => h, rfl, rfl⟩
         exact fun wS hmS => rn_extract _ _ rfl _ (he34.tmp 34 _ rfl) _ rfl
         refine wh_store (i := 14) (op := ?op1e011_36) (fuel := 2) ?hr1e011_36 ?hi1e011_36 he35 hm13 4 rfl ?hd1e011_36 ?hw1e011_36 54 (.tmp 9) (.tmp 43) ?ho1e011_36 (0) (he35.tmp 9 _ rfl) _ (he35.tmp 43 _ rfl) 4 agg54.size (optA.sz _) (optA.one _) (by decide) (optA (brR (f i) S true)) (optA_ovw _ _ _ _ _) ⟨rfl, rfl, rfl, rfl, trivial⟩ (fun w14 hm14 => ?k1e011_36)
         case hi1e011_36 => rw [List.getElem?_toArray]; rfl
         case hw1e011_36 => exact rfl
         case hr1e011_36 => kernel_rfl
         case hd1e011_36 | ho1e011_36 => rfl
         refine wh_store (i := 15) (op := ?op1e011_37) (fuel := 1) ?hr1e011_37 ?hi1e011_37 he35 hm14 5 rfl ?hd1e011_37 ?hw1e011_37 54 (.tmp 10) (.tmp 44) ?ho1e011_37 (0) (he35.tmp 10 _ rfl) _ (he35.tmp 44 _ rfl) 4 agg54.size rfl (by kernel_rfl) (by simp) (#[.int .i64 (P1.1), .int .i64 (P1.2.1), .int .i64 (P1.2.2.1), .int .i64 (P1.2.2.2)]) (by kernel_rfl) ⟨rfl, rfl, rfl, rfl, trivial⟩ (fun w15 hm15 => ?k1e011_37)
         case hi1e011_37 => rw [List.getElem?_toArray]; rfl
         case hw1e011_37 => exact rfl
         case hr1e011_37 => kernel_rfl
         case hd1e011_37 | ho1e011_37 => rfl
         refine tk (fuel := 0) (i := 16) ?_ he35 hm15 ⟨rfl, rfl, rfl, rfl, trivial⟩ (.bool ((brR (f i) S true).isSome)) ?_ ?_ ?_ ?_ fun a36 he36 => ?_
         rotate_left
         rw [List.getElem?_toArray]; rfl
         exact ⟨by kernel_rfl, by kernel_rfl, by kernel_rfl⟩
         exact ⟨fun _ _ _ _ h => h, rfl, rfl⟩
         exact fun wS hmS => rn_move _ (Or.inr rfl) _ (he35.tmp 45 _ rfl)
         refine wpAnyH_done (by kernel_rfl) ?_ _
         exact ⟨b4, b5, he36.sub _ ⟨rfl, rfl, rfl, rfl, rfl, rfl, rfl, rfl, rfl, rfl, rfl, rfl, rfl, rfl, rfl, rfl, rfl, rfl, rfl, rfl, rfl, rfl, rfl, rfl, rfl, rfl, rfl, rfl, rfl, rfl, rfl, rfl, rfl, rfl, rfl, trivial⟩, hm15.sub _ ⟨rfl, rfl, rfl, rfl, rfl, rfl, trivial⟩⟩
      case st1e011_8_2 =>
       refine st_alloc he28 hm10 5 rfl ⟨rfl, rfl, rfl, rfl, trivial⟩ rfl rfl _ rfl (.agg #[.int .i64 0, .int .i64 0, .int .i64 0, .int .i64 0]) (fun w => by kernel_rfl) (#[.int .i64 (0), .int .i64 (0), .int .i64 (0), .int .i64 (0)]) rfl (fun _ => ⟨rfl, rfl, rfl, rfl, trivial⟩) (fun a29 w11 b5 he29 hm11 => ?_)
       refine wpAnyH_ready (fuel := 8) (rs := [7, 12]) ?hr1e011_39 (by simp) (AllReadyH.cons (o := ?o1e011_39_0) ?hi1e011_39_0 ?st1e011_39_0 (AllReadyH.cons (o := ?o1e011_39_1) ?hi1e011_39_1 ?st1e011_39_1 AllReadyH.nil))
       case hr1e011_39 => kernel_rfl
       case hi1e011_39_0 => rw [List.getElem?_toArray]; rfl
       case hi1e011_39_1 => rw [List.getElem?_toArray]; rfl
       case st1e011_39_0 =>
        refine st_call he29 hm11 ⟨rfl, rfl, rfl, rfl, trivial⟩ rfl rfl _ #[.int .i64 ((f i).op), .agg (ivArr (atS (S) (((f i).at_.toNat)))), .agg (ivArr (((f i).num.toNat, (f i).num.toNat))), .bool true] (enter_call _ _ _ rfl 37 #[] #[] rfl #[.int .i64 ((f i).op), .agg (ivArr (atS (S) (((f i).at_.toNat)))), .agg (ivArr (((f i).num.toNat, (f i).num.toNat))), .bool true] (map4 (he29.tmp 36 _ rfl) (he29.tmp 40 _ rfl) (he29.tmp 41 _ rfl) rfl) #[.int .i64 ((f i).op), .agg (ivArr (atS (S) (((f i).at_.toNat)))), .agg (ivArr (((f i).num.toNat, (f i).num.toNat))), .bool true] rfl (fun _ _ => by kernel_rfl)) (.tuple #[.agg (optA (brR (f i) S true)), .agg (#[.int .i64 (P1.1), .int .i64 (P1.2.1), .int .i64 (P1.2.2.1), .int .i64 (P1.2.2.2)]), .bool ((brR (f i) S true).isSome)]) (hP1 _) (fun a30 w12 he30 hm12 => ?_)
        refine tk (fuel := 7) (i := 8) ?_ he30 hm12 ⟨rfl, rfl, rfl, rfl, trivial⟩ (.tuple #[.agg (optA (brR (f i) S true)), .agg (#[.int .i64 (P1.1), .int .i64 (P1.2.1), .int .i64 (P1.2.2.1), .int .i64 (P1.2.2.2)]), .bool ((brR (f i) S true).isSome)]) ?_ ?_ ?_ ?_ fun a31 he31 => ?_
        rotate_left
        rw [List.getElem?_toArray]; rfl
        exact ⟨by kernel_rfl, by kernel_rfl, by kernel_rfl⟩
        exact ⟨fun _ _ _ _ h => h, rfl, rfl⟩
        exact fun wS hmS => rn_move _ (Or.inl rfl) _ (he30.tmp 42 _ rfl)
        refine tk (fuel := 6) (i := 9) ?_ he31 hm12 ⟨rfl, rfl, rfl, rfl, trivial⟩ (.agg (optA (brR (f i) S true))) ?_ ?_ ?_ ?_ fun a32 he32 => ?_
        rotate_left
        rw [List.getElem?_toArray]; rfl
        exact ⟨by kernel_rfl, by kernel_rfl, by kernel_rfl⟩
        exact ⟨fun _ _ _ _ h => h, rfl, rfl⟩
        exact fun wS hmS => rn_extract _ _ rfl _ (he31.tmp 34 _ rfl) _ rfl
        refine tk (fuel := 5) (i := 10) ?_ he32 hm12 ⟨rfl, rfl, rfl, rfl, trivial⟩ (.agg (#[.int .i64 (P1.1), .int .i64 (P1.2.1), .int .i64 (P1.2.2.1), .int .i64 (P1.2.2.2)])) ?_ ?_ ?_ ?_ fun a33 he33 => ?_
        rotate_left
        rw [List.getElem?_toArray]; rfl
        exact ⟨by kernel_rfl, by kernel_rfl, by kernel_rfl⟩
        exact ⟨fun _ _ _ _ h => h, rfl, rfl⟩
        exact fun wS hmS => rn_extract _ _ rfl _ (he32.tmp 34 _ rfl) _ rfl
        refine tk (fuel := 4) (i := 11) ?_ he33 hm12 ⟨rfl, rfl, rfl, rfl, trivial⟩ (.bool ((brR (f i) S true).isSome)) ?_ ?_ ?_ ?_ fun a34 he34 => ?_
        rotate_left
        rw [List.getElem?_toArray]; rfl
        exact ⟨by kernel_rfl, by kernel_rfl, by kernel_rfl⟩
        exact ⟨fun _ _ _ _ h => h, rfl, rfl⟩
        exact fun wS hmS => rn_extract _ _ rfl _ (he33.tmp 34 _ rfl) _ rfl
        refine wpAnyH_ready (fuel := 3) (rs := [12]) ?hr1e011_44 (by simp) (AllReadyH.cons (o := ?o1e011_44_0) ?hi1e011_44_0 ?st1e011_44_0 AllReadyH.nil)
        case hr1e011_44 => kernel_rfl
        case hi1e011_44_0 => rw [List.getElem?_toArray]; rfl
        case st1e011_44_0 =>
         refine st_alloc he34 hm12 4 rfl ⟨rfl, rfl, rfl, rfl, trivial⟩ rfl rfl _ rfl (.agg #[.int .i64 0, .int .i64 0, .int .i64 0, .int .i64 0]) (fun w => by kernel_rfl) (#[.int .i64 (0), .int .i64 (0), .int .i64 (0), .int .i64 (0)]) rfl (fun _ => ⟨rfl, rfl, rfl, rfl, trivial⟩) (fun a35 w13 b4 he35 hm13 => ?_)
         refine wh_store (i := 14) (op := ?op1e011_45) (fuel := 2) ?hr1e011_45 ?hi1e011_45 he35 hm13 4 rfl ?hd1e011_45 ?hw1e011_45 54 (.tmp 9) (.tmp 43) ?ho1e011_45 (0) (he35.tmp 9 _ rfl) _ (he35.tmp 43 _ rfl) 4 agg54.size (optA.sz _) (optA.one _) (by decide) (optA (brR (f i) S true)) (optA_ovw _ _ _ _ _) ⟨rfl, rfl, rfl, rfl, trivial⟩ (fun w14 hm14 => ?k1e011_45)
         case hi1e011_45 => rw [List.getElem?_toArray]; rfl
         case hw1e011_45 => exact rfl
         case hr1e011_45 => kernel_rfl
         case hd1e011_45 | ho1e011_45 => rfl
         refine wh_store (i := 15) (op := ?op1e011_46) (fuel := 1) ?hr1e011_46 ?hi1e011_46 he35 hm14 5 rfl ?hd1e011_46 ?hw1e011_46 54 (.tmp 10) (.tmp 44) ?ho1e011_46 (0) (he35.tmp 10 _ rfl) _ (he35.tmp 44 _ rfl) 4 agg54.size rfl (by kernel_rfl) (by simp) (#[.int .i64 (P1.1), .int .i64 (P1.2.1), .int .i64 (P1.2.2.1), .int .i64 (P1.2.2.2)]) (by kernel_rfl) ⟨rfl, rfl, rfl, rfl, trivial⟩ (fun w15 hm15 => ?k1e011_46)
         case hi1e011_46 => rw [List.getElem?_toArray]; rfl
         case hw1e011_46 => exact rfl
         case hr1e011_46 => kernel_rfl
         case hd1e011_46 | ho1e011_46 => rfl
         refine tk (fuel := 0) (i := 16) ?_ he35 hm15 ⟨rfl, rfl, rfl, rfl, trivial⟩ (.bool ((brR (f i) S true).isSome)) ?_ ?_ ?_ ?_ fun a36 he36 => ?_
         rotate_left
         rw [List.getElem?_toArray]; rfl
         exact ⟨by kernel_rfl, by kernel_rfl, by kernel_rfl⟩
         exact ⟨fun _ _ _ _ h => h, rfl, rfl⟩
         exact fun wS hmS => rn_move _ (Or.inr rfl) _ (he35.tmp 45 _ rfl)
         refine wpAnyH_done (by kernel_rfl) ?_ _
         exact ⟨b4, b5, he36.sub _ ⟨rfl, rfl, rfl, rfl, rfl, rfl, rfl, rfl, rfl, rfl, rfl, rfl, rfl, rfl, rfl, rfl, rfl, rfl, rfl, rfl, rfl, rfl, rfl, rfl, rfl, rfl, rfl, rfl, rfl, rfl, rfl, rfl, rfl, rfl, rfl, trivial⟩, hm15.sub _ ⟨rfl, rfl, rfl, rfl, rfl, rfl, trivial⟩⟩
       case st1e011_39_1 =>
        refine st_alloc he29 hm11 4 rfl ⟨rfl, rfl, rfl, rfl, trivial⟩ rfl rfl _ rfl (.agg #[.int .i64 0, .int .i64 0, .int .i64 0, .int .i64 0]) (fun w => by kernel_rfl) (#[.int .i64 (0), .int .i64 (0), .int .i64 (0), .int .i64 (0)]) rfl (fun _ => ⟨rfl, rfl, rfl, rfl, trivial⟩) (fun a30 w12 b4 he30 hm12 => ?_)
        refine wpAnyH_ready (fuel := 7) (rs := [7]) ?hr1e011_48 (by simp) (AllReadyH.cons (o := ?o1e011_48_0) ?hi1e011_48_0 ?st1e011_48_0 AllReadyH.nil)
        case hr1e011_48 => kernel_rfl
        case hi1e011_48_0 => rw [List.getElem?_toArray]; rfl
        case st1e011_48_0 =>
         refine st_call he30 hm12 ⟨rfl, rfl, rfl, rfl, trivial⟩ rfl rfl _ #[.int .i64 ((f i).op), .agg (ivArr (atS (S) (((f i).at_.toNat)))), .agg (ivArr (((f i).num.toNat, (f i).num.toNat))), .bool true] (enter_call _ _ _ rfl 37 #[] #[] rfl #[.int .i64 ((f i).op), .agg (ivArr (atS (S) (((f i).at_.toNat)))), .agg (ivArr (((f i).num.toNat, (f i).num.toNat))), .bool true] (map4 (he30.tmp 36 _ rfl) (he30.tmp 40 _ rfl) (he30.tmp 41 _ rfl) rfl) #[.int .i64 ((f i).op), .agg (ivArr (atS (S) (((f i).at_.toNat)))), .agg (ivArr (((f i).num.toNat, (f i).num.toNat))), .bool true] rfl (fun _ _ => by kernel_rfl)) (.tuple #[.agg (optA (brR (f i) S true)), .agg (#[.int .i64 (P1.1), .int .i64 (P1.2.1), .int .i64 (P1.2.2.1), .int .i64 (P1.2.2.2)]), .bool ((brR (f i) S true).isSome)]) (hP1 _) (fun a31 w13 he31 hm13 => ?_)
         refine tk (fuel := 6) (i := 8) ?_ he31 hm13 ⟨rfl, rfl, rfl, rfl, trivial⟩ (.tuple #[.agg (optA (brR (f i) S true)), .agg (#[.int .i64 (P1.1), .int .i64 (P1.2.1), .int .i64 (P1.2.2.1), .int .i64 (P1.2.2.2)]), .bool ((brR (f i) S true).isSome)]) ?_ ?_ ?_ ?_ fun a32 he32 => ?_
         rotate_left
         rw [List.getElem?_toArray]; rfl
         exact ⟨by kernel_rfl, by kernel_rfl, by kernel_rfl⟩
         exact ⟨fun _ _ _ _ h => h, rfl, rfl⟩
         exact fun wS hmS => rn_move _ (Or.inl rfl) _ (he31.tmp 42 _ rfl)
         refine tk (fuel := 5) (i := 9) ?_ he32 hm13 ⟨rfl, rfl, rfl, rfl, trivial⟩ (.agg (optA (brR (f i) S true))) ?_ ?_ ?_ ?_ fun a33 he33 => ?_
         rotate_left
         rw [List.getElem?_toArray]; rfl
         exact ⟨by kernel_rfl, by kernel_rfl, by kernel_rfl⟩
         exact ⟨fun _ _ _ _ h => h, rfl, rfl⟩
         exact fun wS hmS => rn_extract _ _ rfl _ (he32.tmp 34 _ rfl) _ rfl
         refine tk (fuel := 4) (i := 10) ?_ he33 hm13 ⟨rfl, rfl, rfl, rfl, trivial⟩ (.agg (#[.int .i64 (P1.1), .int .i64 (P1.2.1), .int .i64 (P1.2.2.1), .int .i64 (P1.2.2.2)])) ?_ ?_ ?_ ?_ fun a34 he34 => ?_
         rotate_left
         rw [List.getElem?_toArray]; rfl
         exact ⟨by kernel_rfl, by kernel_rfl, by kernel_rfl⟩
         exact ⟨fun _ _ _ _ h => h, rfl, rfl⟩
         exact fun wS hmS => rn_extract _ _ rfl _ (he33.tmp 34 _ rfl) _ rfl
         refine tk (fuel := 3) (i := 11) ?_ he34 hm13 ⟨rfl, rfl, rfl, rfl, trivial⟩ (.bool ((brR (f i) S true).isSome)) ?_ ?_ ?_ ?_ fun a35 he35 => ?_
         rotate_left
         rw [List.getElem?_toArray]; rfl
         exact ⟨by kernel_rfl, by kernel_rfl, by kernel_rfl⟩
         exact ⟨fun _ _ _ _ h => h, rfl, rfl⟩
         exact fun wS hmS => rn_extract _ _ rfl _ (he34.tmp 34 _ rfl) _ rfl
         refine wh_store (i := 14) (op := ?op1e011_53) (fuel := 2) ?hr1e011_53 ?hi1e011_53 he35 hm13 4 rfl ?hd1e011_53 ?hw1e011_53 54 (.tmp 9) (.tmp 43) ?ho1e011_53 (0) (he35.tmp 9 _ rfl) _ (he35.tmp 43 _ rfl) 4 agg54.size (optA.sz _) (optA.one _) (by decide) (optA (brR (f i) S true)) (optA_ovw _ _ _ _ _) ⟨rfl, rfl, rfl, rfl, trivial⟩ (fun w14 hm14 => ?k1e011_53)
         case hi1e011_53 => rw [List.getElem?_toArray]; rfl
         case hw1e011_53 => exact rfl
         case hr1e011_53 => kernel_rfl
         case hd1e011_53 | ho1e011_53 => rfl
         refine wh_store (i := 15) (op := ?op1e011_54) (fuel := 1) ?hr1e011_54 ?hi1e011_54 he35 hm14 5 rfl ?hd1e011_54 ?hw1e011_54 54 (.tmp 10) (.tmp 44) ?ho1e011_54 (0) (he35.tmp 10 _ rfl) _ (he35.tmp 44 _ rfl) 4 agg54.size rfl (by kernel_rfl) (by simp) (#[.int .i64 (P1.1), .int .i64 (P1.2.1), .int .i64 (P1.2.2.1), .int .i64 (P1.2.2.2)]) (by kernel_rfl) ⟨rfl, rfl, rfl, rfl, trivial⟩ (fun w15 hm15 => ?k1e011_54)
         case hi1e011_54 => rw [List.getElem?_toArray]; rfl
         case hw1e011_54 => exact rfl
         case hr1e011_54 => kernel_rfl
         case hd1e011_54 | ho1e011_54 => rfl
         refine tk (fuel := 0) (i := 16) ?_ he35 hm15 ⟨rfl, rfl, rfl, rfl, trivial⟩ (.bool ((brR (f i) S true).isSome)) ?_ ?_ ?_ ?_ fun a36 he36 => ?_
         rotate_left
         rw [List.getElem?_toArray]; rfl
         exact ⟨by kernel_rfl, by kernel_rfl, by kernel_rfl⟩
         exact ⟨fun _ _ _ _ h => h, rfl, rfl⟩
         exact fun wS hmS => rn_move _ (Or.inr rfl) _ (he35.tmp 45 _ rfl)
         refine wpAnyH_done (by kernel_rfl) ?_ _
         exact ⟨b4, b5, he36.sub _ ⟨rfl, rfl, rfl, rfl, rfl, rfl, rfl, rfl, rfl, rfl, rfl, rfl, rfl, rfl, rfl, rfl, rfl, rfl, rfl, rfl, rfl, rfl, rfl, rfl, rfl, rfl, rfl, rfl, rfl, rfl, rfl, rfl, rfl, rfl, rfl, trivial⟩, hm15.sub _ ⟨rfl, rfl, rfl, rfl, rfl, rfl, trivial⟩⟩
     rintro a37 w17 ⟨b4, b5, he37, hm17⟩
     refine then_normal ?_
     refine wp_seqR ?_
     refine wl_val he37 rfl rfl (.bool ((brR (f i) S true).isSome)) (rn_move _ (Or.inl rfl) _ (he37.tmp 11 _ rfl)) (fun a38 he38 => ?_)
     clear he37
     cases hd3 : ((brR (f i) S true).isSome)
     ·
      have hb1 : brR (f i) S true = none := by simpa using hd3
      refine wl_val he38 rfl rfl (.bool true) (rn_un _ _ _ rfl _ (.bool (!(brR (f i) S true).isSome)) _ (he38.tmp 46 _ rfl) rfl (congrArg (fun q => Value.bool (!q)) hd3)) (fun a39 he39 => ?_)
      clear he38
      refine wl_end ?_
      refine wp_condT (he := he39) rfl ?_
      refine wp_exit ?_
      refine exit_then ?_
      refine exit_here ?_
      refine then_normal ?_
      refine wp_region_lit ?_
      refine wl_val he39 rfl rfl (.int .i64 (((i + 1 : Nat) : Int))) (rn_bin _ _ _ _ _ rfl .i64 _ _ (he39.tmp 27 _ rfl) rfl (.int .i64 (IntKind.wrap .i64 (((i : Nat) : Int) + 1))) _ rfl (addN (i := i) (c := 1) (by omega))) (fun a40 he40 => ?_)
      clear he39
      refine wl_val he40 rfl rfl (.int .i64 (((i + 1 : Nat) : Int))) (rn_move _ (Or.inl rfl) _ (he40.tmp 70 _ rfl)) (fun a41 he41 => ?_)
      clear he40
      refine wpList_nil ?_
      exact ⟨n - (i + 1), by omega, Or.inr ⟨i + 1, S, cur, o, on, ob, oc, oa, rfl, ⟨by omega, hS, hrw, tid_skip htd (by omega) hb1, by simp [hon], by omega, by omega, horw⟩, he41.sub _ ⟨rfl, rfl, rfl, rfl, rfl, rfl, rfl, rfl, rfl, rfl, rfl, rfl, trivial⟩, hm17.sub _ ⟨rfl, rfl, trivial⟩⟩⟩
     ·
      obtain ⟨y1, hb1⟩ := Option.isSome_iff_exists.1 hd3
      refine wl_val he38 rfl rfl (.bool false) (rn_un _ _ _ rfl _ (.bool (!(brR (f i) S true).isSome)) _ (he38.tmp 46 _ rfl) rfl (congrArg (fun q => Value.bool (!q)) hd3)) (fun a39 he39 => ?_)
      clear he38
      refine wl_end ?_
      refine wp_condF (he := he39) rfl ?_
      refine wp_skip ?_
      refine then_normal ?_
      refine wp_seqR ?_
      refine wl_val he39 rfl rfl (.slice (some ⟨ob, 0, none⟩) (on) (oc)) (rn_move _ (Or.inl rfl) _ (he39.tmp 5 _ rfl)) (fun a40 he40 => ?_)
      clear he39
      refine wl_val he40 rfl rfl (.agg (Ru.arr (f i))) (rn_loadA hm17 2 rfl _ _ rfl (0) (he40.tmp 7 _ rfl) 5 agg39 (Ru.arr (f i)) (by kernel_rfl) rfl) (fun a41 he41 => ?_)
      clear he40
      refine wl_buildSlice he41 hm17 6 rfl rfl rfl _ _ _ rfl #[(0, .agg (Ru.arr (f i)))] (pmap1 (he41.tmp 49 _ rfl)) 39 ((cellsOf Ru.arr [f i]).toArray) (by kernel_rfl) (fun a42 w18 b6 he42 hm18 => ?_)
      clear he41 hm17
      have rw6_0 : Rw ((cellsOf Ru.arr [f i]).toArray) 1 1 5 (cellsOf Ru.arr ([f i])) := Rw.lits Ru.sz [f i] (by simp [maxLen])
      refine wl_append (k := on) (cap := oc) he42 hm18 90 rfl rfl rfl _ _ _ rfl el39 (he42.tmp 48 _ rfl) horw ⟨b6, 0, none⟩ 1 1 (he42.tmp 50 _ rfl) (cellsOf Ru.arr ([f i])) (rw6_0.len) (fun j u hu => by rw [Addr.add_mid, Nat.zero_add, (hm18.bx 6 _ _ _ _ rfl).cell]; exact rw6_0.get j u hu) (cellsOf_one Ru.one _) (by simp only [maxLen]; omega) (by omega) (fun a43 w19 b90_43 cap90_43 cur90_43 he43 hm19 rw90_43 => ?_)
      clear he42 hm18
      replace rw90_43 := rw90_43.app
      refine wl_val he43 rfl rfl (.slice (some ⟨b90_43, 0, none⟩) (on + 1) (cap90_43)) (rn_move _ (Or.inr rfl) _ (he43.tmp 51 _ rfl)) (fun a44 he44 => ?_)
      clear he43
      refine wl_end ?_
      refine wp_seq ?_
      refine rg_cut (fun az wz => ∃ (b7 : Nat), ∃ (b8 : Nat), EV az 72 [] [(0, .slice (some ⟨b, p, none⟩) (n) (c)), (2, .slice none 0 0), (15, .slice (some ⟨b, p, none⟩) (n) (c)), (16, .bool true), (17, .bool false), (3, .pointer (some ⟨b1, 0, none⟩)), (18, .int .i64 (((i0 : Nat) : Int))), (19, .bool false), (25, .slice (some ⟨b, p, none⟩) (n) (c)), (26, .int .i64 (((n : Nat) : Int))), (27, .int .i64 (((i : Nat) : Int))), (5, .slice (some ⟨b90_43, 0, none⟩) (on + 1) (cap90_43)), (28, .bool true), (29, .pointer (some ⟨b, p + i * 5, none⟩)), (30, .agg (Ru.arr (f i))), (7, .pointer (some ⟨b2, 0, none⟩)), (31, .pointer (some ⟨b2, 2, none⟩)), (32, .int .i64 ((((f i).num.toNat : Nat) : Int))), (33, .agg (ivArr (((f i).num.toNat, (f i).num.toNat)))), (8, .pointer (some ⟨b3, 0, none⟩)), (35, .pointer (some ⟨b2, 1, none⟩)), (36, .int .i64 ((f i).op)), (37, .pointer (some ⟨b2, 0, none⟩)), (38, .int .i64 ((((f i).at_.toNat : Nat) : Int))), (39, .pointer (some ⟨b1, 0 + ((f i).at_.toNat) * 4, none⟩)), (40, .agg (ivArr (atS (S) (((f i).at_.toNat))))), (41, .agg (ivArr (((f i).num.toNat, (f i).num.toNat)))), (42, .tuple #[.agg (optA (brR (f i) S true)), .agg (#[.int .i64 (P1.1), .int .i64 (P1.2.1), .int .i64 (P1.2.2.1), .int .i64 (P1.2.2.2)]), .bool ((brR (f i) S true).isSome)]), (34, .tuple #[.agg (optA (brR (f i) S true)), .agg (#[.int .i64 (P1.1), .int .i64 (P1.2.1), .int .i64 (P1.2.2.1), .int .i64 (P1.2.2.2)]), .bool ((brR (f i) S true).isSome)]), (43, .agg (optA (brR (f i) S true))), (44, .agg (#[.int .i64 (P1.1), .int .i64 (P1.2.1), .int .i64 (P1.2.2.1), .int .i64 (P1.2.2.2)])), (45, .bool ((brR (f i) S true).isSome)), (9, .pointer (some ⟨b4, 0, none⟩)), (10, .pointer (some ⟨b5, 0, none⟩)), (11, .bool ((brR (f i) S true).isSome)), (46, .bool ((brR (f i) S true).isSome)), (47, .bool false), (48, .slice (some ⟨ob, 0, none⟩) (on) (oc)), (49, .agg (Ru.arr (f i))), (50, .slice (some ⟨b6, 0, none⟩) (1) (1)), (51, .slice (some ⟨b90_43, 0, none⟩) (on + 1) (cap90_43)), (53, .pointer (some ⟨b2, 1, none⟩)), (54, .int .i64 ((f i).op)), (55, .pointer (some ⟨b2, 0, none⟩)), (56, .int .i64 ((((f i).at_.toNat : Nat) : Int))), (57, .pointer (some ⟨b1, 0 + ((f i).at_.toNat) * 4, none⟩)), (58, .agg (ivArr (atS (S) (((f i).at_.toNat))))), (59, .agg (ivArr (((f i).num.toNat, (f i).num.toNat)))), (60, .tuple #[.agg (optA (brR (f i) S false)), .agg (#[.int .i64 (P2.1), .int .i64 (P2.2.1), .int .i64 (P2.2.2.1), .int .i64 (P2.2.2.2)]), .bool ((brR (f i) S false).isSome)]), (52, .tuple #[.agg (optA (brR (f i) S false)), .agg (#[.int .i64 (P2.1), .int .i64 (P2.2.1), .int .i64 (P2.2.2.1), .int .i64 (P2.2.2.2)]), .bool ((brR (f i) S false).isSome)]), (61, .agg (optA (brR (f i) S false))), (62, .agg (#[.int .i64 (P2.1), .int .i64 (P2.2.1), .int .i64 (P2.2.2.1), .int .i64 (P2.2.2.2)])), (63, .bool ((brR (f i) S false).isSome)), (12, .pointer (some ⟨b7, 0, none⟩)), (13, .pointer (some ⟨b8, 0, none⟩)), (14, .bool ((brR (f i) S false).isSome))] ∧ MM [] w wz [(1, ⟨true, b1, 58, cur⟩), (90, ⟨true, b90_43, 39, cur90_43⟩), (2, ⟨true, b2, 39, Ru.arr (f i)⟩), (3, ⟨true, b3, 54, ivArr (((f i).num.toNat, (f i).num.toNat))⟩), (4, ⟨true, b4, 54, optA (brR (f i) S true)⟩), (5, ⟨true, b5, 54, #[.int .i64 (P1.1), .int .i64 (P1.2.1), .int .i64 (P1.2.2.1), .int .i64 (P1.2.2.2)]⟩), (6, ⟨true, b6, 39, (cellsOf Ru.arr [f i]).toArray⟩), (7, ⟨true, b7, 54, optA (brR (f i) S false)⟩), (8, ⟨true, b8, 54, #[.int .i64 (P2.1), .int .i64 (P2.2.1), .int .i64 (P2.2.2.1), .int .i64 (P2.2.2.2)]⟩)]) ?tree2_0111 ?cont2_0111
      case tree2_0111 =>
       refine wh_begin (by kernel_rfl) hm19 [(1, ⟨true, b1, 58, cur⟩), (90, ⟨true, b90_43, 39, cur90_43⟩), (2, ⟨true, b2, 39, Ru.arr (f i)⟩), (3, ⟨true, b3, 54, ivArr (((f i).num.toNat, (f i).num.toNat))⟩), (4, ⟨true, b4, 54, optA (brR (f i) S true)⟩), (5, ⟨true, b5, 54, #[.int .i64 (P1.1), .int .i64 (P1.2.1), .int .i64 (P1.2.2.1), .int .i64 (P1.2.2.2)]⟩), (6, ⟨true, b6, 39, (cellsOf Ru.arr [f i]).toArray⟩)] ⟨rfl, rfl, rfl, rfl, rfl, rfl, rfl, trivial⟩ (fun w20 hm20 => ?_)
       refine tk (fuel := 16) (i := 0) ?_ he44 hm20 ⟨rfl, rfl, rfl, rfl, rfl, rfl, rfl, trivial⟩ (.pointer (some ⟨b2, 1, none⟩)) ?_ ?_ ?_ ?_ fun a45 he45 => ?_
       rotate_left
       rw [List.getElem?_toArray]; rfl
       exact ⟨by kernel_rfl, by kernel_rfl, by kernel_rfl⟩
       exact ⟨fun _ _ _ _ h => h, rfl, rfl⟩
       exact fun wS hmS => rn_field _ _ _ rfl _ (.pointer (some ⟨b2, 1, none⟩)) (he44.tmp 7 _ rfl) (by kernel_rfl)
       refine tk (fuel := 15) (i := 1) ?_ he45 hm20 ⟨rfl, rfl, rfl, rfl, rfl, rfl, rfl, trivial⟩ (.int .i64 ((f i).op)) ?_ ?_ ?_ ?_ fun a46 he46 => ?_
       rotate_left
       rw [List.getElem?_toArray]; rfl
       exact ⟨by kernel_rfl, by kernel_rfl, by kernel_rfl⟩
       exact ⟨fun _ _ _ _ h => h, rfl, rfl⟩
       exact fun wS hmS => rn_load1 hmS 2 rfl _ _ rfl (1) (he45.tmp 53 _ rfl) one3 _ rfl
       refine tk (fuel := 14) (i := 2) ?_ he46 hm20 ⟨rfl, rfl, rfl, rfl, rfl, rfl, rfl, trivial⟩ (.pointer (some ⟨b2, 0, none⟩)) ?_ ?_ ?_ ?_ fun a47 he47 => ?_
       rotate_left
       rw [List.getElem?_toArray]; rfl
       exact ⟨by kernel_rfl, by kernel_rfl, by kernel_rfl⟩
       exact ⟨fun _ _ _ _ h => h, rfl, rfl⟩
       exact fun wS hmS => rn_field _ _ _ rfl _ (.pointer (some ⟨b2, 0, none⟩)) (he46.tmp 7 _ rfl) (by kernel_rfl)
       refine tk (fuel := 13) (i := 3) ?_ he47 hm20 ⟨rfl, rfl, rfl, rfl, rfl, rfl, rfl, trivial⟩ (.int .i64 ((((f i).at_.toNat : Nat) : Int))) ?_ ?_ ?_ ?_ fun a48 he48 => ?_
       rotate_left
       rw [List.getElem?_toArray]; rfl
       exact ⟨by kernel_rfl, by kernel_rfl, by kernel_rfl⟩
       exact ⟨fun _ _ _ _ h => h, rfl, rfl⟩
       exact fun wS hmS => rn_load1 hmS 2 rfl _ _ rfl (0) (he47.tmp 55 _ rfl) one3 _ (Ru.g_at' _ hri)
       refine tk (fuel := 12) (i := 4) ?_ he48 hm20 ⟨rfl, rfl, rfl, rfl, rfl, rfl, rfl, trivial⟩ (.pointer (some ⟨b1, 0 + ((f i).at_.toNat) * 4, none⟩)) ?_ ?_ ?_ ?_ fun a49 he49 => ?_
       rotate_left
       rw [List.getElem?_toArray]; rfl
       exact ⟨by kernel_rfl, by kernel_rfl, by kernel_rfl⟩
       exact ⟨fun _ _ _ _ h => h, rfl, rfl⟩
       exact fun wS hmS => rn_indexA _ _ _ rfl _ _ (.pointer (some ⟨b1, 0 + ((f i).at_.toNat) * 4, none⟩)) (he48.tmp 3 _ rfl) (he48.tmp 56 _ rfl) (ixA 12 54 4 (by kernel_rfl) (fun w => by kernel_rfl) b1 0 ((f i).at_.toNat) (by omega) (by decide) _)
       refine tk (fuel := 11) (i := 5) ?_ he49 hm20 ⟨rfl, rfl, rfl, rfl, rfl, rfl, rfl, trivial⟩ (.agg (ivArr (atS (S) (((f i).at_.toNat))))) ?_ ?_ ?_ ?_ fun a50 he50 => ?_
       rotate_left
       rw [List.getElem?_toArray]; rfl
       exact ⟨by kernel_rfl, by kernel_rfl, by kernel_rfl⟩
       exact ⟨fun _ _ _ _ h => h, rfl, rfl⟩
       exact fun wS hmS => rn_loadA hmS 1 rfl _ _ rfl (0 + ((f i).at_.toNat) * 4) (he49.tmp 57 _ rfl) 4 agg54 (ivArr (atS (S) (((f i).at_.toNat)))) (hrw.ext ivArr.sz (hS.get hat) _ (by omega)) rfl
       refine tk (fuel := 10) (i := 6) ?_ he50 hm20 ⟨rfl, rfl, rfl, rfl, rfl, rfl, rfl, trivial⟩ (.agg (ivArr (((f i).num.toNat, (f i).num.toNat)))) ?_ ?_ ?_ ?_ fun a51 he51 => ?_
       rotate_left
       rw [List.getElem?_toArray]; rfl
       exact ⟨by kernel_rfl, by kernel_rfl, by kernel_rfl⟩
       exact ⟨fun _ _ _ _ h => h, rfl, rfl⟩
       exact fun wS hmS => rn_loadA hmS 3 rfl _ _ rfl (0) (he50.tmp 8 _ rfl) 4 agg54 (ivArr (((f i).num.toNat, (f i).num.toNat))) (by kernel_rfl) rfl
       refine wpAnyH_ready (fuel := 9) (rs := [7, 12, 13]) ?hr2e0111_8 (by simp) (AllReadyH.cons (o := ?o2e0111_8_0) ?hi2e0111_8_0 ?st2e0111_8_0 (AllReadyH.cons (o := ?o2e0111_8_1) ?hi2e0111_8_1 ?st2e0111_8_1 (AllReadyH.cons (o := ?o2e0111_8_2) ?hi2e0111_8_2 ?st2e0111_8_2 AllReadyH.nil)))
       case hr2e0111_8 => kernel_rfl
       case hi2e0111_8_0 => rw [List.getElem?_toArray]; rfl
       case hi2e0111_8_1 => rw [List.getElem?_toArray]; rfl
       case hi2e0111_8_2 => rw [List.getElem?_toArray]; rfl
       case st2e0111_8_0 =>
        refine st_call he51 hm20 ⟨rfl, rfl, rfl, rfl, rfl, rfl, rfl, trivial⟩ rfl rfl _ #[.int .i64 ((f i).op), .agg (ivArr (atS (S) (((f i).at_.toNat)))), .agg (ivArr (((f i).num.toNat, (f i).num.toNat))), .bool false] (enter_call _ _ _ rfl 37 #[] #[] rfl #[.int .i64 ((f i).op), .agg (ivArr (atS (S) (((f i).at_.toNat)))), .agg (ivArr (((f i).num.toNat, (f i).num.toNat))), .bool false] (map4 (he51.tmp 54 _ rfl) (he51.tmp 58 _ rfl) (he51.tmp 59 _ rfl) rfl) #[.int .i64 ((f i).op), .agg (ivArr (atS (S) (((f i).at_.toNat)))), .agg (ivArr (((f i).num.toNat, (f i).num.toNat))), .bool false] rfl (fun _ _ => by kernel_rfl)) (.tuple #[.agg (optA (brR (f i) S false)), .agg (#[.int .i64 (P2.1), .int .i64 (P2.2.1), .int .i64 (P2.2.2.1), .int .i64 (P2.2.2.2)]), .bool ((brR (f i) S false).isSome)]) (hP2 _) (fun a52 w21 he52 hm21 => ?_)
        refine tk (fuel := 8) (i := 8) ?_ he52 hm21 ⟨rfl, rfl, rfl, rfl, rfl, rfl, rfl, trivial⟩ (.tuple #[.agg (optA (brR (f i) S false)), .agg (#[.int .i64 (P2.1), .int .i64 (P2.2.1), .int .i64 (P2.2.2.1), .int .i64 (P2.2.2.2)]), .bool ((brR (f i) S false).isSome)]) ?_ ?_ ?_ ?_ fun a53 he53 => ?_
        rotate_left
        rw [List.getElem?_toArray]; rfl
        exact ⟨by kernel_rfl, by kernel_rfl, by kernel_rfl⟩
        exact ⟨fun _ _ _ _ h => h, rfl, rfl⟩
        exact fun wS hmS => rn_move _ (Or.inl rfl) _ (he52.tmp 60 _ rfl)
        refine tk (fuel := 7) (i := 9) ?_ he53 hm21 ⟨rfl, rfl, rfl, rfl, rfl, rfl, rfl, trivial⟩ (.agg (optA (brR (f i) S false))) ?_ ?_ ?_ ?_ fun a54 he54 => ?_
        rotate_left
        rw [List.getElem?_toArray]; rfl
        exact ⟨by kernel_rfl, by kernel_rfl, by kernel_rfl⟩
        exact ⟨fun _ _ _ _ h => h, rfl, rfl⟩
        exact fun wS hmS => rn_extract _ _ rfl _ (he53.tmp 52 _ rfl) _ rfl
        refine tk (fuel := 6) (i := 10) ?_ he54 hm21 ⟨rfl, rfl, rfl, rfl, rfl, rfl, rfl, trivial⟩ (.agg (#[.int .i64 (P2.1), .int .i64 (P2.2.1), .int .i64 (P2.2.2.1), .int .i64 (P2.2.2.2)])) ?_ ?_ ?_ ?_ fun a55 he55 => ?_
        rotate_left
        rw [List.getElem?_toArray]; rfl
        exact ⟨by kernel_rfl, by kernel_rfl, by kernel_rfl⟩
        exact ⟨fun _ _ _ _ h => h, rfl, rfl⟩
        exact fun wS hmS => rn_extract _ _ rfl _ (he54.tmp 52 _ rfl) _ rfl
        refine tk (fuel := 5) (i := 11) ?_ he55 hm21 ⟨rfl, rfl, rfl, rfl, rfl, rfl, rfl, trivial⟩ (.bool ((brR (f i) S false).isSome)) ?_ ?_ ?_ ?_ fun a56 he56 => ?_
        rotate_left
        rw [List.getElem?_toArray]; rfl
        exact ⟨by kernel_rfl, by kernel_rfl, by kernel_rfl⟩
        exact ⟨fun _ _ _ _ h => h, rfl, rfl⟩
        exact fun wS hmS => rn_extract _ _ rfl _ (he55.tmp 52 _ rfl) _ rfl
        refine wpAnyH_ready (fuel := 4) (rs := [12, 13]) ?hr2e0111_13 (by simp) (AllReadyH.cons (o := ?o2e0111_13_0) ?hi2e0111_13_0 ?st2e0111_13_0 (AllReadyH.cons (o := ?o2e0111_13_1) ?hi2e0111_13_1 ?st2e0111_13_1 AllReadyH.nil))
        case hr2e0111_13 => kernel_rfl
        case hi2e0111_13_0 => rw [List.getElem?_toArray]; rfl
        case hi2e0111_13_1 => rw [List.getElem?_toArray]; rfl
        case st2e0111_13_0 =>
         refine st_alloc he56 hm21 7 rfl ⟨rfl, rfl, rfl, rfl, rfl, rfl, rfl, trivial⟩ rfl rfl _ rfl (.agg #[.int .i64 0, .int .i64 0, .int .i64 0, .int .i64 0]) (fun w => by kernel_rfl) (#[.int .i64 (0), .int .i64 (0), .int .i64 (0), .int .i64 (0)]) rfl (fun _ => ⟨rfl, rfl, rfl, rfl, rfl, rfl, rfl, trivial⟩) (fun a57 w22 b7 he57 hm22 => ?_)
         refine wpAnyH_ready (fuel := 3) (rs := [13]) ?hr2e0111_14 (by simp) (AllReadyH.cons (o := ?o2e0111_14_0) ?hi2e0111_14_0 ?st2e0111_14_0 AllReadyH.nil)
         case hr2e0111_14 => kernel_rfl
         case hi2e0111_14_0 => rw [List.getElem?_toArray]; rfl
         case st2e0111_14_0 =>
          refine st_alloc he57 hm22 8 rfl ⟨rfl, rfl, rfl, rfl, rfl, rfl, rfl, trivial⟩ rfl rfl _ rfl (.agg #[.int .i64 0, .int .i64 0, .int .i64 0, .int .i64 0]) (fun w => by kernel_rfl) (#[.int .i64 (0), .int .i64 (0), .int .i64 (0), .int .i64 (0)]) rfl (fun _ => ⟨rfl, rfl, rfl, rfl, rfl, rfl, rfl, trivial⟩) (fun a58 w23 b8 he58 hm23 => ?_)
          refine wh_store (i := 14) (op := ?op2e0111_15) (fuel := 2) ?hr2e0111_15 ?hi2e0111_15 he58 hm23 7 rfl ?hd2e0111_15 ?hw2e0111_15 54 (.tmp 12) (.tmp 61) ?ho2e0111_15 (0) (he58.tmp 12 _ rfl) _ (he58.tmp 61 _ rfl) 4 agg54.size (optA.sz _) (optA.one _) (by decide) (optA (brR (f i) S false)) (optA_ovw _ _ _ _ _) ⟨rfl, rfl, rfl, rfl, rfl, rfl, rfl, trivial⟩ (fun w24 hm24 => ?k2e0111_15)
          case hi2e0111_15 => rw [List.getElem?_toArray]; rfl
          case hw2e0111_15 => exact rfl
          case hr2e0111_15 => kernel_rfl
          case hd2e0111_15 | ho2e0111_15 => rfl
          refine wh_store (i := 15) (op := ?op2e0111_16) (fuel := 1) ?hr2e0111_16 ?hi2e0111_16 he58 hm24 8 rfl ?hd2e0111_16 ?hw2e0111_16 54 (.tmp 13) (.tmp 62) ?ho2e0111_16 (0) (he58.tmp 13 _ rfl) _ (he58.tmp 62 _ rfl) 4 agg54.size rfl (by kernel_rfl) (by simp) (#[.int .i64 (P2.1), .int .i64 (P2.2.1), .int .i64 (P2.2.2.1), .int .i64 (P2.2.2.2)]) (by kernel_rfl) ⟨rfl, rfl, rfl, rfl, rfl, rfl, rfl, trivial⟩ (fun w25 hm25 => ?k2e0111_16)
          case hi2e0111_16 => rw [List.getElem?_toArray]; rfl
          case hw2e0111_16 => exact rfl
          case hr2e0111_16 => kernel_rfl
          case hd2e0111_16 | ho2e0111_16 => rfl
          refine tk (fuel := 0) (i := 16) ?_ he58 hm25 ⟨rfl, rfl, rfl, rfl, rfl, rfl, rfl, trivial⟩ (.bool ((brR (f i) S false).isSome)) ?_ ?_ ?_ ?_ fun a59 he59 => ?_
          rotate_left
          rw [List.getElem?_toArray]; rfl
          exact ⟨by kernel_rfl, by kernel_rfl, by kernel_rfl⟩
          exact ⟨fun _ _ _ _ h => h, rfl, rfl⟩
          exact fun wS hmS => rn_move _ (Or.inr rfl) _ (he58.tmp 63 _ rfl)
          refine wpAnyH_done (by kernel_rfl) ?_ _
          exact ⟨b7, b8, he59.sub _ ⟨rfl, rfl, rfl, rfl, rfl, rfl, rfl, rfl, rfl, rfl, rfl, rfl, rfl, rfl, rfl, rfl, rfl, rfl, rfl, rfl, rfl, rfl, rfl, rfl, rfl, rfl, rfl, rfl, rfl, rfl, rfl, rfl, rfl, rfl, rfl, rfl, rfl, rfl, rfl, rfl, rfl, rfl, rfl, rfl, rfl, rfl, rfl, rfl, rfl, rfl, rfl, rfl, rfl, rfl, rfl, rfl, trivial⟩, hm25.sub _ ⟨rfl, rfl, rfl, rfl, rfl, rfl, rfl, rfl, rfl, trivial⟩⟩
        case st2e0111_13_1 =>
         refine st_alloc he56 hm21 8 rfl ⟨rfl, rfl, rfl, rfl, rfl, rfl, rfl, trivial⟩ rfl rfl _ rfl (.agg #[.int .i64 0, .int .i64 0, .int .i64 0, .int .i64 0]) (fun w => by kernel_rfl) (#[.int .i64 (0), .int .i64 (0), .int .i64 (0), .int .i64 (0)]) rfl (fun _ => ⟨rfl, rfl, rfl, rfl, rfl, rfl, rfl, trivial⟩) (fun a57 w22 b8 he57 hm22 => ?_)
         refine wpAnyH_ready (fuel := 3) (rs := [12]) ?hr2e0111_18 (by simp) (AllReadyH.cons (o := ?o2e0111_18_0) ?hi2e0111_18_0 ?st2e0111_18_0 AllReadyH.nil)
         case hr2e0111_18 => kernel_rfl
         case hi2e0111_18_0 => rw [List.getElem?_toArray]; rfl
         case st2e0111_18_0 =>
          refine st_alloc he57 hm22 7 rfl ⟨rfl, rfl, rfl, rfl, rfl, rfl, rfl, trivial⟩ rfl rfl _ rfl (.agg #[.int .i64 0, .int .i64 0, .int .i64 0, .int .i64 0]) (fun w => by kernel_rfl) (#[.int .i64 (0), .int .i64 (0), .int .i64 (0), .int .i64 (0)]) rfl (fun _ => ⟨rfl, rfl, rfl, rfl, rfl, rfl, rfl, trivial⟩) (fun a58 w23 b7 he58 hm23 => ?_)
          refine wh_store (i := 14) (op := ?op2e0111_19) (fuel := 2) ?hr2e0111_19 ?hi2e0111_19 he58 hm23 7 rfl ?hd2e0111_19 ?hw2e0111_19 54 (.tmp 12) (.tmp 61) ?ho2e0111_19 (0) (he58.tmp 12 _ rfl) _ (he58.tmp 61 _ rfl) 4 agg54.size (optA.sz _) (optA.one _) (by decide) (optA (brR (f i) S false)) (optA_ovw _ _ _ _ _) ⟨rfl, rfl, rfl, rfl, rfl, rfl, rfl, trivial⟩ (fun w24 hm24 => ?k2e0111_19)
          case hi2e0111_19 => rw [List.getElem?_toArray]; rfl
          case hw2e0111_19 => exact rfl
          case hr2e0111_19 => kernel_rfl
          case hd2e0111_19 | ho2e0111_19 => rfl
          refine wh_store (i := 15) (op := ?op2e0111_20) (fuel := 1) ?hr2e0111_20 ?hi2e0111_20 he58 hm24 8 rfl ?hd2e0111_20 ?hw2e0111_20 54 (.tmp 13) (.tmp 62) ?ho2e0111_20 (0) (he58.tmp 13 _ rfl) _ (he58.tmp 62 _ rfl) 4 agg54.size rfl (by kernel_rfl) (by simp) (#[.int .i64 (P2.1), .int .i64 (P2.2.1), .int .i64 (P2.2.2.1), .int .i64 (P2.2.2.2)]) (by kernel_rfl) ⟨rfl, rfl, rfl, rfl, rfl, rfl, rfl, trivial⟩ (fun w25 hm25 => ?k2e0111_20)
          case hi2e0111_20 => rw [List.getElem?_toArray]; rfl
          case hw2e0111_20 => exact rfl
          case hr2e0111_20 => kernel_rfl
          case hd2e0111_20 | ho2e0111_20 => rfl
          refine tk (fuel := 0) (i := 16) ?_ he58 hm25 ⟨rfl, rfl, rfl, rfl, rfl, rfl, rfl, trivial⟩ (.bool ((brR (f i) S false).isSome)) ?_ ?_ ?_ ?_ fun a59 he59 => ?_
          rotate_left
          rw [List.getElem?_toArray]; rfl
          exact ⟨by kernel_rfl, by kernel_rfl, by kernel_rfl⟩
          exact ⟨fun _ _ _ _ h => h, rfl, rfl⟩
          exact fun wS hmS => rn_move _ (Or.inr rfl) _ (he58.tmp 63 _ rfl)
          refine wpAnyH_done (by kernel_rfl) ?_ _
          exact ⟨b7, b8, he59.sub _ ⟨rfl, rfl, rfl, rfl, rfl, rfl, rfl, rfl, rfl, rfl, rfl, rfl, rfl, rfl, rfl, rfl, rfl, rfl, rfl, rfl, rfl, rfl, rfl, rfl, rfl, rfl, rfl, rfl, rfl, rfl, rfl, rfl, rfl, rfl, rfl, rfl, rfl, rfl, rfl, rfl, rfl, rfl, rfl, rfl, rfl, rfl, rfl, rfl, rfl, rfl, rfl, rfl, rfl, rfl, rfl, rfl, trivial⟩, hm25.sub _ ⟨rfl, rfl, rfl, rfl, rfl, rfl, rfl, rfl, rfl, trivial⟩⟩
       case st2e0111_8_1 =>
        refine st_alloc he51 hm20 7 rfl ⟨rfl, rfl, rfl, rfl, rfl, rfl, rfl, trivial⟩ rfl rfl _ rfl (.agg #[.int .i64 0, .int .i64 0, .int .i64 0, .int .i64 0]) (fun w => by kernel_rfl) (#[.int .i64 (0), .int .i64 (0), .int .i64 (0), .int .i64 (0)]) rfl (fun _ => ⟨rfl, rfl, rfl, rfl, rfl, rfl, rfl, trivial⟩) (fun a52 w21 b7 he52 hm21 => ?_)
        refine wpAnyH_ready (fuel := 8) (rs := [7, 13]) ?hr2e0111_22 (by simp) (AllReadyH.cons (o := ?o2e0111_22_0) ?hi2e0111_22_0 ?st2e0111_22_0 (AllReadyH.cons (o := ?o2e0111_22_1) ?hi2e0111_22_1 ?st2e0111_22_1 AllReadyH.nil))
        case hr2e0111_22 => kernel_rfl
        case hi2e0111_22_0 => rw [List.getElem?_toArray]; rfl
        case hi2e0111_22_1 => rw [List.getElem?_toArray]; rfl
        case st2e0111_22_0 =>
         refine st_call he52 hm21 ⟨rfl, rfl, rfl, rfl, rfl, rfl, rfl, trivial⟩ rfl rfl _ #[.int .i64 ((f i).op), .agg (ivArr (atS (S) (((f i).at_.toNat)))), .agg (ivArr (((f i).num.toNat, (f i).num.toNat))), .bool false] (enter_call _ _ _ rfl 37 #[] #[] rfl #[.int .i64 ((f i).op), .agg (ivArr (atS (S) (((f i).at_.toNat)))), .agg (ivArr (((f i).num.toNat, (f i).num.toNat))), .bool false] (map4 (he52.tmp 54 _ rfl) (he52.tmp 58 _ rfl) (he52.tmp 59 _ rfl) rfl) #[.int .i64 ((f i).op), .agg (ivArr (atS (S) (((f i).at_.toNat)))), .agg (ivArr (((f i).num.toNat, (f i).num.toNat))), .bool false] rfl (fun _ _ => by kernel_rfl)) (.tuple #[.agg (optA (brR (f i) S false)), .agg (#[.int .i64 (P2.1), .int .i64 (P2.2.1), .int .i64 (P2.2.2.1), .int .i64 (P2.2.2.2)]), .bool ((brR (f i) S false).isSome)]) (hP2 _) (fun a53 w22 he53 hm22 => ?_)
         refine tk (fuel := 7) (i := 8) ?_ he53 hm22 ⟨rfl, rfl, rfl, rfl, rfl, rfl, rfl, trivial⟩ (.tuple #[.agg (optA (brR (f i) S false)), .agg (#[.int .i64 (P2.1), .int .i64 (P2.2.1), .int .i64 (P2.2.2.1), .int .i64 (P2.2.2.2)]), .bool ((brR (f i) S false).isSome)]) ?_ ?_ ?_ ?_ fun a54 he54 => ?_
         rotate_left
         rw [List.getElem?_toArray]; rfl
         exact ⟨by kernel_rfl, by kernel_rfl, by kernel_rfl⟩
         exact ⟨fun _ _ _ _ h => h, rfl, rfl⟩
         exact fun wS hmS => rn_move _ (Or.inl rfl) _ (he53.tmp 60 _ rfl)
         refine tk (fuel := 6) (i := 9) ?_ he54 hm22 ⟨rfl, rfl, rfl, rfl, rfl, rfl, rfl, trivial⟩ (.agg (optA (brR (f i) S false))) ?_ ?_ ?_ ?_ fun a55 he55 => ?_
         rotate_left
         rw [List.getElem?_toArray]; rfl
         exact ⟨by kernel_rfl, by kernel_rfl, by kernel_rfl⟩
         exact ⟨fun _ _ _ _ h => h, rfl, rfl⟩
         exact fun wS hmS => rn_extract _ _ rfl _ (he54.tmp 52 _ rfl) _ rfl
         refine tk (fuel := 5) (i := 10) ?_ he55 hm22 ⟨rfl, rfl, rfl, rfl, rfl, rfl, rfl, trivial⟩ (.agg (#[.int .i64 (P2.1), .int .i64 (P2.2.1), .int .i64 (P2.2.2.1), .int .i64 (P2.2.2.2)])) ?_ ?_ ?_ ?_ fun a56 he56 => ?_
         rotate_left
         rw [List.getElem?_toArray]; rfl
         exact ⟨by kernel_rfl, by kernel_rfl, by kernel_rfl⟩
         exact ⟨fun _ _ _ _ h => h, rfl, rfl⟩
         exact fun wS hmS => rn_extract _ _ rfl _ (he55.tmp 52 _ rfl) _ rfl
         refine tk (fuel := 4) (i := 11) ?_ he56 hm22 ⟨rfl, rfl, rfl, rfl, rfl, rfl, rfl, trivial⟩ (.bool ((brR (f i) S false).isSome)) ?_ ?_ ?_ ?_ fun a57 he57 => ?_
         rotate_left
         rw [List.getElem?_toArray]; rfl
         exact ⟨by kernel_rfl, by kernel_rfl, by kernel_rfl⟩
         exact ⟨fun _ _ _ _ h => h, rfl, rfl⟩
         exact fun wS hmS => rn_extract _ _ rfl _ (he56.tmp 52 _ rfl) _ rfl
         refine wpAnyH_ready (fuel := 3) (rs := [13]) ?hr2e0111_27 (by simp) (AllReadyH.cons (o := ?o2e0111_27_0) ?hi2e0111_27_0 ?st2e0111_27_0 AllReadyH.nil)
         case hr2e0111_27 => kernel_rfl
         case hi2e0111_27_0 => rw [List.getElem?_toArray]; rfl
         case st2e0111_27_0 =>
          refine st_alloc he57 hm22 8 rfl ⟨rfl, rfl, rfl, rfl, rfl, rfl, rfl, trivial⟩ rfl rfl _ rfl (.agg #[.int .i64 0, .int .i64 0, .int .i64 0, .int .i64 0]) (fun w => by kernel_rfl) (#[.int .i64 (0), .int .i64 (0), .int .i64 (0), .int .i64 (0)]) rfl (fun _ => ⟨rfl, rfl, rfl, rfl, rfl, rfl, rfl, trivial⟩) (fun a58 w23 b8 he58 hm23 => ?_)
          refine wh_store (i := 14) (op := ?op2e0111_28) (fuel := 2) ?hr2e0111_28 ?hi2e0111_28 he58 hm23 7 rfl ?hd2e0111_28 ?hw2e0111_28 54 (.tmp 12) (.tmp 61) ?ho2e0111_28 (0) (he58.tmp 12 _ rfl) _ (he58.tmp 61 _ rfl) 4 agg54.size (optA.sz _) (optA.one _) (by decide) (optA (brR (f i) S false)) (optA_ovw _ _ _ _ _) ⟨rfl, rfl, rfl, rfl, rfl, rfl, rfl, trivial⟩ (fun w24 hm24 => ?k2e0111_28)
          case hi2e0111_28 => rw [List.getElem?_toArray]; rfl
          case hw2e0111_28 => exact rfl
          case hr2e0111_28 => kernel_rfl
          case hd2e0111_28 | ho2e0111_28 => rfl
          refine wh_store (i := 15) (op := ?op2e0111_29) (fuel := 1) ?hr2e0111_29 ?hi2e0111_29 he58 hm24 8 rfl ?hd2e0111_29 ?hw2e0111_29 54 (.tmp 13) (.tmp 62) ?ho2e0111_29 (0) (he58.tmp 13 _ rfl) _ (he58.tmp 62 _ rfl) 4 agg54.size rfl (by kernel_rfl) (by simp) (#[.int .i64 (P2.1), .int .i64 (P2.2.1), .int .i64 (P2.2.2.1), .int .i64 (P2.2.2.2)]) (by kernel_rfl) ⟨rfl, rfl, rfl, rfl, rfl, rfl, rfl, trivial⟩ (fun w25 hm25 => ?k2e0111_29)
          case hi2e0111_29 => rw [List.getElem?_toArray]; rfl
          case hw2e0111_29 => exact rfl
          case hr2e0111_29 => kernel_rfl
          case hd2e0111_29 | ho2e0111_29 => rfl
          refine tk (fuel := 0) (i := 16) ?_ he58 hm25 ⟨rfl, rfl, rfl, rfl, rfl, rfl, rfl, trivial⟩ (.bool ((brR (f i) S false).isSome)) ?_ ?_ ?_ ?_ fun a59 he59 => ?_
          rotate_left
          rw [List.getElem?_toArray]; rfl
          exact ⟨by kernel_rfl, by kernel_rfl, by kernel_rfl⟩
          exact ⟨fun _ _ _ _ h => h, rfl, rfl⟩
          exact fun wS hmS => rn_move _ (Or.inr rfl) _ (he58.tmp 63 _ rfl)
          refine wpAnyH_done (by kernel_rfl) ?_ _
          exact ⟨b7, b8, he59.sub _ ⟨rfl, rfl, rfl, rfl, rfl, rfl, rfl, rfl, rfl, rfl, rfl, rfl, rfl, rfl, rfl, rfl, rfl, rfl, rfl, rfl, rfl, rfl, rfl, rfl, rfl, rfl, rfl, rfl, rfl, rfl, rfl, rfl, rfl, rfl, rfl, rfl, rfl, rfl, rfl, rfl, rfl, rfl, rfl, rfl, rfl, rfl, rfl, rfl, rfl, rfl, rfl, rfl, rfl, rfl, rfl, rfl, trivial⟩, hm25.sub _ ⟨rfl, rfl, rfl, rfl, rfl, rfl, rfl, rfl, rfl, trivial⟩⟩
        case st2e0111_22_1 =>
         refine st_alloc he52 hm21 8 rfl ⟨rfl, rfl, rfl, rfl, rfl, rfl, rfl, trivial⟩ rfl rfl _ rfl (.agg #[.int .i64 0, .int .i64 0, .int .i64 0, .int .i64 0]) (fun w => by kernel_rfl) (#[.int .i64 (0), .int .i64 (0), .int .i64 (0), .int .i64 (0)]) rfl (fun _ => ⟨rfl, rfl, rfl, rfl, rfl, rfl, rfl, trivial⟩) (fun a53 w22 b8 he53 hm22 => ?_)
         refine wpAnyH_ready (fuel := 7) (rs := [7]) ?hr2e0111_31 (by simp) (AllReadyH.cons (o := ?o2e0111_31_0) ?hi2e0111_31_0 ?st2e0111_31_0 AllReadyH.nil)
         case hr2e0111_31 => kernel_rfl
         case hi2e0111_31_0 => rw [List.getElem?_toArray]; rfl
         case st2e0111_31_0 =>
          refine st_call he53 hm22 ⟨rfl, rfl, rfl, rfl, rfl, rfl, rfl, trivial⟩ rfl rfl _ #[.int .i64 ((f i).op), .agg (ivArr (atS (S) (((f i).at_.toNat)))), .agg (ivArr (((f i).num.toNat, (f i).num.toNat))), .bool false] (enter_call _ _ _ rfl 37 #[] #[] rfl #[.int .i64 ((f i).op), .agg (ivArr (atS (S) (((f i).at_.toNat)))), .agg (ivArr (((f i).num.toNat, (f i).num.toNat))), .bool false] (map4 (he53.tmp 54 _ rfl) (he53.tmp 58 _ rfl) (he53.tmp 59 _ rfl) rfl) #[.int .i64 ((f i).op), .agg (ivArr (atS (S) (((f i).at_.toNat)))), .agg (ivArr (((f i).num.toNat, (f i).num.toNat))), .bool false] rfl (fun _ _ => by kernel_rfl)) (.tuple #[.agg (optA (brR (f i) S false)), .agg (#[.int .i64 (P2.1), .int .i64 (P2.2.1), .int .i64 (P2.2.2.1), .int .i64 (P2.2.2.2)]), .bool ((brR (f i) S false).isSome)]) (hP2 _) (fun a54 w23 he54 hm23 => ?_)
          refine tk (fuel := 6) (i := 8) ?_ he54 hm23 ⟨rfl, rfl, rfl, rfl, rfl, rfl, rfl, trivial⟩ (.tuple #[.agg (optA (brR (f i) S false)), .agg (#[.int .i64 (P2.1), .int .i64 (P2.2.1), .int .i64 (P2.2.2.1), .int .i64 (P2.2.2.2)]), .bool ((brR (f i) S false).isSome)]) ?_ ?_ ?_ ?_ fun a55 he55 => ?_
          rotate_left
          rw [List.getElem?_toArray]; rfl
          exact ⟨by kernel_rfl, by kernel_rfl, by kernel_rfl⟩
          exact ⟨fun _ _ _ _ h => h, rfl, rfl⟩
          exact fun wS hmS => rn_move _ (Or.inl rfl) _ (he54.tmp 60 _ rfl)
          refine tk (fuel := 5) (i := 9) ?_ he55 hm23 ⟨rfl, rfl, rfl, rfl, rfl, rfl, rfl, trivial⟩ (.agg (optA (brR (f i) S false))) ?_ ?_ ?_ ?_ fun a56 he56 => ?_
          rotate_left
          rw [List.getElem?_toArray]; rfl
          exact ⟨by kernel_rfl, by kernel_rfl, by kernel_rfl⟩
          exact ⟨fun _ _ _ _ h => h, rfl, rfl⟩
          exact fun wS hmS => rn_extract _ _ rfl _ (he55.tmp 52 _ rfl) _ rfl
          refine tk (fuel := 4) (i := 10) ?_ he56 hm23 ⟨rfl, rfl, rfl, rfl, rfl, rfl, rfl, trivial⟩ (.agg (#[.int .i64 (P2.1), .int .i64 (P2.2.1), .int .i64 (P2.2.2.1), .int .i64 (P2.2.2.2)])) ?_ ?_ ?_ ?_ fun a57 he57 => ?_
          rotate_left
          rw [List.getElem?_toArray]; rfl
          exact ⟨by kernel_rfl, by kernel_rfl, by kernel_rfl⟩
          exact ⟨fun _ _ _ _ h => h, rfl, rfl⟩
          exact fun wS hmS => rn_extract _ _ rfl _ (he56.tmp 52 _ rfl) _ rfl
          refine tk (fuel := 3) (i := 11) ?_ he57 hm23 ⟨rfl, rfl, rfl, rfl, rfl, rfl, rfl, trivial⟩ (.bool ((brR (f i) S false).isSome)) ?_ ?_ ?_ ?_ fun a58 he58 => ?_
          rotate_left
          rw [List.getElem?_toArray]; rfl
          exact ⟨by kernel_rfl, by kernel_rfl, by kernel_rfl⟩
          exact ⟨fun _ _ _ _ h => h, rfl, rfl⟩
          exact fun wS hmS => rn_extract _ _ rfl _ (he57.tmp 52 _ rfl) _ rfl
          refine wh_store (i := 14) (op := ?op2e0111_36) (fuel := 2) ?hr2e0111_36 ?hi2e0111_36 he58 hm23 7 rfl ?hd2e0111_36 ?hw2e0111_36 54 (.tmp 12) (.tmp 61) ?ho2e0111_36 (0) (he58.tmp 12 _ rfl) _ (he58.tmp 61 _ rfl) 4 agg54.size (optA.sz _) (optA.one _) (by decide) (optA (brR (f i) S false)) (optA_ovw _ _ _ _ _) ⟨rfl, rfl, rfl, rfl, rfl, rfl, rfl, trivial⟩ (fun w24 hm24 => ?k2e0111_36)
          case hi2e0111_36 => rw [List.getElem?_toArray]; rfl
          case hw2e0111_36 => exact rfl
          case hr2e0111_36 => kernel_rfl
          case hd2e0111_36 | ho2e0111_36 => rfl
          refine wh_store (i := 15) (op := ?op2e0111_37) (fuel := 1) ?hr2e0111_37 ?hi2e0111_37 he58 hm24 8 rfl ?hd2e0111_37 ?hw2e0111_37 54 (.tmp 13) (.tmp 62) ?ho2e0111_37 (0) (he58.tmp 13 _ rfl) _ (he58.tmp 62 _ rfl) 4 agg54.size rfl (by kernel_rfl) (by simp) (#[.int .i64 (P2.1), .int .i64 (P2.2.1), .int .i64 (P2.2.2.1), .int .i64 (P2.2.2.2)]) (by kernel_rfl) ⟨rfl, rfl, rfl, rfl, rfl, rfl, rfl, trivial⟩ (fun w25 hm25 => ?k2e0111_37)
          case hi2e0111_37 => rw [List.getElem?_toArray]; rfl
          case hw2e0111_37 => exact rfl
          case hr2e0111_37 => kernel_rfl
          case hd2e0111_37 | ho2e0111_37 => rfl
          refine tk (fuel := 0) (i := 16) ?_ he58 hm25 ⟨rfl, rfl, rfl, rfl, rfl, rfl, rfl, trivial⟩ (.bool ((brR (f i) S false).isSome)) ?_ ?_ ?_ ?_ fun a59 he59 => ?_
          rotate_left
          rw [List.getElem?_toArray]; rfl
          exact ⟨by kernel_rfl, by kernel_rfl, by kernel_rfl⟩
          exact ⟨fun _ _ _ _ h => h, rfl, rfl⟩
          exact fun wS hmS => rn_move _ (Or.inr rfl) _ (he58.tmp 63 _ rfl)
          refine wpAnyH_done (by kernel_rfl) ?_ _
          exact ⟨b7, b8, he59.sub _ ⟨rfl, rfl, rfl, rfl, rfl, rfl, rfl, rfl, rfl, rfl, rfl, rfl, rfl, rfl, rfl, rfl, rfl, rfl, rfl, rfl, rfl, rfl, rfl, rfl, rfl, rfl, rfl, rfl, rfl, rfl, rfl, rfl, rfl, rfl, rfl, rfl, rfl, rfl, rfl, rfl, rfl, rfl, rfl, rfl, rfl, rfl, rfl, rfl, rfl, rfl, rfl, rfl, rfl, rfl, rfl, rfl, trivial⟩, hm25.sub _ ⟨rfl, rfl, rfl, rfl, rfl, rfl, rfl, rfl, rfl, trivial⟩⟩
       case st2e0111_8_2 =>
        refine st_alloc he51 hm20 8 rfl ⟨rfl, rfl, rfl, rfl, rfl, rfl, rfl, trivial⟩ rfl rfl _ rfl (.agg #[.int .i64 0, .int .i64 0, .int .i64 0, .int .i64 0]) (fun w => by kernel_rfl) (#[.int .i64 (0), .int .i64 (0), .int .i64 (0), .int .i64 (0)]) rfl (fun _ => ⟨rfl, rfl, rfl, rfl, rfl, rfl, rfl, trivial⟩) (fun a52 w21 b8 he52 hm21 => ?_)
        refine wpAnyH_ready (fuel := 8) (rs := [7, 12]) ?hr2e0111_39 (by simp) (AllReadyH.cons (o := ?o2e0111_39_0) ?hi2e0111_39_0 ?st2e0111_39_0 (AllReadyH.cons (o := ?o2e0111_39_1) ?hi2e0111_39_1 ?st2e0111_39_1 AllReadyH.nil))
        case hr2e0111_39 => kernel_rfl
        case hi2e0111_39_0 => rw [List.getElem?_toArray]; rfl
        case hi2e0111_39_1 => rw [List.getElem?_toArray]; rfl
        case st2e0111_39_0 =>
         refine st_call he52 hm21 ⟨rfl, rfl, rfl, rfl, rfl, rfl, rfl, trivial⟩ rfl rfl _ #[.int .i64 ((f i).op), .agg (ivArr (atS (S) (((f i).at_.toNat)))), .agg (ivArr (((f i).num.toNat, (f i).num.toNat))), .bool false] (enter_call _ _ _ rfl 37 #[] #[] rfl #[.int .i64 ((f i).op), .agg (ivArr (atS (S) (((f i).at_.toNat)))), .agg (ivArr (((f i).num.toNat, (f i).num.toNat))), .bool false] (map4 (he52.tmp 54 _ rfl) (he52.tmp 58 _ rfl) (he52.tmp 59 _ rfl) rfl) #[.int .i64 ((f i).op), .agg (ivArr (atS (S) (((f i).at_.toNat)))), .agg (ivArr (((f i).num.toNat, (f i).num.toNat))), .bool false] rfl (fun _ _ => by kernel_rfl)) (.tuple #[.agg (optA (brR (f i) S false)), .agg (#[.int .i64 (P2.1), .int .i64 (P2.2.1), .int .i64 (P2.2.2.1), .int .i64 (P2.2.2.2)]), .bool ((brR (f i) S false).isSome)]) (hP2 _) (fun a53 w22 he53 hm22 => ?_)
         refine tk (fuel := 7) (i := 8) ?_ he53 hm22 ⟨rfl, rfl, rfl, rfl, rfl, rfl, rfl, trivial⟩ (.tuple #[.agg (optA (brR (f i) S false)), .agg (#[.int .i64 (P2.1), .int .i64 (P2.2.1), .int .i64 (P2.2.2.1), .int .i64 (P2.2.2.2)]), .bool ((brR (f i) S false).isSome)]) ?_ ?_ ?_ ?_ fun a54 he54 => ?_
         rotate_left
         rw [List.getElem?_toArray]; rfl
         exact ⟨by kernel_rfl, by kernel_rfl, by kernel_rfl⟩
         exact ⟨fun _ _ _ _ h => h, rfl, rfl⟩
         exact fun wS hmS => rn_move _ (Or.inl rfl) _ (he53.tmp 60 _ rfl)
         refine tk (fuel := 6) (i := 9) ?_ he54 hm22 ⟨rfl, rfl, rfl, rfl, rfl, rfl, rfl, trivial⟩ (.agg (optA (brR (f i) S false))) ?_ ?_ ?_ ?_ fun a55 he55 => ?_
         rotate_left
         rw [List.getElem?_toArray]; rfl
         exact ⟨by kernel_rfl, by kernel_rfl, by kernel_rfl⟩
         exact ⟨fun _ _ _ _ h => h, rfl, rfl⟩
         exact fun wS hmS => rn_extract _ _ rfl _ (he54.tmp 52 _ rfl) _ rfl
         refine tk (fuel := 5) (i := 10) ?_ he55 hm22 ⟨rfl, rfl, rfl, rfl, rfl, rfl, rfl, trivial⟩ (.agg (#[.int .i64 (P2.1), .int .i64 (P2.2.1), .int .i64 (P2.2.2.1), .int .i64 (P2.2.2.2)])) ?_ ?_ ?_ ?_ fun a56 he56 => ?_
         rotate_left
         rw [List.getElem?_toArray]; rfl
         exact ⟨by kernel_rfl, by kernel_rfl, by kernel_rfl⟩
         exact ⟨fun _ _ _ _ h => h, rfl, rfl⟩
         exact fun wS hmS => rn_extract _ _ rfl _ (he55.tmp 52 _ rfl) _ rfl
         refine tk (fuel := 4) (i := 11) ?_ he56 hm22 ⟨rfl, rfl, rfl, rfl, rfl, rfl, rfl, trivial⟩ (.bool ((brR (f i) S false).isSome)) ?_ ?_ ?_ ?_ fun a57 he57 => ?_
         rotate_left
         rw [List.getElem?_toArray]; rfl
         exact ⟨by kernel_rfl, by kernel_rfl, by kernel_rfl⟩
         exact ⟨fun _ _ _ _ h => h, rfl, rfl⟩
         exact fun wS hmS => rn_extract _ _ rfl _ (he56.tmp 52 _ rfl) _ rfl
         refine wpAnyH_ready (fuel := 3) (rs := [12]) ?hr2e0111_44 (by simp) (AllReadyH.cons (o := ?o2e0111_44_0) ?hi2e0111_44_0 ?st2e0111_44_0 AllReadyH.nil)
         case hr2e0111_44 => kernel_rfl
         case hi2e0111_44_0 => rw [List.getElem?_toArray]; rfl
         case st2e0111_44_0 =>
          refine st_alloc he57 hm22 7 rfl ⟨rfl, rfl, rfl, rfl, rfl, rfl, rfl, trivial⟩ rfl rfl _ rfl (.agg #[.int .i64 0, .int .i64 0, .int .i64 0, .int .i64 0]) (fun w => by kernel_rfl) (#[.int .i64 (0), .int .i64 (0), .int .i64 (0), .int .i64 (0)]) rfl (fun _ => ⟨rfl, rfl, rfl, rfl, rfl, rfl, rfl, trivial⟩) (fun a58 w23 b7 he58 hm23 => ?_)
          refine wh_store (i := 14) (op := ?op2e0111_45) (fuel := 2) ?hr2e0111_45 ?hi2e0111_45 he58 hm23 7 rfl ?hd2e0111_45 ?hw2e0111_45 54 (.tmp 12) (.tmp 61) ?ho2e0111_45 (0) (he58.tmp 12 _ rfl) _ (he58.tmp 61 _ rfl) 4 agg54.size (optA.sz _) (optA.one _) (by decide) (optA (brR (f i) S false)) (optA_ovw _ _ _ _ _) ⟨rfl, rfl, rfl, rfl, rfl, rfl, rfl, trivial⟩ (fun w24 hm24 => ?k2e0111_45)
          case hi2e0111_45 => rw [List.getElem?_toArray]; rfl
          case hw2e0111_45 => exact rfl
          case hr2e0111_45 => kernel_rfl
          case hd2e0111_45 | ho2e0111_45 => rfl
          refine wh_store (i := 15) (op := ?op2e0111_46) (fuel := 1) ?hr2e0111_46 ?hi2e0111_46 he58 hm24 8 rfl ?hd2e0111_46 ?hw2e0111_46 54 (.tmp 13) (.tmp 62) ?ho2e0111_46 (0) (he58.tmp 13 _ rfl) _ (he58.tmp 62 _ rfl) 4 agg54.size rfl (by kernel_rfl) (by simp) (#[.int .i64 (P2.1), .int .i64 (P2.2.1), .int .i64 (P2.2.2.1), .int .i64 (P2.2.2.2)]) (by kernel_rfl) ⟨rfl, rfl, rfl, rfl, rfl, rfl, rfl, trivial⟩ (fun w25 hm25 => ?k2e0111_46)
          case hi2e0111_46 => rw [List.getElem?_toArray]; rfl
          case hw2e0111_46 => exact rfl
          case hr2e0111_46 => kernel_rfl
          case hd2e0111_46 | ho2e0111_46 => rfl
          refine tk (fuel := 0) (i := 16) ?_ he58 hm25 ⟨rfl, rfl, rfl, rfl, rfl, rfl, rfl, trivial⟩ (.bool ((brR (f i) S false).isSome)) ?_ ?_ ?_ ?_ fun a59 he59 => ?_
          rotate_left
          rw [List.getElem?_toArray]; rfl
          exact ⟨by kernel_rfl, by kernel_rfl, by kernel_rfl⟩
          exact ⟨fun _ _ _ _ h => h, rfl, rfl⟩
          exact fun wS hmS => rn_move _ (Or.inr rfl) _ (he58.tmp 63 _ rfl)
          refine wpAnyH_done (by kernel_rfl) ?_ _
          exact ⟨b7, b8, he59.sub _ ⟨rfl, rfl, rfl, rfl, rfl, rfl, rfl, rfl, rfl, rfl, rfl, rfl, rfl, rfl, rfl, rfl, rfl, rfl, rfl, rfl, rfl, rfl, rfl, rfl, rfl, rfl, rfl, rfl, rfl, rfl, rfl, rfl, rfl, rfl, rfl, rfl, rfl, rfl, rfl, rfl, rfl, rfl, rfl, rfl, rfl, rfl, rfl, rfl, rfl, rfl, rfl, rfl, rfl, rfl, rfl, rfl, trivial⟩, hm25.sub _ ⟨rfl, rfl, rfl, rfl, rfl, rfl, rfl, rfl, rfl, trivial⟩⟩
        case st2e0111_39_1 =>
         refine st_alloc he52 hm21 7 rfl ⟨rfl, rfl, rfl, rfl, rfl, rfl, rfl, trivial⟩ rfl rfl _ rfl (.agg #[.int .i64 0, .int .i64 0, .int .i64 0, .int .i64 0]) (fun w => by kernel_rfl) (#[.int .i64 (0), .int .i64 (0), .int .i64 (0), .int .i64 (0)]) rfl (fun _ => ⟨rfl, rfl, rfl, rfl, rfl, rfl, rfl, trivial⟩) (fun a53 w22 b7 he53 hm22 => ?_)
         refine wpAnyH_ready (fuel := 7) (rs := [7]) ?hr2e0111_48 (by simp) (AllReadyH.cons (o := ?o2e0111_48_0) ?hi2e0111_48_0 ?st2e0111_48_0 AllReadyH.nil)
         case hr2e0111_48 => kernel_rfl
         case hi2e0111_48_0 => rw [List.getElem?_toArray]; rfl
         case st2e0111_48_0 =>
          refine st_call he53 hm22 ⟨rfl, rfl, rfl, rfl, rfl, rfl, rfl, trivial⟩ rfl rfl _ #[.int .i64 ((f i).op), .agg (ivArr (atS (S) (((f i).at_.toNat)))), .agg (ivArr (((f i).num.toNat, (f i).num.toNat))), .bool false] (enter_call _ _ _ rfl 37 #[] #[] rfl #[.int .i64 ((f i).op), .agg (ivArr (atS (S) (((f i).at_.toNat)))), .agg (ivArr (((f i).num.toNat, (f i).num.toNat))), .bool false] (map4 (he53.tmp 54 _ rfl) (he53.tmp 58 _ rfl) (he53.tmp 59 _ rfl) rfl) #[.int .i64 ((f i).op), .agg (ivArr (atS (S) (((f i).at_.toNat)))), .agg (ivArr (((f i).num.toNat, (f i).num.toNat))), .bool false] rfl (fun _ _ => by kernel_rfl)) (.tuple #[.agg (optA (brR (f i) S false)), .agg (#[.int .i64 (P2.1), .int .i64 (P2.2.1), .int .i64 (P2.2.2.1), .int .i64 (P2.2.2.2)]), .bool ((brR (f i) S false).isSome)]) (hP2 _) (fun a54 w23 he54 hm23 => ?_)
          refine tk (fuel := 6) (i := 8) ?_ he54 hm23 ⟨rfl, rfl, rfl, rfl, rfl, rfl, rfl, trivial⟩ (.tuple #[.agg (optA (brR (f i) S false)), .agg (#[.int .i64 (P2.1), .int .i64 (P2.2.1), .int .i64 (P2.2.2.1), .int .i64 (P2.2.2.2)]), .bool ((brR (f i) S false).isSome)]) ?_ ?_ ?_ ?_ fun a55 he55 => ?_
          rotate_left
          rw [List.getElem?_toArray]; rfl
          exact ⟨by kernel_rfl, by kernel_rfl, by kernel_rfl⟩
          exact ⟨fun _ _ _ _ h => h, rfl, rfl⟩
          exact fun wS hmS => rn_move _ (Or.inl rfl) _ (he54.tmp 60 _ rfl)
          refine tk (fuel := 5) (i := 9) ?_ he55 hm23 ⟨rfl, rfl, rfl, rfl, rfl, rfl, rfl, trivial⟩ (.agg (optA (brR (f i) S false))) ?_ ?_ ?_ ?_ fun a56 he56 => ?_
          rotate_left
          rw [List.getElem?_toArray]; rfl
          exact ⟨by kernel_rfl, by kernel_rfl, by kernel_rfl⟩
          exact ⟨fun _ _ _ _ h => h, rfl, rfl⟩
          exact fun wS hmS => rn_extract _ _ rfl _ (he55.tmp 52 _ rfl) _ rfl
          refine tk (fuel := 4) (i := 10) ?_ he56 hm23 ⟨rfl, rfl, rfl, rfl, rfl, rfl, rfl, trivial⟩ (.agg (#[.int .i64 (P2.1), .int .i64 (P2.2.1), .int .i64 (P2.2.2.1), .int .i64 (P2.2.2.2)])) ?_ ?_ ?_ ?_ fun a57 he57 => ?_
          rotate_left
          rw [List.getElem?_toArray]; rfl
          exact ⟨by kernel_rfl, by kernel_rfl, by kernel_rfl⟩
          exact ⟨fun _ _ _ _ h => h, rfl, rfl⟩
          exact fun wS hmS => rn_extract _ _ rfl _ (he56.tmp 52 _ rfl) _ rfl
          refine tk (fuel := 3) (i := 11) ?_ he57 hm23 ⟨rfl, rfl, rfl, rfl, rfl, rfl, rfl, trivial⟩ (.bool ((brR (f i) S false).isSome)) ?_ ?_ ?_ ?_ fun a58 he58 => ?_
          rotate_left
          rw [List.getElem?_toArray]; rfl
          exact ⟨by kernel_rfl, by kernel_rfl, by kernel_rfl⟩
          exact ⟨fun _ _ _ _ h => h, rfl, rfl⟩
          exact fun wS hmS => rn_extract _ _ rfl _ (he57.tmp 52 _ rfl) _ rfl
          refine wh_store (i := 14) (op := ?op2e0111_53) (fuel := 2) ?hr2e0111_53 ?hi2e0111_53 he58 hm23 7 rfl ?hd2e0111_53 ?hw2e0111_53 54 (.tmp 12) (.tmp 61) ?ho2e0111_53 (0) (he58.tmp 12 _ rfl) _ (he58.tmp 61 _ rfl) 4 agg54.size (optA.sz _) (optA.one _) (by decide) (optA (brR (f i) S false)) (optA_ovw _ _ _ _ _) ⟨rfl, rfl, rfl, rfl, rfl, rfl, rfl, trivial⟩ (fun w24 hm24 => ?k2e0111_53)
          case hi2e0111_53 => rw [List.getElem?_toArray]; rfl
          case hw2e0111_53 => exact rfl
          case hr2e0111_53 => kernel_rfl
          case hd2e0111_53 | ho2e0111_53 => rfl
          refine wh_store (i := 15) (op := ?op2e0111_54) (fuel := 1) ?hr2e0111_54 ?hi2e0111_54 he58 hm24 8 rfl ?hd2e0111_54 ?hw2e0111_54 54 (.tmp 13) (.tmp 62) ?ho2e0111_54 (0) (he58.tmp 13 _ rfl) _ (he58.tmp 62 _ rfl) 4 agg54.size rfl (by kernel_rfl) (by simp) (#[.int .i64 (P2.1), .int .i64 (P2.2.1), .int .i64 (P2.2.2.1), .int .i64 (P2.2.2.2)]) (by kernel_rfl) ⟨rfl, rfl, rfl, rfl, rfl, rfl, rfl, trivial⟩ (fun w25 hm25 => ?k2e0111_54)
          case hi2e0111_54 => rw [List.getElem?_toArray]; rfl
          case hw2e0111_54 => exact rfl
          case hr2e0111_54 => kernel_rfl
          case hd2e0111_54 | ho2e0111_54 => rfl
          refine tk (fuel := 0) (i := 16) ?_ he58 hm25 ⟨rfl, rfl, rfl, rfl, rfl, rfl, rfl, trivial⟩ (.bool ((brR (f i) S false).isSome)) ?_ ?_ ?_ ?_ fun a59 he59 => ?_
          rotate_left
          rw [List.getElem?_toArray]; rfl
          exact ⟨by kernel_rfl, by kernel_rfl, by kernel_rfl⟩
          exact ⟨fun _ _ _ _ h => h, rfl, rfl⟩
          exact fun wS hmS => rn_move _ (Or.inr rfl) _ (he58.tmp 63 _ rfl)
          refine wpAnyH_done (by kernel_rfl) ?_ _
          exact ⟨b7, b8, he59.sub _ ⟨rfl, rfl, rfl, rfl, rfl, rfl, rfl, rfl, rfl, rfl, rfl, rfl, rfl, rfl, rfl, rfl, rfl, rfl, rfl, rfl, rfl, rfl, rfl, rfl, rfl, rfl, rfl, rfl, rfl, rfl, rfl, rfl, rfl, rfl, rfl, rfl, rfl, rfl, rfl, rfl, rfl, rfl, rfl, rfl, rfl, rfl, rfl, rfl, rfl, rfl, rfl, rfl, rfl, rfl, rfl, rfl, trivial⟩, hm25.sub _ ⟨rfl, rfl, rfl, rfl, rfl, rfl, rfl, rfl, rfl, trivial⟩⟩
      rintro a60 w27 ⟨b7, b8, he60, hm27⟩
      refine then_normal ?_
      refine wp_seq ?_
      refine wp_seqR ?_
      refine wl_val he60 rfl rfl (.bool ((brR (f i) S false).isSome)) (rn_move _ (Or.inl rfl) _ (he60.tmp 14 _ rfl)) (fun a61 he61 => ?_)
      clear he60
      cases hd4 : ((brR (f i) S false).isSome)
      ·
       have hb2 : brR (f i) S false = none := by simpa using hd4
       refine wl_val he61 rfl rfl (.bool true) (rn_un _ _ _ rfl _ (.bool (!(brR (f i) S false).isSome)) _ (he61.tmp 64 _ rfl) rfl (congrArg (fun q => Value.bool (!q)) hd4)) (fun a62 he62 => ?_)
       clear he61
       refine wl_end ?_
       refine wp_condT (he := he62) rfl ?_
       refine wp_exit ?_
       refine exit_then ?_
       refine exit_out (by decide) ?_
       refine exit_then ?_
       refine exit_then ?_
       refine exit_here ?_
       refine then_normal ?_
       refine wp_seqR ?_
       refine wl_val he62 rfl rfl (.slice (some ⟨b90_43, 0, none⟩) (on + 1) (cap90_43)) (rn_move _ (Or.inl rfl) _ (he62.tmp 5 _ rfl)) (fun a63 he63 => ?_)
       clear he62
       refine wl_val he63 rfl rfl (.slice (some ⟨b90_43, 0, none⟩) (on + 1) (cap90_43)) (rn_move _ (Or.inr rfl) _ (he63.tmp 71 _ rfl)) (fun a64 he64 => ?_)
       clear he63
       refine wl_end ?_
       refine wp_ret ?_
       have htm : tidM f n = (o) ++ ([f i]) := tid_last htd (by omega) hb1 hb2
       have hN : on + 1 = (tidM f n).length := by rw [htm]; simp [hon]
       have hL : cellsOf Ru.arr ((o) ++ ([f i])) = cellsOf Ru.arr (tidM f n) := by rw [htm]
       exact bodyPost_ret (results_tmp he64 _ Try.results21 _ rfl) he64.defers (Or.inr ⟨by rw [htm]; intro h0; have := congrArg List.length h0; simp at this, ⟨(cap90_43, cur90_43), _, congrArg (fun k => Ending.returned (.slice (some ⟨b90_43, 0, none⟩) k (cap90_43))) hN, hm27.bx 90 _ _ _ _ rfl, rw90_43.cast hN hL, by have := hm27.own 90 _ rfl rfl; simpa using this, hm27.below⟩⟩)
      ·
       obtain ⟨y2, hb2⟩ := Option.isSome_iff_exists.1 hd4
       refine wl_val he61 rfl rfl (.bool false) (rn_un _ _ _ rfl _ (.bool (!(brR (f i) S false).isSome)) _ (he61.tmp 64 _ rfl) rfl (congrArg (fun q => Value.bool (!q)) hd4)) (fun a62 he62 => ?_)
       clear he61
       refine wl_end ?_
       refine wp_condF (he := he62) rfl ?_
       refine wp_skip ?_
       refine then_normal ?_
       refine wp_region_lit ?_
       refine wl_val he62 rfl rfl (.pointer (some ⟨b2, 0, none⟩)) (rn_field _ _ _ rfl _ (.pointer (some ⟨b2, 0, none⟩)) (he62.tmp 7 _ rfl) (by kernel_rfl)) (fun a63 he63 => ?_)
       clear he62
       refine wl_val he63 rfl rfl (.int .i64 ((((f i).at_.toNat : Nat) : Int))) (rn_load1 hm27 2 rfl _ _ rfl (0) (he63.tmp 66 _ rfl) one3 _ (Ru.g_at' _ hri)) (fun a64 he64 => ?_)
       clear he63
       refine wl_val he64 rfl rfl (.agg (optA (brR (f i) S false))) (rn_loadA hm27 7 rfl _ _ rfl (0) (he64.tmp 12 _ rfl) 4 agg54 (optA (brR (f i) S false)) (optA_ext _) (optA.sz _)) (fun a65 he65 => ?_)
       clear he64
       refine wl_val he65 rfl rfl (.pointer (some ⟨b1, 0 + ((f i).at_.toNat) * 4, none⟩)) (rn_indexA _ _ _ rfl _ _ (.pointer (some ⟨b1, 0 + ((f i).at_.toNat) * 4, none⟩)) (he65.tmp 3 _ rfl) (he65.tmp 67 _ rfl) (ixA 12 54 4 (by kernel_rfl) (fun w => by kernel_rfl) b1 0 ((f i).at_.toNat) (by omega) (by decide) _)) (fun a66 he66 => ?_)
       clear he65
       obtain ⟨q1, hq1⟩ : ∃ q1 : Array Value, q1 = ovw (cur) (0 + ((f i).at_.toNat) * 4) (optA (brR (f i) S false)).toList := ⟨_, rfl⟩
       have rq1 : Rw q1 12 12 4 (cellsOf ivArr ((S).set (((f i).at_.toNat)) (y2))) := by rw [hq1, hb2]; exact hrw.set ivArr.sz (by rw [hS.len]; omega) _ _ (by omega)
       have fq1 := hrw.fit'
       refine wl_store he66 hm27 1 rfl rfl rfl _ _ _ rfl (0 + ((f i).at_.toNat) * 4) (he66.tmp 69 _ rfl) _ (he66.tmp 68 _ rfl) 4 agg54.size (optA.sz _) (optA.one _) (by omega) (q1) hq1.symm (fun w28 hm28 => ?_)
       clear hm27
       refine wpList_nil ?_
       refine in_normal ?_
       refine then_normal ?_
       refine wp_region_lit ?_
       refine wl_val he66 rfl rfl (.int .i64 (((i + 1 : Nat) : Int))) (rn_bin _ _ _ _ _ rfl .i64 _ _ (he66.tmp 27 _ rfl) rfl (.int .i64 (IntKind.wrap .i64 (((i : Nat) : Int) + 1))) _ rfl (addN (i := i) (c := 1) (by omega))) (fun a67 he67 => ?_)
       clear he66
       refine wl_val he67 rfl rfl (.int .i64 (((i + 1 : Nat) : Int))) (rn_move _ (Or.inl rfl) _ (he67.tmp 70 _ rfl)) (fun a68 he68 => ?_)
       clear he67
       refine wpList_nil ?_
       exact ⟨n - (i + 1), by omega, Or.inr ⟨i + 1, S.set (f i).at_.toNat y2, q1, (o) ++ ([f i]), on + 1, b90_43, cap90_43, cur90_43, rfl, ⟨by omega, (hS.set hb2), rq1, tid_keep htd (by omega) hb1 hb2, by simp [hon], by omega, by omega, rw90_43⟩, he68.sub _ ⟨rfl, rfl, rfl, rfl, rfl, rfl, rfl, rfl, rfl, rfl, rfl, rfl, trivial⟩, hm28.sub _ ⟨rfl, rfl, trivial⟩⟩⟩
  ·
   have hd1p := of_decide_eq_true hd1
   refine wl_val he7 rfl rfl (.bool true) (rn_bin _ _ _ _ _ rfl .i64 _ _ (he7.tmp 18 _ rfl) rfl (.bool (decide (((i0 : Nat) : Int) < 12))) _ rfl (congrArg Value.bool (hd1))) (fun a8 he8 => ?_)
   clear he7
   refine wl_end ?_
   refine wp_seq ?_
   refine wp_condT (he := he8) rfl ?_
   refine wp_skip ?_
   refine then_normal ?_
   refine wp_seq ?_
   refine wp_block ?_
   refine wp_seqR ?_
   refine wl_val he8 rfl rfl (.int .i64 (((i0 : Nat) : Int))) (rn_move _ (Or.inl rfl) _ (he8.tmp 18 _ rfl)) (fun a9 he9 => ?_)
   clear he8
   refine wl_val he9 rfl rfl (.int .i64 (((i0 : Nat) : Int))) (rn_move _ (Or.inr rfl) _ (he9.tmp 20 _ rfl)) (fun a10 he10 => ?_)
   clear he9
   refine wl_end ?_
   refine wp_region_lit ?_
   refine wl_val he10 rfl rfl (.int .i64 (((i0 : Nat) : Int))) (rn_move _ (Or.inl rfl) _ (he10.tmp 4 _ rfl)) (fun a11 he11 => ?_)
   clear he10
   refine wl_call he11 hm3 rfl rfl _ #[.int .i64 (0), .int .i64 (255)] (enter_call _ _ _ rfl 35 #[] #[] rfl #[.int .i64 (0), .int .i64 (255)] (map2 rfl rfl) #[.int .i64 (0), .int .i64 (255)] rfl (fun _ _ => by kernel_rfl)) (.agg (ivArr (full))) (c_from255 _) (fun a12 w4 he12 hm4 => ?_)
   clear he11 hm3
   refine wl_val he12 rfl rfl (.pointer (some ⟨b1, 0 + i0 * 4, none⟩)) (rn_indexA _ _ _ rfl _ _ (.pointer (some ⟨b1, 0 + i0 * 4, none⟩)) (he12.tmp 3 _ rfl) (he12.tmp 21 _ rfl) (ixA 12 54 4 (by kernel_rfl) (fun w => by kernel_rfl) b1 0 (i0) (by omega) (by decide) _)) (fun a13 he13 => ?_)
   clear he12
   obtain ⟨q1, hq1⟩ : ∃ q1 : Array Value, q1 = ovw (cur0) (0 + i0 * 4) (ivArr (full)).toList := ⟨_, rfl⟩
   have rq1 : Rw q1 12 12 4 (cellsOf ivArr ((initS i0).set (i0) (full))) := by rw [hq1]; exact hrw.set ivArr.sz (by rw [initS_len (by omega)]; omega) _ _ (by omega)
   have fq1 := hrw.fit'
   refine wl_store he13 hm4 1 rfl rfl rfl _ _ _ rfl (0 + i0 * 4) (he13.tmp 23 _ rfl) _ (he13.tmp 22 _ rfl) 4 agg54.size rfl (ivArr.one _) (by omega) (q1) hq1.symm (fun w5 hm5 => ?_)
   clear hm4
   refine wpList_nil ?_
   refine in_normal ?_
   refine then_normal ?_
   refine wp_region_lit ?_
   refine wl_val he13 rfl rfl (.int .i64 (((i0 + 1 : Nat) : Int))) (rn_bin _ _ _ _ _ rfl .i64 _ _ (he13.tmp 18 _ rfl) rfl (.int .i64 (IntKind.wrap .i64 (((i0 : Nat) : Int) + 1))) _ rfl (addN (i := i0) (c := 1) (by omega))) (fun a14 he14 => ?_)
   clear he13
   refine wl_val he14 rfl rfl (.int .i64 (((i0 + 1 : Nat) : Int))) (rn_move _ (Or.inl rfl) _ (he14.tmp 24 _ rfl)) (fun a15 he15 => ?_)
   clear he14
   refine wpList_nil ?_
   exact ⟨12 - (i0 + 1), by omega, i0 + 1, q1, rfl, ⟨by omega, by have := rq1; rw [initS_set (by omega)] at this; exact this⟩, he15.sub _ ⟨rfl, rfl, rfl, rfl, rfl, rfl, rfl, trivial⟩, hm5.sub _ ⟨rfl, trivial⟩⟩
end Go.Proofs.Ytcopcajleonndaa
