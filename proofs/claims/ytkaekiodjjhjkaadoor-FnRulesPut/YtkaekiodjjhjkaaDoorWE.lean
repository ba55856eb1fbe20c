/- A text cut at a byte, by the specification, exactly. -/
import Derived.Test.YtkaekiodjjhjkaaDoorSM
import Derived.Test.YtkaekiodjjhjkaaDoorWE0
namespace Go.Proofs.YtkaekiodjjhjkaaDoor
open Go.RowKit
set_option linter.unusedVariables false
set_option linter.unusedSimpArgs false
theorem c_cut (s : ByteArray) (c most : Nat) (w : World) (hs : s.size ≤ 1048576) :
    Calls Tryd.prog 25 #[.string (s), .int .u8 (((c : Nat) : Int)), .int .i64 (((most : Nat) : Int))] w fun e w' => NewRow w (fun (x : Nat × Array Value) b => .slice (some ⟨b, 0, none⟩) (cutM s c most).length x.1) 9 (fun x => x.2) (fun x => Rw x.2 (cutM s c most).length x.1 1 ((cutM s c most).map fun x => .string x)) e w' := by
  refine calls_begin Tryd.func25 rfl 43 rfl (Nat.le_of_ble_eq_true rfl) [(0, .string (s)), (1, .int .u8 (((c : Nat) : Int))), (2, .int .i64 (((most : Nat) : Int)))] ⟨rfl, rfl, rfl, trivial⟩ (fun a0 he0 hm0 => ?_)
  refine wp_seqR ?_
  refine wl_val he0 rfl rfl (.slice none 0 0) (rn_move _ (Or.inr rfl) _ rfl) (fun a1 he1 => ?_)
  clear he0
  refine wl_end ?_
  refine wp_seqR ?_
  refine wl_buildSlice he1 hm0 1 rfl rfl rfl _ _ _ rfl #[] (pmap0 _) 9 (#[]) (by kernel_rfl) (fun a2 w1 b1 he2 hm1 => ?_)
  clear he1 hm0
  have rw1_0 := Rw.nil 1
  refine wl_val he2 rfl rfl (.slice (some ⟨b1, 0, none⟩) (0) (0)) (rn_move _ (Or.inr rfl) _ (he2.tmp 10 _ rfl)) (fun a3 he3 => ?_)
  clear he2
  refine wl_end ?_
  refine wp_seqR ?_
  refine wl_val he3 rfl rfl (.int .i64 (0)) (rn_move _ (Or.inr rfl) _ rfl) (fun a4 he4 => ?_)
  clear he3
  refine wl_end ?_
  refine wp_seq ?_
  refine wp_seqR ?_
  refine wl_val he4 rfl rfl (.int .i64 (0)) (rn_move _ (Or.inr rfl) _ rfl) (fun a5 he5 => ?_)
  clear he4
  refine wl_end ?_
  refine wp_block ?_
  refine wp_loopN (fun mz az wz => ∃ (i : Nat), ∃ (fr : Nat), ∃ (n : Nat), ∃ (out : List ByteArray), ∃ (b : Nat), ∃ (cap : Nat), ∃ (cur : Array Value), mz = s.size - (i) ∧ (i ≤ s.size ∧ fr ≤ i ∧ n = (out).length ∧ n ≤ i ∧ Rw cur (n) cap 1 ((out).map fun x => .string x) ∧ cutN s c most (s.size - (i)) (i) (fr) (out) = cutM s c most) ∧ EV az 43 [] [(0, .string (s)), (1, .int .u8 (((c : Nat) : Int))), (2, .int .i64 (((most : Nat) : Int))), (6, .slice none 0 0), (10, .slice (some ⟨b1, 0, none⟩) (0) (0)), (9, .int .i64 (((i : Nat) : Int))), (8, .int .i64 (((fr : Nat) : Int))), (7, .slice (some ⟨b, 0, none⟩) (n) (cap))] ∧ MM [] w wz [(1, ⟨true, b, 9, cur⟩)]) ⟨_, 0, 0, 0, [], b1, 0, #[], rfl, ⟨by omega, by omega, rfl, by omega, rw1_0, rfl⟩, he5.sub _ ⟨rfl, rfl, rfl, rfl, rfl, rfl, rfl, rfl, trivial⟩, hm1.sub _ ⟨rfl, trivial⟩⟩ ?_
  rintro mz1 a6 w2 ⟨i, fr, n, out, b, cap, cur, rfl, hrel1, he6, hm2⟩
  clear he5 hm1
  obtain ⟨hr1, hr2, hr3, hr4, hrw, hr5⟩ := hrel1
  refine wp_seq ?_
  refine wp_seqR ?_
  refine wl_val he6 rfl rfl (.int .i64 (((i : Nat) : Int))) (rn_move _ (Or.inl rfl) _ (he6.tmp 9 _ rfl)) (fun a7 he7 => ?_)
  clear he6
  refine wl_val he7 rfl rfl (.string (s)) (rn_move _ (Or.inl rfl) _ (he7.tmp 0 _ rfl)) (fun a8 he8 => ?_)
  clear he7
  refine wl_val he8 rfl rfl (.int .i64 ((((s).size : Nat) : Int))) (rn_builtin _ _ _ rfl #[.string (s)] (map1 (he8.tmp 12 _ rfl)) (.int .i64 ((((s).size : Nat) : Int))) (by kernel_rfl)) (fun a9 he9 => ?_)
  clear he8
  cases hd1 : (decide (((i : Nat) : Int) < (((s).size : Nat) : Int)))
  ·
   have hd1p := of_decide_eq_false hd1
   refine wl_val he9 rfl rfl (.bool false) (rn_bin _ _ _ _ _ rfl .i64 _ _ (he9.tmp 11 _ rfl) (he9.tmp 13 _ rfl) (.bool (decide (((i : Nat) : Int) < (((s).size : Nat) : Int)))) _ rfl (congrArg Value.bool (hd1))) (fun a10 he10 => ?_)
   clear he9
   refine wl_val he10 rfl rfl (.bool false) (rn_move _ (Or.inl rfl) _ (he10.tmp 14 _ rfl)) (fun a11 he11 => ?_)
   clear he10
   refine wl_not he11 rfl (wanted_slot he11 4 true rfl 15 rfl false rfl false rfl) (fun a12 he12 => ?_)
   clear he11
   refine wl_not he12 rfl (wanted_slot he12 4 true rfl 15 rfl false rfl false rfl) (fun a13 he13 => ?_)
   clear he12
   refine wl_not he13 rfl (wanted_slot he13 4 true rfl 15 rfl false rfl false rfl) (fun a14 he14 => ?_)
   clear he13
   refine wl_not he14 rfl (wanted_slot he14 4 true rfl 15 rfl false rfl false rfl) (fun a15 he15 => ?_)
   clear he14
   refine wl_val he15 rfl rfl (.bool false) (rn_pickF _ _ _ rfl (he15.tmp 15 _ rfl) _ rfl) (fun a16 he16 => ?_)
   clear he15
   refine wl_end ?_
   refine wp_condF (he := he16) rfl ?_
   refine wp_exit ?_
   refine exit_then ?_
   refine exit_then ?_
   refine exit_here ?_
   refine then_normal ?_
   refine wp_seqR ?_
   refine wl_val he16 rfl rfl (.slice (some ⟨b, 0, none⟩) (n) (cap)) (rn_move _ (Or.inl rfl) _ (he16.tmp 7 _ rfl)) (fun a17 he17 => ?_)
   clear he16
   refine wl_val he17 rfl rfl (.string (s)) (rn_move _ (Or.inl rfl) _ (he17.tmp 0 _ rfl)) (fun a18 he18 => ?_)
   clear he17
   refine wl_val he18 rfl rfl (.int .i64 (((fr : Nat) : Int))) (rn_move _ (Or.inl rfl) _ (he18.tmp 8 _ rfl)) (fun a19 he19 => ?_)
   clear he18
   refine wl_val he19 rfl rfl (.string ((s).extract (fr) ((s).size))) (rn_sslice _ (by kernel_rfl) _ _ _ rfl _ (fr) ((s).size) (he19.tmp 38 _ rfl) (Or.inl (by simp only [Option.map_some]; exact congrArg some (he19.tmp 39 _ rfl))) (Or.inr ⟨rfl, rfl⟩) (by omega) (by omega)) (fun a20 he20 => ?_)
   clear he19
   refine wl_buildSlice he20 hm2 2 rfl rfl rfl _ _ _ rfl #[(0, .string ((s).extract (fr) ((s).size)))] (pmap1 (he20.tmp 40 _ rfl)) 9 (#[.string ((s).extract (fr) ((s).size))]) (by kernel_rfl) (fun a21 w3 b2 he21 hm3 => ?_)
   clear he20 hm2
   refine wl_append he21 hm3 1 rfl rfl rfl _ _ _ rfl el9 (he21.tmp 37 _ rfl) hrw ⟨b2, 0, none⟩ 1 1 (he21.tmp 41 _ rfl) (#[.string ((s).extract (fr) ((s).size))]).toList (by simp []) (fun j u hu => by rw [Addr.add_mid, Nat.zero_add, (hm3.bx 2 _ _ _ _ rfl).cell]; simpa using hu) (by intro u hu; simp at hu; rcases hu with rfl <;> rfl) (by simp only [maxLen]; omega) (by omega) (fun a22 w4 b1_22 cap1_22 cur1_22 he22 hm4 rw1_22 => ?_)
   clear he21 hm3
   refine wl_val he22 rfl rfl (.slice (some ⟨b1_22, 0, none⟩) (n + 1) (cap1_22)) (rn_move _ (Or.inr rfl) _ (he22.tmp 42 _ rfl)) (fun a23 he23 => ?_)
   clear he22
   refine wl_end ?_
   refine wp_ret ?_
   have hfin := cutN_end (by omega) hr5
   exact bodyPost_ret (results_tmp he23 _ Tryd.results25 _ rfl) he23.defers ⟨(cap1_22, cur1_22), _, by rw [hfin, List.length_append, ← hr3]; rfl, hm4.bx 1 _ _ _ _ rfl, by have := rw1_22; rw [hfin]; simpa [← hr3] using this, by have := hm4.own 1 _ rfl rfl; simpa using this, hm4.below⟩
  ·
   have hd1p := of_decide_eq_true hd1
   refine wl_val he9 rfl rfl (.bool true) (rn_bin _ _ _ _ _ rfl .i64 _ _ (he9.tmp 11 _ rfl) (he9.tmp 13 _ rfl) (.bool (decide (((i : Nat) : Int) < (((s).size : Nat) : Int)))) _ rfl (congrArg Value.bool (hd1))) (fun a10 he10 => ?_)
   clear he9
   refine wl_val he10 rfl rfl (.bool true) (rn_move _ (Or.inl rfl) _ (he10.tmp 14 _ rfl)) (fun a11 he11 => ?_)
   clear he10
   refine wl_val he11 rfl (wanted_slot he11 4 true rfl 15 rfl true rfl true rfl) (.slice (some ⟨b, 0, none⟩) (n) (cap)) (rn_move _ (Or.inl rfl) _ (he11.tmp 7 _ rfl)) (fun a12 he12 => ?_)
   clear he11
   refine wl_val he12 rfl (wanted_slot he12 4 true rfl 15 rfl true rfl true rfl) (.int .i64 (((n : Nat) : Int))) (rn_builtin _ _ _ rfl #[.slice (some ⟨b, 0, none⟩) (n) (cap)] (map1 (he12.tmp 16 _ rfl)) (.int .i64 (((n : Nat) : Int))) (by kernel_rfl)) (fun a13 he13 => ?_)
   clear he12
   refine wl_val he13 rfl (wanted_slot he13 4 true rfl 15 rfl true rfl true rfl) (.int .i64 (((most : Nat) : Int))) (rn_move _ (Or.inl rfl) _ (he13.tmp 2 _ rfl)) (fun a14 he14 => ?_)
   clear he13
   cases hd2 : (decide (((n : Nat) : Int) < ((most : Nat) : Int)))
   ·
    have hd2p := of_decide_eq_false hd2
    refine wl_val he14 rfl (wanted_slot he14 4 true rfl 15 rfl true rfl true rfl) (.bool false) (rn_bin _ _ _ _ _ rfl .i64 _ _ (he14.tmp 17 _ rfl) (he14.tmp 18 _ rfl) (.bool (decide (((n : Nat) : Int) < ((most : Nat) : Int)))) _ rfl (congrArg Value.bool (hd2))) (fun a15 he15 => ?_)
    clear he14
    refine wl_val he15 rfl rfl (.bool false) (rn_pickT _ _ _ rfl (he15.tmp 15 _ rfl) _ (he15.tmp 19 _ rfl)) (fun a16 he16 => ?_)
    clear he15
    refine wl_end ?_
    refine wp_condF (he := he16) rfl ?_
    refine wp_exit ?_
    refine exit_then ?_
    refine exit_then ?_
    refine exit_here ?_
    refine then_normal ?_
    refine wp_seqR ?_
    refine wl_val he16 rfl rfl (.slice (some ⟨b, 0, none⟩) (n) (cap)) (rn_move _ (Or.inl rfl) _ (he16.tmp 7 _ rfl)) (fun a17 he17 => ?_)
    clear he16
    refine wl_val he17 rfl rfl (.string (s)) (rn_move _ (Or.inl rfl) _ (he17.tmp 0 _ rfl)) (fun a18 he18 => ?_)
    clear he17
    refine wl_val he18 rfl rfl (.int .i64 (((fr : Nat) : Int))) (rn_move _ (Or.inl rfl) _ (he18.tmp 8 _ rfl)) (fun a19 he19 => ?_)
    clear he18
    refine wl_val he19 rfl rfl (.string ((s).extract (fr) ((s).size))) (rn_sslice _ (by kernel_rfl) _ _ _ rfl _ (fr) ((s).size) (he19.tmp 38 _ rfl) (Or.inl (by simp only [Option.map_some]; exact congrArg some (he19.tmp 39 _ rfl))) (Or.inr ⟨rfl, rfl⟩) (by omega) (by omega)) (fun a20 he20 => ?_)
    clear he19
    refine wl_buildSlice he20 hm2 2 rfl rfl rfl _ _ _ rfl #[(0, .string ((s).extract (fr) ((s).size)))] (pmap1 (he20.tmp 40 _ rfl)) 9 (#[.string ((s).extract (fr) ((s).size))]) (by kernel_rfl) (fun a21 w3 b2 he21 hm3 => ?_)
    clear he20 hm2
    refine wl_append he21 hm3 1 rfl rfl rfl _ _ _ rfl el9 (he21.tmp 37 _ rfl) hrw ⟨b2, 0, none⟩ 1 1 (he21.tmp 41 _ rfl) (#[.string ((s).extract (fr) ((s).size))]).toList (by simp []) (fun j u hu => by rw [Addr.add_mid, Nat.zero_add, (hm3.bx 2 _ _ _ _ rfl).cell]; simpa using hu) (by intro u hu; simp at hu; rcases hu with rfl <;> rfl) (by simp only [maxLen]; omega) (by omega) (fun a22 w4 b1_22 cap1_22 cur1_22 he22 hm4 rw1_22 => ?_)
    clear he21 hm3
    refine wl_val he22 rfl rfl (.slice (some ⟨b1_22, 0, none⟩) (n + 1) (cap1_22)) (rn_move _ (Or.inr rfl) _ (he22.tmp 42 _ rfl)) (fun a23 he23 => ?_)
    clear he22
    refine wl_end ?_
    refine wp_ret ?_
    have hfin := cutN_end (by omega) hr5
    exact bodyPost_ret (results_tmp he23 _ Tryd.results25 _ rfl) he23.defers ⟨(cap1_22, cur1_22), _, by rw [hfin, List.length_append, ← hr3]; rfl, hm4.bx 1 _ _ _ _ rfl, by have := rw1_22; rw [hfin]; simpa [← hr3] using this, by have := hm4.own 1 _ rfl rfl; simpa using this, hm4.below⟩
   ·
    have hd2p := of_decide_eq_true hd2
    refine wl_val he14 rfl (wanted_slot he14 4 true rfl 15 rfl true rfl true rfl) (.bool true) (rn_bin _ _ _ _ _ rfl .i64 _ _ (he14.tmp 17 _ rfl) (he14.tmp 18 _ rfl) (.bool (decide (((n : Nat) : Int) < ((most : Nat) : Int)))) _ rfl (congrArg Value.bool (hd2))) (fun a15 he15 => ?_)
    clear he14
    refine wl_val he15 rfl rfl (.bool true) (rn_pickT _ _ _ rfl (he15.tmp 15 _ rfl) _ (he15.tmp 19 _ rfl)) (fun a16 he16 => ?_)
    clear he15
    refine wl_end ?_
    refine wp_condT (he := he16) rfl ?_
    refine wp_skip ?_
    refine then_normal ?_
    refine wp_seq ?_
    refine wp_block ?_
    refine wp_seqR ?_
    refine wl_val he16 rfl rfl (.string (s)) (rn_move _ (Or.inl rfl) _ (he16.tmp 0 _ rfl)) (fun a17 he17 => ?_)
    clear he16
    refine wl_val he17 rfl rfl (.int .i64 (((i : Nat) : Int))) (rn_move _ (Or.inl rfl) _ (he17.tmp 9 _ rfl)) (fun a18 he18 => ?_)
    clear he17
    refine wl_val he18 rfl rfl (.int .u8 (((byteAt (s) (i) : Nat) : Int))) (rn_sbyte _ (by kernel_rfl) _ _ rfl _ (i) (he18.tmp 23 _ rfl) (he18.tmp 24 _ rfl) (by omega)) (fun a19 he19 => ?_)
    clear he18
    refine wl_val he19 rfl rfl (.int .u8 (((c : Nat) : Int))) (rn_move _ (Or.inl rfl) _ (he19.tmp 1 _ rfl)) (fun a20 he20 => ?_)
    clear he19
    cases hd3 : ((((byteAt (s) (i) : Nat) : Int) == ((c : Nat) : Int)))
    ·
     have hd3p : ((byteAt (s) (i) : Nat) : Int) ≠ ((c : Nat) : Int) := by simpa using hd3
     refine wl_val he20 rfl rfl (.bool false) (rn_bin _ _ _ _ _ rfl .u8 _ _ (he20.tmp 25 _ rfl) (he20.tmp 26 _ rfl) (.bool ((((byteAt (s) (i) : Nat) : Int) == ((c : Nat) : Int)))) _ rfl (congrArg Value.bool (hd3))) (fun a21 he21 => ?_)
     clear he20
     refine wl_end ?_
     refine wp_condF (he := he21) rfl ?_
     refine wp_skip ?_
     refine in_normal ?_
     refine then_normal ?_
     refine wp_region_lit ?_
     refine wl_val he21 rfl rfl (.int .i64 (((i : Nat) : Int))) (rn_move _ (Or.inl rfl) _ (he21.tmp 9 _ rfl)) (fun a22 he22 => ?_)
     clear he21
     refine wl_val he22 rfl rfl (.int .i64 (((i + 1 : Nat) : Int))) (rn_bin _ _ _ _ _ rfl .i64 _ _ (he22.tmp 21 _ rfl) rfl (.int .i64 (IntKind.wrap .i64 (((i : Nat) : Int) + 1))) _ rfl (addN (i := i) (c := 1) (by omega))) (fun a23 he23 => ?_)
     clear he22
     refine wl_val he23 rfl rfl (.int .i64 (((i + 1 : Nat) : Int))) (rn_move _ (Or.inr rfl) _ (he23.tmp 22 _ rfl)) (fun a24 he24 => ?_)
     clear he23
     refine wpList_nil ?_
     exact ⟨s.size - (i + 1), by omega, i + 1, fr, n, out, b, cap, cur, rfl, ⟨by omega, by omega, hr3, by omega, hrw, cutN_miss (by omega) (by omega) (by omega) hr5⟩, he24.sub _ ⟨rfl, rfl, rfl, rfl, rfl, rfl, rfl, rfl, trivial⟩, hm2.sub _ ⟨rfl, trivial⟩⟩
    ·
     have hd3p : ((byteAt (s) (i) : Nat) : Int) = ((c : Nat) : Int) := by simpa using hd3
     refine wl_val he20 rfl rfl (.bool true) (rn_bin _ _ _ _ _ rfl .u8 _ _ (he20.tmp 25 _ rfl) (he20.tmp 26 _ rfl) (.bool ((((byteAt (s) (i) : Nat) : Int) == ((c : Nat) : Int)))) _ rfl (congrArg Value.bool (hd3))) (fun a21 he21 => ?_)
     clear he20
     refine wl_end ?_
     refine wp_condT (he := he21) rfl ?_
     refine wp_seqR ?_
     refine wl_val he21 rfl rfl (.slice (some ⟨b, 0, none⟩) (n) (cap)) (rn_move _ (Or.inl rfl) _ (he21.tmp 7 _ rfl)) (fun a22 he22 => ?_)
     clear he21
     refine wl_val he22 rfl rfl (.string (s)) (rn_move _ (Or.inl rfl) _ (he22.tmp 0 _ rfl)) (fun a23 he23 => ?_)
     clear he22
     refine wl_val he23 rfl rfl (.int .i64 (((fr : Nat) : Int))) (rn_move _ (Or.inl rfl) _ (he23.tmp 8 _ rfl)) (fun a24 he24 => ?_)
     clear he23
     refine wl_val he24 rfl rfl (.int .i64 (((i : Nat) : Int))) (rn_move _ (Or.inl rfl) _ (he24.tmp 9 _ rfl)) (fun a25 he25 => ?_)
     clear he24
     refine wl_val he25 rfl rfl (.string ((s).extract (fr) (i))) (rn_sslice _ (by kernel_rfl) _ _ _ rfl _ (fr) (i) (he25.tmp 29 _ rfl) (Or.inl (by simp only [Option.map_some]; exact congrArg some (he25.tmp 30 _ rfl))) (Or.inl (by simp only [Option.map_some]; exact congrArg some (he25.tmp 31 _ rfl))) (by omega) (by omega)) (fun a26 he26 => ?_)
     clear he25
     refine wl_buildSlice he26 hm2 2 rfl rfl rfl _ _ _ rfl #[(0, .string ((s).extract (fr) (i)))] (pmap1 (he26.tmp 32 _ rfl)) 9 (#[.string ((s).extract (fr) (i))]) (by kernel_rfl) (fun a27 w3 b2 he27 hm3 => ?_)
     clear he26 hm2
     refine wl_append he27 hm3 1 rfl rfl rfl _ _ _ rfl el9 (he27.tmp 28 _ rfl) hrw ⟨b2, 0, none⟩ 1 1 (he27.tmp 33 _ rfl) (#[.string ((s).extract (fr) (i))]).toList (by simp []) (fun j u hu => by rw [Addr.add_mid, Nat.zero_add, (hm3.bx 2 _ _ _ _ rfl).cell]; simpa using hu) (by intro u hu; simp at hu; rcases hu with rfl <;> rfl) (by simp only [maxLen]; omega) (by omega) (fun a28 w4 b1_28 cap1_28 cur1_28 he28 hm4 rw1_28 => ?_)
     clear he27 hm3
     refine wl_val he28 rfl rfl (.slice (some ⟨b1_28, 0, none⟩) (n + 1) (cap1_28)) (rn_move _ (Or.inr rfl) _ (he28.tmp 34 _ rfl)) (fun a29 he29 => ?_)
     clear he28
     refine wl_end ?_
     refine wp_region_lit ?_
     refine wl_val he29 rfl rfl (.int .i64 (((i : Nat) : Int))) (rn_move _ (Or.inl rfl) _ (he29.tmp 9 _ rfl)) (fun a30 he30 => ?_)
     clear he29
     refine wl_val he30 rfl rfl (.int .i64 (((i + 1 : Nat) : Int))) (rn_bin _ _ _ _ _ rfl .i64 _ _ (he30.tmp 35 _ rfl) rfl (.int .i64 (IntKind.wrap .i64 (((i : Nat) : Int) + 1))) _ rfl (addN (i := i) (c := 1) (by omega))) (fun a31 he31 => ?_)
     clear he30
     refine wl_val he31 rfl rfl (.int .i64 (((i + 1 : Nat) : Int))) (rn_move _ (Or.inr rfl) _ (he31.tmp 36 _ rfl)) (fun a32 he32 => ?_)
     clear he31
     refine wpList_nil ?_
     refine in_normal ?_
     refine then_normal ?_
     refine wp_region_lit ?_
     refine wl_val he32 rfl rfl (.int .i64 (((i : Nat) : Int))) (rn_move _ (Or.inl rfl) _ (he32.tmp 9 _ rfl)) (fun a33 he33 => ?_)
     clear he32
     refine wl_val he33 rfl rfl (.int .i64 (((i + 1 : Nat) : Int))) (rn_bin _ _ _ _ _ rfl .i64 _ _ (he33.tmp 21 _ rfl) rfl (.int .i64 (IntKind.wrap .i64 (((i : Nat) : Int) + 1))) _ rfl (addN (i := i) (c := 1) (by omega))) (fun a34 he34 => ?_)
     clear he33
     refine wl_val he34 rfl rfl (.int .i64 (((i + 1 : Nat) : Int))) (rn_move _ (Or.inr rfl) _ (he34.tmp 22 _ rfl)) (fun a35 he35 => ?_)
     clear he34
     refine wpList_nil ?_
     exact ⟨s.size - (i + 1), by omega, i + 1, i + 1, n + 1, out ++ [s.extract fr i], b1_28, cap1_28, cur1_28, rfl, ⟨by omega, by omega, by simp; omega, by omega, by have := rw1_28; simpa using this, cutN_hit (by omega) (by omega) (by omega) hr5⟩, he35.sub _ ⟨rfl, rfl, rfl, rfl, rfl, rfl, rfl, rfl, trivial⟩, hm4.sub _ ⟨rfl, trivial⟩⟩
end Go.Proofs.YtkaekiodjjhjkaaDoor
