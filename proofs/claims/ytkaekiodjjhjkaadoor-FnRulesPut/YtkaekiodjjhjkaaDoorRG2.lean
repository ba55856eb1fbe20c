/- Rules of a text, by the specification, exactly. -/
import Derived.Test.YtkaekiodjjhjkaaDoorRG
namespace Go.Proofs.YtkaekiodjjhjkaaDoor
open Go.RowKit
set_option linter.unusedVariables false
set_option linter.unusedSimpArgs false
theorem RuSz (r : Ru) : r.arr.size = 5 := rfl
abbrev NewRu (w : World) (L : List Ru) (e : Ending) (w' : World) : Prop :=
  NewRow w (fun (x : Nat × Array Value) b => .slice (some ⟨b, 0, none⟩) L.length x.1) 36 (fun x => x.2) (fun x => Rw x.2 L.length x.1 5 (cellsOf Ru.arr L)) e w'
abbrev NewRuT (w : World) (L : List Ru) (e : Ending) (w' : World) : Prop :=
  NewRow w (fun (x : Nat × Array Value) b => .tuple #[.slice (some ⟨b, 0, none⟩) L.length x.1, .bool true]) 36 (fun x => x.2) (fun x => Rw x.2 L.length x.1 5 (cellsOf Ru.arr L)) e w'
theorem getM_0 {s : ByteArray} (h : s.size = 0) : getM s = some [] := by unfold getM; rw [if_pos h]
theorem getM_b {s : ByteArray} (h : ¬ s.size = 0) (hb : ¬ byteAt s (s.size - 1) = 10) : getM s = none := by unfold getM; rw [if_neg h, if_neg hb]
theorem getM_l {s : ByteArray} (h : ¬ s.size = 0) (hb : byteAt s (s.size - 1) = 10) : getM s = getL (cutM (s.extract 0 (s.size - 1)) 10 s.size) 0 := by unfold getM; rw [if_neg h, if_pos hb]
set_option maxRecDepth 100000 in
set_option maxHeartbeats 4000000 in
theorem c_spGet0 (s : ByteArray) (w : World) (hs : s.size ≤ 1048576) :
    Calls Tryd.prog 13 #[.string (s)] w fun e w' => (getM s = none ∧ e = .returned (.tuple #[.slice none 0 0, .bool false]) ∧ Below w.heap.size w w') ∨ (∃ l, getM s = some l ∧ NewRuT w l e w') := by
  refine calls_begin Tryd.func13 rfl 52 rfl (Nat.le_of_ble_eq_true rfl) [(0, .string (s))] ⟨rfl, trivial⟩ (fun a0 he0 hm0 => ?_)
  refine wp_seqR ?_
  refine wl_val he0 rfl rfl (.slice none 0 0) (rn_move _ (Or.inr rfl) _ rfl) (fun a1 he1 => ?_)
  clear he0
  refine wl_val he1 rfl rfl (.bool false) (rn_move _ (Or.inr rfl) _ rfl) (fun a2 he2 => ?_)
  clear he1
  refine wl_end ?_
  refine wp_seqR ?_
  refine wl_buildSlice he2 hm0 1 rfl rfl rfl _ _ _ rfl #[] (pmap0 _) 36 ((cellsOf Ru.arr []).toArray) (by kernel_rfl) (fun a3 w1 b1 he3 hm1 => ?_)
  clear he2 hm0
  have rw1_0 : Rw ((cellsOf Ru.arr []).toArray) 0 0 5 (cellsOf Ru.arr ([])) := Rw.lits RuSz [] (by simp [maxLen])
  refine wl_val he3 rfl rfl (.slice (some ⟨b1, 0, none⟩) (0) (0)) (rn_move _ (Or.inr rfl) _ (he3.tmp 9 _ rfl)) (fun a4 he4 => ?_)
  clear he3
  refine wl_end ?_
  refine wp_seq ?_
  refine wp_seqR ?_
  refine wl_val he4 rfl rfl (.string (s)) (rn_move _ (Or.inl rfl) _ (he4.tmp 0 _ rfl)) (fun a5 he5 => ?_)
  clear he4
  cases hd1 : (((s).toList == (⟨#[]⟩ : ByteArray).toList))
  ·
   have h0 : ¬ s.size = 0 := by rw [size0] at hd1; simpa using hd1
   have hxs : (s.extract 0 (s.size - 1)).size = (s.extract 0 (s.size - 1)).size := rfl
   have hd1p : (s).toList ≠ (⟨#[]⟩ : ByteArray).toList := by simpa using hd1
   refine wl_val he5 rfl rfl (.bool false) (rn_seq _ (by simp) _ _ _ _ rfl _ _ (he5.tmp 10 _ rfl) rfl _ (by first | (simp [hd1]; done) | rw [if_pos rfl, hd1] | rw [if_neg (by decide), hd1])) (fun a6 he6 => ?_)
   clear he5
   refine wl_end ?_
   refine wp_condF (he := he6) rfl ?_
   refine wp_skip ?_
   refine then_normal ?_
   refine wp_seq ?_
   refine wp_seqR ?_
   refine wl_val he6 rfl rfl (.string (s)) (rn_move _ (Or.inl rfl) _ (he6.tmp 0 _ rfl)) (fun a7 he7 => ?_)
   clear he6
   refine wl_val he7 rfl rfl (.string (s)) (rn_move _ (Or.inl rfl) _ (he7.tmp 0 _ rfl)) (fun a8 he8 => ?_)
   clear he7
   refine wl_val he8 rfl rfl (.int .i64 ((((s).size : Nat) : Int))) (rn_builtin _ _ _ rfl #[.string (s)] (map1 (he8.tmp 14 _ rfl)) (.int .i64 ((((s).size : Nat) : Int))) (by kernel_rfl)) (fun a9 he9 => ?_)
   clear he8
   refine wl_val he9 rfl rfl (.int .i64 (((((s).size) - 1 : Nat) : Int))) (rn_bin _ _ _ _ _ rfl .i64 _ _ (he9.tmp 15 _ rfl) rfl (.int .i64 (IntKind.wrap .i64 ((((s).size : Nat) : Int) - 1))) _ rfl (subN (i := (s).size) (c := 1) .i64 (by omega) (by rw [IntKind.wrap_i64]; omega))) (fun a10 he10 => ?_)
   clear he9
   refine wl_val he10 rfl rfl (.int .u8 (((byteAt (s) (((s).size) - 1) : Nat) : Int))) (rn_sbyte _ (by kernel_rfl) _ _ rfl _ (((s).size) - 1) (he10.tmp 13 _ rfl) (he10.tmp 16 _ rfl) (by omega)) (fun a11 he11 => ?_)
   clear he10
   cases hd2 : ((((byteAt (s) (((s).size) - 1) : Nat) : Int) != 10))
   ·
    have hd2p : ((byteAt (s) (((s).size) - 1) : Nat) : Int) = 10 := by simpa using hd2
    refine wl_val he11 rfl rfl (.bool false) (rn_bin _ _ _ _ _ rfl .u8 _ _ (he11.tmp 17 _ rfl) rfl (.bool ((((byteAt (s) (((s).size) - 1) : Nat) : Int) != 10))) _ rfl (congrArg Value.bool (hd2))) (fun a12 he12 => ?_)
    clear he11
    refine wl_end ?_
    refine wp_condF (he := he12) rfl ?_
    refine wp_skip ?_
    refine then_normal ?_
    refine wp_seqR ?_
    refine wl_val he12 rfl rfl (.string (s)) (rn_move _ (Or.inl rfl) _ (he12.tmp 0 _ rfl)) (fun a13 he13 => ?_)
    clear he12
    refine wl_val he13 rfl rfl (.string (s)) (rn_move _ (Or.inl rfl) _ (he13.tmp 0 _ rfl)) (fun a14 he14 => ?_)
    clear he13
    refine wl_val he14 rfl rfl (.int .i64 ((((s).size : Nat) : Int))) (rn_builtin _ _ _ rfl #[.string (s)] (map1 (he14.tmp 20 _ rfl)) (.int .i64 ((((s).size : Nat) : Int))) (by kernel_rfl)) (fun a15 he15 => ?_)
    clear he14
    refine wl_val he15 rfl rfl (.int .i64 (((((s).size) - 1 : Nat) : Int))) (rn_bin _ _ _ _ _ rfl .i64 _ _ (he15.tmp 21 _ rfl) rfl (.int .i64 (IntKind.wrap .i64 ((((s).size : Nat) : Int) - 1))) _ rfl (subN (i := (s).size) (c := 1) .i64 (by omega) (by rw [IntKind.wrap_i64]; omega))) (fun a16 he16 => ?_)
    clear he15
    refine wl_val he16 rfl rfl (.string ((s).extract (0) (((s).size) - 1))) (rn_sslice _ (by kernel_rfl) _ _ _ rfl _ (0) (((s).size) - 1) (he16.tmp 19 _ rfl) (Or.inr ⟨rfl, rfl⟩) (Or.inl (by simp only [Option.map_some]; exact congrArg some (he16.tmp 22 _ rfl))) (by omega) (by omega)) (fun a17 he17 => ?_)
    clear he16
    refine wl_val he17 rfl rfl (.string (s)) (rn_move _ (Or.inl rfl) _ (he17.tmp 0 _ rfl)) (fun a18 he18 => ?_)
    clear he17
    refine wl_val he18 rfl rfl (.int .i64 ((((s).size : Nat) : Int))) (rn_builtin _ _ _ rfl #[.string (s)] (map1 (he18.tmp 24 _ rfl)) (.int .i64 ((((s).size : Nat) : Int))) (by kernel_rfl)) (fun a19 he19 => ?_)
    clear he18
    refine wl_callN he19 hm1 2 rfl rfl rfl _ #[.string ((s).extract (0) (((s).size) - 1)), .int .u8 (10), .int .i64 ((((s).size : Nat) : Int))] (enter_call _ _ _ rfl 25 #[] #[] rfl #[.string ((s).extract (0) (((s).size) - 1)), .int .u8 (10), .int .i64 ((((s).size : Nat) : Int))] (map3 (he19.tmp 23 _ rfl) rfl (he19.tmp 25 _ rfl)) #[.string ((s).extract (0) (((s).size) - 1)), .int .u8 (10), .int .i64 ((((s).size : Nat) : Int))] rfl (fun _ _ => by kernel_rfl)) (c_cut ((s).extract (0) (((s).size) - 1)) 10 ((s).size) _ (by rw [ByteArray.size_extract]; omega)) (fun x2 b2 a20 w2 hx2 he20 hm2 => ?_)
    clear he19 hm1
    refine wl_val he20 rfl rfl (.slice (some ⟨b2, 0, none⟩) ((cutM ((s).extract (0) (((s).size) - 1)) 10 ((s).size)).length) (x2.1)) (rn_move _ (Or.inr rfl) _ (he20.tmp 26 _ rfl)) (fun a21 he21 => ?_)
    clear he20
    refine wl_end ?_
    refine wp_seq ?_
    refine wp_seqR ?_
    refine wl_val he21 rfl rfl (.int .i64 (0)) (rn_move _ (Or.inr rfl) _ rfl) (fun a22 he22 => ?_)
    clear he21
    refine wl_end ?_
    refine wp_block ?_
    refine wp_loopN (fun mz az wz => ∃ (i : Nat), ∃ (o : List Ru), ∃ (on : Nat), ∃ (ob : Nat), ∃ (oc : Nat), ∃ (oa : Array Value), mz = (cutM ((s).extract (0) (((s).size) - 1)) 10 ((s).size)).length - (i) ∧ (i ≤ (cutM ((s).extract (0) (((s).size) - 1)) 10 ((s).size)).length ∧ on = (o).length ∧ on ≤ i ∧ i ≤ 6 ∧ Rw (oa) (on) (oc) 5 (cellsOf Ru.arr (o)) ∧ getL (cutM ((s).extract (0) (((s).size) - 1)) 10 ((s).size)) 0 = (getL ((cutM ((s).extract (0) (((s).size) - 1)) 10 ((s).size)).drop (i)) (i)).map ((o) ++ ·)) ∧ EV az 52 [] [(0, .string (s)), (9, .slice (some ⟨b1, 0, none⟩) (0) (0)), (10, .string (s)), (11, .bool false), (13, .string (s)), (14, .string (s)), (15, .int .i64 ((((s).size : Nat) : Int))), (16, .int .i64 (((((s).size) - 1 : Nat) : Int))), (17, .int .u8 (((byteAt (s) (((s).size) - 1) : Nat) : Int))), (18, .bool false), (19, .string (s)), (20, .string (s)), (21, .int .i64 ((((s).size : Nat) : Int))), (22, .int .i64 (((((s).size) - 1 : Nat) : Int))), (23, .string ((s).extract (0) (((s).size) - 1))), (24, .string (s)), (25, .int .i64 ((((s).size : Nat) : Int))), (26, .slice (some ⟨b2, 0, none⟩) ((cutM ((s).extract (0) (((s).size) - 1)) 10 ((s).size)).length) (x2.1)), (5, .slice (some ⟨b2, 0, none⟩) ((cutM ((s).extract (0) (((s).size) - 1)) 10 ((s).size)).length) (x2.1)), (6, .int .i64 (((i : Nat) : Int))), (4, .slice (some ⟨ob, 0, none⟩) (on) (oc))] ∧ MM [] w wz [(1, ⟨true, ob, 36, oa⟩), (2, ⟨true, b2, 9, x2.2⟩)]) ⟨_, 0, [], 0, b1, 0, (cellsOf Ru.arr []).toArray, rfl, ⟨by omega, rfl, by omega, by omega, rw1_0, by simp⟩, he22.sub _ ⟨rfl, rfl, rfl, rfl, rfl, rfl, rfl, rfl, rfl, rfl, rfl, rfl, rfl, rfl, rfl, rfl, rfl, rfl, rfl, rfl, rfl, trivial⟩, hm2.sub _ ⟨rfl, rfl, trivial⟩⟩ ?_
    rintro mz1 a23 w3 ⟨i, o, on, ob, oc, oa, rfl, hrel1, he23, hm3⟩
    clear he22 hm2
    obtain ⟨hra, hon, honi, hi6, horw, hgl⟩ := hrel1
    refine wp_seq ?_
    refine wp_seqR ?_
    refine wl_val he23 rfl rfl (.int .i64 (((i : Nat) : Int))) (rn_move _ (Or.inl rfl) _ (he23.tmp 6 _ rfl)) (fun a24 he24 => ?_)
    clear he23
    refine wl_val he24 rfl rfl (.slice (some ⟨b2, 0, none⟩) ((cutM ((s).extract (0) (((s).size) - 1)) 10 ((s).size)).length) (x2.1)) (rn_move _ (Or.inl rfl) _ (he24.tmp 5 _ rfl)) (fun a25 he25 => ?_)
    clear he24
    refine wl_val he25 rfl rfl (.int .i64 ((((cutM ((s).extract (0) (((s).size) - 1)) 10 ((s).size)).length : Nat) : Int))) (rn_builtin _ _ _ rfl #[.slice (some ⟨b2, 0, none⟩) ((cutM ((s).extract (0) (((s).size) - 1)) 10 ((s).size)).length) (x2.1)] (map1 (he25.tmp 28 _ rfl)) (.int .i64 ((((cutM ((s).extract (0) (((s).size) - 1)) 10 ((s).size)).length : Nat) : Int))) (by kernel_rfl)) (fun a26 he26 => ?_)
    clear he25
    cases hd3 : (decide (((i : Nat) : Int) < (((cutM ((s).extract (0) (((s).size) - 1)) 10 ((s).size)).length : Nat) : Int)))
    ·
     have hd3p := of_decide_eq_false hd3
     refine wl_val he26 rfl rfl (.bool false) (rn_bin _ _ _ _ _ rfl .i64 _ _ (he26.tmp 27 _ rfl) (he26.tmp 29 _ rfl) (.bool (decide (((i : Nat) : Int) < (((cutM ((s).extract (0) (((s).size) - 1)) 10 ((s).size)).length : Nat) : Int)))) _ rfl (congrArg Value.bool (hd3))) (fun a27 he27 => ?_)
     clear he26
     refine wl_end ?_
     refine wp_condF (he := he27) rfl ?_
     refine wp_exit ?_
     refine exit_then ?_
     refine exit_then ?_
     refine exit_here ?_
     refine then_normal ?_
     refine wp_seqR ?_
     refine wl_val he27 rfl rfl (.slice (some ⟨ob, 0, none⟩) (on) (oc)) (rn_move _ (Or.inl rfl) _ (he27.tmp 4 _ rfl)) (fun a28 he28 => ?_)
     clear he27
     refine wl_val he28 rfl rfl (.slice (some ⟨ob, 0, none⟩) (on) (oc)) (rn_move _ (Or.inr rfl) _ (he28.tmp 51 _ rfl)) (fun a29 he29 => ?_)
     clear he28
     refine wl_val he29 rfl rfl (.bool true) (rn_move _ (Or.inr rfl) _ rfl) (fun a30 he30 => ?_)
     clear he29
     refine wl_end ?_
     refine wp_ret ?_
     subst hon
     exact bodyPost_ret (results_tmp2 he30 _ _ Tryd.results13 _ _ rfl rfl) he30.defers (Or.inr ⟨o, ((getM_l h0 (by omega)).trans (getL_end hgl (by omega))), (oc, oa), _, rfl, hm3.bx 1 _ _ _ _ rfl, horw, by have := hm3.own 1 _ rfl rfl; simpa using this, hm3.below⟩)
    ·
     have hd3p := of_decide_eq_true hd3
     refine wl_val he26 rfl rfl (.bool true) (rn_bin _ _ _ _ _ rfl .i64 _ _ (he26.tmp 27 _ rfl) (he26.tmp 29 _ rfl) (.bool (decide (((i : Nat) : Int) < (((cutM ((s).extract (0) (((s).size) - 1)) 10 ((s).size)).length : Nat) : Int)))) _ rfl (congrArg Value.bool (hd3))) (fun a27 he27 => ?_)
     clear he26
     refine wl_end ?_
     refine wp_condT (he := he27) rfl ?_
     refine wp_skip ?_
     refine then_normal ?_
     refine wp_seq ?_
     refine wp_block ?_
     refine wp_seqR ?_
     refine wl_val he27 rfl rfl (.slice (some ⟨b2, 0, none⟩) ((cutM ((s).extract (0) (((s).size) - 1)) 10 ((s).size)).length) (x2.1)) (rn_move _ (Or.inl rfl) _ (he27.tmp 5 _ rfl)) (fun a28 he28 => ?_)
     clear he27
     refine wl_val he28 rfl rfl (.int .i64 (((i : Nat) : Int))) (rn_move _ (Or.inl rfl) _ (he28.tmp 6 _ rfl)) (fun a29 he29 => ?_)
     clear he28
     refine wl_val he29 rfl rfl (.pointer (some ⟨b2, 0 + i * 1, none⟩)) (rn_indexA _ _ _ rfl _ _ (.pointer (some ⟨b2, 0 + i * 1, none⟩)) (he29.tmp 34 _ rfl) (he29.tmp 35 _ rfl) (ixS 9 1 (by kernel_rfl) (fun w => by kernel_rfl) (b2) (0) ((cutM ((s).extract (0) (((s).size) - 1)) 10 ((s).size)).length) (x2.1) (i) (by omega) _)) (fun a30 he30 => ?_)
     clear he29
     refine wl_val he30 rfl rfl (.string ((cutM ((s).extract (0) (((s).size) - 1)) 10 ((s).size)).getD i ⟨#[]⟩)) (rn_load1 hm3 2 rfl _ _ rfl (0 + i * 1) (he30.tmp 36 _ rfl) one9 _ (hx2.str i (by omega))) (fun a31 he31 => ?_)
     clear he30
     refine wl_call he31 hm3 rfl rfl _ #[.string ((cutM ((s).extract (0) (((s).size) - 1)) 10 ((s).size)).getD i ⟨#[]⟩)] (enter_call _ _ _ rfl 26 #[] #[] rfl #[.string ((cutM ((s).extract (0) (((s).size) - 1)) 10 ((s).size)).getD i ⟨#[]⟩)] (map1 (he31.tmp 37 _ rfl)) #[.string ((cutM ((s).extract (0) (((s).size) - 1)) 10 ((s).size)).getD i ⟨#[]⟩)] rfl (fun _ _ => by kernel_rfl)) (.tuple #[.agg (Ru.arr ((readM ((cutM ((s).extract (0) (((s).size) - 1)) 10 ((s).size)).getD i ⟨#[]⟩)).1)), .bool ((readM ((cutM ((s).extract (0) (((s).size) - 1)) 10 ((s).size)).getD i ⟨#[]⟩)).2)]) (c_l9Read ((cutM ((s).extract (0) (((s).size) - 1)) 10 ((s).size)).getD i ⟨#[]⟩) _ (by rw [ByteArray.size_extract] at hxs; exact Nat.le_trans (cutM_sz _ _ _ _) (by rw [ByteArray.size_extract]; omega))) (fun a32 w4 he32 hm4 => ?_)
     clear he31 hm3
     refine wl_val he32 rfl rfl (.tuple #[.agg (Ru.arr ((readM ((cutM ((s).extract (0) (((s).size) - 1)) 10 ((s).size)).getD i ⟨#[]⟩)).1)), .bool ((readM ((cutM ((s).extract (0) (((s).size) - 1)) 10 ((s).size)).getD i ⟨#[]⟩)).2)]) (rn_move _ (Or.inl rfl) _ (he32.tmp 38 _ rfl)) (fun a33 he33 => ?_)
     clear he32
     refine wl_val he33 rfl rfl (.agg (Ru.arr ((readM ((cutM ((s).extract (0) (((s).size) - 1)) 10 ((s).size)).getD i ⟨#[]⟩)).1))) (rn_extract _ _ rfl _ (he33.tmp 33 _ rfl) _ rfl) (fun a34 he34 => ?_)
     clear he33
     refine wl_val he34 rfl rfl (.bool ((readM ((cutM ((s).extract (0) (((s).size) - 1)) 10 ((s).size)).getD i ⟨#[]⟩)).2)) (rn_extract _ _ rfl _ (he34.tmp 33 _ rfl) _ rfl) (fun a35 he35 => ?_)
     clear he34
     refine wl_alloc he35 hm4 3 rfl rfl rfl _ rfl (.agg #[.int .i64 0, .int .i64 0, .int .i64 0, .int .i64 0, .int .i64 0]) (fun w => by kernel_rfl) (#[.int .i64 (0), .int .i64 (0), .int .i64 (0), .int .i64 (0), .int .i64 (0)]) rfl (fun a36 w5 b3 he36 hm5 => ?_)
     clear he35 hm4
     refine wl_store he36 hm5 3 rfl rfl rfl _ _ _ rfl (0) (he36.tmp 7 _ rfl) _ (he36.tmp 39 _ rfl) 5 agg36.size rfl (Ru.one _) (by decide) (Ru.arr ((readM ((cutM ((s).extract (0) (((s).size) - 1)) 10 ((s).size)).getD i ⟨#[]⟩)).1)) (by kernel_rfl) (fun w6 hm6 => ?_)
     clear hm5
     refine wl_val he36 rfl rfl (.bool ((readM ((cutM ((s).extract (0) (((s).size) - 1)) 10 ((s).size)).getD i ⟨#[]⟩)).2)) (rn_move _ (Or.inr rfl) _ (he36.tmp 40 _ rfl)) (fun a37 he37 => ?_)
     clear he36
     refine wl_end ?_
     refine wp_seq ?_
     refine wp_seqR ?_
     refine wl_val he37 rfl rfl (.bool ((readM ((cutM ((s).extract (0) (((s).size) - 1)) 10 ((s).size)).getD i ⟨#[]⟩)).2)) (rn_move _ (Or.inl rfl) _ (he37.tmp 8 _ rfl)) (fun a38 he38 => ?_)
     clear he37
     cases hd4 : ((readM ((cutM ((s).extract (0) (((s).size) - 1)) 10 ((s).size)).getD i ⟨#[]⟩)).2)
     ·
      have hok := hd4
      refine wl_val he38 rfl rfl (.bool true) (rn_un _ _ _ rfl _ (.bool (!(readM ((cutM ((s).extract (0) (((s).size) - 1)) 10 ((s).size)).getD i ⟨#[]⟩)).2)) _ (he38.tmp 41 _ rfl) rfl (congrArg (fun q => Value.bool (!q)) hd4)) (fun a39 he39 => ?_)
      clear he38
      refine wl_val he39 rfl rfl (.bool true) (rn_move _ (Or.inl rfl) _ (he39.tmp 42 _ rfl)) (fun a40 he40 => ?_)
      clear he39
      refine wl_not he40 rfl (wanted_slot he40 2 false rfl 43 rfl true rfl false rfl) (fun a41 he41 => ?_)
      clear he40
      refine wl_not he41 rfl (wanted_slot he41 2 false rfl 43 rfl true rfl false rfl) (fun a42 he42 => ?_)
      clear he41
      refine wl_val he42 rfl rfl (.bool true) (rn_pickT _ _ _ rfl (he42.tmp 43 _ rfl) _ rfl) (fun a43 he43 => ?_)
      clear he42
      refine wl_end ?_
      refine wp_condT (he := he43) rfl ?_
      refine wp_seqR ?_
      refine wl_val he43 rfl rfl (.slice none 0 0) (rn_move _ (Or.inr rfl) _ rfl) (fun a44 he44 => ?_)
      clear he43
      refine wl_val he44 rfl rfl (.bool false) (rn_move _ (Or.inr rfl) _ rfl) (fun a45 he45 => ?_)
      clear he44
      refine wl_end ?_
      refine wp_ret ?_
      refine ret_then ?_
      refine ret_in ?_
      refine ret_then ?_
      refine ret_then ?_
      refine ret_in ?_
      refine ret_then ?_
      exact bodyPost_ret (results_tmp2 he45 _ _ Tryd.results13 _ _ rfl rfl) he45.defers (Or.inl ⟨((getM_l h0 (by omega)).trans (getL_fall hgl (by omega) (.inl hok))), rfl, hm6.below⟩)
     ·
      have hok := hd4
      refine wl_val he38 rfl rfl (.bool false) (rn_un _ _ _ rfl _ (.bool (!(readM ((cutM ((s).extract (0) (((s).size) - 1)) 10 ((s).size)).getD i ⟨#[]⟩)).2)) _ (he38.tmp 41 _ rfl) rfl (congrArg (fun q => Value.bool (!q)) hd4)) (fun a39 he39 => ?_)
      clear he38
      refine wl_val he39 rfl rfl (.bool false) (rn_move _ (Or.inl rfl) _ (he39.tmp 42 _ rfl)) (fun a40 he40 => ?_)
      clear he39
      refine wl_val he40 rfl (wanted_slot he40 2 false rfl 43 rfl false rfl true rfl) (.int .i64 (((i : Nat) : Int))) (rn_move _ (Or.inl rfl) _ (he40.tmp 6 _ rfl)) (fun a41 he41 => ?_)
      clear he40
      cases hd5 : (decide (((i : Nat) : Int) ≥ 6))
      ·
       have hd5p := of_decide_eq_false hd5
       refine wl_val he41 rfl (wanted_slot he41 2 false rfl 43 rfl false rfl true rfl) (.bool false) (rn_bin _ _ _ _ _ rfl .i64 _ _ (he41.tmp 44 _ rfl) rfl (.bool (decide (((i : Nat) : Int) ≥ 6))) _ rfl (congrArg Value.bool (hd5))) (fun a42 he42 => ?_)
       clear he41
       refine wl_val he42 rfl rfl (.bool false) (rn_pickF _ _ _ rfl (he42.tmp 43 _ rfl) _ (he42.tmp 45 _ rfl)) (fun a43 he43 => ?_)
       clear he42
       refine wl_end ?_
       refine wp_condF (he := he43) rfl ?_
       refine wp_skip ?_
       refine then_normal ?_
       refine wp_region_lit ?_
       refine wl_val he43 rfl rfl (.slice (some ⟨ob, 0, none⟩) (on) (oc)) (rn_move _ (Or.inl rfl) _ (he43.tmp 4 _ rfl)) (fun a44 he44 => ?_)
       clear he43
       refine wl_val he44 rfl rfl (.agg (Ru.arr ((readM ((cutM ((s).extract (0) (((s).size) - 1)) 10 ((s).size)).getD i ⟨#[]⟩)).1))) (rn_loadA hm6 3 rfl _ _ rfl (0) (he44.tmp 7 _ rfl) 5 agg36 (Ru.arr ((readM ((cutM ((s).extract (0) (((s).size) - 1)) 10 ((s).size)).getD i ⟨#[]⟩)).1)) (by kernel_rfl) rfl) (fun a45 he45 => ?_)
       clear he44
       refine wl_buildSlice he45 hm6 4 rfl rfl rfl _ _ _ rfl #[(0, .agg (Ru.arr ((readM ((cutM ((s).extract (0) (((s).size) - 1)) 10 ((s).size)).getD i ⟨#[]⟩)).1)))] (pmap1 (he45.tmp 48 _ rfl)) 36 ((cellsOf Ru.arr [(readM ((cutM ((s).extract (0) (((s).size) - 1)) 10 ((s).size)).getD i ⟨#[]⟩)).1]).toArray) (by kernel_rfl) (fun a46 w7 b4 he46 hm7 => ?_)
       clear he45 hm6
       have rw4_0 : Rw ((cellsOf Ru.arr [(readM ((cutM ((s).extract (0) (((s).size) - 1)) 10 ((s).size)).getD i ⟨#[]⟩)).1]).toArray) 1 1 5 (cellsOf Ru.arr ([(readM ((cutM ((s).extract (0) (((s).size) - 1)) 10 ((s).size)).getD i ⟨#[]⟩)).1])) := Rw.lits RuSz [(readM ((cutM ((s).extract (0) (((s).size) - 1)) 10 ((s).size)).getD i ⟨#[]⟩)).1] (by simp [maxLen])
       refine wl_append (k := on) (cap := oc) he46 hm7 1 rfl rfl rfl _ _ _ rfl el36 (he46.tmp 47 _ rfl) horw ⟨b4, 0, none⟩ 1 1 (he46.tmp 49 _ rfl) (cellsOf Ru.arr ([(readM ((cutM ((s).extract (0) (((s).size) - 1)) 10 ((s).size)).getD i ⟨#[]⟩)).1])) (rw4_0.len) (fun j u hu => by rw [Addr.add_mid, Nat.zero_add, (hm7.bx 4 _ _ _ _ rfl).cell]; exact rw4_0.get j u hu) (cellsOf_one Ru.one _) (by simp only [maxLen]; omega) (by omega) (fun a47 w8 b1_47 cap1_47 cur1_47 he47 hm8 rw1_47 => ?_)
       clear he46 hm7
       replace rw1_47 := rw1_47.app
       refine wl_val he47 rfl rfl (.slice (some ⟨b1_47, 0, none⟩) (on + 1) (cap1_47)) (rn_move _ (Or.inr rfl) _ (he47.tmp 50 _ rfl)) (fun a48 he48 => ?_)
       clear he47
       refine wpList_nil ?_
       refine in_normal ?_
       refine then_normal ?_
       refine wp_region_lit ?_
       refine wl_val he48 rfl rfl (.int .i64 (((i : Nat) : Int))) (rn_move _ (Or.inl rfl) _ (he48.tmp 6 _ rfl)) (fun a49 he49 => ?_)
       clear he48
       refine wl_val he49 rfl rfl (.int .i64 (((i + 1 : Nat) : Int))) (rn_bin _ _ _ _ _ rfl .i64 _ _ (he49.tmp 31 _ rfl) rfl (.int .i64 (IntKind.wrap .i64 (((i : Nat) : Int) + 1))) _ rfl (addN (i := i) (c := 1) (by omega))) (fun a50 he50 => ?_)
       clear he49
       refine wl_val he50 rfl rfl (.int .i64 (((i + 1 : Nat) : Int))) (rn_move _ (Or.inr rfl) _ (he50.tmp 32 _ rfl)) (fun a51 he51 => ?_)
       clear he50
       refine wpList_nil ?_
       exact ⟨(cutM ((s).extract (0) (((s).size) - 1)) 10 ((s).size)).length - (i + 1), by omega, i + 1, (o) ++ ([(readM ((cutM ((s).extract (0) (((s).size) - 1)) 10 ((s).size)).getD i ⟨#[]⟩)).1]), on + 1, b1_47, cap1_47, cur1_47, rfl, ⟨by omega, by simp [hon], by omega, by omega, rw1_47, getL_step hgl (by omega) hok (by omega)⟩, he51.sub _ ⟨rfl, rfl, rfl, rfl, rfl, rfl, rfl, rfl, rfl, rfl, rfl, rfl, rfl, rfl, rfl, rfl, rfl, rfl, rfl, rfl, rfl, trivial⟩, hm8.sub _ ⟨rfl, rfl, trivial⟩⟩
      ·
       have hd5p := of_decide_eq_true hd5
       refine wl_val he41 rfl (wanted_slot he41 2 false rfl 43 rfl false rfl true rfl) (.bool true) (rn_bin _ _ _ _ _ rfl .i64 _ _ (he41.tmp 44 _ rfl) rfl (.bool (decide (((i : Nat) : Int) ≥ 6))) _ rfl (congrArg Value.bool (hd5))) (fun a42 he42 => ?_)
       clear he41
       refine wl_val he42 rfl rfl (.bool true) (rn_pickF _ _ _ rfl (he42.tmp 43 _ rfl) _ (he42.tmp 45 _ rfl)) (fun a43 he43 => ?_)
       clear he42
       refine wl_end ?_
       refine wp_condT (he := he43) rfl ?_
       refine wp_seqR ?_
       refine wl_val he43 rfl rfl (.slice none 0 0) (rn_move _ (Or.inr rfl) _ rfl) (fun a44 he44 => ?_)
       clear he43
       refine wl_val he44 rfl rfl (.bool false) (rn_move _ (Or.inr rfl) _ rfl) (fun a45 he45 => ?_)
       clear he44
       refine wl_end ?_
       refine wp_ret ?_
       refine ret_then ?_
       refine ret_in ?_
       refine ret_then ?_
       refine ret_then ?_
       refine ret_in ?_
       refine ret_then ?_
       exact bodyPost_ret (results_tmp2 he45 _ _ Tryd.results13 _ _ rfl rfl) he45.defers (Or.inl ⟨((getM_l h0 (by omega)).trans (getL_fall hgl (by omega) (.inr (by omega)))), rfl, hm6.below⟩)
   ·
    have hd2p : ((byteAt (s) (((s).size) - 1) : Nat) : Int) ≠ 10 := by simpa using hd2
    refine wl_val he11 rfl rfl (.bool true) (rn_bin _ _ _ _ _ rfl .u8 _ _ (he11.tmp 17 _ rfl) rfl (.bool ((((byteAt (s) (((s).size) - 1) : Nat) : Int) != 10))) _ rfl (congrArg Value.bool (hd2))) (fun a12 he12 => ?_)
    clear he11
    refine wl_end ?_
    refine wp_condT (he := he12) rfl ?_
    refine wp_seqR ?_
    refine wl_val he12 rfl rfl (.slice none 0 0) (rn_move _ (Or.inr rfl) _ rfl) (fun a13 he13 => ?_)
    clear he12
    refine wl_val he13 rfl rfl (.bool false) (rn_move _ (Or.inr rfl) _ rfl) (fun a14 he14 => ?_)
    clear he13
    refine wl_end ?_
    refine wp_ret ?_
    refine ret_then ?_
    exact bodyPost_ret (results_tmp2 he14 _ _ Tryd.results13 _ _ rfl rfl) he14.defers (Or.inl ⟨getM_b h0 (by omega), rfl, hm1.below⟩)
  ·
   have h0 : s.size = 0 := by rw [size0] at hd1; simpa using hd1
   have hxs : (s.extract 0 (s.size - 1)).size = (s.extract 0 (s.size - 1)).size := rfl
   have hd1p : (s).toList = (⟨#[]⟩ : ByteArray).toList := by simpa using hd1
   refine wl_val he5 rfl rfl (.bool true) (rn_seq _ (by simp) _ _ _ _ rfl _ _ (he5.tmp 10 _ rfl) rfl _ (by first | (simp [hd1]; done) | rw [if_pos rfl, hd1] | rw [if_neg (by decide), hd1])) (fun a6 he6 => ?_)
   clear he5
   refine wl_end ?_
   refine wp_condT (he := he6) rfl ?_
   refine wp_seqR ?_
   refine wl_val he6 rfl rfl (.slice (some ⟨b1, 0, none⟩) (0) (0)) (rn_move _ (Or.inl rfl) _ (he6.tmp 4 _ rfl)) (fun a7 he7 => ?_)
   clear he6
   refine wl_val he7 rfl rfl (.slice (some ⟨b1, 0, none⟩) (0) (0)) (rn_move _ (Or.inr rfl) _ (he7.tmp 12 _ rfl)) (fun a8 he8 => ?_)
   clear he7
   refine wl_val he8 rfl rfl (.bool true) (rn_move _ (Or.inr rfl) _ rfl) (fun a9 he9 => ?_)
   clear he8
   refine wl_end ?_
   refine wp_ret ?_
   refine ret_then ?_
   exact bodyPost_ret (results_tmp2 he9 _ _ Tryd.results13 _ _ rfl rfl) he9.defers (Or.inr ⟨[], getM_0 h0, (0, (cellsOf Ru.arr []).toArray), _, rfl, hm1.bx 1 _ _ _ _ rfl, rw1_0, by have := hm1.own 1 _ rfl rfl; simpa using this, hm1.below⟩)
theorem c_spGet_no (s : ByteArray) (w : World) (hs : s.size ≤ 1048576) (h : getM s = none) : Calls Tryd.prog 13 #[.string s] w fun e w' => e = .returned (.tuple #[.slice none 0 0, .bool false]) ∧ Below w.heap.size w w' := by
  refine (c_spGet0 s w hs).mono ?_
  rintro e w' (⟨_, h1⟩ | ⟨l, h1, _⟩)
  · exact h1
  · rw [h] at h1; cases h1
theorem c_spGet (s : ByteArray) (l : List Ru) (w : World) (hs : s.size ≤ 1048576) (h : getM s = some l) : Calls Tryd.prog 13 #[.string s] w fun e w' => NewRuT w l e w' := by
  refine (c_spGet0 s w hs).mono ?_
  rintro e w' (⟨h1, _⟩ | ⟨l', h1, h2⟩)
  · rw [h] at h1; cases h1
  · rw [h] at h1; cases h1; exact h2
end Go.Proofs.YtkaekiodjjhjkaaDoor
