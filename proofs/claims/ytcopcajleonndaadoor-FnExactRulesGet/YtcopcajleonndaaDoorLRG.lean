/- The law of rules read: its walk. -/
import Derived.Test.YtcopcajleonndaaDoorNR
import Derived.Test.YtcopcajleonndaaDoorWP
namespace Go.Proofs.YtcopcajleonndaaDoor
open Go.RowKit
set_option linter.unusedVariables false
set_option linter.unusedSimpArgs false
def ru0 : Ru := ⟨0, 0, 0, 0, 0⟩
theorem rw_owns {W : World} {n0 : Nat} {v : Value} {L : List Ru} (h : W.ownsRow n0 36 5 v L.length (cellsOf Ru.arr L)) (hL : L ≠ []) : ∃ (x : Nat × Array Value) (b : Nat), v = .slice (some ⟨b, 0, none⟩) L.length x.1 ∧ BX W b 36 x.2 ∧ Rw x.2 L.length x.1 5 (cellsOf Ru.arr L) ∧ n0 ≤ b := by
  rcases h.2 with ⟨h1, h2⟩ | ⟨g, cap, cur, h1, hb, hg, h2, h5, h3, h4⟩
  · exact absurd (List.length_eq_zero_iff.1 h2) hL
  · exact ⟨(cap, cur), g, h1, hg, ⟨h2, h5, h3, h4⟩, hb⟩
section
variable (s : ByteArray) (w : World) (hs : s.size ≤ 1048576)
include hs
theorem c_iget_y (hT : TabsRG w) (l : List Ru) (h : getM s = some l) (hne : l ≠ []) : Calls Tryd.prog 11 #[.string s] w fun e w' => NewRuT w l e w' := by
  refine (c_iget s hs w hT).mono ?_
  rintro e w' (⟨h1, _⟩ | ⟨l', h1, v, rfl, hr, hn, hb⟩)
  · rw [h] at h1; cases h1
  · rw [h] at h1; cases h1
    obtain ⟨x, b, rfl, hx, hw, hle⟩ := rw_owns hr hne
    exact ⟨x, b, rfl, hx, hw, hle, hb⟩
theorem c_iget_e (hT : TabsRG w) (h : getM s = some []) : Calls Tryd.prog 11 #[.string s] w fun e w' => e = .returned (.tuple #[.slice none 0 0, .bool true]) ∧ Below w.heap.size w w' := by
  refine (c_iget s hs w hT).mono ?_
  rintro e w' (⟨h1, _⟩ | ⟨l', h1, v, rfl, hr, hn, hb⟩)
  · rw [h] at h1; cases h1
  · rw [h] at h1; cases h1
    exact ⟨by rw [hn rfl], hb⟩
theorem c_iget_n (hT : TabsRG w) (h : getM s = none) : Calls Tryd.prog 11 #[.string s] w fun e w' => e = .returned (.tuple #[.slice none 0 0, .bool false]) ∧ Below w.heap.size w w' := by
  refine (c_iget s hs w hT).mono ?_
  rintro e w' (⟨_, h1⟩ | ⟨l', h1, _⟩)
  · exact h1
  · rw [h] at h1; cases h1
theorem c_spget_e (h : getM s = some []) : Calls Tryd.prog 10 #[.string s] w fun e w' => NewRuT w [] e w' := c_spGet s [] w hs h
theorem c_spget_n (h : getM s = none) : Calls Tryd.prog 10 #[.string s] w fun e w' => e = .returned (.tuple #[.slice none 0 0, .bool false]) ∧ Below w.heap.size w w' := by
  refine (c_spGet0 s w hs).mono ?_
  rintro e w' (⟨_, h1⟩ | ⟨l', h1, _⟩)
  · exact h1
  · rw [h] at h1; cases h1
end
theorem c_eqRuleS00 (a aq : Option Addr) (c cq : Nat) (w : World)  :
    Calls Tryd.prog 9 #[.slice (a) (0) (c), .slice (aq) (0) (cq)] w fun e w' => e = .returned (.bool true) ∧ Below w.heap.size w w' := by
  refine calls_begin Tryd.func9 rfl 27 rfl (Nat.le_of_ble_eq_true rfl) [(0, .slice (a) (0) (c)), (1, .slice (aq) (0) (cq))] ⟨rfl, rfl, trivial⟩ (fun a0 he0 hm0 => ?_)
  refine wp_seqR ?_
  refine wl_val he0 rfl rfl (.bool false) (rn_move _ (Or.inr rfl) _ rfl) (fun a1 he1 => ?_)
  clear he0
  refine wl_end ?_
  refine wp_seq ?_
  refine wp_seqR ?_
  refine wl_val he1 rfl rfl (.slice (a) (0) (c)) (rn_move _ (Or.inl rfl) _ (he1.tmp 0 _ rfl)) (fun a2 he2 => ?_)
  clear he1
  refine wl_val he2 rfl rfl (.int .i64 (0)) (rn_builtin _ _ _ rfl #[.slice (a) (0) (c)] (map1 (he2.tmp 6 _ rfl)) (.int .i64 (0)) (by kernel_rfl)) (fun a3 he3 => ?_)
  clear he2
  refine wl_val he3 rfl rfl (.slice (aq) (0) (cq)) (rn_move _ (Or.inl rfl) _ (he3.tmp 1 _ rfl)) (fun a4 he4 => ?_)
  clear he3
  refine wl_val he4 rfl rfl (.int .i64 (0)) (rn_builtin _ _ _ rfl #[.slice (aq) (0) (cq)] (map1 (he4.tmp 8 _ rfl)) (.int .i64 (0)) (by kernel_rfl)) (fun a5 he5 => ?_)
  clear he4
  refine wl_val he5 rfl rfl (.bool false) (rn_bin _ _ _ _ _ rfl .i64 _ _ (he5.tmp 7 _ rfl) (he5.tmp 9 _ rfl) (.bool ((0 != 0))) _ rfl (congrArg Value.bool (rfl))) (fun a6 he6 => ?_)
  clear he5
  refine wl_end ?_
  refine wp_condF (he := he6) rfl ?_
  refine wp_skip ?_
  refine then_normal ?_
  refine wp_seq ?_
  refine wp_seqR ?_
  refine wl_val he6 rfl rfl (.int .i64 (0)) (rn_move _ (Or.inr rfl) _ rfl) (fun a7 he7 => ?_)
  clear he6
  refine wl_end ?_
  refine wp_block ?_
  refine wp_loop_rounds 1 ?_
  rw [rounds_succ]
  refine wp_seq ?_
  refine wp_seqR ?_
  refine wl_val he7 rfl rfl (.int .i64 (0)) (rn_move _ (Or.inl rfl) _ (he7.tmp 5 _ rfl)) (fun a8 he8 => ?_)
  clear he7
  refine wl_val he8 rfl rfl (.slice (a) (0) (c)) (rn_move _ (Or.inl rfl) _ (he8.tmp 0 _ rfl)) (fun a9 he9 => ?_)
  clear he8
  refine wl_val he9 rfl rfl (.int .i64 (0)) (rn_builtin _ _ _ rfl #[.slice (a) (0) (c)] (map1 (he9.tmp 12 _ rfl)) (.int .i64 (0)) (by kernel_rfl)) (fun a10 he10 => ?_)
  clear he9
  refine wl_val he10 rfl rfl (.bool false) (rn_bin _ _ _ _ _ rfl .i64 _ _ (he10.tmp 11 _ rfl) (he10.tmp 13 _ rfl) (.bool (decide (0 < 0))) _ rfl (congrArg Value.bool (rfl))) (fun a11 he11 => ?_)
  clear he10
  refine wl_end ?_
  refine wp_condF (he := he11) rfl ?_
  refine wp_exit ?_
  refine exit_then ?_
  refine exit_then ?_
  refine exit_here ?_
  refine then_normal ?_
  refine wp_seqR ?_
  refine wl_val he11 rfl rfl (.bool true) (rn_move _ (Or.inr rfl) _ rfl) (fun a12 he12 => ?_)
  clear he11
  refine wl_end ?_
  refine wp_ret ?_
  exact bodyPost_ret (results_tmp he12 _ Tryd.results9 _ rfl) he12.defers ⟨rfl, hm0.below⟩
theorem c_markRu0 (a : Option Addr) (c k : Nat) (w : World)  :
    Calls Tryd.prog 12 #[.slice (a) (0) (c), .int .i64 (((k : Nat) : Int))] w fun e w' => e = .returned (.int .i64 ((k : Nat) : Int)) ∧ Below w.heap.size w w' := by
  refine calls_begin Tryd.func12 rfl 48 rfl (Nat.le_of_ble_eq_true rfl) [(0, .slice (a) (0) (c)), (1, .int .i64 (((k : Nat) : Int)))] ⟨rfl, rfl, trivial⟩ (fun a0 he0 hm0 => ?_)
  refine wp_seqR ?_
  refine wl_val he0 rfl rfl (.int .i64 (0)) (rn_move _ (Or.inr rfl) _ rfl) (fun a1 he1 => ?_)
  clear he0
  refine wl_end ?_
  refine wp_seq ?_
  refine wp_seqR ?_
  refine wl_val he1 rfl rfl (.int .i64 (0)) (rn_move _ (Or.inr rfl) _ rfl) (fun a2 he2 => ?_)
  clear he1
  refine wl_end ?_
  refine wp_block ?_
  refine wp_loop_rounds 1 ?_
  rw [rounds_succ]
  refine wp_seq ?_
  refine wp_seqR ?_
  refine wl_val he2 rfl rfl (.int .i64 (0)) (rn_move _ (Or.inl rfl) _ (he2.tmp 5 _ rfl)) (fun a3 he3 => ?_)
  clear he2
  refine wl_val he3 rfl rfl (.slice (a) (0) (c)) (rn_move _ (Or.inl rfl) _ (he3.tmp 0 _ rfl)) (fun a4 he4 => ?_)
  clear he3
  refine wl_val he4 rfl rfl (.int .i64 (0)) (rn_builtin _ _ _ rfl #[.slice (a) (0) (c)] (map1 (he4.tmp 7 _ rfl)) (.int .i64 (0)) (by kernel_rfl)) (fun a5 he5 => ?_)
  clear he4
  refine wl_val he5 rfl rfl (.bool false) (rn_bin _ _ _ _ _ rfl .i64 _ _ (he5.tmp 6 _ rfl) (he5.tmp 8 _ rfl) (.bool (decide (0 < 0))) _ rfl (congrArg Value.bool (rfl))) (fun a6 he6 => ?_)
  clear he5
  refine wl_end ?_
  refine wp_condF (he := he6) rfl ?_
  refine wp_exit ?_
  refine exit_then ?_
  refine exit_then ?_
  refine exit_here ?_
  refine then_normal ?_
  refine wp_seqR ?_
  refine wl_val he6 rfl rfl (.int .i64 (((k : Nat) : Int))) (rn_move _ (Or.inl rfl) _ (he6.tmp 1 _ rfl)) (fun a7 he7 => ?_)
  clear he6
  refine wl_val he7 rfl rfl (.int .i64 (((k : Nat) : Int))) (rn_move _ (Or.inr rfl) _ (he7.tmp 47 _ rfl)) (fun a8 he8 => ?_)
  clear he7
  refine wl_end ?_
  refine wp_ret ?_
  exact bodyPost_ret (results_tmp he8 _ Tryd.results12 _ rfl) he8.defers ⟨rfl, hm0.below⟩
theorem c_heldRu0 (a : Option Addr) (c k : Nat) (w : World)  :
    Calls Tryd.prog 13 #[.slice (a) (0) (c), .int .i64 (((k : Nat) : Int))] w fun e w' => e = .returned (.int .i64 ((k : Nat) : Int)) ∧ Below w.heap.size w w' := by
  refine calls_begin Tryd.func13 rfl 58 rfl (Nat.le_of_ble_eq_true rfl) [(0, .slice (a) (0) (c)), (1, .int .i64 (((k : Nat) : Int)))] ⟨rfl, rfl, trivial⟩ (fun a0 he0 hm0 => ?_)
  refine wp_seqR ?_
  refine wl_val he0 rfl rfl (.int .i64 (0)) (rn_move _ (Or.inr rfl) _ rfl) (fun a1 he1 => ?_)
  clear he0
  refine wl_end ?_
  refine wp_seq ?_
  refine wp_seqR ?_
  refine wl_val he1 rfl rfl (.int .i64 (0)) (rn_move _ (Or.inr rfl) _ rfl) (fun a2 he2 => ?_)
  clear he1
  refine wl_end ?_
  refine wp_block ?_
  refine wp_loop_rounds 1 ?_
  rw [rounds_succ]
  refine wp_seq ?_
  refine wp_seqR ?_
  refine wl_val he2 rfl rfl (.int .i64 (0)) (rn_move _ (Or.inl rfl) _ (he2.tmp 5 _ rfl)) (fun a3 he3 => ?_)
  clear he2
  refine wl_val he3 rfl rfl (.slice (a) (0) (c)) (rn_move _ (Or.inl rfl) _ (he3.tmp 0 _ rfl)) (fun a4 he4 => ?_)
  clear he3
  refine wl_val he4 rfl rfl (.int .i64 (0)) (rn_builtin _ _ _ rfl #[.slice (a) (0) (c)] (map1 (he4.tmp 7 _ rfl)) (.int .i64 (0)) (by kernel_rfl)) (fun a5 he5 => ?_)
  clear he4
  refine wl_val he5 rfl rfl (.bool false) (rn_bin _ _ _ _ _ rfl .i64 _ _ (he5.tmp 6 _ rfl) (he5.tmp 8 _ rfl) (.bool (decide (0 < 0))) _ rfl (congrArg Value.bool (rfl))) (fun a6 he6 => ?_)
  clear he5
  refine wl_end ?_
  refine wp_condF (he := he6) rfl ?_
  refine wp_exit ?_
  refine exit_then ?_
  refine exit_then ?_
  refine exit_here ?_
  refine then_normal ?_
  refine wp_seqR ?_
  refine wl_val he6 rfl rfl (.int .i64 (((k : Nat) : Int))) (rn_move _ (Or.inl rfl) _ (he6.tmp 1 _ rfl)) (fun a7 he7 => ?_)
  clear he6
  refine wl_val he7 rfl rfl (.int .i64 (((k : Nat) : Int))) (rn_move _ (Or.inr rfl) _ (he7.tmp 57 _ rfl)) (fun a8 he8 => ?_)
  clear he7
  refine wl_end ?_
  refine wp_ret ?_
  exact bodyPost_ret (results_tmp he8 _ Tryd.results13 _ rfl) he8.defers ⟨rfl, hm0.below⟩
theorem law_get_y (s : ByteArray) (l : List Ru) (w : World) (hT : TabsRG w) (h : getM s = some l) (hne : l ≠ []) :
    Calls Tryd.prog 4 #[.string (s)] w fun e w' => e = .returned (.bool true) ∧ Below w.heap.size w w' := by
  refine calls_begin Tryd.func4 rfl 66 rfl (Nat.le_of_ble_eq_true rfl) [(0, .string (s))] ⟨rfl, trivial⟩ (fun a0 he0 hm0 => ?_)
  have hl6 : l.length ≤ 6 := (cat_get h).2.1
  have hk6 : decide (((1 + 5 * l.length : Nat) : Int) < 0) = false := decide_eq_false (by omega)
  have hk7 : (((1 + 5 * l.length : Nat) : Int) != ((1 + 5 * l.length : Nat) : Int)) = false := by simp
  refine wp_seqR ?_
  refine wl_val he0 rfl rfl (.bool false) (rn_move _ (Or.inr rfl) _ rfl) (fun a1 he1 => ?_)
  clear he0
  refine wl_end ?_
  refine wp_seq ?_
  refine wp_seqR ?_
  refine wl_val he1 rfl rfl (.string (s)) (rn_move _ (Or.inl rfl) _ (he1.tmp 0 _ rfl)) (fun a2 he2 => ?_)
  clear he1
  refine wl_val he2 rfl rfl (.int .i64 ((((s).size : Nat) : Int))) (rn_builtin _ _ _ rfl #[.string (s)] (map1 (he2.tmp 11 _ rfl)) (.int .i64 ((((s).size : Nat) : Int))) (by kernel_rfl)) (fun a3 he3 => ?_)
  clear he2
  cases hd1 : (decide ((((s).size : Nat) : Int) > 1048576))
  ·
   have hz : s.size ≤ 1048576 := by have := of_decide_eq_false hd1; omega
   have hd1p := of_decide_eq_false hd1
   refine wl_val he3 rfl rfl (.bool false) (rn_bin _ _ _ _ _ rfl .i64 _ _ (he3.tmp 12 _ rfl) rfl (.bool (decide ((((s).size : Nat) : Int) > 1048576))) _ rfl (congrArg Value.bool (hd1))) (fun a4 he4 => ?_)
   clear he3
   refine wl_end ?_
   refine wp_condF (he := he4) rfl ?_
   refine wp_skip ?_
   refine then_normal ?_
   refine wp_seqR ?_
   refine wl_val he4 rfl rfl (.string (s)) (rn_move _ (Or.inl rfl) _ (he4.tmp 0 _ rfl)) (fun a5 he5 => ?_)
   clear he4
   refine wl_callN he5 hm0 1 rfl rfl rfl _ #[.string (s)] (enter_call _ _ _ rfl 10 #[] #[] rfl #[.string (s)] (map1 (he5.tmp 15 _ rfl)) #[.string (s)] rfl (fun _ _ => by kernel_rfl)) (c_spGet s l _ hz h) (fun x1 b1 a6 w1 hx1 he6 hm1 => ?_)
   clear he5 hm0
   have rw1_n : Rw (x1.2) (l.length) (x1.1) 5 (cellsOf Ru.arr (l)) := hx1
   refine wl_val he6 rfl rfl (.tuple #[.slice (some ⟨b1, 0, none⟩) (l.length) (x1.1), .bool true]) (rn_move _ (Or.inl rfl) _ (he6.tmp 16 _ rfl)) (fun a7 he7 => ?_)
   clear he6
   refine wl_val he7 rfl rfl (.slice (some ⟨b1, 0, none⟩) (l.length) (x1.1)) (rn_extract _ _ rfl _ (he7.tmp 14 _ rfl) _ rfl) (fun a8 he8 => ?_)
   clear he7
   refine wl_val he8 rfl rfl (.bool true) (rn_extract _ _ rfl _ (he8.tmp 14 _ rfl) _ rfl) (fun a9 he9 => ?_)
   clear he8
   refine wl_val he9 rfl rfl (.slice (some ⟨b1, 0, none⟩) (l.length) (x1.1)) (rn_move _ (Or.inr rfl) _ (he9.tmp 17 _ rfl)) (fun a10 he10 => ?_)
   clear he9
   refine wl_val he10 rfl rfl (.bool true) (rn_move _ (Or.inr rfl) _ (he10.tmp 18 _ rfl)) (fun a11 he11 => ?_)
   clear he10
   refine wl_end ?_
   refine wp_seqR ?_
   refine wl_val he11 rfl rfl (.string (s)) (rn_move _ (Or.inl rfl) _ (he11.tmp 0 _ rfl)) (fun a12 he12 => ?_)
   clear he11
   refine wl_callN he12 hm1 2 rfl rfl rfl _ #[.string (s)] (enter_call _ _ _ rfl 11 #[] #[] rfl #[.string (s)] (map1 (he12.tmp 20 _ rfl)) #[.string (s)] rfl (fun _ _ => by kernel_rfl)) (c_iget_y s _ hz (hT.kb hm1.keep rfl) l h hne) (fun x2 b2 a13 w2 hx2 he13 hm2 => ?_)
   clear he12 hm1
   have rw2_n : Rw (x2.2) (l.length) (x2.1) 5 (cellsOf Ru.arr (l)) := hx2
   refine wl_val he13 rfl rfl (.tuple #[.slice (some ⟨b2, 0, none⟩) (l.length) (x2.1), .bool true]) (rn_move _ (Or.inl rfl) _ (he13.tmp 21 _ rfl)) (fun a14 he14 => ?_)
   clear he13
   refine wl_val he14 rfl rfl (.slice (some ⟨b2, 0, none⟩) (l.length) (x2.1)) (rn_extract _ _ rfl _ (he14.tmp 19 _ rfl) _ rfl) (fun a15 he15 => ?_)
   clear he14
   refine wl_val he15 rfl rfl (.bool true) (rn_extract _ _ rfl _ (he15.tmp 19 _ rfl) _ rfl) (fun a16 he16 => ?_)
   clear he15
   refine wl_val he16 rfl rfl (.slice (some ⟨b2, 0, none⟩) (l.length) (x2.1)) (rn_move _ (Or.inr rfl) _ (he16.tmp 22 _ rfl)) (fun a17 he17 => ?_)
   clear he16
   refine wl_val he17 rfl rfl (.bool true) (rn_move _ (Or.inr rfl) _ (he17.tmp 23 _ rfl)) (fun a18 he18 => ?_)
   clear he17
   refine wl_end ?_
   refine wp_seq ?_
   refine wp_seqR ?_
   refine wl_val he18 rfl rfl (.slice (some ⟨b2, 0, none⟩) (l.length) (x2.1)) (rn_move _ (Or.inl rfl) _ (he18.tmp 5 _ rfl)) (fun a19 he19 => ?_)
   clear he18
   refine wl_val he19 rfl rfl (.slice (some ⟨b1, 0, none⟩) (l.length) (x1.1)) (rn_move _ (Or.inl rfl) _ (he19.tmp 3 _ rfl)) (fun a20 he20 => ?_)
   clear he19
   refine wl_call he20 hm2 rfl rfl _ #[.slice (some ⟨b2, 0, none⟩) (l.length) (x2.1), .slice (some ⟨b1, 0, none⟩) (l.length) (x1.1)] (enter_call _ _ _ rfl 9 #[] #[] rfl #[.slice (some ⟨b2, 0, none⟩) (l.length) (x2.1), .slice (some ⟨b1, 0, none⟩) (l.length) (x1.1)] (map2 (he20.tmp 24 _ rfl) (he20.tmp 25 _ rfl)) #[.slice (some ⟨b2, 0, none⟩) (l.length) (x2.1), .slice (some ⟨b1, 0, none⟩) (l.length) (x1.1)] rfl (fun _ _ => by kernel_rfl)) (.bool true) (callsV (congrArg Value.bool (eqRus_same _ _)) (c_eqRuleS (fun i => l.getD i ru0) (fun i => l.getD i ru0) b2 0 l.length x2.1 b1 0 l.length x1.1 _ (Rw.rowAt RuSz ru0 rw2_n rfl (hm2.bx 2 _ _ _ _ rfl)) (by omega) (Rw.rowAt RuSz ru0 rw1_n rfl (hm2.bx 1 _ _ _ _ rfl)) (by omega))) (fun a21 w3 he21 hm3 => ?_)
   clear he20 hm2
   refine wl_val he21 rfl rfl (.bool false) (rn_un _ _ _ rfl _ (.bool (!true)) _ (he21.tmp 26 _ rfl) rfl rfl) (fun a22 he22 => ?_)
   clear he21
   refine wl_val he22 rfl rfl (.bool false) (rn_move _ (Or.inl rfl) _ (he22.tmp 27 _ rfl)) (fun a23 he23 => ?_)
   clear he22
   refine wl_val he23 rfl (wanted_slot he23 4 false rfl 28 rfl false rfl true rfl) (.bool true) (rn_move _ (Or.inl rfl) _ (he23.tmp 6 _ rfl)) (fun a24 he24 => ?_)
   clear he23
   refine wl_val he24 rfl (wanted_slot he24 4 false rfl 28 rfl false rfl true rfl) (.bool true) (rn_move _ (Or.inl rfl) _ (he24.tmp 4 _ rfl)) (fun a25 he25 => ?_)
   clear he24
   refine wl_val he25 rfl (wanted_slot he25 4 false rfl 28 rfl false rfl true rfl) (.bool false) (rn_binG _ _ _ _ _ rfl _ _ (he25.tmp 29 _ rfl) (he25.tmp 30 _ rfl) _ rfl (by kernel_rfl)) (fun a26 he26 => ?_)
   clear he25
   refine wl_val he26 rfl rfl (.bool false) (rn_pickF _ _ _ rfl (he26.tmp 28 _ rfl) _ (he26.tmp 31 _ rfl)) (fun a27 he27 => ?_)
   clear he26
   refine wl_end ?_
   refine wp_condF (he := he27) rfl ?_
   refine wp_skip ?_
   refine then_normal ?_
   refine wp_seqR ?_
   refine wl_val he27 rfl rfl (.int .i64 (1)) (rn_move _ (Or.inr rfl) _ rfl) (fun a28 he28 => ?_)
   clear he27
   refine wl_end ?_
   refine wp_seqR ?_
   refine wl_val he28 rfl rfl (.slice (some ⟨b2, 0, none⟩) (l.length) (x2.1)) (rn_move _ (Or.inl rfl) _ (he28.tmp 5 _ rfl)) (fun a29 he29 => ?_)
   clear he28
   refine wl_val he29 rfl rfl (.int .i64 (1)) (rn_move _ (Or.inl rfl) _ (he29.tmp 7 _ rfl)) (fun a30 he30 => ?_)
   clear he29
   refine wl_callK he30 hm3 2 rfl rfl rfl _ #[.slice (some ⟨b2, 0, none⟩) (l.length) (x2.1), .int .i64 (1)] (enter_call _ _ _ rfl 12 #[] #[] rfl #[.slice (some ⟨b2, 0, none⟩) (l.length) (x2.1), .int .i64 (1)] (map2 (he30.tmp 33 _ rfl) (he30.tmp 34 _ rfl)) #[.slice (some ⟨b2, 0, none⟩) (l.length) (x2.1), .int .i64 (1)] rfl (fun _ _ => by kernel_rfl)) (.int .i64 (((1 + 5 * l.length : Nat) : Int))) (A' := markA (x2.2) 1 l.length) (c_mark (x2.2) b2 l.length x2.1 1 _ (hm3.bx 2 _ _ _ _ rfl) (rw2_n.fit') (by omega) (by omega)) (fun a31 w4 he31 hm4 => ?_)
   clear he30 hm3
   refine wl_val he31 rfl rfl (.int .i64 (((1 + 5 * l.length : Nat) : Int))) (rn_move _ (Or.inr rfl) _ (he31.tmp 35 _ rfl)) (fun a32 he32 => ?_)
   clear he31
   refine wl_end ?_
   refine wp_seqR ?_
   refine wl_val he32 rfl rfl (.int .i64 (1)) (rn_move _ (Or.inr rfl) _ rfl) (fun a33 he33 => ?_)
   clear he32
   refine wl_end ?_
   refine wp_seqR ?_
   refine wl_val he33 rfl rfl (.slice (some ⟨b2, 0, none⟩) (l.length) (x2.1)) (rn_move _ (Or.inl rfl) _ (he33.tmp 5 _ rfl)) (fun a34 he34 => ?_)
   clear he33
   refine wl_val he34 rfl rfl (.int .i64 (1)) (rn_move _ (Or.inl rfl) _ (he34.tmp 8 _ rfl)) (fun a35 he35 => ?_)
   clear he34
   refine wl_call he35 hm4 rfl rfl _ #[.slice (some ⟨b2, 0, none⟩) (l.length) (x2.1), .int .i64 (1)] (enter_call _ _ _ rfl 13 #[] #[] rfl #[.slice (some ⟨b2, 0, none⟩) (l.length) (x2.1), .int .i64 (1)] (map2 (he35.tmp 36 _ rfl) (he35.tmp 37 _ rfl)) #[.slice (some ⟨b2, 0, none⟩) (l.length) (x2.1), .int .i64 (1)] rfl (fun _ _ => by kernel_rfl)) (.int .i64 (((1 + 5 * l.length : Nat) : Int))) (c_held b2 0 l.length x2.1 1 _ ((markA_row (x2.2) 1 l.length (rw2_n.fit')).at (hm4.bx 2 _ _ _ _ rfl)) (by omega) (by omega)) (fun a36 w5 he36 hm5 => ?_)
   clear he35 hm4
   refine wl_val he36 rfl rfl (.int .i64 (((1 + 5 * l.length : Nat) : Int))) (rn_move _ (Or.inr rfl) _ (he36.tmp 38 _ rfl)) (fun a37 he37 => ?_)
   clear he36
   refine wl_end ?_
   refine wp_seq ?_
   refine wp_seqR ?_
   refine wl_val he37 rfl rfl (.int .i64 (((1 + 5 * l.length : Nat) : Int))) (rn_move _ (Or.inl rfl) _ (he37.tmp 8 _ rfl)) (fun a38 he38 => ?_)
   clear he37
   refine wl_val he38 rfl rfl (.bool false) (rn_bin _ _ _ _ _ rfl .i64 _ _ (he38.tmp 39 _ rfl) rfl (.bool (decide (((1 + 5 * l.length : Nat) : Int) < 0))) _ rfl (congrArg Value.bool (hk6))) (fun a39 he39 => ?_)
   clear he38
   refine wl_end ?_
   refine wp_condF (he := he39) rfl ?_
   refine wp_skip ?_
   refine then_normal ?_
   refine wp_seq ?_
   refine wp_seqR ?_
   refine wl_val he39 rfl rfl (.int .i64 (((1 + 5 * l.length : Nat) : Int))) (rn_move _ (Or.inl rfl) _ (he39.tmp 8 _ rfl)) (fun a40 he40 => ?_)
   clear he39
   refine wl_val he40 rfl rfl (.int .i64 (((1 + 5 * l.length : Nat) : Int))) (rn_move _ (Or.inl rfl) _ (he40.tmp 7 _ rfl)) (fun a41 he41 => ?_)
   clear he40
   refine wl_val he41 rfl rfl (.bool false) (rn_bin _ _ _ _ _ rfl .i64 _ _ (he41.tmp 41 _ rfl) (he41.tmp 42 _ rfl) (.bool ((((1 + 5 * l.length : Nat) : Int) != ((1 + 5 * l.length : Nat) : Int)))) _ rfl (congrArg Value.bool (hk7))) (fun a42 he42 => ?_)
   clear he41
   refine wl_end ?_
   refine wp_condF (he := he42) rfl ?_
   refine wp_skip ?_
   refine then_normal ?_
   refine wp_seqR ?_
   refine wl_val he42 rfl rfl (.string (s)) (rn_move _ (Or.inl rfl) _ (he42.tmp 0 _ rfl)) (fun a43 he43 => ?_)
   clear he42
   refine wl_callN he43 hm5 3 rfl rfl rfl _ #[.string (s)] (enter_call _ _ _ rfl 11 #[] #[] rfl #[.string (s)] (map1 (he43.tmp 45 _ rfl)) #[.string (s)] rfl (fun _ _ => by kernel_rfl)) (c_iget_y s _ hz (hT.kb hm5.keep rfl) l h hne) (fun x3 b3 a44 w6 hx3 he44 hm6 => ?_)
   clear he43 hm5
   have rw3_n : Rw (x3.2) (l.length) (x3.1) 5 (cellsOf Ru.arr (l)) := hx3
   refine wl_val he44 rfl rfl (.tuple #[.slice (some ⟨b3, 0, none⟩) (l.length) (x3.1), .bool true]) (rn_move _ (Or.inl rfl) _ (he44.tmp 46 _ rfl)) (fun a45 he45 => ?_)
   clear he44
   refine wl_val he45 rfl rfl (.slice (some ⟨b3, 0, none⟩) (l.length) (x3.1)) (rn_extract _ _ rfl _ (he45.tmp 44 _ rfl) _ rfl) (fun a46 he46 => ?_)
   clear he45
   refine wl_val he46 rfl rfl (.bool true) (rn_extract _ _ rfl _ (he46.tmp 44 _ rfl) _ rfl) (fun a47 he47 => ?_)
   clear he46
   refine wl_val he47 rfl rfl (.slice (some ⟨b3, 0, none⟩) (l.length) (x3.1)) (rn_move _ (Or.inr rfl) _ (he47.tmp 47 _ rfl)) (fun a48 he48 => ?_)
   clear he47
   refine wl_val he48 rfl rfl (.bool true) (rn_move _ (Or.inr rfl) _ (he48.tmp 48 _ rfl)) (fun a49 he49 => ?_)
   clear he48
   refine wl_end ?_
   refine wp_seq ?_
   refine wp_seqR ?_
   refine wl_val he49 rfl rfl (.slice (some ⟨b3, 0, none⟩) (l.length) (x3.1)) (rn_move _ (Or.inl rfl) _ (he49.tmp 9 _ rfl)) (fun a50 he50 => ?_)
   clear he49
   refine wl_val he50 rfl rfl (.slice (some ⟨b1, 0, none⟩) (l.length) (x1.1)) (rn_move _ (Or.inl rfl) _ (he50.tmp 3 _ rfl)) (fun a51 he51 => ?_)
   clear he50
   refine wl_call he51 hm6 rfl rfl _ #[.slice (some ⟨b3, 0, none⟩) (l.length) (x3.1), .slice (some ⟨b1, 0, none⟩) (l.length) (x1.1)] (enter_call _ _ _ rfl 9 #[] #[] rfl #[.slice (some ⟨b3, 0, none⟩) (l.length) (x3.1), .slice (some ⟨b1, 0, none⟩) (l.length) (x1.1)] (map2 (he51.tmp 49 _ rfl) (he51.tmp 50 _ rfl)) #[.slice (some ⟨b3, 0, none⟩) (l.length) (x3.1), .slice (some ⟨b1, 0, none⟩) (l.length) (x1.1)] rfl (fun _ _ => by kernel_rfl)) (.bool true) (callsV (congrArg Value.bool (eqRus_same _ _)) (c_eqRuleS (fun i => l.getD i ru0) (fun i => l.getD i ru0) b3 0 l.length x3.1 b1 0 l.length x1.1 _ (Rw.rowAt RuSz ru0 rw3_n rfl (hm6.bx 3 _ _ _ _ rfl)) (by omega) (Rw.rowAt RuSz ru0 rw1_n rfl (hm6.bx 1 _ _ _ _ rfl)) (by omega))) (fun a52 w7 he52 hm7 => ?_)
   clear he51 hm6
   refine wl_val he52 rfl rfl (.bool false) (rn_un _ _ _ rfl _ (.bool (!true)) _ (he52.tmp 51 _ rfl) rfl rfl) (fun a53 he53 => ?_)
   clear he52
   refine wl_val he53 rfl rfl (.bool false) (rn_move _ (Or.inl rfl) _ (he53.tmp 52 _ rfl)) (fun a54 he54 => ?_)
   clear he53
   refine wl_val he54 rfl (wanted_slot he54 4 false rfl 53 rfl false rfl true rfl) (.bool true) (rn_move _ (Or.inl rfl) _ (he54.tmp 10 _ rfl)) (fun a55 he55 => ?_)
   clear he54
   refine wl_val he55 rfl (wanted_slot he55 4 false rfl 53 rfl false rfl true rfl) (.bool true) (rn_move _ (Or.inl rfl) _ (he55.tmp 4 _ rfl)) (fun a56 he56 => ?_)
   clear he55
   refine wl_val he56 rfl (wanted_slot he56 4 false rfl 53 rfl false rfl true rfl) (.bool false) (rn_binG _ _ _ _ _ rfl _ _ (he56.tmp 54 _ rfl) (he56.tmp 55 _ rfl) _ rfl (by kernel_rfl)) (fun a57 he57 => ?_)
   clear he56
   refine wl_val he57 rfl rfl (.bool false) (rn_pickF _ _ _ rfl (he57.tmp 53 _ rfl) _ (he57.tmp 56 _ rfl)) (fun a58 he58 => ?_)
   clear he57
   refine wl_end ?_
   refine wp_condF (he := he58) rfl ?_
   refine wp_skip ?_
   refine then_normal ?_
   refine wp_seqR ?_
   refine wl_val he58 rfl rfl (.int .i64 (1)) (rn_move _ (Or.inr rfl) _ rfl) (fun a59 he59 => ?_)
   clear he58
   refine wl_end ?_
   refine wp_seqR ?_
   refine wl_val he59 rfl rfl (.slice (some ⟨b2, 0, none⟩) (l.length) (x2.1)) (rn_move _ (Or.inl rfl) _ (he59.tmp 5 _ rfl)) (fun a60 he60 => ?_)
   clear he59
   refine wl_val he60 rfl rfl (.int .i64 (1)) (rn_move _ (Or.inl rfl) _ (he60.tmp 8 _ rfl)) (fun a61 he61 => ?_)
   clear he60
   refine wl_call he61 hm7 rfl rfl _ #[.slice (some ⟨b2, 0, none⟩) (l.length) (x2.1), .int .i64 (1)] (enter_call _ _ _ rfl 13 #[] #[] rfl #[.slice (some ⟨b2, 0, none⟩) (l.length) (x2.1), .int .i64 (1)] (map2 (he61.tmp 58 _ rfl) (he61.tmp 59 _ rfl)) #[.slice (some ⟨b2, 0, none⟩) (l.length) (x2.1), .int .i64 (1)] rfl (fun _ _ => by kernel_rfl)) (.int .i64 (((1 + 5 * l.length : Nat) : Int))) (c_held b2 0 l.length x2.1 1 _ ((markA_row (x2.2) 1 l.length (rw2_n.fit')).at (hm7.bx 2 _ _ _ _ rfl)) (by omega) (by omega)) (fun a62 w8 he62 hm8 => ?_)
   clear he61 hm7
   refine wl_val he62 rfl rfl (.int .i64 (((1 + 5 * l.length : Nat) : Int))) (rn_move _ (Or.inr rfl) _ (he62.tmp 60 _ rfl)) (fun a63 he63 => ?_)
   clear he62
   refine wl_end ?_
   refine wp_seq ?_
   refine wp_seqR ?_
   refine wl_val he63 rfl rfl (.int .i64 (((1 + 5 * l.length : Nat) : Int))) (rn_move _ (Or.inl rfl) _ (he63.tmp 8 _ rfl)) (fun a64 he64 => ?_)
   clear he63
   refine wl_val he64 rfl rfl (.bool false) (rn_bin _ _ _ _ _ rfl .i64 _ _ (he64.tmp 61 _ rfl) rfl (.bool (decide (((1 + 5 * l.length : Nat) : Int) < 0))) _ rfl (congrArg Value.bool (hk6))) (fun a65 he65 => ?_)
   clear he64
   refine wl_end ?_
   refine wp_condF (he := he65) rfl ?_
   refine wp_skip ?_
   refine then_normal ?_
   refine wp_seq ?_
   refine wp_seqR ?_
   refine wl_val he65 rfl rfl (.int .i64 (((1 + 5 * l.length : Nat) : Int))) (rn_move _ (Or.inl rfl) _ (he65.tmp 8 _ rfl)) (fun a66 he66 => ?_)
   clear he65
   refine wl_val he66 rfl rfl (.int .i64 (((1 + 5 * l.length : Nat) : Int))) (rn_move _ (Or.inl rfl) _ (he66.tmp 7 _ rfl)) (fun a67 he67 => ?_)
   clear he66
   refine wl_val he67 rfl rfl (.bool false) (rn_bin _ _ _ _ _ rfl .i64 _ _ (he67.tmp 63 _ rfl) (he67.tmp 64 _ rfl) (.bool ((((1 + 5 * l.length : Nat) : Int) != ((1 + 5 * l.length : Nat) : Int)))) _ rfl (congrArg Value.bool (hk7))) (fun a68 he68 => ?_)
   clear he67
   refine wl_end ?_
   refine wp_condF (he := he68) rfl ?_
   refine wp_skip ?_
   refine then_normal ?_
   refine wp_seqR ?_
   refine wl_val he68 rfl rfl (.bool true) (rn_move _ (Or.inr rfl) _ rfl) (fun a69 he69 => ?_)
   clear he68
   refine wl_end ?_
   refine wp_ret ?_
   exact bodyPost_ret (results_tmp he69 _ Tryd.results4 _ rfl) he69.defers ⟨rfl, hm8.below⟩
  ·
   have hd1p := of_decide_eq_true hd1
   refine wl_val he3 rfl rfl (.bool true) (rn_bin _ _ _ _ _ rfl .i64 _ _ (he3.tmp 12 _ rfl) rfl (.bool (decide ((((s).size : Nat) : Int) > 1048576))) _ rfl (congrArg Value.bool (hd1))) (fun a4 he4 => ?_)
   clear he3
   refine wl_end ?_
   refine wp_condT (he := he4) rfl ?_
   refine wp_seqR ?_
   refine wl_val he4 rfl rfl (.bool true) (rn_move _ (Or.inr rfl) _ rfl) (fun a5 he5 => ?_)
   clear he4
   refine wl_end ?_
   refine wp_ret ?_
   refine ret_then ?_
   exact bodyPost_ret (results_tmp he5 _ Tryd.results4 _ rfl) he5.defers ⟨rfl, hm0.below⟩
theorem law_get_e (s : ByteArray) (w : World) (hT : TabsRG w) (h : getM s = some []) :
    Calls Tryd.prog 4 #[.string (s)] w fun e w' => e = .returned (.bool true) ∧ Below w.heap.size w w' := by
  refine calls_begin Tryd.func4 rfl 66 rfl (Nat.le_of_ble_eq_true rfl) [(0, .string (s))] ⟨rfl, trivial⟩ (fun a0 he0 hm0 => ?_)
  refine wp_seqR ?_
  refine wl_val he0 rfl rfl (.bool false) (rn_move _ (Or.inr rfl) _ rfl) (fun a1 he1 => ?_)
  clear he0
  refine wl_end ?_
  refine wp_seq ?_
  refine wp_seqR ?_
  refine wl_val he1 rfl rfl (.string (s)) (rn_move _ (Or.inl rfl) _ (he1.tmp 0 _ rfl)) (fun a2 he2 => ?_)
  clear he1
  refine wl_val he2 rfl rfl (.int .i64 ((((s).size : Nat) : Int))) (rn_builtin _ _ _ rfl #[.string (s)] (map1 (he2.tmp 11 _ rfl)) (.int .i64 ((((s).size : Nat) : Int))) (by kernel_rfl)) (fun a3 he3 => ?_)
  clear he2
  cases hd1 : (decide ((((s).size : Nat) : Int) > 1048576))
  ·
   have hz : s.size ≤ 1048576 := by have := of_decide_eq_false hd1; omega
   have hd1p := of_decide_eq_false hd1
   refine wl_val he3 rfl rfl (.bool false) (rn_bin _ _ _ _ _ rfl .i64 _ _ (he3.tmp 12 _ rfl) rfl (.bool (decide ((((s).size : Nat) : Int) > 1048576))) _ rfl (congrArg Value.bool (hd1))) (fun a4 he4 => ?_)
   clear he3
   refine wl_end ?_
   refine wp_condF (he := he4) rfl ?_
   refine wp_skip ?_
   refine then_normal ?_
   refine wp_seqR ?_
   refine wl_val he4 rfl rfl (.string (s)) (rn_move _ (Or.inl rfl) _ (he4.tmp 0 _ rfl)) (fun a5 he5 => ?_)
   clear he4
   refine wl_callN he5 hm0 1 rfl rfl rfl _ #[.string (s)] (enter_call _ _ _ rfl 10 #[] #[] rfl #[.string (s)] (map1 (he5.tmp 15 _ rfl)) #[.string (s)] rfl (fun _ _ => by kernel_rfl)) (c_spget_e s _ hz h) (fun x1 b1 a6 w1 hx1 he6 hm1 => ?_)
   clear he5 hm0
   have rw1_n : Rw (x1.2) (0) (x1.1) 5 (cellsOf Ru.arr ([])) := hx1
   refine wl_val he6 rfl rfl (.tuple #[.slice (some ⟨b1, 0, none⟩) (0) (x1.1), .bool true]) (rn_move _ (Or.inl rfl) _ (he6.tmp 16 _ rfl)) (fun a7 he7 => ?_)
   clear he6
   refine wl_val he7 rfl rfl (.slice (some ⟨b1, 0, none⟩) (0) (x1.1)) (rn_extract _ _ rfl _ (he7.tmp 14 _ rfl) _ rfl) (fun a8 he8 => ?_)
   clear he7
   refine wl_val he8 rfl rfl (.bool true) (rn_extract _ _ rfl _ (he8.tmp 14 _ rfl) _ rfl) (fun a9 he9 => ?_)
   clear he8
   refine wl_val he9 rfl rfl (.slice (some ⟨b1, 0, none⟩) (0) (x1.1)) (rn_move _ (Or.inr rfl) _ (he9.tmp 17 _ rfl)) (fun a10 he10 => ?_)
   clear he9
   refine wl_val he10 rfl rfl (.bool true) (rn_move _ (Or.inr rfl) _ (he10.tmp 18 _ rfl)) (fun a11 he11 => ?_)
   clear he10
   refine wl_end ?_
   refine wp_seqR ?_
   refine wl_val he11 rfl rfl (.string (s)) (rn_move _ (Or.inl rfl) _ (he11.tmp 0 _ rfl)) (fun a12 he12 => ?_)
   clear he11
   refine wl_call he12 hm1 rfl rfl _ #[.string (s)] (enter_call _ _ _ rfl 11 #[] #[] rfl #[.string (s)] (map1 (he12.tmp 20 _ rfl)) #[.string (s)] rfl (fun _ _ => by kernel_rfl)) (.tuple #[.slice (none) (0) (0), .bool true]) (c_iget_e s _ hz (hT.kb hm1.keep rfl) h) (fun a13 w2 he13 hm2 => ?_)
   clear he12 hm1
   refine wl_val he13 rfl rfl (.tuple #[.slice (none) (0) (0), .bool true]) (rn_move _ (Or.inl rfl) _ (he13.tmp 21 _ rfl)) (fun a14 he14 => ?_)
   clear he13
   refine wl_val he14 rfl rfl (.slice (none) (0) (0)) (rn_extract _ _ rfl _ (he14.tmp 19 _ rfl) _ rfl) (fun a15 he15 => ?_)
   clear he14
   refine wl_val he15 rfl rfl (.bool true) (rn_extract _ _ rfl _ (he15.tmp 19 _ rfl) _ rfl) (fun a16 he16 => ?_)
   clear he15
   refine wl_val he16 rfl rfl (.slice (none) (0) (0)) (rn_move _ (Or.inr rfl) _ (he16.tmp 22 _ rfl)) (fun a17 he17 => ?_)
   clear he16
   refine wl_val he17 rfl rfl (.bool true) (rn_move _ (Or.inr rfl) _ (he17.tmp 23 _ rfl)) (fun a18 he18 => ?_)
   clear he17
   refine wl_end ?_
   refine wp_seq ?_
   refine wp_seqR ?_
   refine wl_val he18 rfl rfl (.slice (none) (0) (0)) (rn_move _ (Or.inl rfl) _ (he18.tmp 5 _ rfl)) (fun a19 he19 => ?_)
   clear he18
   refine wl_val he19 rfl rfl (.slice (some ⟨b1, 0, none⟩) (0) (x1.1)) (rn_move _ (Or.inl rfl) _ (he19.tmp 3 _ rfl)) (fun a20 he20 => ?_)
   clear he19
   refine wl_call he20 hm2 rfl rfl _ #[.slice (none) (0) (0), .slice (some ⟨b1, 0, none⟩) (0) (x1.1)] (enter_call _ _ _ rfl 9 #[] #[] rfl #[.slice (none) (0) (0), .slice (some ⟨b1, 0, none⟩) (0) (x1.1)] (map2 (he20.tmp 24 _ rfl) (he20.tmp 25 _ rfl)) #[.slice (none) (0) (0), .slice (some ⟨b1, 0, none⟩) (0) (x1.1)] rfl (fun _ _ => by kernel_rfl)) (.bool true) (c_eqRuleS00 _ _ _ _ _) (fun a21 w3 he21 hm3 => ?_)
   clear he20 hm2
   refine wl_val he21 rfl rfl (.bool false) (rn_un _ _ _ rfl _ (.bool (!true)) _ (he21.tmp 26 _ rfl) rfl rfl) (fun a22 he22 => ?_)
   clear he21
   refine wl_val he22 rfl rfl (.bool false) (rn_move _ (Or.inl rfl) _ (he22.tmp 27 _ rfl)) (fun a23 he23 => ?_)
   clear he22
   refine wl_val he23 rfl (wanted_slot he23 4 false rfl 28 rfl false rfl true rfl) (.bool true) (rn_move _ (Or.inl rfl) _ (he23.tmp 6 _ rfl)) (fun a24 he24 => ?_)
   clear he23
   refine wl_val he24 rfl (wanted_slot he24 4 false rfl 28 rfl false rfl true rfl) (.bool true) (rn_move _ (Or.inl rfl) _ (he24.tmp 4 _ rfl)) (fun a25 he25 => ?_)
   clear he24
   refine wl_val he25 rfl (wanted_slot he25 4 false rfl 28 rfl false rfl true rfl) (.bool false) (rn_binG _ _ _ _ _ rfl _ _ (he25.tmp 29 _ rfl) (he25.tmp 30 _ rfl) _ rfl (by kernel_rfl)) (fun a26 he26 => ?_)
   clear he25
   refine wl_val he26 rfl rfl (.bool false) (rn_pickF _ _ _ rfl (he26.tmp 28 _ rfl) _ (he26.tmp 31 _ rfl)) (fun a27 he27 => ?_)
   clear he26
   refine wl_end ?_
   refine wp_condF (he := he27) rfl ?_
   refine wp_skip ?_
   refine then_normal ?_
   refine wp_seqR ?_
   refine wl_val he27 rfl rfl (.int .i64 (1)) (rn_move _ (Or.inr rfl) _ rfl) (fun a28 he28 => ?_)
   clear he27
   refine wl_end ?_
   refine wp_seqR ?_
   refine wl_val he28 rfl rfl (.slice (none) (0) (0)) (rn_move _ (Or.inl rfl) _ (he28.tmp 5 _ rfl)) (fun a29 he29 => ?_)
   clear he28
   refine wl_val he29 rfl rfl (.int .i64 (1)) (rn_move _ (Or.inl rfl) _ (he29.tmp 7 _ rfl)) (fun a30 he30 => ?_)
   clear he29
   refine wl_call he30 hm3 rfl rfl _ #[.slice (none) (0) (0), .int .i64 (1)] (enter_call _ _ _ rfl 12 #[] #[] rfl #[.slice (none) (0) (0), .int .i64 (1)] (map2 (he30.tmp 33 _ rfl) (he30.tmp 34 _ rfl)) #[.slice (none) (0) (0), .int .i64 (1)] rfl (fun _ _ => by kernel_rfl)) (.int .i64 (1)) (c_markRu0 _ _ 1 _) (fun a31 w4 he31 hm4 => ?_)
   clear he30 hm3
   refine wl_val he31 rfl rfl (.int .i64 (1)) (rn_move _ (Or.inr rfl) _ (he31.tmp 35 _ rfl)) (fun a32 he32 => ?_)
   clear he31
   refine wl_end ?_
   refine wp_seqR ?_
   refine wl_val he32 rfl rfl (.int .i64 (1)) (rn_move _ (Or.inr rfl) _ rfl) (fun a33 he33 => ?_)
   clear he32
   refine wl_end ?_
   refine wp_seqR ?_
   refine wl_val he33 rfl rfl (.slice (none) (0) (0)) (rn_move _ (Or.inl rfl) _ (he33.tmp 5 _ rfl)) (fun a34 he34 => ?_)
   clear he33
   refine wl_val he34 rfl rfl (.int .i64 (1)) (rn_move _ (Or.inl rfl) _ (he34.tmp 8 _ rfl)) (fun a35 he35 => ?_)
   clear he34
   refine wl_call he35 hm4 rfl rfl _ #[.slice (none) (0) (0), .int .i64 (1)] (enter_call _ _ _ rfl 13 #[] #[] rfl #[.slice (none) (0) (0), .int .i64 (1)] (map2 (he35.tmp 36 _ rfl) (he35.tmp 37 _ rfl)) #[.slice (none) (0) (0), .int .i64 (1)] rfl (fun _ _ => by kernel_rfl)) (.int .i64 (1)) (c_heldRu0 _ _ 1 _) (fun a36 w5 he36 hm5 => ?_)
   clear he35 hm4
   refine wl_val he36 rfl rfl (.int .i64 (1)) (rn_move _ (Or.inr rfl) _ (he36.tmp 38 _ rfl)) (fun a37 he37 => ?_)
   clear he36
   refine wl_end ?_
   refine wp_seq ?_
   refine wp_seqR ?_
   refine wl_val he37 rfl rfl (.int .i64 (1)) (rn_move _ (Or.inl rfl) _ (he37.tmp 8 _ rfl)) (fun a38 he38 => ?_)
   clear he37
   refine wl_val he38 rfl rfl (.bool false) (rn_bin _ _ _ _ _ rfl .i64 _ _ (he38.tmp 39 _ rfl) rfl (.bool (decide (1 < 0))) _ rfl (congrArg Value.bool (rfl))) (fun a39 he39 => ?_)
   clear he38
   refine wl_end ?_
   refine wp_condF (he := he39) rfl ?_
   refine wp_skip ?_
   refine then_normal ?_
   refine wp_seq ?_
   refine wp_seqR ?_
   refine wl_val he39 rfl rfl (.int .i64 (1)) (rn_move _ (Or.inl rfl) _ (he39.tmp 8 _ rfl)) (fun a40 he40 => ?_)
   clear he39
   refine wl_val he40 rfl rfl (.int .i64 (1)) (rn_move _ (Or.inl rfl) _ (he40.tmp 7 _ rfl)) (fun a41 he41 => ?_)
   clear he40
   refine wl_val he41 rfl rfl (.bool false) (rn_bin _ _ _ _ _ rfl .i64 _ _ (he41.tmp 41 _ rfl) (he41.tmp 42 _ rfl) (.bool ((1 != 1))) _ rfl (congrArg Value.bool (rfl))) (fun a42 he42 => ?_)
   clear he41
   refine wl_end ?_
   refine wp_condF (he := he42) rfl ?_
   refine wp_skip ?_
   refine then_normal ?_
   refine wp_seqR ?_
   refine wl_val he42 rfl rfl (.string (s)) (rn_move _ (Or.inl rfl) _ (he42.tmp 0 _ rfl)) (fun a43 he43 => ?_)
   clear he42
   refine wl_call he43 hm5 rfl rfl _ #[.string (s)] (enter_call _ _ _ rfl 11 #[] #[] rfl #[.string (s)] (map1 (he43.tmp 45 _ rfl)) #[.string (s)] rfl (fun _ _ => by kernel_rfl)) (.tuple #[.slice (none) (0) (0), .bool true]) (c_iget_e s _ hz (hT.kb hm5.keep rfl) h) (fun a44 w6 he44 hm6 => ?_)
   clear he43 hm5
   refine wl_val he44 rfl rfl (.tuple #[.slice (none) (0) (0), .bool true]) (rn_move _ (Or.inl rfl) _ (he44.tmp 46 _ rfl)) (fun a45 he45 => ?_)
   clear he44
   refine wl_val he45 rfl rfl (.slice (none) (0) (0)) (rn_extract _ _ rfl _ (he45.tmp 44 _ rfl) _ rfl) (fun a46 he46 => ?_)
   clear he45
   refine wl_val he46 rfl rfl (.bool true) (rn_extract _ _ rfl _ (he46.tmp 44 _ rfl) _ rfl) (fun a47 he47 => ?_)
   clear he46
   refine wl_val he47 rfl rfl (.slice (none) (0) (0)) (rn_move _ (Or.inr rfl) _ (he47.tmp 47 _ rfl)) (fun a48 he48 => ?_)
   clear he47
   refine wl_val he48 rfl rfl (.bool true) (rn_move _ (Or.inr rfl) _ (he48.tmp 48 _ rfl)) (fun a49 he49 => ?_)
   clear he48
   refine wl_end ?_
   refine wp_seq ?_
   refine wp_seqR ?_
   refine wl_val he49 rfl rfl (.slice (none) (0) (0)) (rn_move _ (Or.inl rfl) _ (he49.tmp 9 _ rfl)) (fun a50 he50 => ?_)
   clear he49
   refine wl_val he50 rfl rfl (.slice (some ⟨b1, 0, none⟩) (0) (x1.1)) (rn_move _ (Or.inl rfl) _ (he50.tmp 3 _ rfl)) (fun a51 he51 => ?_)
   clear he50
   refine wl_call he51 hm6 rfl rfl _ #[.slice (none) (0) (0), .slice (some ⟨b1, 0, none⟩) (0) (x1.1)] (enter_call _ _ _ rfl 9 #[] #[] rfl #[.slice (none) (0) (0), .slice (some ⟨b1, 0, none⟩) (0) (x1.1)] (map2 (he51.tmp 49 _ rfl) (he51.tmp 50 _ rfl)) #[.slice (none) (0) (0), .slice (some ⟨b1, 0, none⟩) (0) (x1.1)] rfl (fun _ _ => by kernel_rfl)) (.bool true) (c_eqRuleS00 _ _ _ _ _) (fun a52 w7 he52 hm7 => ?_)
   clear he51 hm6
   refine wl_val he52 rfl rfl (.bool false) (rn_un _ _ _ rfl _ (.bool (!true)) _ (he52.tmp 51 _ rfl) rfl rfl) (fun a53 he53 => ?_)
   clear he52
   refine wl_val he53 rfl rfl (.bool false) (rn_move _ (Or.inl rfl) _ (he53.tmp 52 _ rfl)) (fun a54 he54 => ?_)
   clear he53
   refine wl_val he54 rfl (wanted_slot he54 4 false rfl 53 rfl false rfl true rfl) (.bool true) (rn_move _ (Or.inl rfl) _ (he54.tmp 10 _ rfl)) (fun a55 he55 => ?_)
   clear he54
   refine wl_val he55 rfl (wanted_slot he55 4 false rfl 53 rfl false rfl true rfl) (.bool true) (rn_move _ (Or.inl rfl) _ (he55.tmp 4 _ rfl)) (fun a56 he56 => ?_)
   clear he55
   refine wl_val he56 rfl (wanted_slot he56 4 false rfl 53 rfl false rfl true rfl) (.bool false) (rn_binG _ _ _ _ _ rfl _ _ (he56.tmp 54 _ rfl) (he56.tmp 55 _ rfl) _ rfl (by kernel_rfl)) (fun a57 he57 => ?_)
   clear he56
   refine wl_val he57 rfl rfl (.bool false) (rn_pickF _ _ _ rfl (he57.tmp 53 _ rfl) _ (he57.tmp 56 _ rfl)) (fun a58 he58 => ?_)
   clear he57
   refine wl_end ?_
   refine wp_condF (he := he58) rfl ?_
   refine wp_skip ?_
   refine then_normal ?_
   refine wp_seqR ?_
   refine wl_val he58 rfl rfl (.int .i64 (1)) (rn_move _ (Or.inr rfl) _ rfl) (fun a59 he59 => ?_)
   clear he58
   refine wl_end ?_
   refine wp_seqR ?_
   refine wl_val he59 rfl rfl (.slice (none) (0) (0)) (rn_move _ (Or.inl rfl) _ (he59.tmp 5 _ rfl)) (fun a60 he60 => ?_)
   clear he59
   refine wl_val he60 rfl rfl (.int .i64 (1)) (rn_move _ (Or.inl rfl) _ (he60.tmp 8 _ rfl)) (fun a61 he61 => ?_)
   clear he60
   refine wl_call he61 hm7 rfl rfl _ #[.slice (none) (0) (0), .int .i64 (1)] (enter_call _ _ _ rfl 13 #[] #[] rfl #[.slice (none) (0) (0), .int .i64 (1)] (map2 (he61.tmp 58 _ rfl) (he61.tmp 59 _ rfl)) #[.slice (none) (0) (0), .int .i64 (1)] rfl (fun _ _ => by kernel_rfl)) (.int .i64 (1)) (c_heldRu0 _ _ 1 _) (fun a62 w8 he62 hm8 => ?_)
   clear he61 hm7
   refine wl_val he62 rfl rfl (.int .i64 (1)) (rn_move _ (Or.inr rfl) _ (he62.tmp 60 _ rfl)) (fun a63 he63 => ?_)
   clear he62
   refine wl_end ?_
   refine wp_seq ?_
   refine wp_seqR ?_
   refine wl_val he63 rfl rfl (.int .i64 (1)) (rn_move _ (Or.inl rfl) _ (he63.tmp 8 _ rfl)) (fun a64 he64 => ?_)
   clear he63
   refine wl_val he64 rfl rfl (.bool false) (rn_bin _ _ _ _ _ rfl .i64 _ _ (he64.tmp 61 _ rfl) rfl (.bool (decide (1 < 0))) _ rfl (congrArg Value.bool (rfl))) (fun a65 he65 => ?_)
   clear he64
   refine wl_end ?_
   refine wp_condF (he := he65) rfl ?_
   refine wp_skip ?_
   refine then_normal ?_
   refine wp_seq ?_
   refine wp_seqR ?_
   refine wl_val he65 rfl rfl (.int .i64 (1)) (rn_move _ (Or.inl rfl) _ (he65.tmp 8 _ rfl)) (fun a66 he66 => ?_)
   clear he65
   refine wl_val he66 rfl rfl (.int .i64 (1)) (rn_move _ (Or.inl rfl) _ (he66.tmp 7 _ rfl)) (fun a67 he67 => ?_)
   clear he66
   refine wl_val he67 rfl rfl (.bool false) (rn_bin _ _ _ _ _ rfl .i64 _ _ (he67.tmp 63 _ rfl) (he67.tmp 64 _ rfl) (.bool ((1 != 1))) _ rfl (congrArg Value.bool (rfl))) (fun a68 he68 => ?_)
   clear he67
   refine wl_end ?_
   refine wp_condF (he := he68) rfl ?_
   refine wp_skip ?_
   refine then_normal ?_
   refine wp_seqR ?_
   refine wl_val he68 rfl rfl (.bool true) (rn_move _ (Or.inr rfl) _ rfl) (fun a69 he69 => ?_)
   clear he68
   refine wl_end ?_
   refine wp_ret ?_
   exact bodyPost_ret (results_tmp he69 _ Tryd.results4 _ rfl) he69.defers ⟨rfl, hm8.below⟩
  ·
   have hd1p := of_decide_eq_true hd1
   refine wl_val he3 rfl rfl (.bool true) (rn_bin _ _ _ _ _ rfl .i64 _ _ (he3.tmp 12 _ rfl) rfl (.bool (decide ((((s).size : Nat) : Int) > 1048576))) _ rfl (congrArg Value.bool (hd1))) (fun a4 he4 => ?_)
   clear he3
   refine wl_end ?_
   refine wp_condT (he := he4) rfl ?_
   refine wp_seqR ?_
   refine wl_val he4 rfl rfl (.bool true) (rn_move _ (Or.inr rfl) _ rfl) (fun a5 he5 => ?_)
   clear he4
   refine wl_end ?_
   refine wp_ret ?_
   refine ret_then ?_
   exact bodyPost_ret (results_tmp he5 _ Tryd.results4 _ rfl) he5.defers ⟨rfl, hm0.below⟩
theorem law_get_n (s : ByteArray) (w : World) (hT : TabsRG w) (h : getM s = none) :
    Calls Tryd.prog 4 #[.string (s)] w fun e w' => e = .returned (.bool true) ∧ Below w.heap.size w w' := by
  refine calls_begin Tryd.func4 rfl 66 rfl (Nat.le_of_ble_eq_true rfl) [(0, .string (s))] ⟨rfl, trivial⟩ (fun a0 he0 hm0 => ?_)
  refine wp_seqR ?_
  refine wl_val he0 rfl rfl (.bool false) (rn_move _ (Or.inr rfl) _ rfl) (fun a1 he1 => ?_)
  clear he0
  refine wl_end ?_
  refine wp_seq ?_
  refine wp_seqR ?_
  refine wl_val he1 rfl rfl (.string (s)) (rn_move _ (Or.inl rfl) _ (he1.tmp 0 _ rfl)) (fun a2 he2 => ?_)
  clear he1
  refine wl_val he2 rfl rfl (.int .i64 ((((s).size : Nat) : Int))) (rn_builtin _ _ _ rfl #[.string (s)] (map1 (he2.tmp 11 _ rfl)) (.int .i64 ((((s).size : Nat) : Int))) (by kernel_rfl)) (fun a3 he3 => ?_)
  clear he2
  cases hd1 : (decide ((((s).size : Nat) : Int) > 1048576))
  ·
   have hz : s.size ≤ 1048576 := by have := of_decide_eq_false hd1; omega
   have hd1p := of_decide_eq_false hd1
   refine wl_val he3 rfl rfl (.bool false) (rn_bin _ _ _ _ _ rfl .i64 _ _ (he3.tmp 12 _ rfl) rfl (.bool (decide ((((s).size : Nat) : Int) > 1048576))) _ rfl (congrArg Value.bool (hd1))) (fun a4 he4 => ?_)
   clear he3
   refine wl_end ?_
   refine wp_condF (he := he4) rfl ?_
   refine wp_skip ?_
   refine then_normal ?_
   refine wp_seqR ?_
   refine wl_val he4 rfl rfl (.string (s)) (rn_move _ (Or.inl rfl) _ (he4.tmp 0 _ rfl)) (fun a5 he5 => ?_)
   clear he4
   refine wl_call he5 hm0 rfl rfl _ #[.string (s)] (enter_call _ _ _ rfl 10 #[] #[] rfl #[.string (s)] (map1 (he5.tmp 15 _ rfl)) #[.string (s)] rfl (fun _ _ => by kernel_rfl)) (.tuple #[.slice (none) (0) (0), .bool false]) (c_spget_n s _ hz h) (fun a6 w1 he6 hm1 => ?_)
   clear he5 hm0
   refine wl_val he6 rfl rfl (.tuple #[.slice (none) (0) (0), .bool false]) (rn_move _ (Or.inl rfl) _ (he6.tmp 16 _ rfl)) (fun a7 he7 => ?_)
   clear he6
   refine wl_val he7 rfl rfl (.slice (none) (0) (0)) (rn_extract _ _ rfl _ (he7.tmp 14 _ rfl) _ rfl) (fun a8 he8 => ?_)
   clear he7
   refine wl_val he8 rfl rfl (.bool false) (rn_extract _ _ rfl _ (he8.tmp 14 _ rfl) _ rfl) (fun a9 he9 => ?_)
   clear he8
   refine wl_val he9 rfl rfl (.slice (none) (0) (0)) (rn_move _ (Or.inr rfl) _ (he9.tmp 17 _ rfl)) (fun a10 he10 => ?_)
   clear he9
   refine wl_val he10 rfl rfl (.bool false) (rn_move _ (Or.inr rfl) _ (he10.tmp 18 _ rfl)) (fun a11 he11 => ?_)
   clear he10
   refine wl_end ?_
   refine wp_seqR ?_
   refine wl_val he11 rfl rfl (.string (s)) (rn_move _ (Or.inl rfl) _ (he11.tmp 0 _ rfl)) (fun a12 he12 => ?_)
   clear he11
   refine wl_call he12 hm1 rfl rfl _ #[.string (s)] (enter_call _ _ _ rfl 11 #[] #[] rfl #[.string (s)] (map1 (he12.tmp 20 _ rfl)) #[.string (s)] rfl (fun _ _ => by kernel_rfl)) (.tuple #[.slice (none) (0) (0), .bool false]) (c_iget_n s _ hz (hT.kb hm1.keep rfl) h) (fun a13 w2 he13 hm2 => ?_)
   clear he12 hm1
   refine wl_val he13 rfl rfl (.tuple #[.slice (none) (0) (0), .bool false]) (rn_move _ (Or.inl rfl) _ (he13.tmp 21 _ rfl)) (fun a14 he14 => ?_)
   clear he13
   refine wl_val he14 rfl rfl (.slice (none) (0) (0)) (rn_extract _ _ rfl _ (he14.tmp 19 _ rfl) _ rfl) (fun a15 he15 => ?_)
   clear he14
   refine wl_val he15 rfl rfl (.bool false) (rn_extract _ _ rfl _ (he15.tmp 19 _ rfl) _ rfl) (fun a16 he16 => ?_)
   clear he15
   refine wl_val he16 rfl rfl (.slice (none) (0) (0)) (rn_move _ (Or.inr rfl) _ (he16.tmp 22 _ rfl)) (fun a17 he17 => ?_)
   clear he16
   refine wl_val he17 rfl rfl (.bool false) (rn_move _ (Or.inr rfl) _ (he17.tmp 23 _ rfl)) (fun a18 he18 => ?_)
   clear he17
   refine wl_end ?_
   refine wp_seq ?_
   refine wp_seqR ?_
   refine wl_val he18 rfl rfl (.slice (none) (0) (0)) (rn_move _ (Or.inl rfl) _ (he18.tmp 5 _ rfl)) (fun a19 he19 => ?_)
   clear he18
   refine wl_val he19 rfl rfl (.slice (none) (0) (0)) (rn_move _ (Or.inl rfl) _ (he19.tmp 3 _ rfl)) (fun a20 he20 => ?_)
   clear he19
   refine wl_call he20 hm2 rfl rfl _ #[.slice (none) (0) (0), .slice (none) (0) (0)] (enter_call _ _ _ rfl 9 #[] #[] rfl #[.slice (none) (0) (0), .slice (none) (0) (0)] (map2 (he20.tmp 24 _ rfl) (he20.tmp 25 _ rfl)) #[.slice (none) (0) (0), .slice (none) (0) (0)] rfl (fun _ _ => by kernel_rfl)) (.bool true) (c_eqRuleS00 _ _ _ _ _) (fun a21 w3 he21 hm3 => ?_)
   clear he20 hm2
   refine wl_val he21 rfl rfl (.bool false) (rn_un _ _ _ rfl _ (.bool (!true)) _ (he21.tmp 26 _ rfl) rfl rfl) (fun a22 he22 => ?_)
   clear he21
   refine wl_val he22 rfl rfl (.bool false) (rn_move _ (Or.inl rfl) _ (he22.tmp 27 _ rfl)) (fun a23 he23 => ?_)
   clear he22
   refine wl_val he23 rfl (wanted_slot he23 4 false rfl 28 rfl false rfl true rfl) (.bool false) (rn_move _ (Or.inl rfl) _ (he23.tmp 6 _ rfl)) (fun a24 he24 => ?_)
   clear he23
   refine wl_val he24 rfl (wanted_slot he24 4 false rfl 28 rfl false rfl true rfl) (.bool false) (rn_move _ (Or.inl rfl) _ (he24.tmp 4 _ rfl)) (fun a25 he25 => ?_)
   clear he24
   refine wl_val he25 rfl (wanted_slot he25 4 false rfl 28 rfl false rfl true rfl) (.bool false) (rn_binG _ _ _ _ _ rfl _ _ (he25.tmp 29 _ rfl) (he25.tmp 30 _ rfl) _ rfl (by kernel_rfl)) (fun a26 he26 => ?_)
   clear he25
   refine wl_val he26 rfl rfl (.bool false) (rn_pickF _ _ _ rfl (he26.tmp 28 _ rfl) _ (he26.tmp 31 _ rfl)) (fun a27 he27 => ?_)
   clear he26
   refine wl_end ?_
   refine wp_condF (he := he27) rfl ?_
   refine wp_skip ?_
   refine then_normal ?_
   refine wp_seqR ?_
   refine wl_val he27 rfl rfl (.int .i64 (1)) (rn_move _ (Or.inr rfl) _ rfl) (fun a28 he28 => ?_)
   clear he27
   refine wl_end ?_
   refine wp_seqR ?_
   refine wl_val he28 rfl rfl (.slice (none) (0) (0)) (rn_move _ (Or.inl rfl) _ (he28.tmp 5 _ rfl)) (fun a29 he29 => ?_)
   clear he28
   refine wl_val he29 rfl rfl (.int .i64 (1)) (rn_move _ (Or.inl rfl) _ (he29.tmp 7 _ rfl)) (fun a30 he30 => ?_)
   clear he29
   refine wl_call he30 hm3 rfl rfl _ #[.slice (none) (0) (0), .int .i64 (1)] (enter_call _ _ _ rfl 12 #[] #[] rfl #[.slice (none) (0) (0), .int .i64 (1)] (map2 (he30.tmp 33 _ rfl) (he30.tmp 34 _ rfl)) #[.slice (none) (0) (0), .int .i64 (1)] rfl (fun _ _ => by kernel_rfl)) (.int .i64 (1)) (c_markRu0 _ _ 1 _) (fun a31 w4 he31 hm4 => ?_)
   clear he30 hm3
   refine wl_val he31 rfl rfl (.int .i64 (1)) (rn_move _ (Or.inr rfl) _ (he31.tmp 35 _ rfl)) (fun a32 he32 => ?_)
   clear he31
   refine wl_end ?_
   refine wp_seqR ?_
   refine wl_val he32 rfl rfl (.int .i64 (1)) (rn_move _ (Or.inr rfl) _ rfl) (fun a33 he33 => ?_)
   clear he32
   refine wl_end ?_
   refine wp_seqR ?_
   refine wl_val he33 rfl rfl (.slice (none) (0) (0)) (rn_move _ (Or.inl rfl) _ (he33.tmp 5 _ rfl)) (fun a34 he34 => ?_)
   clear he33
   refine wl_val he34 rfl rfl (.int .i64 (1)) (rn_move _ (Or.inl rfl) _ (he34.tmp 8 _ rfl)) (fun a35 he35 => ?_)
   clear he34
   refine wl_call he35 hm4 rfl rfl _ #[.slice (none) (0) (0), .int .i64 (1)] (enter_call _ _ _ rfl 13 #[] #[] rfl #[.slice (none) (0) (0), .int .i64 (1)] (map2 (he35.tmp 36 _ rfl) (he35.tmp 37 _ rfl)) #[.slice (none) (0) (0), .int .i64 (1)] rfl (fun _ _ => by kernel_rfl)) (.int .i64 (1)) (c_heldRu0 _ _ 1 _) (fun a36 w5 he36 hm5 => ?_)
   clear he35 hm4
   refine wl_val he36 rfl rfl (.int .i64 (1)) (rn_move _ (Or.inr rfl) _ (he36.tmp 38 _ rfl)) (fun a37 he37 => ?_)
   clear he36
   refine wl_end ?_
   refine wp_seq ?_
   refine wp_seqR ?_
   refine wl_val he37 rfl rfl (.int .i64 (1)) (rn_move _ (Or.inl rfl) _ (he37.tmp 8 _ rfl)) (fun a38 he38 => ?_)
   clear he37
   refine wl_val he38 rfl rfl (.bool false) (rn_bin _ _ _ _ _ rfl .i64 _ _ (he38.tmp 39 _ rfl) rfl (.bool (decide (1 < 0))) _ rfl (congrArg Value.bool (rfl))) (fun a39 he39 => ?_)
   clear he38
   refine wl_end ?_
   refine wp_condF (he := he39) rfl ?_
   refine wp_skip ?_
   refine then_normal ?_
   refine wp_seq ?_
   refine wp_seqR ?_
   refine wl_val he39 rfl rfl (.int .i64 (1)) (rn_move _ (Or.inl rfl) _ (he39.tmp 8 _ rfl)) (fun a40 he40 => ?_)
   clear he39
   refine wl_val he40 rfl rfl (.int .i64 (1)) (rn_move _ (Or.inl rfl) _ (he40.tmp 7 _ rfl)) (fun a41 he41 => ?_)
   clear he40
   refine wl_val he41 rfl rfl (.bool false) (rn_bin _ _ _ _ _ rfl .i64 _ _ (he41.tmp 41 _ rfl) (he41.tmp 42 _ rfl) (.bool ((1 != 1))) _ rfl (congrArg Value.bool (rfl))) (fun a42 he42 => ?_)
   clear he41
   refine wl_end ?_
   refine wp_condF (he := he42) rfl ?_
   refine wp_skip ?_
   refine then_normal ?_
   refine wp_seqR ?_
   refine wl_val he42 rfl rfl (.string (s)) (rn_move _ (Or.inl rfl) _ (he42.tmp 0 _ rfl)) (fun a43 he43 => ?_)
   clear he42
   refine wl_call he43 hm5 rfl rfl _ #[.string (s)] (enter_call _ _ _ rfl 11 #[] #[] rfl #[.string (s)] (map1 (he43.tmp 45 _ rfl)) #[.string (s)] rfl (fun _ _ => by kernel_rfl)) (.tuple #[.slice (none) (0) (0), .bool false]) (c_iget_n s _ hz (hT.kb hm5.keep rfl) h) (fun a44 w6 he44 hm6 => ?_)
   clear he43 hm5
   refine wl_val he44 rfl rfl (.tuple #[.slice (none) (0) (0), .bool false]) (rn_move _ (Or.inl rfl) _ (he44.tmp 46 _ rfl)) (fun a45 he45 => ?_)
   clear he44
   refine wl_val he45 rfl rfl (.slice (none) (0) (0)) (rn_extract _ _ rfl _ (he45.tmp 44 _ rfl) _ rfl) (fun a46 he46 => ?_)
   clear he45
   refine wl_val he46 rfl rfl (.bool false) (rn_extract _ _ rfl _ (he46.tmp 44 _ rfl) _ rfl) (fun a47 he47 => ?_)
   clear he46
   refine wl_val he47 rfl rfl (.slice (none) (0) (0)) (rn_move _ (Or.inr rfl) _ (he47.tmp 47 _ rfl)) (fun a48 he48 => ?_)
   clear he47
   refine wl_val he48 rfl rfl (.bool false) (rn_move _ (Or.inr rfl) _ (he48.tmp 48 _ rfl)) (fun a49 he49 => ?_)
   clear he48
   refine wl_end ?_
   refine wp_seq ?_
   refine wp_seqR ?_
   refine wl_val he49 rfl rfl (.slice (none) (0) (0)) (rn_move _ (Or.inl rfl) _ (he49.tmp 9 _ rfl)) (fun a50 he50 => ?_)
   clear he49
   refine wl_val he50 rfl rfl (.slice (none) (0) (0)) (rn_move _ (Or.inl rfl) _ (he50.tmp 3 _ rfl)) (fun a51 he51 => ?_)
   clear he50
   refine wl_call he51 hm6 rfl rfl _ #[.slice (none) (0) (0), .slice (none) (0) (0)] (enter_call _ _ _ rfl 9 #[] #[] rfl #[.slice (none) (0) (0), .slice (none) (0) (0)] (map2 (he51.tmp 49 _ rfl) (he51.tmp 50 _ rfl)) #[.slice (none) (0) (0), .slice (none) (0) (0)] rfl (fun _ _ => by kernel_rfl)) (.bool true) (c_eqRuleS00 _ _ _ _ _) (fun a52 w7 he52 hm7 => ?_)
   clear he51 hm6
   refine wl_val he52 rfl rfl (.bool false) (rn_un _ _ _ rfl _ (.bool (!true)) _ (he52.tmp 51 _ rfl) rfl rfl) (fun a53 he53 => ?_)
   clear he52
   refine wl_val he53 rfl rfl (.bool false) (rn_move _ (Or.inl rfl) _ (he53.tmp 52 _ rfl)) (fun a54 he54 => ?_)
   clear he53
   refine wl_val he54 rfl (wanted_slot he54 4 false rfl 53 rfl false rfl true rfl) (.bool false) (rn_move _ (Or.inl rfl) _ (he54.tmp 10 _ rfl)) (fun a55 he55 => ?_)
   clear he54
   refine wl_val he55 rfl (wanted_slot he55 4 false rfl 53 rfl false rfl true rfl) (.bool false) (rn_move _ (Or.inl rfl) _ (he55.tmp 4 _ rfl)) (fun a56 he56 => ?_)
   clear he55
   refine wl_val he56 rfl (wanted_slot he56 4 false rfl 53 rfl false rfl true rfl) (.bool false) (rn_binG _ _ _ _ _ rfl _ _ (he56.tmp 54 _ rfl) (he56.tmp 55 _ rfl) _ rfl (by kernel_rfl)) (fun a57 he57 => ?_)
   clear he56
   refine wl_val he57 rfl rfl (.bool false) (rn_pickF _ _ _ rfl (he57.tmp 53 _ rfl) _ (he57.tmp 56 _ rfl)) (fun a58 he58 => ?_)
   clear he57
   refine wl_end ?_
   refine wp_condF (he := he58) rfl ?_
   refine wp_skip ?_
   refine then_normal ?_
   refine wp_seqR ?_
   refine wl_val he58 rfl rfl (.int .i64 (1)) (rn_move _ (Or.inr rfl) _ rfl) (fun a59 he59 => ?_)
   clear he58
   refine wl_end ?_
   refine wp_seqR ?_
   refine wl_val he59 rfl rfl (.slice (none) (0) (0)) (rn_move _ (Or.inl rfl) _ (he59.tmp 5 _ rfl)) (fun a60 he60 => ?_)
   clear he59
   refine wl_val he60 rfl rfl (.int .i64 (1)) (rn_move _ (Or.inl rfl) _ (he60.tmp 8 _ rfl)) (fun a61 he61 => ?_)
   clear he60
   refine wl_call he61 hm7 rfl rfl _ #[.slice (none) (0) (0), .int .i64 (1)] (enter_call _ _ _ rfl 13 #[] #[] rfl #[.slice (none) (0) (0), .int .i64 (1)] (map2 (he61.tmp 58 _ rfl) (he61.tmp 59 _ rfl)) #[.slice (none) (0) (0), .int .i64 (1)] rfl (fun _ _ => by kernel_rfl)) (.int .i64 (1)) (c_heldRu0 _ _ 1 _) (fun a62 w8 he62 hm8 => ?_)
   clear he61 hm7
   refine wl_val he62 rfl rfl (.int .i64 (1)) (rn_move _ (Or.inr rfl) _ (he62.tmp 60 _ rfl)) (fun a63 he63 => ?_)
   clear he62
   refine wl_end ?_
   refine wp_seq ?_
   refine wp_seqR ?_
   refine wl_val he63 rfl rfl (.int .i64 (1)) (rn_move _ (Or.inl rfl) _ (he63.tmp 8 _ rfl)) (fun a64 he64 => ?_)
   clear he63
   refine wl_val he64 rfl rfl (.bool false) (rn_bin _ _ _ _ _ rfl .i64 _ _ (he64.tmp 61 _ rfl) rfl (.bool (decide (1 < 0))) _ rfl (congrArg Value.bool (rfl))) (fun a65 he65 => ?_)
   clear he64
   refine wl_end ?_
   refine wp_condF (he := he65) rfl ?_
   refine wp_skip ?_
   refine then_normal ?_
   refine wp_seq ?_
   refine wp_seqR ?_
   refine wl_val he65 rfl rfl (.int .i64 (1)) (rn_move _ (Or.inl rfl) _ (he65.tmp 8 _ rfl)) (fun a66 he66 => ?_)
   clear he65
   refine wl_val he66 rfl rfl (.int .i64 (1)) (rn_move _ (Or.inl rfl) _ (he66.tmp 7 _ rfl)) (fun a67 he67 => ?_)
   clear he66
   refine wl_val he67 rfl rfl (.bool false) (rn_bin _ _ _ _ _ rfl .i64 _ _ (he67.tmp 63 _ rfl) (he67.tmp 64 _ rfl) (.bool ((1 != 1))) _ rfl (congrArg Value.bool (rfl))) (fun a68 he68 => ?_)
   clear he67
   refine wl_end ?_
   refine wp_condF (he := he68) rfl ?_
   refine wp_skip ?_
   refine then_normal ?_
   refine wp_seqR ?_
   refine wl_val he68 rfl rfl (.bool true) (rn_move _ (Or.inr rfl) _ rfl) (fun a69 he69 => ?_)
   clear he68
   refine wl_end ?_
   refine wp_ret ?_
   exact bodyPost_ret (results_tmp he69 _ Tryd.results4 _ rfl) he69.defers ⟨rfl, hm8.below⟩
  ·
   have hd1p := of_decide_eq_true hd1
   refine wl_val he3 rfl rfl (.bool true) (rn_bin _ _ _ _ _ rfl .i64 _ _ (he3.tmp 12 _ rfl) rfl (.bool (decide ((((s).size : Nat) : Int) > 1048576))) _ rfl (congrArg Value.bool (hd1))) (fun a4 he4 => ?_)
   clear he3
   refine wl_end ?_
   refine wp_condT (he := he4) rfl ?_
   refine wp_seqR ?_
   refine wl_val he4 rfl rfl (.bool true) (rn_move _ (Or.inr rfl) _ rfl) (fun a5 he5 => ?_)
   clear he4
   refine wl_end ?_
   refine wp_ret ?_
   refine ret_then ?_
   exact bodyPost_ret (results_tmp he5 _ Tryd.results4 _ rfl) he5.defers ⟨rfl, hm0.below⟩
theorem law_get (s : ByteArray) (w : World) (hT : TabsRG w) : Calls Tryd.prog 4 #[.string s] w fun e w' => e = .returned (.bool true) ∧ Below w.heap.size w w' := by
  cases h : getM s with
  | none => exact law_get_n s w hT h
  | some l =>
    by_cases hne : l = []
    · subst hne; exact law_get_e s w hT h
    · exact law_get_y s l w hT h hne
end Go.Proofs.YtcopcajleonndaaDoor
