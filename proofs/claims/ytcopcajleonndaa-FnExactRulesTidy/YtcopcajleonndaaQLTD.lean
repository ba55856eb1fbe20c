/- The law of rules tidied: its walk. -/
import Derived.Test.YtcopcajleonndaaQTDY
import Derived.Test.YtcopcajleonndaaQTDS
import Derived.Test.YtcopcajleonndaaQLPG
namespace Go.Proofs.Ytcopcajleonndaa
open Go.RowKit
set_option linter.unusedVariables false
set_option linter.unusedSimpArgs false
def ru0 : Ru := ⟨0, 0, 0, 0, 0⟩
theorem tidR_le (f : Nat → Ru) : ∀ (k i : Nat) (S : List (Nat × Nat)), (tidR f k i S).length ≤ k
  | 0, _, _ => Nat.le_refl _
  | k + 1, i, S => by
    rw [tidR]
    split
    · exact Nat.le_succ_of_le (tidR_le f k _ _)
    · split
      · simp
      · have := tidR_le f k (i + 1) (S.set (f i).at_.toNat ‹Nat × Nat›)
        simp only [List.length_cons]; omega
theorem tidM_le (f : Nat → Ru) (n : Nat) : (tidM f n).length ≤ n := tidR_le f n 0 _
section
variable (f : Nat → Ru) (b p n c : Nat) (w : World) (hR : RowAt w b p n 5 fun i => (f i).arr) (hn : n ≤ 1048576) (hok : ruOks f n = true)
include hR hn hok
theorem c_RTidy_nil (h : tidM f n = []) : Calls Try.prog 21 #[.slice (some ⟨b, p, none⟩) n c] w fun e w' => e = .returned (.slice none 0 0) ∧ Below w.heap.size w w' := by
  refine (c_RTidy0 f b p n c w hR hn hok).mono ?_
  rintro e w' (⟨_, h1⟩ | ⟨h1, _⟩)
  · exact h1
  · exact absurd h h1
theorem c_RTidy (h : tidM f n ≠ []) : Calls Try.prog 21 #[.slice (some ⟨b, p, none⟩) n c] w fun e w' => NewRu w (tidM f n) e w' := by
  refine (c_RTidy0 f b p n c w hR hn hok).mono ?_
  rintro e w' (⟨h1, _⟩ | ⟨_, h1⟩)
  · exact absurd h1 h
  · exact h1
theorem c_spRTidy_nil (h : tidM f n = []) : Calls Try.prog 20 #[.slice (some ⟨b, p, none⟩) n c] w fun e w' => NewRu w [] e w' := by
  refine (c_spRTidy f b p n c w hR hn hok).mono ?_
  intro e w' h1
  rw [h] at h1; exact h1
end
theorem c_RTidy_no (f : Nat → Ru) (b p n c : Nat) (w : World) (hR : RowAt w b p n 5 fun i => (f i).arr) (hn : n ≤ 1048576) (hok : ruOks f n = false) :
    Calls Try.prog 21 #[.slice (some ⟨b, p, none⟩) (n) (c)] w fun e w' => e = .returned (.slice none 0 0) ∧ Below w.heap.size w w' := by
  refine calls_begin Try.func21 rfl 72 rfl (Nat.le_of_ble_eq_true rfl) [(0, .slice (some ⟨b, p, none⟩) (n) (c))] ⟨rfl, trivial⟩ (fun a0 he0 hm0 => ?_)
  refine wp_seqR ?_
  refine wl_val he0 rfl rfl (.slice none 0 0) (rn_move _ (Or.inr rfl) _ rfl) (fun a1 he1 => ?_)
  clear he0
  refine wl_end ?_
  refine wp_seq ?_
  refine wp_seqR ?_
  refine wl_val he1 rfl rfl (.slice (some ⟨b, p, none⟩) (n) (c)) (rn_move _ (Or.inl rfl) _ (he1.tmp 0 _ rfl)) (fun a2 he2 => ?_)
  clear he1
  refine wl_call he2 hm0 rfl rfl _ #[.slice (some ⟨b, p, none⟩) (n) (c)] (enter_call _ _ _ rfl 10 #[] #[] rfl #[.slice (some ⟨b, p, none⟩) (n) (c)] (map1 (he2.tmp 15 _ rfl)) #[.slice (some ⟨b, p, none⟩) (n) (c)] rfl (fun _ _ => by kernel_rfl)) (.bool false) (callsV (congrArg Value.bool (hok)) (c_Oks f b p n c _ (hR.kb hm0.keep (by simp)) hn)) (fun a3 w1 he3 hm1 => ?_)
  clear he2 hm0
  refine wl_val he3 rfl rfl (.bool true) (rn_un _ _ _ rfl _ (.bool (!false)) _ (he3.tmp 16 _ rfl) rfl rfl) (fun a4 he4 => ?_)
  clear he3
  refine wl_end ?_
  refine wp_condT (he := he4) rfl ?_
  refine wp_seqR ?_
  refine wl_val he4 rfl rfl (.slice none 0 0) (rn_move _ (Or.inr rfl) _ rfl) (fun a5 he5 => ?_)
  clear he4
  refine wl_end ?_
  refine wp_ret ?_
  refine ret_then ?_
  exact bodyPost_ret (results_tmp he5 _ Try.results21 _ rfl) he5.defers ⟨rfl, hm1.below⟩
theorem c_spRTidy_no (f : Nat → Ru) (b p n c : Nat) (w : World) (hR : RowAt w b p n 5 fun i => (f i).arr) (hn : n ≤ 1048576) (hok : ruOks f n = false) :
    Calls Try.prog 20 #[.slice (some ⟨b, p, none⟩) (n) (c)] w fun e w' => NewRu w [] e w' := by
  refine calls_begin Try.func20 rfl 78 rfl (Nat.le_of_ble_eq_true rfl) [(0, .slice (some ⟨b, p, none⟩) (n) (c))] ⟨rfl, trivial⟩ (fun a0 he0 hm0 => ?_)
  refine wp_seqR ?_
  refine wl_val he0 rfl rfl (.slice none 0 0) (rn_move _ (Or.inr rfl) _ rfl) (fun a1 he1 => ?_)
  clear he0
  refine wl_end ?_
  refine wp_seqR ?_
  refine wl_buildSlice he1 hm0 1 rfl rfl rfl _ _ _ rfl #[] (pmap0 _) 39 ((cellsOf Ru.arr []).toArray) (by kernel_rfl) (fun a2 w1 b1 he2 hm1 => ?_)
  clear he1 hm0
  have rw1_0 : Rw ((cellsOf Ru.arr []).toArray) 0 0 5 (cellsOf Ru.arr ([])) := Rw.lits Ru.sz [] (by simp [maxLen])
  refine wl_val he2 rfl rfl (.slice (some ⟨b1, 0, none⟩) (0) (0)) (rn_move _ (Or.inr rfl) _ (he2.tmp 12 _ rfl)) (fun a3 he3 => ?_)
  clear he2
  refine wl_end ?_
  refine wp_seq ?_
  refine wp_seqR ?_
  refine wl_val he3 rfl rfl (.slice (some ⟨b, p, none⟩) (n) (c)) (rn_move _ (Or.inl rfl) _ (he3.tmp 0 _ rfl)) (fun a4 he4 => ?_)
  clear he3
  refine wl_call he4 hm1 rfl rfl _ #[.slice (some ⟨b, p, none⟩) (n) (c)] (enter_call _ _ _ rfl 23 #[] #[] rfl #[.slice (some ⟨b, p, none⟩) (n) (c)] (map1 (he4.tmp 13 _ rfl)) #[.slice (some ⟨b, p, none⟩) (n) (c)] rfl (fun _ _ => by kernel_rfl)) (.bool false) (callsV (congrArg Value.bool (hok)) (c_oks f b p n c _ (hR.kb hm1.keep (by simp)) hn)) (fun a5 w2 he5 hm2 => ?_)
  clear he4 hm1
  refine wl_val he5 rfl rfl (.bool true) (rn_un _ _ _ rfl _ (.bool (!false)) _ (he5.tmp 14 _ rfl) rfl rfl) (fun a6 he6 => ?_)
  clear he5
  refine wl_end ?_
  refine wp_condT (he := he6) rfl ?_
  refine wp_seqR ?_
  refine wl_val he6 rfl rfl (.slice (some ⟨b1, 0, none⟩) (0) (0)) (rn_move _ (Or.inl rfl) _ (he6.tmp 3 _ rfl)) (fun a7 he7 => ?_)
  clear he6
  refine wl_val he7 rfl rfl (.slice (some ⟨b1, 0, none⟩) (0) (0)) (rn_move _ (Or.inr rfl) _ (he7.tmp 16 _ rfl)) (fun a8 he8 => ?_)
  clear he7
  refine wl_end ?_
  refine wp_ret ?_
  refine ret_then ?_
  exact bodyPost_ret (results_tmp he8 _ Try.results20 _ rfl) he8.defers ⟨(0, (cellsOf Ru.arr []).toArray), _, rfl, hm2.bx 1 _ _ _ _ rfl, rw1_0, by have := hm2.own 1 _ rfl rfl; simpa using this, hm2.below⟩
theorem c_eqRuleS00 (a aq : Option Addr) (c cq : Nat) (w : World)  :
    Calls Try.prog 11 #[.slice (a) (0) (c), .slice (aq) (0) (cq)] w fun e w' => e = .returned (.bool true) ∧ Below w.heap.size w w' := by
  refine calls_begin Try.func11 rfl 27 rfl (Nat.le_of_ble_eq_true rfl) [(0, .slice (a) (0) (c)), (1, .slice (aq) (0) (cq))] ⟨rfl, rfl, trivial⟩ (fun a0 he0 hm0 => ?_)
  refine wp_seqR ?_
  refine wl_val he0 rfl rfl (.bool false) (rn_move _ (Or.inr rfl) _ rfl) (fun a1 he1 => ?_)
  clear he0
  refine wl_end ?_
  refine wp_seq ?_
  refine wp_seqR ?_
  refine wl_val he1 rfl rfl (.slice (a) (0) (c)) (rn_move _ (Or.inl rfl) _ (he1.tmp 0 _ rfl)) (fun a2 he2 => ?_)
  clear he1
  refine wl_val he2 rfl rfl (.int .i64 (0)) (rn_builtin _ _ _ rfl #[.slice (a) (0) (c)] (map1 (he2.tmp 6 _ rfl)) (.int .i64 (0)) (by kernel_rfl)) (fun a3 he3 => ?_)
  clear he2
  refine wl_val he3 rfl rfl (.slice (aq) (0) (cq)) (rn_move _ (Or.inl rfl) _ (he3.tmp 1 _ rfl)) (fun a4 he4 => ?_)
  clear he3
  refine wl_val he4 rfl rfl (.int .i64 (0)) (rn_builtin _ _ _ rfl #[.slice (aq) (0) (cq)] (map1 (he4.tmp 8 _ rfl)) (.int .i64 (0)) (by kernel_rfl)) (fun a5 he5 => ?_)
  clear he4
  refine wl_val he5 rfl rfl (.bool false) (rn_bin _ _ _ _ _ rfl .i64 _ _ (he5.tmp 7 _ rfl) (he5.tmp 9 _ rfl) (.bool ((0 != 0))) _ rfl (congrArg Value.bool (rfl))) (fun a6 he6 => ?_)
  clear he5
  refine wl_end ?_
  refine wp_condF (he := he6) rfl ?_
  refine wp_skip ?_
  refine then_normal ?_
  refine wp_seq ?_
  refine wp_seqR ?_
  refine wl_val he6 rfl rfl (.int .i64 (0)) (rn_move _ (Or.inr rfl) _ rfl) (fun a7 he7 => ?_)
  clear he6
  refine wl_end ?_
  refine wp_block ?_
  refine wp_loop_rounds 1 ?_
  rw [rounds_succ]
  refine wp_seq ?_
  refine wp_seqR ?_
  refine wl_val he7 rfl rfl (.int .i64 (0)) (rn_move _ (Or.inl rfl) _ (he7.tmp 5 _ rfl)) (fun a8 he8 => ?_)
  clear he7
  refine wl_val he8 rfl rfl (.slice (a) (0) (c)) (rn_move _ (Or.inl rfl) _ (he8.tmp 0 _ rfl)) (fun a9 he9 => ?_)
  clear he8
  refine wl_val he9 rfl rfl (.int .i64 (0)) (rn_builtin _ _ _ rfl #[.slice (a) (0) (c)] (map1 (he9.tmp 12 _ rfl)) (.int .i64 (0)) (by kernel_rfl)) (fun a10 he10 => ?_)
  clear he9
  refine wl_val he10 rfl rfl (.bool false) (rn_bin _ _ _ _ _ rfl .i64 _ _ (he10.tmp 11 _ rfl) (he10.tmp 13 _ rfl) (.bool (decide (0 < 0))) _ rfl (congrArg Value.bool (rfl))) (fun a11 he11 => ?_)
  clear he10
  refine wl_end ?_
  refine wp_condF (he := he11) rfl ?_
  refine wp_exit ?_
  refine exit_then ?_
  refine exit_then ?_
  refine exit_here ?_
  refine then_normal ?_
  refine wp_seqR ?_
  refine wl_val he11 rfl rfl (.bool true) (rn_move _ (Or.inr rfl) _ rfl) (fun a12 he12 => ?_)
  clear he11
  refine wl_end ?_
  refine wp_ret ?_
  exact bodyPost_ret (results_tmp he12 _ Try.results11 _ rfl) he12.defers ⟨rfl, hm0.below⟩
theorem c_markRu0 (a : Option Addr) (c k : Nat) (w : World)  :
    Calls Try.prog 17 #[.slice (a) (0) (c), .int .i64 (((k : Nat) : Int))] w fun e w' => e = .returned (.int .i64 ((k : Nat) : Int)) ∧ Below w.heap.size w w' := by
  refine calls_begin Try.func17 rfl 48 rfl (Nat.le_of_ble_eq_true rfl) [(0, .slice (a) (0) (c)), (1, .int .i64 (((k : Nat) : Int)))] ⟨rfl, rfl, trivial⟩ (fun a0 he0 hm0 => ?_)
  refine wp_seqR ?_
  refine wl_val he0 rfl rfl (.int .i64 (0)) (rn_move _ (Or.inr rfl) _ rfl) (fun a1 he1 => ?_)
  clear he0
  refine wl_end ?_
  refine wp_seq ?_
  refine wp_seqR ?_
  refine wl_val he1 rfl rfl (.int .i64 (0)) (rn_move _ (Or.inr rfl) _ rfl) (fun a2 he2 => ?_)
  clear he1
  refine wl_end ?_
  refine wp_block ?_
  refine wp_loop_rounds 1 ?_
  rw [rounds_succ]
  refine wp_seq ?_
  refine wp_seqR ?_
  refine wl_val he2 rfl rfl (.int .i64 (0)) (rn_move _ (Or.inl rfl) _ (he2.tmp 5 _ rfl)) (fun a3 he3 => ?_)
  clear he2
  refine wl_val he3 rfl rfl (.slice (a) (0) (c)) (rn_move _ (Or.inl rfl) _ (he3.tmp 0 _ rfl)) (fun a4 he4 => ?_)
  clear he3
  refine wl_val he4 rfl rfl (.int .i64 (0)) (rn_builtin _ _ _ rfl #[.slice (a) (0) (c)] (map1 (he4.tmp 7 _ rfl)) (.int .i64 (0)) (by kernel_rfl)) (fun a5 he5 => ?_)
  clear he4
  refine wl_val he5 rfl rfl (.bool false) (rn_bin _ _ _ _ _ rfl .i64 _ _ (he5.tmp 6 _ rfl) (he5.tmp 8 _ rfl) (.bool (decide (0 < 0))) _ rfl (congrArg Value.bool (rfl))) (fun a6 he6 => ?_)
  clear he5
  refine wl_end ?_
  refine wp_condF (he := he6) rfl ?_
  refine wp_exit ?_
  refine exit_then ?_
  refine exit_then ?_
  refine exit_here ?_
  refine then_normal ?_
  refine wp_seqR ?_
  refine wl_val he6 rfl rfl (.int .i64 (((k : Nat) : Int))) (rn_move _ (Or.inl rfl) _ (he6.tmp 1 _ rfl)) (fun a7 he7 => ?_)
  clear he6
  refine wl_val he7 rfl rfl (.int .i64 (((k : Nat) : Int))) (rn_move _ (Or.inr rfl) _ (he7.tmp 47 _ rfl)) (fun a8 he8 => ?_)
  clear he7
  refine wl_end ?_
  refine wp_ret ?_
  exact bodyPost_ret (results_tmp he8 _ Try.results17 _ rfl) he8.defers ⟨rfl, hm0.below⟩
theorem c_heldRu0 (a : Option Addr) (c k : Nat) (w : World)  :
    Calls Try.prog 22 #[.slice (a) (0) (c), .int .i64 (((k : Nat) : Int))] w fun e w' => e = .returned (.int .i64 ((k : Nat) : Int)) ∧ Below w.heap.size w w' := by
  refine calls_begin Try.func22 rfl 58 rfl (Nat.le_of_ble_eq_true rfl) [(0, .slice (a) (0) (c)), (1, .int .i64 (((k : Nat) : Int)))] ⟨rfl, rfl, trivial⟩ (fun a0 he0 hm0 => ?_)
  refine wp_seqR ?_
  refine wl_val he0 rfl rfl (.int .i64 (0)) (rn_move _ (Or.inr rfl) _ rfl) (fun a1 he1 => ?_)
  clear he0
  refine wl_end ?_
  refine wp_seq ?_
  refine wp_seqR ?_
  refine wl_val he1 rfl rfl (.int .i64 (0)) (rn_move _ (Or.inr rfl) _ rfl) (fun a2 he2 => ?_)
  clear he1
  refine wl_end ?_
  refine wp_block ?_
  refine wp_loop_rounds 1 ?_
  rw [rounds_succ]
  refine wp_seq ?_
  refine wp_seqR ?_
  refine wl_val he2 rfl rfl (.int .i64 (0)) (rn_move _ (Or.inl rfl) _ (he2.tmp 5 _ rfl)) (fun a3 he3 => ?_)
  clear he2
  refine wl_val he3 rfl rfl (.slice (a) (0) (c)) (rn_move _ (Or.inl rfl) _ (he3.tmp 0 _ rfl)) (fun a4 he4 => ?_)
  clear he3
  refine wl_val he4 rfl rfl (.int .i64 (0)) (rn_builtin _ _ _ rfl #[.slice (a) (0) (c)] (map1 (he4.tmp 7 _ rfl)) (.int .i64 (0)) (by kernel_rfl)) (fun a5 he5 => ?_)
  clear he4
  refine wl_val he5 rfl rfl (.bool false) (rn_bin _ _ _ _ _ rfl .i64 _ _ (he5.tmp 6 _ rfl) (he5.tmp 8 _ rfl) (.bool (decide (0 < 0))) _ rfl (congrArg Value.bool (rfl))) (fun a6 he6 => ?_)
  clear he5
  refine wl_end ?_
  refine wp_condF (he := he6) rfl ?_
  refine wp_exit ?_
  refine exit_then ?_
  refine exit_then ?_
  refine exit_here ?_
  refine then_normal ?_
  refine wp_seqR ?_
  refine wl_val he6 rfl rfl (.int .i64 (((k : Nat) : Int))) (rn_move _ (Or.inl rfl) _ (he6.tmp 1 _ rfl)) (fun a7 he7 => ?_)
  clear he6
  refine wl_val he7 rfl rfl (.int .i64 (((k : Nat) : Int))) (rn_move _ (Or.inr rfl) _ (he7.tmp 57 _ rfl)) (fun a8 he8 => ?_)
  clear he7
  refine wl_end ?_
  refine wp_ret ?_
  exact bodyPost_ret (results_tmp he8 _ Try.results22 _ rfl) he8.defers ⟨rfl, hm0.below⟩
theorem law_tidy_y (f : Nat → Ru) (b p n c : Nat) (w : World) (hR : RowAt w b p n 5 fun i => (f i).arr) (hn : n ≤ 9223372036854775807) (hok : ruOks f n = true) (hne : tidM f n ≠ []) :
    Calls Try.prog 6 #[.slice (some ⟨b, p, none⟩) (n) (c)] w fun e w' => e = .returned (.bool true) ∧ Below w.heap.size w w' := by
  refine calls_begin Try.func6 rfl 69 rfl (Nat.le_of_ble_eq_true rfl) [(0, .slice (some ⟨b, p, none⟩) (n) (c))] ⟨rfl, trivial⟩ (fun a0 he0 hm0 => ?_)
  have hk5 : decide (((1 + 5 * n : Nat) : Int) < 0) = false := decide_eq_false (by omega)
  have hn6 := (ruOks_all hok).2
  have htl := tidM_le f n
  have hk6 : decide (((1 + 5 * ((tidM f n).length) : Nat) : Int) < 0) = false := decide_eq_false (by omega)
  have hk7 : (((1 + 5 * ((tidM f n).length) : Nat) : Int) != ((1 + 5 * ((tidM f n).length) : Nat) : Int)) = false := by simp
  refine wp_seqR ?_
  refine wl_val he0 rfl rfl (.bool false) (rn_move _ (Or.inr rfl) _ rfl) (fun a1 he1 => ?_)
  clear he0
  refine wl_end ?_
  refine wp_seqR ?_
  refine wl_val he1 rfl rfl (.int .i64 (1048576)) (rn_move _ (Or.inr rfl) _ rfl) (fun a2 he2 => ?_)
  clear he1
  refine wl_end ?_
  refine wp_seqR ?_
  refine wl_val he2 rfl rfl (.slice (some ⟨b, p, none⟩) (n) (c)) (rn_move _ (Or.inl rfl) _ (he2.tmp 0 _ rfl)) (fun a3 he3 => ?_)
  clear he2
  refine wl_val he3 rfl rfl (.int .i64 (1048576)) (rn_move _ (Or.inl rfl) _ (he3.tmp 3 _ rfl)) (fun a4 he4 => ?_)
  clear he3
  refine wl_call he4 hm0 rfl rfl _ #[.slice (some ⟨b, p, none⟩) (n) (c), .int .i64 (1048576)] (enter_call _ _ _ rfl 7 #[] #[] rfl #[.slice (some ⟨b, p, none⟩) (n) (c), .int .i64 (1048576)] (map2 (he4.tmp 11 _ rfl) (he4.tmp 12 _ rfl)) #[.slice (some ⟨b, p, none⟩) (n) (c), .int .i64 (1048576)] rfl (fun _ _ => by kernel_rfl)) (.int .i64 (szN n)) (c_sz _ _ _ _ (by omega)) (fun a5 w1 he5 hm1 => ?_)
  clear he4 hm0
  refine wl_val he5 rfl rfl (.int .i64 (szN n)) (rn_move _ (Or.inr rfl) _ (he5.tmp 13 _ rfl)) (fun a6 he6 => ?_)
  clear he5
  refine wl_end ?_
  refine wp_seq ?_
  refine wp_seqR ?_
  refine wl_val he6 rfl rfl (.int .i64 (szN n)) (rn_move _ (Or.inl rfl) _ (he6.tmp 3 _ rfl)) (fun a7 he7 => ?_)
  clear he6
  cases hd1 : (decide (szN n < 0))
  ·
   have hd1p := of_decide_eq_false hd1
   refine wl_val he7 rfl rfl (.bool false) (rn_bin _ _ _ _ _ rfl .i64 _ _ (he7.tmp 14 _ rfl) rfl (.bool (decide (szN n < 0))) _ rfl (congrArg Value.bool (hd1))) (fun a8 he8 => ?_)
   clear he7
   refine wl_end ?_
   refine wp_condF (he := he8) rfl ?_
   refine wp_skip ?_
   refine then_normal ?_
   refine wp_seqR ?_
   refine wl_val he8 rfl rfl (.slice (some ⟨b, p, none⟩) (n) (c)) (rn_move _ (Or.inl rfl) _ (he8.tmp 0 _ rfl)) (fun a9 he9 => ?_)
   clear he8
   refine wl_callN he9 hm1 1 rfl rfl rfl _ #[.slice (some ⟨b, p, none⟩) (n) (c)] (enter_call _ _ _ rfl 9 #[] #[] rfl #[.slice (some ⟨b, p, none⟩) (n) (c)] (map1 (he9.tmp 16 _ rfl)) #[.slice (some ⟨b, p, none⟩) (n) (c)] rfl (fun _ _ => by kernel_rfl)) (c_toRuleS f b p n c _ (hR.kb hm1.keep (by simp)) (szN_ge hd1p)) (fun x1 b1 a10 w2 hx1 he10 hm2 => ?_)
   clear he9 hm1
   refine wl_callN he10 hm2 2 rfl rfl rfl _ #[.slice (some ⟨b1, 0, none⟩) (n) (n)] (enter_call _ _ _ rfl 20 #[] #[] rfl #[.slice (some ⟨b1, 0, none⟩) (n) (n)] (map1 (he10.tmp 17 _ rfl)) #[.slice (some ⟨b1, 0, none⟩) (n) (n)] rfl (fun _ _ => by kernel_rfl)) (c_spRTidy f b1 0 n n _ (hx1.at (hm2.bx 1 _ _ _ _ rfl)) (szN_ge hd1p) hok) (fun x2 b2 a11 w3 hx2 he11 hm3 => ?_)
   clear he10 hm2
   have rw2_n : Rw (x2.2) ((tidM f n).length) (x2.1) 5 (cellsOf Ru.arr (tidM f n)) := hx2
   refine wl_val he11 rfl rfl (.slice (some ⟨b2, 0, none⟩) ((tidM f n).length) (x2.1)) (rn_move _ (Or.inr rfl) _ (he11.tmp 18 _ rfl)) (fun a12 he12 => ?_)
   clear he11
   refine wl_end ?_
   refine wp_seqR ?_
   refine wl_val he12 rfl rfl (.slice (some ⟨b, p, none⟩) (n) (c)) (rn_move _ (Or.inl rfl) _ (he12.tmp 0 _ rfl)) (fun a13 he13 => ?_)
   clear he12
   refine wl_callN he13 hm3 3 rfl rfl rfl _ #[.slice (some ⟨b, p, none⟩) (n) (c)] (enter_call _ _ _ rfl 9 #[] #[] rfl #[.slice (some ⟨b, p, none⟩) (n) (c)] (map1 (he13.tmp 19 _ rfl)) #[.slice (some ⟨b, p, none⟩) (n) (c)] rfl (fun _ _ => by kernel_rfl)) (c_toRuleS f b p n c _ (hR.kb hm3.keep (by simp)) (szN_ge hd1p)) (fun x3 b3 a14 w4 hx3 he14 hm4 => ?_)
   clear he13 hm3
   refine wl_val he14 rfl rfl (.slice (some ⟨b3, 0, none⟩) (n) (n)) (rn_move _ (Or.inr rfl) _ (he14.tmp 20 _ rfl)) (fun a15 he15 => ?_)
   clear he14
   refine wl_end ?_
   refine wp_seqR ?_
   refine wl_val he15 rfl rfl (.slice (some ⟨b3, 0, none⟩) (n) (n)) (rn_move _ (Or.inl rfl) _ (he15.tmp 5 _ rfl)) (fun a16 he16 => ?_)
   clear he15
   refine wl_callN he16 hm4 4 rfl rfl rfl _ #[.slice (some ⟨b3, 0, none⟩) (n) (n)] (enter_call _ _ _ rfl 21 #[] #[] rfl #[.slice (some ⟨b3, 0, none⟩) (n) (n)] (map1 (he16.tmp 21 _ rfl)) #[.slice (some ⟨b3, 0, none⟩) (n) (n)] rfl (fun _ _ => by kernel_rfl)) (c_RTidy f b3 0 n n _ (hx3.at (hm4.bx 3 _ _ _ _ rfl)) (szN_ge hd1p) hok hne) (fun x4 b4 a17 w5 hx4 he17 hm5 => ?_)
   clear he16 hm4
   have rw4_n : Rw (x4.2) ((tidM f n).length) (x4.1) 5 (cellsOf Ru.arr (tidM f n)) := hx4
   refine wl_val he17 rfl rfl (.slice (some ⟨b4, 0, none⟩) ((tidM f n).length) (x4.1)) (rn_move _ (Or.inr rfl) _ (he17.tmp 22 _ rfl)) (fun a18 he18 => ?_)
   clear he17
   refine wl_end ?_
   refine wp_seq ?_
   refine wp_seqR ?_
   refine wl_val he18 rfl rfl (.slice (some ⟨b4, 0, none⟩) ((tidM f n).length) (x4.1)) (rn_move _ (Or.inl rfl) _ (he18.tmp 6 _ rfl)) (fun a19 he19 => ?_)
   clear he18
   refine wl_val he19 rfl rfl (.slice (some ⟨b2, 0, none⟩) ((tidM f n).length) (x2.1)) (rn_move _ (Or.inl rfl) _ (he19.tmp 4 _ rfl)) (fun a20 he20 => ?_)
   clear he19
   refine wl_call he20 hm5 rfl rfl _ #[.slice (some ⟨b4, 0, none⟩) ((tidM f n).length) (x4.1), .slice (some ⟨b2, 0, none⟩) ((tidM f n).length) (x2.1)] (enter_call _ _ _ rfl 11 #[] #[] rfl #[.slice (some ⟨b4, 0, none⟩) ((tidM f n).length) (x4.1), .slice (some ⟨b2, 0, none⟩) ((tidM f n).length) (x2.1)] (map2 (he20.tmp 23 _ rfl) (he20.tmp 24 _ rfl)) #[.slice (some ⟨b4, 0, none⟩) ((tidM f n).length) (x4.1), .slice (some ⟨b2, 0, none⟩) ((tidM f n).length) (x2.1)] rfl (fun _ _ => by kernel_rfl)) (.bool true) (callsV (congrArg Value.bool (eqRus_same _ _)) (c_eqRuleS (fun i => (tidM f n).getD i ru0) (fun i => (tidM f n).getD i ru0) b4 0 ((tidM f n).length) x4.1 b2 0 ((tidM f n).length) x2.1 _ (Rw.rowAt Ru.sz ru0 rw4_n rfl (hm5.bx 4 _ _ _ _ rfl)) (by omega) (Rw.rowAt Ru.sz ru0 rw2_n rfl (hm5.bx 2 _ _ _ _ rfl)) (by omega))) (fun a21 w6 he21 hm6 => ?_)
   clear he20 hm5
   refine wl_val he21 rfl rfl (.bool false) (rn_un _ _ _ rfl _ (.bool (!true)) _ (he21.tmp 25 _ rfl) rfl rfl) (fun a22 he22 => ?_)
   clear he21
   refine wl_end ?_
   refine wp_condF (he := he22) rfl ?_
   refine wp_skip ?_
   refine then_normal ?_
   refine wp_seq ?_
   refine wp_seqR ?_
   refine wl_val he22 rfl rfl (.slice (some ⟨b3, 0, none⟩) (n) (n)) (rn_move _ (Or.inl rfl) _ (he22.tmp 5 _ rfl)) (fun a23 he23 => ?_)
   clear he22
   refine wl_val he23 rfl rfl (.slice (some ⟨b, p, none⟩) (n) (c)) (rn_move _ (Or.inl rfl) _ (he23.tmp 0 _ rfl)) (fun a24 he24 => ?_)
   clear he23
   refine wl_callN he24 hm6 5 rfl rfl rfl _ #[.slice (some ⟨b, p, none⟩) (n) (c)] (enter_call _ _ _ rfl 9 #[] #[] rfl #[.slice (some ⟨b, p, none⟩) (n) (c)] (map1 (he24.tmp 28 _ rfl)) #[.slice (some ⟨b, p, none⟩) (n) (c)] rfl (fun _ _ => by kernel_rfl)) (c_toRuleS f b p n c _ (hR.kb hm6.keep (by simp)) (szN_ge hd1p)) (fun x5 b5 a25 w7 hx5 he25 hm7 => ?_)
   clear he24 hm6
   refine wl_call he25 hm7 rfl rfl _ #[.slice (some ⟨b3, 0, none⟩) (n) (n), .slice (some ⟨b5, 0, none⟩) (n) (n)] (enter_call _ _ _ rfl 11 #[] #[] rfl #[.slice (some ⟨b3, 0, none⟩) (n) (n), .slice (some ⟨b5, 0, none⟩) (n) (n)] (map2 (he25.tmp 27 _ rfl) (he25.tmp 29 _ rfl)) #[.slice (some ⟨b3, 0, none⟩) (n) (n), .slice (some ⟨b5, 0, none⟩) (n) (n)] rfl (fun _ _ => by kernel_rfl)) (.bool true) (callsV (congrArg Value.bool (eqRus_same f _)) (c_eqRuleS f f b3 0 n n b5 0 n n _ (hx3.at (hm7.bx 3 _ _ _ _ rfl)) (szN_ge hd1p) (hx5.at (hm7.bx 5 _ _ _ _ rfl)) (szN_ge hd1p))) (fun a26 w8 he26 hm8 => ?_)
   clear he25 hm7
   refine wl_val he26 rfl rfl (.bool false) (rn_un _ _ _ rfl _ (.bool (!true)) _ (he26.tmp 30 _ rfl) rfl rfl) (fun a27 he27 => ?_)
   clear he26
   refine wl_end ?_
   refine wp_condF (he := he27) rfl ?_
   refine wp_skip ?_
   refine then_normal ?_
   refine wp_seqR ?_
   refine wl_val he27 rfl rfl (.int .i64 (1)) (rn_move _ (Or.inr rfl) _ rfl) (fun a28 he28 => ?_)
   clear he27
   refine wl_end ?_
   refine wp_seqR ?_
   refine wl_val he28 rfl rfl (.slice (some ⟨b3, 0, none⟩) (n) (n)) (rn_move _ (Or.inl rfl) _ (he28.tmp 5 _ rfl)) (fun a29 he29 => ?_)
   clear he28
   refine wl_val he29 rfl rfl (.int .i64 (1)) (rn_move _ (Or.inl rfl) _ (he29.tmp 7 _ rfl)) (fun a30 he30 => ?_)
   clear he29
   refine wl_callK he30 hm8 3 rfl rfl rfl _ #[.slice (some ⟨b3, 0, none⟩) (n) (n), .int .i64 (1)] (enter_call _ _ _ rfl 17 #[] #[] rfl #[.slice (some ⟨b3, 0, none⟩) (n) (n), .int .i64 (1)] (map2 (he30.tmp 32 _ rfl) (he30.tmp 33 _ rfl)) #[.slice (some ⟨b3, 0, none⟩) (n) (n), .int .i64 (1)] rfl (fun _ _ => by kernel_rfl)) (.int .i64 (((1 + 5 * n : Nat) : Int))) (A' := markA (x3) 1 n) (c_mark (x3) b3 n n 1 _ (hm8.bx 3 _ _ _ _ rfl) (hx3.fit) (szN_ge hd1p) (by omega)) (fun a31 w9 he31 hm9 => ?_)
   clear he30 hm8
   refine wl_val he31 rfl rfl (.int .i64 (((1 + 5 * n : Nat) : Int))) (rn_move _ (Or.inr rfl) _ (he31.tmp 34 _ rfl)) (fun a32 he32 => ?_)
   clear he31
   refine wl_end ?_
   refine wp_seq ?_
   refine wp_seqR ?_
   refine wl_val he32 rfl rfl (.int .i64 (((1 + 5 * n : Nat) : Int))) (rn_move _ (Or.inl rfl) _ (he32.tmp 7 _ rfl)) (fun a33 he33 => ?_)
   clear he32
   refine wl_val he33 rfl rfl (.bool false) (rn_bin _ _ _ _ _ rfl .i64 _ _ (he33.tmp 35 _ rfl) rfl (.bool (decide (((1 + 5 * n : Nat) : Int) < 0))) _ rfl (congrArg Value.bool (hk5))) (fun a34 he34 => ?_)
   clear he33
   refine wl_val he34 rfl rfl (.bool false) (rn_move _ (Or.inl rfl) _ (he34.tmp 36 _ rfl)) (fun a35 he35 => ?_)
   clear he34
   refine wl_val he35 rfl (wanted_slot he35 2 false rfl 37 rfl false rfl true rfl) (.slice (some ⟨b4, 0, none⟩) ((tidM f n).length) (x4.1)) (rn_move _ (Or.inl rfl) _ (he35.tmp 6 _ rfl)) (fun a36 he36 => ?_)
   clear he35
   refine wl_val he36 rfl (wanted_slot he36 2 false rfl 37 rfl false rfl true rfl) (.slice (some ⟨b2, 0, none⟩) ((tidM f n).length) (x2.1)) (rn_move _ (Or.inl rfl) _ (he36.tmp 4 _ rfl)) (fun a37 he37 => ?_)
   clear he36
   refine wl_call he37 hm9 rfl (wanted_slot he37 2 false rfl 37 rfl false rfl true rfl) _ #[.slice (some ⟨b4, 0, none⟩) ((tidM f n).length) (x4.1), .slice (some ⟨b2, 0, none⟩) ((tidM f n).length) (x2.1)] (enter_call _ _ _ rfl 11 #[] #[] rfl #[.slice (some ⟨b4, 0, none⟩) ((tidM f n).length) (x4.1), .slice (some ⟨b2, 0, none⟩) ((tidM f n).length) (x2.1)] (map2 (he37.tmp 38 _ rfl) (he37.tmp 39 _ rfl)) #[.slice (some ⟨b4, 0, none⟩) ((tidM f n).length) (x4.1), .slice (some ⟨b2, 0, none⟩) ((tidM f n).length) (x2.1)] rfl (fun _ _ => by kernel_rfl)) (.bool true) (callsV (congrArg Value.bool (eqRus_same _ _)) (c_eqRuleS (fun i => (tidM f n).getD i ru0) (fun i => (tidM f n).getD i ru0) b4 0 ((tidM f n).length) x4.1 b2 0 ((tidM f n).length) x2.1 _ (Rw.rowAt Ru.sz ru0 rw4_n rfl (hm9.bx 4 _ _ _ _ rfl)) (by omega) (Rw.rowAt Ru.sz ru0 rw2_n rfl (hm9.bx 2 _ _ _ _ rfl)) (by omega))) (fun a38 w10 he38 hm10 => ?_)
   clear he37 hm9
   refine wl_val he38 rfl (wanted_slot he38 2 false rfl 37 rfl false rfl true rfl) (.bool false) (rn_un _ _ _ rfl _ (.bool (!true)) _ (he38.tmp 40 _ rfl) rfl rfl) (fun a39 he39 => ?_)
   clear he38
   refine wl_val he39 rfl rfl (.bool false) (rn_pickF _ _ _ rfl (he39.tmp 37 _ rfl) _ (he39.tmp 41 _ rfl)) (fun a40 he40 => ?_)
   clear he39
   refine wl_end ?_
   refine wp_condF (he := he40) rfl ?_
   refine wp_skip ?_
   refine then_normal ?_
   refine wp_seqR ?_
   refine wl_val he40 rfl rfl (.int .i64 (1)) (rn_move _ (Or.inr rfl) _ rfl) (fun a41 he41 => ?_)
   clear he40
   refine wl_end ?_
   refine wp_seqR ?_
   refine wl_val he41 rfl rfl (.slice (some ⟨b4, 0, none⟩) ((tidM f n).length) (x4.1)) (rn_move _ (Or.inl rfl) _ (he41.tmp 6 _ rfl)) (fun a42 he42 => ?_)
   clear he41
   refine wl_val he42 rfl rfl (.int .i64 (1)) (rn_move _ (Or.inl rfl) _ (he42.tmp 8 _ rfl)) (fun a43 he43 => ?_)
   clear he42
   refine wl_callK he43 hm10 4 rfl rfl rfl _ #[.slice (some ⟨b4, 0, none⟩) ((tidM f n).length) (x4.1), .int .i64 (1)] (enter_call _ _ _ rfl 17 #[] #[] rfl #[.slice (some ⟨b4, 0, none⟩) ((tidM f n).length) (x4.1), .int .i64 (1)] (map2 (he43.tmp 43 _ rfl) (he43.tmp 44 _ rfl)) #[.slice (some ⟨b4, 0, none⟩) ((tidM f n).length) (x4.1), .int .i64 (1)] rfl (fun _ _ => by kernel_rfl)) (.int .i64 (((1 + 5 * ((tidM f n).length) : Nat) : Int))) (A' := markA (x4.2) 1 ((tidM f n).length)) (c_mark (x4.2) b4 ((tidM f n).length) x4.1 1 _ (hm10.bx 4 _ _ _ _ rfl) (rw4_n.fit') (by omega) (by omega)) (fun a44 w11 he44 hm11 => ?_)
   clear he43 hm10
   refine wl_val he44 rfl rfl (.int .i64 (((1 + 5 * ((tidM f n).length) : Nat) : Int))) (rn_move _ (Or.inr rfl) _ (he44.tmp 45 _ rfl)) (fun a45 he45 => ?_)
   clear he44
   refine wl_end ?_
   refine wp_seqR ?_
   refine wl_val he45 rfl rfl (.int .i64 (1)) (rn_move _ (Or.inr rfl) _ rfl) (fun a46 he46 => ?_)
   clear he45
   refine wl_end ?_
   refine wp_seqR ?_
   refine wl_val he46 rfl rfl (.slice (some ⟨b4, 0, none⟩) ((tidM f n).length) (x4.1)) (rn_move _ (Or.inl rfl) _ (he46.tmp 6 _ rfl)) (fun a47 he47 => ?_)
   clear he46
   refine wl_val he47 rfl rfl (.int .i64 (1)) (rn_move _ (Or.inl rfl) _ (he47.tmp 9 _ rfl)) (fun a48 he48 => ?_)
   clear he47
   refine wl_call he48 hm11 rfl rfl _ #[.slice (some ⟨b4, 0, none⟩) ((tidM f n).length) (x4.1), .int .i64 (1)] (enter_call _ _ _ rfl 22 #[] #[] rfl #[.slice (some ⟨b4, 0, none⟩) ((tidM f n).length) (x4.1), .int .i64 (1)] (map2 (he48.tmp 46 _ rfl) (he48.tmp 47 _ rfl)) #[.slice (some ⟨b4, 0, none⟩) ((tidM f n).length) (x4.1), .int .i64 (1)] rfl (fun _ _ => by kernel_rfl)) (.int .i64 (((1 + 5 * ((tidM f n).length) : Nat) : Int))) (c_held b4 0 ((tidM f n).length) x4.1 1 _ ((markA_row (x4.2) 1 ((tidM f n).length) (rw4_n.fit')).at (hm11.bx 4 _ _ _ _ rfl)) (by omega) (by omega)) (fun a49 w12 he49 hm12 => ?_)
   clear he48 hm11
   refine wl_val he49 rfl rfl (.int .i64 (((1 + 5 * ((tidM f n).length) : Nat) : Int))) (rn_move _ (Or.inr rfl) _ (he49.tmp 48 _ rfl)) (fun a50 he50 => ?_)
   clear he49
   refine wl_end ?_
   refine wp_seq ?_
   refine wp_seqR ?_
   refine wl_val he50 rfl rfl (.int .i64 (((1 + 5 * ((tidM f n).length) : Nat) : Int))) (rn_move _ (Or.inl rfl) _ (he50.tmp 9 _ rfl)) (fun a51 he51 => ?_)
   clear he50
   refine wl_val he51 rfl rfl (.bool false) (rn_bin _ _ _ _ _ rfl .i64 _ _ (he51.tmp 49 _ rfl) rfl (.bool (decide (((1 + 5 * ((tidM f n).length) : Nat) : Int) < 0))) _ rfl (congrArg Value.bool (hk6))) (fun a52 he52 => ?_)
   clear he51
   refine wl_end ?_
   refine wp_condF (he := he52) rfl ?_
   refine wp_skip ?_
   refine then_normal ?_
   refine wp_seq ?_
   refine wp_seqR ?_
   refine wl_val he52 rfl rfl (.int .i64 (((1 + 5 * ((tidM f n).length) : Nat) : Int))) (rn_move _ (Or.inl rfl) _ (he52.tmp 9 _ rfl)) (fun a53 he53 => ?_)
   clear he52
   refine wl_val he53 rfl rfl (.int .i64 (((1 + 5 * ((tidM f n).length) : Nat) : Int))) (rn_move _ (Or.inl rfl) _ (he53.tmp 8 _ rfl)) (fun a54 he54 => ?_)
   clear he53
   refine wl_val he54 rfl rfl (.bool false) (rn_bin _ _ _ _ _ rfl .i64 _ _ (he54.tmp 51 _ rfl) (he54.tmp 52 _ rfl) (.bool ((((1 + 5 * ((tidM f n).length) : Nat) : Int) != ((1 + 5 * ((tidM f n).length) : Nat) : Int)))) _ rfl (congrArg Value.bool (hk7))) (fun a55 he55 => ?_)
   clear he54
   refine wl_end ?_
   refine wp_condF (he := he55) rfl ?_
   refine wp_skip ?_
   refine then_normal ?_
   refine wp_seqR ?_
   refine wl_val he55 rfl rfl (.slice (some ⟨b, p, none⟩) (n) (c)) (rn_move _ (Or.inl rfl) _ (he55.tmp 0 _ rfl)) (fun a56 he56 => ?_)
   clear he55
   refine wl_callN he56 hm12 6 rfl rfl rfl _ #[.slice (some ⟨b, p, none⟩) (n) (c)] (enter_call _ _ _ rfl 9 #[] #[] rfl #[.slice (some ⟨b, p, none⟩) (n) (c)] (map1 (he56.tmp 54 _ rfl)) #[.slice (some ⟨b, p, none⟩) (n) (c)] rfl (fun _ _ => by kernel_rfl)) (c_toRuleS f b p n c _ (hR.kb hm12.keep (by simp)) (szN_ge hd1p)) (fun x6 b6 a57 w13 hx6 he57 hm13 => ?_)
   clear he56 hm12
   refine wl_callN he57 hm13 7 rfl rfl rfl _ #[.slice (some ⟨b6, 0, none⟩) (n) (n)] (enter_call _ _ _ rfl 21 #[] #[] rfl #[.slice (some ⟨b6, 0, none⟩) (n) (n)] (map1 (he57.tmp 55 _ rfl)) #[.slice (some ⟨b6, 0, none⟩) (n) (n)] rfl (fun _ _ => by kernel_rfl)) (c_RTidy f b6 0 n n _ (hx6.at (hm13.bx 6 _ _ _ _ rfl)) (szN_ge hd1p) hok hne) (fun x7 b7 a58 w14 hx7 he58 hm14 => ?_)
   clear he57 hm13
   have rw7_n : Rw (x7.2) ((tidM f n).length) (x7.1) 5 (cellsOf Ru.arr (tidM f n)) := hx7
   refine wl_val he58 rfl rfl (.slice (some ⟨b7, 0, none⟩) ((tidM f n).length) (x7.1)) (rn_move _ (Or.inr rfl) _ (he58.tmp 56 _ rfl)) (fun a59 he59 => ?_)
   clear he58
   refine wl_end ?_
   refine wp_seq ?_
   refine wp_seqR ?_
   refine wl_val he59 rfl rfl (.slice (some ⟨b7, 0, none⟩) ((tidM f n).length) (x7.1)) (rn_move _ (Or.inl rfl) _ (he59.tmp 10 _ rfl)) (fun a60 he60 => ?_)
   clear he59
   refine wl_val he60 rfl rfl (.slice (some ⟨b2, 0, none⟩) ((tidM f n).length) (x2.1)) (rn_move _ (Or.inl rfl) _ (he60.tmp 4 _ rfl)) (fun a61 he61 => ?_)
   clear he60
   refine wl_call he61 hm14 rfl rfl _ #[.slice (some ⟨b7, 0, none⟩) ((tidM f n).length) (x7.1), .slice (some ⟨b2, 0, none⟩) ((tidM f n).length) (x2.1)] (enter_call _ _ _ rfl 11 #[] #[] rfl #[.slice (some ⟨b7, 0, none⟩) ((tidM f n).length) (x7.1), .slice (some ⟨b2, 0, none⟩) ((tidM f n).length) (x2.1)] (map2 (he61.tmp 57 _ rfl) (he61.tmp 58 _ rfl)) #[.slice (some ⟨b7, 0, none⟩) ((tidM f n).length) (x7.1), .slice (some ⟨b2, 0, none⟩) ((tidM f n).length) (x2.1)] rfl (fun _ _ => by kernel_rfl)) (.bool true) (callsV (congrArg Value.bool (eqRus_same _ _)) (c_eqRuleS (fun i => (tidM f n).getD i ru0) (fun i => (tidM f n).getD i ru0) b7 0 ((tidM f n).length) x7.1 b2 0 ((tidM f n).length) x2.1 _ (Rw.rowAt Ru.sz ru0 rw7_n rfl (hm14.bx 7 _ _ _ _ rfl)) (by omega) (Rw.rowAt Ru.sz ru0 rw2_n rfl (hm14.bx 2 _ _ _ _ rfl)) (by omega))) (fun a62 w15 he62 hm15 => ?_)
   clear he61 hm14
   refine wl_val he62 rfl rfl (.bool false) (rn_un _ _ _ rfl _ (.bool (!true)) _ (he62.tmp 59 _ rfl) rfl rfl) (fun a63 he63 => ?_)
   clear he62
   refine wl_end ?_
   refine wp_condF (he := he63) rfl ?_
   refine wp_skip ?_
   refine then_normal ?_
   refine wp_seqR ?_
   refine wl_val he63 rfl rfl (.int .i64 (1)) (rn_move _ (Or.inr rfl) _ rfl) (fun a64 he64 => ?_)
   clear he63
   refine wl_end ?_
   refine wp_seqR ?_
   refine wl_val he64 rfl rfl (.slice (some ⟨b4, 0, none⟩) ((tidM f n).length) (x4.1)) (rn_move _ (Or.inl rfl) _ (he64.tmp 6 _ rfl)) (fun a65 he65 => ?_)
   clear he64
   refine wl_val he65 rfl rfl (.int .i64 (1)) (rn_move _ (Or.inl rfl) _ (he65.tmp 9 _ rfl)) (fun a66 he66 => ?_)
   clear he65
   refine wl_call he66 hm15 rfl rfl _ #[.slice (some ⟨b4, 0, none⟩) ((tidM f n).length) (x4.1), .int .i64 (1)] (enter_call _ _ _ rfl 22 #[] #[] rfl #[.slice (some ⟨b4, 0, none⟩) ((tidM f n).length) (x4.1), .int .i64 (1)] (map2 (he66.tmp 61 _ rfl) (he66.tmp 62 _ rfl)) #[.slice (some ⟨b4, 0, none⟩) ((tidM f n).length) (x4.1), .int .i64 (1)] rfl (fun _ _ => by kernel_rfl)) (.int .i64 (((1 + 5 * ((tidM f n).length) : Nat) : Int))) (c_held b4 0 ((tidM f n).length) x4.1 1 _ ((markA_row (x4.2) 1 ((tidM f n).length) (rw4_n.fit')).at (hm15.bx 4 _ _ _ _ rfl)) (by omega) (by omega)) (fun a67 w16 he67 hm16 => ?_)
   clear he66 hm15
   refine wl_val he67 rfl rfl (.int .i64 (((1 + 5 * ((tidM f n).length) : Nat) : Int))) (rn_move _ (Or.inr rfl) _ (he67.tmp 63 _ rfl)) (fun a68 he68 => ?_)
   clear he67
   refine wl_end ?_
   refine wp_seq ?_
   refine wp_seqR ?_
   refine wl_val he68 rfl rfl (.int .i64 (((1 + 5 * ((tidM f n).length) : Nat) : Int))) (rn_move _ (Or.inl rfl) _ (he68.tmp 9 _ rfl)) (fun a69 he69 => ?_)
   clear he68
   refine wl_val he69 rfl rfl (.bool false) (rn_bin _ _ _ _ _ rfl .i64 _ _ (he69.tmp 64 _ rfl) rfl (.bool (decide (((1 + 5 * ((tidM f n).length) : Nat) : Int) < 0))) _ rfl (congrArg Value.bool (hk6))) (fun a70 he70 => ?_)
   clear he69
   refine wl_end ?_
   refine wp_condF (he := he70) rfl ?_
   refine wp_skip ?_
   refine then_normal ?_
   refine wp_seq ?_
   refine wp_seqR ?_
   refine wl_val he70 rfl rfl (.int .i64 (((1 + 5 * ((tidM f n).length) : Nat) : Int))) (rn_move _ (Or.inl rfl) _ (he70.tmp 9 _ rfl)) (fun a71 he71 => ?_)
   clear he70
   refine wl_val he71 rfl rfl (.int .i64 (((1 + 5 * ((tidM f n).length) : Nat) : Int))) (rn_move _ (Or.inl rfl) _ (he71.tmp 8 _ rfl)) (fun a72 he72 => ?_)
   clear he71
   refine wl_val he72 rfl rfl (.bool false) (rn_bin _ _ _ _ _ rfl .i64 _ _ (he72.tmp 66 _ rfl) (he72.tmp 67 _ rfl) (.bool ((((1 + 5 * ((tidM f n).length) : Nat) : Int) != ((1 + 5 * ((tidM f n).length) : Nat) : Int)))) _ rfl (congrArg Value.bool (hk7))) (fun a73 he73 => ?_)
   clear he72
   refine wl_end ?_
   refine wp_condF (he := he73) rfl ?_
   refine wp_skip ?_
   refine then_normal ?_
   refine wp_seqR ?_
   refine wl_val he73 rfl rfl (.bool true) (rn_move _ (Or.inr rfl) _ rfl) (fun a74 he74 => ?_)
   clear he73
   refine wl_end ?_
   refine wp_ret ?_
   exact bodyPost_ret (results_tmp he74 _ Try.results6 _ rfl) he74.defers ⟨rfl, hm16.below⟩
  ·
   have hd1p := of_decide_eq_true hd1
   refine wl_val he7 rfl rfl (.bool true) (rn_bin _ _ _ _ _ rfl .i64 _ _ (he7.tmp 14 _ rfl) rfl (.bool (decide (szN n < 0))) _ rfl (congrArg Value.bool (hd1))) (fun a8 he8 => ?_)
   clear he7
   refine wl_end ?_
   refine wp_condT (he := he8) rfl ?_
   refine wp_seqR ?_
   refine wl_val he8 rfl rfl (.bool true) (rn_move _ (Or.inr rfl) _ rfl) (fun a9 he9 => ?_)
   clear he8
   refine wl_end ?_
   refine wp_ret ?_
   refine ret_then ?_
   exact bodyPost_ret (results_tmp he9 _ Try.results6 _ rfl) he9.defers ⟨rfl, hm1.below⟩
theorem law_tidy_e (f : Nat → Ru) (b p n c : Nat) (w : World) (hR : RowAt w b p n 5 fun i => (f i).arr) (hn : n ≤ 9223372036854775807) (hok : ruOks f n = true) (hem : tidM f n = []) :
    Calls Try.prog 6 #[.slice (some ⟨b, p, none⟩) (n) (c)] w fun e w' => e = .returned (.bool true) ∧ Below w.heap.size w w' := by
  refine calls_begin Try.func6 rfl 69 rfl (Nat.le_of_ble_eq_true rfl) [(0, .slice (some ⟨b, p, none⟩) (n) (c))] ⟨rfl, trivial⟩ (fun a0 he0 hm0 => ?_)
  have hk5 : decide (((1 + 5 * n : Nat) : Int) < 0) = false := decide_eq_false (by omega)
  refine wp_seqR ?_
  refine wl_val he0 rfl rfl (.bool false) (rn_move _ (Or.inr rfl) _ rfl) (fun a1 he1 => ?_)
  clear he0
  refine wl_end ?_
  refine wp_seqR ?_
  refine wl_val he1 rfl rfl (.int .i64 (1048576)) (rn_move _ (Or.inr rfl) _ rfl) (fun a2 he2 => ?_)
  clear he1
  refine wl_end ?_
  refine wp_seqR ?_
  refine wl_val he2 rfl rfl (.slice (some ⟨b, p, none⟩) (n) (c)) (rn_move _ (Or.inl rfl) _ (he2.tmp 0 _ rfl)) (fun a3 he3 => ?_)
  clear he2
  refine wl_val he3 rfl rfl (.int .i64 (1048576)) (rn_move _ (Or.inl rfl) _ (he3.tmp 3 _ rfl)) (fun a4 he4 => ?_)
  clear he3
  refine wl_call he4 hm0 rfl rfl _ #[.slice (some ⟨b, p, none⟩) (n) (c), .int .i64 (1048576)] (enter_call _ _ _ rfl 7 #[] #[] rfl #[.slice (some ⟨b, p, none⟩) (n) (c), .int .i64 (1048576)] (map2 (he4.tmp 11 _ rfl) (he4.tmp 12 _ rfl)) #[.slice (some ⟨b, p, none⟩) (n) (c), .int .i64 (1048576)] rfl (fun _ _ => by kernel_rfl)) (.int .i64 (szN n)) (c_sz _ _ _ _ (by omega)) (fun a5 w1 he5 hm1 => ?_)
  clear he4 hm0
  refine wl_val he5 rfl rfl (.int .i64 (szN n)) (rn_move _ (Or.inr rfl) _ (he5.tmp 13 _ rfl)) (fun a6 he6 => ?_)
  clear he5
  refine wl_end ?_
  refine wp_seq ?_
  refine wp_seqR ?_
  refine wl_val he6 rfl rfl (.int .i64 (szN n)) (rn_move _ (Or.inl rfl) _ (he6.tmp 3 _ rfl)) (fun a7 he7 => ?_)
  clear he6
  cases hd1 : (decide (szN n < 0))
  ·
   have hd1p := of_decide_eq_false hd1
   refine wl_val he7 rfl rfl (.bool false) (rn_bin _ _ _ _ _ rfl .i64 _ _ (he7.tmp 14 _ rfl) rfl (.bool (decide (szN n < 0))) _ rfl (congrArg Value.bool (hd1))) (fun a8 he8 => ?_)
   clear he7
   refine wl_end ?_
   refine wp_condF (he := he8) rfl ?_
   refine wp_skip ?_
   refine then_normal ?_
   refine wp_seqR ?_
   refine wl_val he8 rfl rfl (.slice (some ⟨b, p, none⟩) (n) (c)) (rn_move _ (Or.inl rfl) _ (he8.tmp 0 _ rfl)) (fun a9 he9 => ?_)
   clear he8
   refine wl_callN he9 hm1 1 rfl rfl rfl _ #[.slice (some ⟨b, p, none⟩) (n) (c)] (enter_call _ _ _ rfl 9 #[] #[] rfl #[.slice (some ⟨b, p, none⟩) (n) (c)] (map1 (he9.tmp 16 _ rfl)) #[.slice (some ⟨b, p, none⟩) (n) (c)] rfl (fun _ _ => by kernel_rfl)) (c_toRuleS f b p n c _ (hR.kb hm1.keep (by simp)) (szN_ge hd1p)) (fun x1 b1 a10 w2 hx1 he10 hm2 => ?_)
   clear he9 hm1
   refine wl_callN he10 hm2 2 rfl rfl rfl _ #[.slice (some ⟨b1, 0, none⟩) (n) (n)] (enter_call _ _ _ rfl 20 #[] #[] rfl #[.slice (some ⟨b1, 0, none⟩) (n) (n)] (map1 (he10.tmp 17 _ rfl)) #[.slice (some ⟨b1, 0, none⟩) (n) (n)] rfl (fun _ _ => by kernel_rfl)) (c_spRTidy_nil f b1 0 n n _ (hx1.at (hm2.bx 1 _ _ _ _ rfl)) (szN_ge hd1p) hok hem) (fun x2 b2 a11 w3 hx2 he11 hm3 => ?_)
   clear he10 hm2
   have rw2_n : Rw (x2.2) (0) (x2.1) 5 (cellsOf Ru.arr ([])) := hx2
   refine wl_val he11 rfl rfl (.slice (some ⟨b2, 0, none⟩) (0) (x2.1)) (rn_move _ (Or.inr rfl) _ (he11.tmp 18 _ rfl)) (fun a12 he12 => ?_)
   clear he11
   refine wl_end ?_
   refine wp_seqR ?_
   refine wl_val he12 rfl rfl (.slice (some ⟨b, p, none⟩) (n) (c)) (rn_move _ (Or.inl rfl) _ (he12.tmp 0 _ rfl)) (fun a13 he13 => ?_)
   clear he12
   refine wl_callN he13 hm3 3 rfl rfl rfl _ #[.slice (some ⟨b, p, none⟩) (n) (c)] (enter_call _ _ _ rfl 9 #[] #[] rfl #[.slice (some ⟨b, p, none⟩) (n) (c)] (map1 (he13.tmp 19 _ rfl)) #[.slice (some ⟨b, p, none⟩) (n) (c)] rfl (fun _ _ => by kernel_rfl)) (c_toRuleS f b p n c _ (hR.kb hm3.keep (by simp)) (szN_ge hd1p)) (fun x3 b3 a14 w4 hx3 he14 hm4 => ?_)
   clear he13 hm3
   refine wl_val he14 rfl rfl (.slice (some ⟨b3, 0, none⟩) (n) (n)) (rn_move _ (Or.inr rfl) _ (he14.tmp 20 _ rfl)) (fun a15 he15 => ?_)
   clear he14
   refine wl_end ?_
   refine wp_seqR ?_
   refine wl_val he15 rfl rfl (.slice (some ⟨b3, 0, none⟩) (n) (n)) (rn_move _ (Or.inl rfl) _ (he15.tmp 5 _ rfl)) (fun a16 he16 => ?_)
   clear he15
   refine wl_call he16 hm4 rfl rfl _ #[.slice (some ⟨b3, 0, none⟩) (n) (n)] (enter_call _ _ _ rfl 21 #[] #[] rfl #[.slice (some ⟨b3, 0, none⟩) (n) (n)] (map1 (he16.tmp 21 _ rfl)) #[.slice (some ⟨b3, 0, none⟩) (n) (n)] rfl (fun _ _ => by kernel_rfl)) (.slice (none) (0) (0)) (c_RTidy_nil f b3 0 n n _ (hx3.at (hm4.bx 3 _ _ _ _ rfl)) (szN_ge hd1p) hok hem) (fun a17 w5 he17 hm5 => ?_)
   clear he16 hm4
   refine wl_val he17 rfl rfl (.slice (none) (0) (0)) (rn_move _ (Or.inr rfl) _ (he17.tmp 22 _ rfl)) (fun a18 he18 => ?_)
   clear he17
   refine wl_end ?_
   refine wp_seq ?_
   refine wp_seqR ?_
   refine wl_val he18 rfl rfl (.slice (none) (0) (0)) (rn_move _ (Or.inl rfl) _ (he18.tmp 6 _ rfl)) (fun a19 he19 => ?_)
   clear he18
   refine wl_val he19 rfl rfl (.slice (some ⟨b2, 0, none⟩) (0) (x2.1)) (rn_move _ (Or.inl rfl) _ (he19.tmp 4 _ rfl)) (fun a20 he20 => ?_)
   clear he19
   refine wl_call he20 hm5 rfl rfl _ #[.slice (none) (0) (0), .slice (some ⟨b2, 0, none⟩) (0) (x2.1)] (enter_call _ _ _ rfl 11 #[] #[] rfl #[.slice (none) (0) (0), .slice (some ⟨b2, 0, none⟩) (0) (x2.1)] (map2 (he20.tmp 23 _ rfl) (he20.tmp 24 _ rfl)) #[.slice (none) (0) (0), .slice (some ⟨b2, 0, none⟩) (0) (x2.1)] rfl (fun _ _ => by kernel_rfl)) (.bool true) (c_eqRuleS00 _ _ _ _ _) (fun a21 w6 he21 hm6 => ?_)
   clear he20 hm5
   refine wl_val he21 rfl rfl (.bool false) (rn_un _ _ _ rfl _ (.bool (!true)) _ (he21.tmp 25 _ rfl) rfl rfl) (fun a22 he22 => ?_)
   clear he21
   refine wl_end ?_
   refine wp_condF (he := he22) rfl ?_
   refine wp_skip ?_
   refine then_normal ?_
   refine wp_seq ?_
   refine wp_seqR ?_
   refine wl_val he22 rfl rfl (.slice (some ⟨b3, 0, none⟩) (n) (n)) (rn_move _ (Or.inl rfl) _ (he22.tmp 5 _ rfl)) (fun a23 he23 => ?_)
   clear he22
   refine wl_val he23 rfl rfl (.slice (some ⟨b, p, none⟩) (n) (c)) (rn_move _ (Or.inl rfl) _ (he23.tmp 0 _ rfl)) (fun a24 he24 => ?_)
   clear he23
   refine wl_callN he24 hm6 4 rfl rfl rfl _ #[.slice (some ⟨b, p, none⟩) (n) (c)] (enter_call _ _ _ rfl 9 #[] #[] rfl #[.slice (some ⟨b, p, none⟩) (n) (c)] (map1 (he24.tmp 28 _ rfl)) #[.slice (some ⟨b, p, none⟩) (n) (c)] rfl (fun _ _ => by kernel_rfl)) (c_toRuleS f b p n c _ (hR.kb hm6.keep (by simp)) (szN_ge hd1p)) (fun x4 b4 a25 w7 hx4 he25 hm7 => ?_)
   clear he24 hm6
   refine wl_call he25 hm7 rfl rfl _ #[.slice (some ⟨b3, 0, none⟩) (n) (n), .slice (some ⟨b4, 0, none⟩) (n) (n)] (enter_call _ _ _ rfl 11 #[] #[] rfl #[.slice (some ⟨b3, 0, none⟩) (n) (n), .slice (some ⟨b4, 0, none⟩) (n) (n)] (map2 (he25.tmp 27 _ rfl) (he25.tmp 29 _ rfl)) #[.slice (some ⟨b3, 0, none⟩) (n) (n), .slice (some ⟨b4, 0, none⟩) (n) (n)] rfl (fun _ _ => by kernel_rfl)) (.bool true) (callsV (congrArg Value.bool (eqRus_same f _)) (c_eqRuleS f f b3 0 n n b4 0 n n _ (hx3.at (hm7.bx 3 _ _ _ _ rfl)) (szN_ge hd1p) (hx4.at (hm7.bx 4 _ _ _ _ rfl)) (szN_ge hd1p))) (fun a26 w8 he26 hm8 => ?_)
   clear he25 hm7
   refine wl_val he26 rfl rfl (.bool false) (rn_un _ _ _ rfl _ (.bool (!true)) _ (he26.tmp 30 _ rfl) rfl rfl) (fun a27 he27 => ?_)
   clear he26
   refine wl_end ?_
   refine wp_condF (he := he27) rfl ?_
   refine wp_skip ?_
   refine then_normal ?_
   refine wp_seqR ?_
   refine wl_val he27 rfl rfl (.int .i64 (1)) (rn_move _ (Or.inr rfl) _ rfl) (fun a28 he28 => ?_)
   clear he27
   refine wl_end ?_
   refine wp_seqR ?_
   refine wl_val he28 rfl rfl (.slice (some ⟨b3, 0, none⟩) (n) (n)) (rn_move _ (Or.inl rfl) _ (he28.tmp 5 _ rfl)) (fun a29 he29 => ?_)
   clear he28
   refine wl_val he29 rfl rfl (.int .i64 (1)) (rn_move _ (Or.inl rfl) _ (he29.tmp 7 _ rfl)) (fun a30 he30 => ?_)
   clear he29
   refine wl_callK he30 hm8 3 rfl rfl rfl _ #[.slice (some ⟨b3, 0, none⟩) (n) (n), .int .i64 (1)] (enter_call _ _ _ rfl 17 #[] #[] rfl #[.slice (some ⟨b3, 0, none⟩) (n) (n), .int .i64 (1)] (map2 (he30.tmp 32 _ rfl) (he30.tmp 33 _ rfl)) #[.slice (some ⟨b3, 0, none⟩) (n) (n), .int .i64 (1)] rfl (fun _ _ => by kernel_rfl)) (.int .i64 (((1 + 5 * n : Nat) : Int))) (A' := markA (x3) 1 n) (c_mark (x3) b3 n n 1 _ (hm8.bx 3 _ _ _ _ rfl) (hx3.fit) (szN_ge hd1p) (by omega)) (fun a31 w9 he31 hm9 => ?_)
   clear he30 hm8
   refine wl_val he31 rfl rfl (.int .i64 (((1 + 5 * n : Nat) : Int))) (rn_move _ (Or.inr rfl) _ (he31.tmp 34 _ rfl)) (fun a32 he32 => ?_)
   clear he31
   refine wl_end ?_
   refine wp_seq ?_
   refine wp_seqR ?_
   refine wl_val he32 rfl rfl (.int .i64 (((1 + 5 * n : Nat) : Int))) (rn_move _ (Or.inl rfl) _ (he32.tmp 7 _ rfl)) (fun a33 he33 => ?_)
   clear he32
   refine wl_val he33 rfl rfl (.bool false) (rn_bin _ _ _ _ _ rfl .i64 _ _ (he33.tmp 35 _ rfl) rfl (.bool (decide (((1 + 5 * n : Nat) : Int) < 0))) _ rfl (congrArg Value.bool (hk5))) (fun a34 he34 => ?_)
   clear he33
   refine wl_val he34 rfl rfl (.bool false) (rn_move _ (Or.inl rfl) _ (he34.tmp 36 _ rfl)) (fun a35 he35 => ?_)
   clear he34
   refine wl_val he35 rfl (wanted_slot he35 2 false rfl 37 rfl false rfl true rfl) (.slice (none) (0) (0)) (rn_move _ (Or.inl rfl) _ (he35.tmp 6 _ rfl)) (fun a36 he36 => ?_)
   clear he35
   refine wl_val he36 rfl (wanted_slot he36 2 false rfl 37 rfl false rfl true rfl) (.slice (some ⟨b2, 0, none⟩) (0) (x2.1)) (rn_move _ (Or.inl rfl) _ (he36.tmp 4 _ rfl)) (fun a37 he37 => ?_)
   clear he36
   refine wl_call he37 hm9 rfl (wanted_slot he37 2 false rfl 37 rfl false rfl true rfl) _ #[.slice (none) (0) (0), .slice (some ⟨b2, 0, none⟩) (0) (x2.1)] (enter_call _ _ _ rfl 11 #[] #[] rfl #[.slice (none) (0) (0), .slice (some ⟨b2, 0, none⟩) (0) (x2.1)] (map2 (he37.tmp 38 _ rfl) (he37.tmp 39 _ rfl)) #[.slice (none) (0) (0), .slice (some ⟨b2, 0, none⟩) (0) (x2.1)] rfl (fun _ _ => by kernel_rfl)) (.bool true) (c_eqRuleS00 _ _ _ _ _) (fun a38 w10 he38 hm10 => ?_)
   clear he37 hm9
   refine wl_val he38 rfl (wanted_slot he38 2 false rfl 37 rfl false rfl true rfl) (.bool false) (rn_un _ _ _ rfl _ (.bool (!true)) _ (he38.tmp 40 _ rfl) rfl rfl) (fun a39 he39 => ?_)
   clear he38
   refine wl_val he39 rfl rfl (.bool false) (rn_pickF _ _ _ rfl (he39.tmp 37 _ rfl) _ (he39.tmp 41 _ rfl)) (fun a40 he40 => ?_)
   clear he39
   refine wl_end ?_
   refine wp_condF (he := he40) rfl ?_
   refine wp_skip ?_
   refine then_normal ?_
   refine wp_seqR ?_
   refine wl_val he40 rfl rfl (.int .i64 (1)) (rn_move _ (Or.inr rfl) _ rfl) (fun a41 he41 => ?_)
   clear he40
   refine wl_end ?_
   refine wp_seqR ?_
   refine wl_val he41 rfl rfl (.slice (none) (0) (0)) (rn_move _ (Or.inl rfl) _ (he41.tmp 6 _ rfl)) (fun a42 he42 => ?_)
   clear he41
   refine wl_val he42 rfl rfl (.int .i64 (1)) (rn_move _ (Or.inl rfl) _ (he42.tmp 8 _ rfl)) (fun a43 he43 => ?_)
   clear he42
   refine wl_call he43 hm10 rfl rfl _ #[.slice (none) (0) (0), .int .i64 (1)] (enter_call _ _ _ rfl 17 #[] #[] rfl #[.slice (none) (0) (0), .int .i64 (1)] (map2 (he43.tmp 43 _ rfl) (he43.tmp 44 _ rfl)) #[.slice (none) (0) (0), .int .i64 (1)] rfl (fun _ _ => by kernel_rfl)) (.int .i64 (1)) (c_markRu0 _ _ 1 _) (fun a44 w11 he44 hm11 => ?_)
   clear he43 hm10
   refine wl_val he44 rfl rfl (.int .i64 (1)) (rn_move _ (Or.inr rfl) _ (he44.tmp 45 _ rfl)) (fun a45 he45 => ?_)
   clear he44
   refine wl_end ?_
   refine wp_seqR ?_
   refine wl_val he45 rfl rfl (.int .i64 (1)) (rn_move _ (Or.inr rfl) _ rfl) (fun a46 he46 => ?_)
   clear he45
   refine wl_end ?_
   refine wp_seqR ?_
   refine wl_val he46 rfl rfl (.slice (none) (0) (0)) (rn_move _ (Or.inl rfl) _ (he46.tmp 6 _ rfl)) (fun a47 he47 => ?_)
   clear he46
   refine wl_val he47 rfl rfl (.int .i64 (1)) (rn_move _ (Or.inl rfl) _ (he47.tmp 9 _ rfl)) (fun a48 he48 => ?_)
   clear he47
   refine wl_call he48 hm11 rfl rfl _ #[.slice (none) (0) (0), .int .i64 (1)] (enter_call _ _ _ rfl 22 #[] #[] rfl #[.slice (none) (0) (0), .int .i64 (1)] (map2 (he48.tmp 46 _ rfl) (he48.tmp 47 _ rfl)) #[.slice (none) (0) (0), .int .i64 (1)] rfl (fun _ _ => by kernel_rfl)) (.int .i64 (1)) (c_heldRu0 _ _ 1 _) (fun a49 w12 he49 hm12 => ?_)
   clear he48 hm11
   refine wl_val he49 rfl rfl (.int .i64 (1)) (rn_move _ (Or.inr rfl) _ (he49.tmp 48 _ rfl)) (fun a50 he50 => ?_)
   clear he49
   refine wl_end ?_
   refine wp_seq ?_
   refine wp_seqR ?_
   refine wl_val he50 rfl rfl (.int .i64 (1)) (rn_move _ (Or.inl rfl) _ (he50.tmp 9 _ rfl)) (fun a51 he51 => ?_)
   clear he50
   refine wl_val he51 rfl rfl (.bool false) (rn_bin _ _ _ _ _ rfl .i64 _ _ (he51.tmp 49 _ rfl) rfl (.bool (decide (1 < 0))) _ rfl (congrArg Value.bool (rfl))) (fun a52 he52 => ?_)
   clear he51
   refine wl_end ?_
   refine wp_condF (he := he52) rfl ?_
   refine wp_skip ?_
   refine then_normal ?_
   refine wp_seq ?_
   refine wp_seqR ?_
   refine wl_val he52 rfl rfl (.int .i64 (1)) (rn_move _ (Or.inl rfl) _ (he52.tmp 9 _ rfl)) (fun a53 he53 => ?_)
   clear he52
   refine wl_val he53 rfl rfl (.int .i64 (1)) (rn_move _ (Or.inl rfl) _ (he53.tmp 8 _ rfl)) (fun a54 he54 => ?_)
   clear he53
   refine wl_val he54 rfl rfl (.bool false) (rn_bin _ _ _ _ _ rfl .i64 _ _ (he54.tmp 51 _ rfl) (he54.tmp 52 _ rfl) (.bool ((1 != 1))) _ rfl (congrArg Value.bool (rfl))) (fun a55 he55 => ?_)
   clear he54
   refine wl_end ?_
   refine wp_condF (he := he55) rfl ?_
   refine wp_skip ?_
   refine then_normal ?_
   refine wp_seqR ?_
   refine wl_val he55 rfl rfl (.slice (some ⟨b, p, none⟩) (n) (c)) (rn_move _ (Or.inl rfl) _ (he55.tmp 0 _ rfl)) (fun a56 he56 => ?_)
   clear he55
   refine wl_callN he56 hm12 5 rfl rfl rfl _ #[.slice (some ⟨b, p, none⟩) (n) (c)] (enter_call _ _ _ rfl 9 #[] #[] rfl #[.slice (some ⟨b, p, none⟩) (n) (c)] (map1 (he56.tmp 54 _ rfl)) #[.slice (some ⟨b, p, none⟩) (n) (c)] rfl (fun _ _ => by kernel_rfl)) (c_toRuleS f b p n c _ (hR.kb hm12.keep (by simp)) (szN_ge hd1p)) (fun x5 b5 a57 w13 hx5 he57 hm13 => ?_)
   clear he56 hm12
   refine wl_call he57 hm13 rfl rfl _ #[.slice (some ⟨b5, 0, none⟩) (n) (n)] (enter_call _ _ _ rfl 21 #[] #[] rfl #[.slice (some ⟨b5, 0, none⟩) (n) (n)] (map1 (he57.tmp 55 _ rfl)) #[.slice (some ⟨b5, 0, none⟩) (n) (n)] rfl (fun _ _ => by kernel_rfl)) (.slice (none) (0) (0)) (c_RTidy_nil f b5 0 n n _ (hx5.at (hm13.bx 5 _ _ _ _ rfl)) (szN_ge hd1p) hok hem) (fun a58 w14 he58 hm14 => ?_)
   clear he57 hm13
   refine wl_val he58 rfl rfl (.slice (none) (0) (0)) (rn_move _ (Or.inr rfl) _ (he58.tmp 56 _ rfl)) (fun a59 he59 => ?_)
   clear he58
   refine wl_end ?_
   refine wp_seq ?_
   refine wp_seqR ?_
   refine wl_val he59 rfl rfl (.slice (none) (0) (0)) (rn_move _ (Or.inl rfl) _ (he59.tmp 10 _ rfl)) (fun a60 he60 => ?_)
   clear he59
   refine wl_val he60 rfl rfl (.slice (some ⟨b2, 0, none⟩) (0) (x2.1)) (rn_move _ (Or.inl rfl) _ (he60.tmp 4 _ rfl)) (fun a61 he61 => ?_)
   clear he60
   refine wl_call he61 hm14 rfl rfl _ #[.slice (none) (0) (0), .slice (some ⟨b2, 0, none⟩) (0) (x2.1)] (enter_call _ _ _ rfl 11 #[] #[] rfl #[.slice (none) (0) (0), .slice (some ⟨b2, 0, none⟩) (0) (x2.1)] (map2 (he61.tmp 57 _ rfl) (he61.tmp 58 _ rfl)) #[.slice (none) (0) (0), .slice (some ⟨b2, 0, none⟩) (0) (x2.1)] rfl (fun _ _ => by kernel_rfl)) (.bool true) (c_eqRuleS00 _ _ _ _ _) (fun a62 w15 he62 hm15 => ?_)
   clear he61 hm14
   refine wl_val he62 rfl rfl (.bool false) (rn_un _ _ _ rfl _ (.bool (!true)) _ (he62.tmp 59 _ rfl) rfl rfl) (fun a63 he63 => ?_)
   clear he62
   refine wl_end ?_
   refine wp_condF (he := he63) rfl ?_
   refine wp_skip ?_
   refine then_normal ?_
   refine wp_seqR ?_
   refine wl_val he63 rfl rfl (.int .i64 (1)) (rn_move _ (Or.inr rfl) _ rfl) (fun a64 he64 => ?_)
   clear he63
   refine wl_end ?_
   refine wp_seqR ?_
   refine wl_val he64 rfl rfl (.slice (none) (0) (0)) (rn_move _ (Or.inl rfl) _ (he64.tmp 6 _ rfl)) (fun a65 he65 => ?_)
   clear he64
   refine wl_val he65 rfl rfl (.int .i64 (1)) (rn_move _ (Or.inl rfl) _ (he65.tmp 9 _ rfl)) (fun a66 he66 => ?_)
   clear he65
   refine wl_call he66 hm15 rfl rfl _ #[.slice (none) (0) (0), .int .i64 (1)] (enter_call _ _ _ rfl 22 #[] #[] rfl #[.slice (none) (0) (0), .int .i64 (1)] (map2 (he66.tmp 61 _ rfl) (he66.tmp 62 _ rfl)) #[.slice (none) (0) (0), .int .i64 (1)] rfl (fun _ _ => by kernel_rfl)) (.int .i64 (1)) (c_heldRu0 _ _ 1 _) (fun a67 w16 he67 hm16 => ?_)
   clear he66 hm15
   refine wl_val he67 rfl rfl (.int .i64 (1)) (rn_move _ (Or.inr rfl) _ (he67.tmp 63 _ rfl)) (fun a68 he68 => ?_)
   clear he67
   refine wl_end ?_
   refine wp_seq ?_
   refine wp_seqR ?_
   refine wl_val he68 rfl rfl (.int .i64 (1)) (rn_move _ (Or.inl rfl) _ (he68.tmp 9 _ rfl)) (fun a69 he69 => ?_)
   clear he68
   refine wl_val he69 rfl rfl (.bool false) (rn_bin _ _ _ _ _ rfl .i64 _ _ (he69.tmp 64 _ rfl) rfl (.bool (decide (1 < 0))) _ rfl (congrArg Value.bool (rfl))) (fun a70 he70 => ?_)
   clear he69
   refine wl_end ?_
   refine wp_condF (he := he70) rfl ?_
   refine wp_skip ?_
   refine then_normal ?_
   refine wp_seq ?_
   refine wp_seqR ?_
   refine wl_val he70 rfl rfl (.int .i64 (1)) (rn_move _ (Or.inl rfl) _ (he70.tmp 9 _ rfl)) (fun a71 he71 => ?_)
   clear he70
   refine wl_val he71 rfl rfl (.int .i64 (1)) (rn_move _ (Or.inl rfl) _ (he71.tmp 8 _ rfl)) (fun a72 he72 => ?_)
   clear he71
   refine wl_val he72 rfl rfl (.bool false) (rn_bin _ _ _ _ _ rfl .i64 _ _ (he72.tmp 66 _ rfl) (he72.tmp 67 _ rfl) (.bool ((1 != 1))) _ rfl (congrArg Value.bool (rfl))) (fun a73 he73 => ?_)
   clear he72
   refine wl_end ?_
   refine wp_condF (he := he73) rfl ?_
   refine wp_skip ?_
   refine then_normal ?_
   refine wp_seqR ?_
   refine wl_val he73 rfl rfl (.bool true) (rn_move _ (Or.inr rfl) _ rfl) (fun a74 he74 => ?_)
   clear he73
   refine wl_end ?_
   refine wp_ret ?_
   exact bodyPost_ret (results_tmp he74 _ Try.results6 _ rfl) he74.defers ⟨rfl, hm16.below⟩
  ·
   have hd1p := of_decide_eq_true hd1
   refine wl_val he7 rfl rfl (.bool true) (rn_bin _ _ _ _ _ rfl .i64 _ _ (he7.tmp 14 _ rfl) rfl (.bool (decide (szN n < 0))) _ rfl (congrArg Value.bool (hd1))) (fun a8 he8 => ?_)
   clear he7
   refine wl_end ?_
   refine wp_condT (he := he8) rfl ?_
   refine wp_seqR ?_
   refine wl_val he8 rfl rfl (.bool true) (rn_move _ (Or.inr rfl) _ rfl) (fun a9 he9 => ?_)
   clear he8
   refine wl_end ?_
   refine wp_ret ?_
   refine ret_then ?_
   exact bodyPost_ret (results_tmp he9 _ Try.results6 _ rfl) he9.defers ⟨rfl, hm1.below⟩
theorem law_tidy_n (f : Nat → Ru) (b p n c : Nat) (w : World) (hR : RowAt w b p n 5 fun i => (f i).arr) (hn : n ≤ 9223372036854775807) (hok : ruOks f n = false) :
    Calls Try.prog 6 #[.slice (some ⟨b, p, none⟩) (n) (c)] w fun e w' => e = .returned (.bool true) ∧ Below w.heap.size w w' := by
  refine calls_begin Try.func6 rfl 69 rfl (Nat.le_of_ble_eq_true rfl) [(0, .slice (some ⟨b, p, none⟩) (n) (c))] ⟨rfl, trivial⟩ (fun a0 he0 hm0 => ?_)
  have hk5 : decide (((1 + 5 * n : Nat) : Int) < 0) = false := decide_eq_false (by omega)
  refine wp_seqR ?_
  refine wl_val he0 rfl rfl (.bool false) (rn_move _ (Or.inr rfl) _ rfl) (fun a1 he1 => ?_)
  clear he0
  refine wl_end ?_
  refine wp_seqR ?_
  refine wl_val he1 rfl rfl (.int .i64 (1048576)) (rn_move _ (Or.inr rfl) _ rfl) (fun a2 he2 => ?_)
  clear he1
  refine wl_end ?_
  refine wp_seqR ?_
  refine wl_val he2 rfl rfl (.slice (some ⟨b, p, none⟩) (n) (c)) (rn_move _ (Or.inl rfl) _ (he2.tmp 0 _ rfl)) (fun a3 he3 => ?_)
  clear he2
  refine wl_val he3 rfl rfl (.int .i64 (1048576)) (rn_move _ (Or.inl rfl) _ (he3.tmp 3 _ rfl)) (fun a4 he4 => ?_)
  clear he3
  refine wl_call he4 hm0 rfl rfl _ #[.slice (some ⟨b, p, none⟩) (n) (c), .int .i64 (1048576)] (enter_call _ _ _ rfl 7 #[] #[] rfl #[.slice (some ⟨b, p, none⟩) (n) (c), .int .i64 (1048576)] (map2 (he4.tmp 11 _ rfl) (he4.tmp 12 _ rfl)) #[.slice (some ⟨b, p, none⟩) (n) (c), .int .i64 (1048576)] rfl (fun _ _ => by kernel_rfl)) (.int .i64 (szN n)) (c_sz _ _ _ _ (by omega)) (fun a5 w1 he5 hm1 => ?_)
  clear he4 hm0
  refine wl_val he5 rfl rfl (.int .i64 (szN n)) (rn_move _ (Or.inr rfl) _ (he5.tmp 13 _ rfl)) (fun a6 he6 => ?_)
  clear he5
  refine wl_end ?_
  refine wp_seq ?_
  refine wp_seqR ?_
  refine wl_val he6 rfl rfl (.int .i64 (szN n)) (rn_move _ (Or.inl rfl) _ (he6.tmp 3 _ rfl)) (fun a7 he7 => ?_)
  clear he6
  cases hd1 : (decide (szN n < 0))
  ·
   have hd1p := of_decide_eq_false hd1
   refine wl_val he7 rfl rfl (.bool false) (rn_bin _ _ _ _ _ rfl .i64 _ _ (he7.tmp 14 _ rfl) rfl (.bool (decide (szN n < 0))) _ rfl (congrArg Value.bool (hd1))) (fun a8 he8 => ?_)
   clear he7
   refine wl_end ?_
   refine wp_condF (he := he8) rfl ?_
   refine wp_skip ?_
   refine then_normal ?_
   refine wp_seqR ?_
   refine wl_val he8 rfl rfl (.slice (some ⟨b, p, none⟩) (n) (c)) (rn_move _ (Or.inl rfl) _ (he8.tmp 0 _ rfl)) (fun a9 he9 => ?_)
   clear he8
   refine wl_callN he9 hm1 1 rfl rfl rfl _ #[.slice (some ⟨b, p, none⟩) (n) (c)] (enter_call _ _ _ rfl 9 #[] #[] rfl #[.slice (some ⟨b, p, none⟩) (n) (c)] (map1 (he9.tmp 16 _ rfl)) #[.slice (some ⟨b, p, none⟩) (n) (c)] rfl (fun _ _ => by kernel_rfl)) (c_toRuleS f b p n c _ (hR.kb hm1.keep (by simp)) (szN_ge hd1p)) (fun x1 b1 a10 w2 hx1 he10 hm2 => ?_)
   clear he9 hm1
   refine wl_callN he10 hm2 2 rfl rfl rfl _ #[.slice (some ⟨b1, 0, none⟩) (n) (n)] (enter_call _ _ _ rfl 20 #[] #[] rfl #[.slice (some ⟨b1, 0, none⟩) (n) (n)] (map1 (he10.tmp 17 _ rfl)) #[.slice (some ⟨b1, 0, none⟩) (n) (n)] rfl (fun _ _ => by kernel_rfl)) (c_spRTidy_no f b1 0 n n _ (hx1.at (hm2.bx 1 _ _ _ _ rfl)) (szN_ge hd1p) hok) (fun x2 b2 a11 w3 hx2 he11 hm3 => ?_)
   clear he10 hm2
   have rw2_n : Rw (x2.2) (0) (x2.1) 5 (cellsOf Ru.arr ([])) := hx2
   refine wl_val he11 rfl rfl (.slice (some ⟨b2, 0, none⟩) (0) (x2.1)) (rn_move _ (Or.inr rfl) _ (he11.tmp 18 _ rfl)) (fun a12 he12 => ?_)
   clear he11
   refine wl_end ?_
   refine wp_seqR ?_
   refine wl_val he12 rfl rfl (.slice (some ⟨b, p, none⟩) (n) (c)) (rn_move _ (Or.inl rfl) _ (he12.tmp 0 _ rfl)) (fun a13 he13 => ?_)
   clear he12
   refine wl_callN he13 hm3 3 rfl rfl rfl _ #[.slice (some ⟨b, p, none⟩) (n) (c)] (enter_call _ _ _ rfl 9 #[] #[] rfl #[.slice (some ⟨b, p, none⟩) (n) (c)] (map1 (he13.tmp 19 _ rfl)) #[.slice (some ⟨b, p, none⟩) (n) (c)] rfl (fun _ _ => by kernel_rfl)) (c_toRuleS f b p n c _ (hR.kb hm3.keep (by simp)) (szN_ge hd1p)) (fun x3 b3 a14 w4 hx3 he14 hm4 => ?_)
   clear he13 hm3
   refine wl_val he14 rfl rfl (.slice (some ⟨b3, 0, none⟩) (n) (n)) (rn_move _ (Or.inr rfl) _ (he14.tmp 20 _ rfl)) (fun a15 he15 => ?_)
   clear he14
   refine wl_end ?_
   refine wp_seqR ?_
   refine wl_val he15 rfl rfl (.slice (some ⟨b3, 0, none⟩) (n) (n)) (rn_move _ (Or.inl rfl) _ (he15.tmp 5 _ rfl)) (fun a16 he16 => ?_)
   clear he15
   refine wl_call he16 hm4 rfl rfl _ #[.slice (some ⟨b3, 0, none⟩) (n) (n)] (enter_call _ _ _ rfl 21 #[] #[] rfl #[.slice (some ⟨b3, 0, none⟩) (n) (n)] (map1 (he16.tmp 21 _ rfl)) #[.slice (some ⟨b3, 0, none⟩) (n) (n)] rfl (fun _ _ => by kernel_rfl)) (.slice (none) (0) (0)) (c_RTidy_no f b3 0 n n _ (hx3.at (hm4.bx 3 _ _ _ _ rfl)) (szN_ge hd1p) hok) (fun a17 w5 he17 hm5 => ?_)
   clear he16 hm4
   refine wl_val he17 rfl rfl (.slice (none) (0) (0)) (rn_move _ (Or.inr rfl) _ (he17.tmp 22 _ rfl)) (fun a18 he18 => ?_)
   clear he17
   refine wl_end ?_
   refine wp_seq ?_
   refine wp_seqR ?_
   refine wl_val he18 rfl rfl (.slice (none) (0) (0)) (rn_move _ (Or.inl rfl) _ (he18.tmp 6 _ rfl)) (fun a19 he19 => ?_)
   clear he18
   refine wl_val he19 rfl rfl (.slice (some ⟨b2, 0, none⟩) (0) (x2.1)) (rn_move _ (Or.inl rfl) _ (he19.tmp 4 _ rfl)) (fun a20 he20 => ?_)
   clear he19
   refine wl_call he20 hm5 rfl rfl _ #[.slice (none) (0) (0), .slice (some ⟨b2, 0, none⟩) (0) (x2.1)] (enter_call _ _ _ rfl 11 #[] #[] rfl #[.slice (none) (0) (0), .slice (some ⟨b2, 0, none⟩) (0) (x2.1)] (map2 (he20.tmp 23 _ rfl) (he20.tmp 24 _ rfl)) #[.slice (none) (0) (0), .slice (some ⟨b2, 0, none⟩) (0) (x2.1)] rfl (fun _ _ => by kernel_rfl)) (.bool true) (c_eqRuleS00 _ _ _ _ _) (fun a21 w6 he21 hm6 => ?_)
   clear he20 hm5
   refine wl_val he21 rfl rfl (.bool false) (rn_un _ _ _ rfl _ (.bool (!true)) _ (he21.tmp 25 _ rfl) rfl rfl) (fun a22 he22 => ?_)
   clear he21
   refine wl_end ?_
   refine wp_condF (he := he22) rfl ?_
   refine wp_skip ?_
   refine then_normal ?_
   refine wp_seq ?_
   refine wp_seqR ?_
   refine wl_val he22 rfl rfl (.slice (some ⟨b3, 0, none⟩) (n) (n)) (rn_move _ (Or.inl rfl) _ (he22.tmp 5 _ rfl)) (fun a23 he23 => ?_)
   clear he22
   refine wl_val he23 rfl rfl (.slice (some ⟨b, p, none⟩) (n) (c)) (rn_move _ (Or.inl rfl) _ (he23.tmp 0 _ rfl)) (fun a24 he24 => ?_)
   clear he23
   refine wl_callN he24 hm6 4 rfl rfl rfl _ #[.slice (some ⟨b, p, none⟩) (n) (c)] (enter_call _ _ _ rfl 9 #[] #[] rfl #[.slice (some ⟨b, p, none⟩) (n) (c)] (map1 (he24.tmp 28 _ rfl)) #[.slice (some ⟨b, p, none⟩) (n) (c)] rfl (fun _ _ => by kernel_rfl)) (c_toRuleS f b p n c _ (hR.kb hm6.keep (by simp)) (szN_ge hd1p)) (fun x4 b4 a25 w7 hx4 he25 hm7 => ?_)
   clear he24 hm6
   refine wl_call he25 hm7 rfl rfl _ #[.slice (some ⟨b3, 0, none⟩) (n) (n), .slice (some ⟨b4, 0, none⟩) (n) (n)] (enter_call _ _ _ rfl 11 #[] #[] rfl #[.slice (some ⟨b3, 0, none⟩) (n) (n), .slice (some ⟨b4, 0, none⟩) (n) (n)] (map2 (he25.tmp 27 _ rfl) (he25.tmp 29 _ rfl)) #[.slice (some ⟨b3, 0, none⟩) (n) (n), .slice (some ⟨b4, 0, none⟩) (n) (n)] rfl (fun _ _ => by kernel_rfl)) (.bool true) (callsV (congrArg Value.bool (eqRus_same f _)) (c_eqRuleS f f b3 0 n n b4 0 n n _ (hx3.at (hm7.bx 3 _ _ _ _ rfl)) (szN_ge hd1p) (hx4.at (hm7.bx 4 _ _ _ _ rfl)) (szN_ge hd1p))) (fun a26 w8 he26 hm8 => ?_)
   clear he25 hm7
   refine wl_val he26 rfl rfl (.bool false) (rn_un _ _ _ rfl _ (.bool (!true)) _ (he26.tmp 30 _ rfl) rfl rfl) (fun a27 he27 => ?_)
   clear he26
   refine wl_end ?_
   refine wp_condF (he := he27) rfl ?_
   refine wp_skip ?_
   refine then_normal ?_
   refine wp_seqR ?_
   refine wl_val he27 rfl rfl (.int .i64 (1)) (rn_move _ (Or.inr rfl) _ rfl) (fun a28 he28 => ?_)
   clear he27
   refine wl_end ?_
   refine wp_seqR ?_
   refine wl_val he28 rfl rfl (.slice (some ⟨b3, 0, none⟩) (n) (n)) (rn_move _ (Or.inl rfl) _ (he28.tmp 5 _ rfl)) (fun a29 he29 => ?_)
   clear he28
   refine wl_val he29 rfl rfl (.int .i64 (1)) (rn_move _ (Or.inl rfl) _ (he29.tmp 7 _ rfl)) (fun a30 he30 => ?_)
   clear he29
   refine wl_callK he30 hm8 3 rfl rfl rfl _ #[.slice (some ⟨b3, 0, none⟩) (n) (n), .int .i64 (1)] (enter_call _ _ _ rfl 17 #[] #[] rfl #[.slice (some ⟨b3, 0, none⟩) (n) (n), .int .i64 (1)] (map2 (he30.tmp 32 _ rfl) (he30.tmp 33 _ rfl)) #[.slice (some ⟨b3, 0, none⟩) (n) (n), .int .i64 (1)] rfl (fun _ _ => by kernel_rfl)) (.int .i64 (((1 + 5 * n : Nat) : Int))) (A' := markA (x3) 1 n) (c_mark (x3) b3 n n 1 _ (hm8.bx 3 _ _ _ _ rfl) (hx3.fit) (szN_ge hd1p) (by omega)) (fun a31 w9 he31 hm9 => ?_)
   clear he30 hm8
   refine wl_val he31 rfl rfl (.int .i64 (((1 + 5 * n : Nat) : Int))) (rn_move _ (Or.inr rfl) _ (he31.tmp 34 _ rfl)) (fun a32 he32 => ?_)
   clear he31
   refine wl_end ?_
   refine wp_seq ?_
   refine wp_seqR ?_
   refine wl_val he32 rfl rfl (.int .i64 (((1 + 5 * n : Nat) : Int))) (rn_move _ (Or.inl rfl) _ (he32.tmp 7 _ rfl)) (fun a33 he33 => ?_)
   clear he32
   refine wl_val he33 rfl rfl (.bool false) (rn_bin _ _ _ _ _ rfl .i64 _ _ (he33.tmp 35 _ rfl) rfl (.bool (decide (((1 + 5 * n : Nat) : Int) < 0))) _ rfl (congrArg Value.bool (hk5))) (fun a34 he34 => ?_)
   clear he33
   refine wl_val he34 rfl rfl (.bool false) (rn_move _ (Or.inl rfl) _ (he34.tmp 36 _ rfl)) (fun a35 he35 => ?_)
   clear he34
   refine wl_val he35 rfl (wanted_slot he35 2 false rfl 37 rfl false rfl true rfl) (.slice (none) (0) (0)) (rn_move _ (Or.inl rfl) _ (he35.tmp 6 _ rfl)) (fun a36 he36 => ?_)
   clear he35
   refine wl_val he36 rfl (wanted_slot he36 2 false rfl 37 rfl false rfl true rfl) (.slice (some ⟨b2, 0, none⟩) (0) (x2.1)) (rn_move _ (Or.inl rfl) _ (he36.tmp 4 _ rfl)) (fun a37 he37 => ?_)
   clear he36
   refine wl_call he37 hm9 rfl (wanted_slot he37 2 false rfl 37 rfl false rfl true rfl) _ #[.slice (none) (0) (0), .slice (some ⟨b2, 0, none⟩) (0) (x2.1)] (enter_call _ _ _ rfl 11 #[] #[] rfl #[.slice (none) (0) (0), .slice (some ⟨b2, 0, none⟩) (0) (x2.1)] (map2 (he37.tmp 38 _ rfl) (he37.tmp 39 _ rfl)) #[.slice (none) (0) (0), .slice (some ⟨b2, 0, none⟩) (0) (x2.1)] rfl (fun _ _ => by kernel_rfl)) (.bool true) (c_eqRuleS00 _ _ _ _ _) (fun a38 w10 he38 hm10 => ?_)
   clear he37 hm9
   refine wl_val he38 rfl (wanted_slot he38 2 false rfl 37 rfl false rfl true rfl) (.bool false) (rn_un _ _ _ rfl _ (.bool (!true)) _ (he38.tmp 40 _ rfl) rfl rfl) (fun a39 he39 => ?_)
   clear he38
   refine wl_val he39 rfl rfl (.bool false) (rn_pickF _ _ _ rfl (he39.tmp 37 _ rfl) _ (he39.tmp 41 _ rfl)) (fun a40 he40 => ?_)
   clear he39
   refine wl_end ?_
   refine wp_condF (he := he40) rfl ?_
   refine wp_skip ?_
   refine then_normal ?_
   refine wp_seqR ?_
   refine wl_val he40 rfl rfl (.int .i64 (1)) (rn_move _ (Or.inr rfl) _ rfl) (fun a41 he41 => ?_)
   clear he40
   refine wl_end ?_
   refine wp_seqR ?_
   refine wl_val he41 rfl rfl (.slice (none) (0) (0)) (rn_move _ (Or.inl rfl) _ (he41.tmp 6 _ rfl)) (fun a42 he42 => ?_)
   clear he41
   refine wl_val he42 rfl rfl (.int .i64 (1)) (rn_move _ (Or.inl rfl) _ (he42.tmp 8 _ rfl)) (fun a43 he43 => ?_)
   clear he42
   refine wl_call he43 hm10 rfl rfl _ #[.slice (none) (0) (0), .int .i64 (1)] (enter_call _ _ _ rfl 17 #[] #[] rfl #[.slice (none) (0) (0), .int .i64 (1)] (map2 (he43.tmp 43 _ rfl) (he43.tmp 44 _ rfl)) #[.slice (none) (0) (0), .int .i64 (1)] rfl (fun _ _ => by kernel_rfl)) (.int .i64 (1)) (c_markRu0 _ _ 1 _) (fun a44 w11 he44 hm11 => ?_)
   clear he43 hm10
   refine wl_val he44 rfl rfl (.int .i64 (1)) (rn_move _ (Or.inr rfl) _ (he44.tmp 45 _ rfl)) (fun a45 he45 => ?_)
   clear he44
   refine wl_end ?_
   refine wp_seqR ?_
   refine wl_val he45 rfl rfl (.int .i64 (1)) (rn_move _ (Or.inr rfl) _ rfl) (fun a46 he46 => ?_)
   clear he45
   refine wl_end ?_
   refine wp_seqR ?_
   refine wl_val he46 rfl rfl (.slice (none) (0) (0)) (rn_move _ (Or.inl rfl) _ (he46.tmp 6 _ rfl)) (fun a47 he47 => ?_)
   clear he46
   refine wl_val he47 rfl rfl (.int .i64 (1)) (rn_move _ (Or.inl rfl) _ (he47.tmp 9 _ rfl)) (fun a48 he48 => ?_)
   clear he47
   refine wl_call he48 hm11 rfl rfl _ #[.slice (none) (0) (0), .int .i64 (1)] (enter_call _ _ _ rfl 22 #[] #[] rfl #[.slice (none) (0) (0), .int .i64 (1)] (map2 (he48.tmp 46 _ rfl) (he48.tmp 47 _ rfl)) #[.slice (none) (0) (0), .int .i64 (1)] rfl (fun _ _ => by kernel_rfl)) (.int .i64 (1)) (c_heldRu0 _ _ 1 _) (fun a49 w12 he49 hm12 => ?_)
   clear he48 hm11
   refine wl_val he49 rfl rfl (.int .i64 (1)) (rn_move _ (Or.inr rfl) _ (he49.tmp 48 _ rfl)) (fun a50 he50 => ?_)
   clear he49
   refine wl_end ?_
   refine wp_seq ?_
   refine wp_seqR ?_
   refine wl_val he50 rfl rfl (.int .i64 (1)) (rn_move _ (Or.inl rfl) _ (he50.tmp 9 _ rfl)) (fun a51 he51 => ?_)
   clear he50
   refine wl_val he51 rfl rfl (.bool false) (rn_bin _ _ _ _ _ rfl .i64 _ _ (he51.tmp 49 _ rfl) rfl (.bool (decide (1 < 0))) _ rfl (congrArg Value.bool (rfl))) (fun a52 he52 => ?_)
   clear he51
   refine wl_end ?_
   refine wp_condF (he := he52) rfl ?_
   refine wp_skip ?_
   refine then_normal ?_
   refine wp_seq ?_
   refine wp_seqR ?_
   refine wl_val he52 rfl rfl (.int .i64 (1)) (rn_move _ (Or.inl rfl) _ (he52.tmp 9 _ rfl)) (fun a53 he53 => ?_)
   clear he52
   refine wl_val he53 rfl rfl (.int .i64 (1)) (rn_move _ (Or.inl rfl) _ (he53.tmp 8 _ rfl)) (fun a54 he54 => ?_)
   clear he53
   refine wl_val he54 rfl rfl (.bool false) (rn_bin _ _ _ _ _ rfl .i64 _ _ (he54.tmp 51 _ rfl) (he54.tmp 52 _ rfl) (.bool ((1 != 1))) _ rfl (congrArg Value.bool (rfl))) (fun a55 he55 => ?_)
   clear he54
   refine wl_end ?_
   refine wp_condF (he := he55) rfl ?_
   refine wp_skip ?_
   refine then_normal ?_
   refine wp_seqR ?_
   refine wl_val he55 rfl rfl (.slice (some ⟨b, p, none⟩) (n) (c)) (rn_move _ (Or.inl rfl) _ (he55.tmp 0 _ rfl)) (fun a56 he56 => ?_)
   clear he55
   refine wl_callN he56 hm12 5 rfl rfl rfl _ #[.slice (some ⟨b, p, none⟩) (n) (c)] (enter_call _ _ _ rfl 9 #[] #[] rfl #[.slice (some ⟨b, p, none⟩) (n) (c)] (map1 (he56.tmp 54 _ rfl)) #[.slice (some ⟨b, p, none⟩) (n) (c)] rfl (fun _ _ => by kernel_rfl)) (c_toRuleS f b p n c _ (hR.kb hm12.keep (by simp)) (szN_ge hd1p)) (fun x5 b5 a57 w13 hx5 he57 hm13 => ?_)
   clear he56 hm12
   refine wl_call he57 hm13 rfl rfl _ #[.slice (some ⟨b5, 0, none⟩) (n) (n)] (enter_call _ _ _ rfl 21 #[] #[] rfl #[.slice (some ⟨b5, 0, none⟩) (n) (n)] (map1 (he57.tmp 55 _ rfl)) #[.slice (some ⟨b5, 0, none⟩) (n) (n)] rfl (fun _ _ => by kernel_rfl)) (.slice (none) (0) (0)) (c_RTidy_no f b5 0 n n _ (hx5.at (hm13.bx 5 _ _ _ _ rfl)) (szN_ge hd1p) hok) (fun a58 w14 he58 hm14 => ?_)
   clear he57 hm13
   refine wl_val he58 rfl rfl (.slice (none) (0) (0)) (rn_move _ (Or.inr rfl) _ (he58.tmp 56 _ rfl)) (fun a59 he59 => ?_)
   clear he58
   refine wl_end ?_
   refine wp_seq ?_
   refine wp_seqR ?_
   refine wl_val he59 rfl rfl (.slice (none) (0) (0)) (rn_move _ (Or.inl rfl) _ (he59.tmp 10 _ rfl)) (fun a60 he60 => ?_)
   clear he59
   refine wl_val he60 rfl rfl (.slice (some ⟨b2, 0, none⟩) (0) (x2.1)) (rn_move _ (Or.inl rfl) _ (he60.tmp 4 _ rfl)) (fun a61 he61 => ?_)
   clear he60
   refine wl_call he61 hm14 rfl rfl _ #[.slice (none) (0) (0), .slice (some ⟨b2, 0, none⟩) (0) (x2.1)] (enter_call _ _ _ rfl 11 #[] #[] rfl #[.slice (none) (0) (0), .slice (some ⟨b2, 0, none⟩) (0) (x2.1)] (map2 (he61.tmp 57 _ rfl) (he61.tmp 58 _ rfl)) #[.slice (none) (0) (0), .slice (some ⟨b2, 0, none⟩) (0) (x2.1)] rfl (fun _ _ => by kernel_rfl)) (.bool true) (c_eqRuleS00 _ _ _ _ _) (fun a62 w15 he62 hm15 => ?_)
   clear he61 hm14
   refine wl_val he62 rfl rfl (.bool false) (rn_un _ _ _ rfl _ (.bool (!true)) _ (he62.tmp 59 _ rfl) rfl rfl) (fun a63 he63 => ?_)
   clear he62
   refine wl_end ?_
   refine wp_condF (he := he63) rfl ?_
   refine wp_skip ?_
   refine then_normal ?_
   refine wp_seqR ?_
   refine wl_val he63 rfl rfl (.int .i64 (1)) (rn_move _ (Or.inr rfl) _ rfl) (fun a64 he64 => ?_)
   clear he63
   refine wl_end ?_
   refine wp_seqR ?_
   refine wl_val he64 rfl rfl (.slice (none) (0) (0)) (rn_move _ (Or.inl rfl) _ (he64.tmp 6 _ rfl)) (fun a65 he65 => ?_)
   clear he64
   refine wl_val he65 rfl rfl (.int .i64 (1)) (rn_move _ (Or.inl rfl) _ (he65.tmp 9 _ rfl)) (fun a66 he66 => ?_)
   clear he65
   refine wl_call he66 hm15 rfl rfl _ #[.slice (none) (0) (0), .int .i64 (1)] (enter_call _ _ _ rfl 22 #[] #[] rfl #[.slice (none) (0) (0), .int .i64 (1)] (map2 (he66.tmp 61 _ rfl) (he66.tmp 62 _ rfl)) #[.slice (none) (0) (0), .int .i64 (1)] rfl (fun _ _ => by kernel_rfl)) (.int .i64 (1)) (c_heldRu0 _ _ 1 _) (fun a67 w16 he67 hm16 => ?_)
   clear he66 hm15
   refine wl_val he67 rfl rfl (.int .i64 (1)) (rn_move _ (Or.inr rfl) _ (he67.tmp 63 _ rfl)) (fun a68 he68 => ?_)
   clear he67
   refine wl_end ?_
   refine wp_seq ?_
   refine wp_seqR ?_
   refine wl_val he68 rfl rfl (.int .i64 (1)) (rn_move _ (Or.inl rfl) _ (he68.tmp 9 _ rfl)) (fun a69 he69 => ?_)
   clear he68
   refine wl_val he69 rfl rfl (.bool false) (rn_bin _ _ _ _ _ rfl .i64 _ _ (he69.tmp 64 _ rfl) rfl (.bool (decide (1 < 0))) _ rfl (congrArg Value.bool (rfl))) (fun a70 he70 => ?_)
   clear he69
   refine wl_end ?_
   refine wp_condF (he := he70) rfl ?_
   refine wp_skip ?_
   refine then_normal ?_
   refine wp_seq ?_
   refine wp_seqR ?_
   refine wl_val he70 rfl rfl (.int .i64 (1)) (rn_move _ (Or.inl rfl) _ (he70.tmp 9 _ rfl)) (fun a71 he71 => ?_)
   clear he70
   refine wl_val he71 rfl rfl (.int .i64 (1)) (rn_move _ (Or.inl rfl) _ (he71.tmp 8 _ rfl)) (fun a72 he72 => ?_)
   clear he71
   refine wl_val he72 rfl rfl (.bool false) (rn_bin _ _ _ _ _ rfl .i64 _ _ (he72.tmp 66 _ rfl) (he72.tmp 67 _ rfl) (.bool ((1 != 1))) _ rfl (congrArg Value.bool (rfl))) (fun a73 he73 => ?_)
   clear he72
   refine wl_end ?_
   refine wp_condF (he := he73) rfl ?_
   refine wp_skip ?_
   refine then_normal ?_
   refine wp_seqR ?_
   refine wl_val he73 rfl rfl (.bool true) (rn_move _ (Or.inr rfl) _ rfl) (fun a74 he74 => ?_)
   clear he73
   refine wl_end ?_
   refine wp_ret ?_
   exact bodyPost_ret (results_tmp he74 _ Try.results6 _ rfl) he74.defers ⟨rfl, hm16.below⟩
  ·
   have hd1p := of_decide_eq_true hd1
   refine wl_val he7 rfl rfl (.bool true) (rn_bin _ _ _ _ _ rfl .i64 _ _ (he7.tmp 14 _ rfl) rfl (.bool (decide (szN n < 0))) _ rfl (congrArg Value.bool (hd1))) (fun a8 he8 => ?_)
   clear he7
   refine wl_end ?_
   refine wp_condT (he := he8) rfl ?_
   refine wp_seqR ?_
   refine wl_val he8 rfl rfl (.bool true) (rn_move _ (Or.inr rfl) _ rfl) (fun a9 he9 => ?_)
   clear he8
   refine wl_end ?_
   refine wp_ret ?_
   refine ret_then ?_
   exact bodyPost_ret (results_tmp he9 _ Try.results6 _ rfl) he9.defers ⟨rfl, hm1.below⟩
theorem law_tidy_0 (f : Nat → Ru) (a : Option Addr) (c : Nat) (w : World) (hok : ruOks f 0 = true) (hem : tidM f 0 = []) :
    Calls Try.prog 6 #[.slice (a) (0) (c)] w fun e w' => e = .returned (.bool true) ∧ Below w.heap.size w w' := by
  refine calls_begin Try.func6 rfl 69 rfl (Nat.le_of_ble_eq_true rfl) [(0, .slice (a) (0) (c))] ⟨rfl, trivial⟩ (fun a0 he0 hm0 => ?_)
  have hk5 : decide (((1 + 5 * 0 : Nat) : Int) < 0) = false := decide_eq_false (by omega)
  refine wp_seqR ?_
  refine wl_val he0 rfl rfl (.bool false) (rn_move _ (Or.inr rfl) _ rfl) (fun a1 he1 => ?_)
  clear he0
  refine wl_end ?_
  refine wp_seqR ?_
  refine wl_val he1 rfl rfl (.int .i64 (1048576)) (rn_move _ (Or.inr rfl) _ rfl) (fun a2 he2 => ?_)
  clear he1
  refine wl_end ?_
  refine wp_seqR ?_
  refine wl_val he2 rfl rfl (.slice (a) (0) (c)) (rn_move _ (Or.inl rfl) _ (he2.tmp 0 _ rfl)) (fun a3 he3 => ?_)
  clear he2
  refine wl_val he3 rfl rfl (.int .i64 (1048576)) (rn_move _ (Or.inl rfl) _ (he3.tmp 3 _ rfl)) (fun a4 he4 => ?_)
  clear he3
  refine wl_call he4 hm0 rfl rfl _ #[.slice (a) (0) (c), .int .i64 (1048576)] (enter_call _ _ _ rfl 7 #[] #[] rfl #[.slice (a) (0) (c), .int .i64 (1048576)] (map2 (he4.tmp 11 _ rfl) (he4.tmp 12 _ rfl)) #[.slice (a) (0) (c), .int .i64 (1048576)] rfl (fun _ _ => by kernel_rfl)) (.int .i64 (szN 0)) (c_sz _ _ _ _ (by omega)) (fun a5 w1 he5 hm1 => ?_)
  clear he4 hm0
  refine wl_val he5 rfl rfl (.int .i64 (szN 0)) (rn_move _ (Or.inr rfl) _ (he5.tmp 13 _ rfl)) (fun a6 he6 => ?_)
  clear he5
  refine wl_end ?_
  refine wp_seq ?_
  refine wp_seqR ?_
  refine wl_val he6 rfl rfl (.int .i64 (szN 0)) (rn_move _ (Or.inl rfl) _ (he6.tmp 3 _ rfl)) (fun a7 he7 => ?_)
  clear he6
  cases hd1 : (decide (szN 0 < 0))
  ·
   have hd1p := of_decide_eq_false hd1
   refine wl_val he7 rfl rfl (.bool false) (rn_bin _ _ _ _ _ rfl .i64 _ _ (he7.tmp 14 _ rfl) rfl (.bool (decide (szN 0 < 0))) _ rfl (congrArg Value.bool (hd1))) (fun a8 he8 => ?_)
   clear he7
   refine wl_end ?_
   refine wp_condF (he := he8) rfl ?_
   refine wp_skip ?_
   refine then_normal ?_
   refine wp_seqR ?_
   refine wl_val he8 rfl rfl (.slice (a) (0) (c)) (rn_move _ (Or.inl rfl) _ (he8.tmp 0 _ rfl)) (fun a9 he9 => ?_)
   clear he8
   refine wl_callN he9 hm1 1 rfl rfl rfl _ #[.slice (a) (0) (c)] (enter_call _ _ _ rfl 9 #[] #[] rfl #[.slice (a) (0) (c)] (map1 (he9.tmp 16 _ rfl)) #[.slice (a) (0) (c)] rfl (fun _ _ => by kernel_rfl)) (c_toRuleS0 f a c _) (fun x1 b1 a10 w2 hx1 he10 hm2 => ?_)
   clear he9 hm1
   refine wl_callN he10 hm2 2 rfl rfl rfl _ #[.slice (some ⟨b1, 0, none⟩) (0) (0)] (enter_call _ _ _ rfl 20 #[] #[] rfl #[.slice (some ⟨b1, 0, none⟩) (0) (0)] (map1 (he10.tmp 17 _ rfl)) #[.slice (some ⟨b1, 0, none⟩) (0) (0)] rfl (fun _ _ => by kernel_rfl)) (c_spRTidy_nil f b1 0 0 0 _ (hx1.at (hm2.bx 1 _ _ _ _ rfl)) (by omega) hok hem) (fun x2 b2 a11 w3 hx2 he11 hm3 => ?_)
   clear he10 hm2
   have rw2_n : Rw (x2.2) (0) (x2.1) 5 (cellsOf Ru.arr ([])) := hx2
   refine wl_val he11 rfl rfl (.slice (some ⟨b2, 0, none⟩) (0) (x2.1)) (rn_move _ (Or.inr rfl) _ (he11.tmp 18 _ rfl)) (fun a12 he12 => ?_)
   clear he11
   refine wl_end ?_
   refine wp_seqR ?_
   refine wl_val he12 rfl rfl (.slice (a) (0) (c)) (rn_move _ (Or.inl rfl) _ (he12.tmp 0 _ rfl)) (fun a13 he13 => ?_)
   clear he12
   refine wl_callN he13 hm3 3 rfl rfl rfl _ #[.slice (a) (0) (c)] (enter_call _ _ _ rfl 9 #[] #[] rfl #[.slice (a) (0) (c)] (map1 (he13.tmp 19 _ rfl)) #[.slice (a) (0) (c)] rfl (fun _ _ => by kernel_rfl)) (c_toRuleS0 f a c _) (fun x3 b3 a14 w4 hx3 he14 hm4 => ?_)
   clear he13 hm3
   refine wl_val he14 rfl rfl (.slice (some ⟨b3, 0, none⟩) (0) (0)) (rn_move _ (Or.inr rfl) _ (he14.tmp 20 _ rfl)) (fun a15 he15 => ?_)
   clear he14
   refine wl_end ?_
   refine wp_seqR ?_
   refine wl_val he15 rfl rfl (.slice (some ⟨b3, 0, none⟩) (0) (0)) (rn_move _ (Or.inl rfl) _ (he15.tmp 5 _ rfl)) (fun a16 he16 => ?_)
   clear he15
   refine wl_call he16 hm4 rfl rfl _ #[.slice (some ⟨b3, 0, none⟩) (0) (0)] (enter_call _ _ _ rfl 21 #[] #[] rfl #[.slice (some ⟨b3, 0, none⟩) (0) (0)] (map1 (he16.tmp 21 _ rfl)) #[.slice (some ⟨b3, 0, none⟩) (0) (0)] rfl (fun _ _ => by kernel_rfl)) (.slice (none) (0) (0)) (c_RTidy_nil f b3 0 0 0 _ (hx3.at (hm4.bx 3 _ _ _ _ rfl)) (by omega) hok hem) (fun a17 w5 he17 hm5 => ?_)
   clear he16 hm4
   refine wl_val he17 rfl rfl (.slice (none) (0) (0)) (rn_move _ (Or.inr rfl) _ (he17.tmp 22 _ rfl)) (fun a18 he18 => ?_)
   clear he17
   refine wl_end ?_
   refine wp_seq ?_
   refine wp_seqR ?_
   refine wl_val he18 rfl rfl (.slice (none) (0) (0)) (rn_move _ (Or.inl rfl) _ (he18.tmp 6 _ rfl)) (fun a19 he19 => ?_)
   clear he18
   refine wl_val he19 rfl rfl (.slice (some ⟨b2, 0, none⟩) (0) (x2.1)) (rn_move _ (Or.inl rfl) _ (he19.tmp 4 _ rfl)) (fun a20 he20 => ?_)
   clear he19
   refine wl_call he20 hm5 rfl rfl _ #[.slice (none) (0) (0), .slice (some ⟨b2, 0, none⟩) (0) (x2.1)] (enter_call _ _ _ rfl 11 #[] #[] rfl #[.slice (none) (0) (0), .slice (some ⟨b2, 0, none⟩) (0) (x2.1)] (map2 (he20.tmp 23 _ rfl) (he20.tmp 24 _ rfl)) #[.slice (none) (0) (0), .slice (some ⟨b2, 0, none⟩) (0) (x2.1)] rfl (fun _ _ => by kernel_rfl)) (.bool true) (c_eqRuleS00 _ _ _ _ _) (fun a21 w6 he21 hm6 => ?_)
   clear he20 hm5
   refine wl_val he21 rfl rfl (.bool false) (rn_un _ _ _ rfl _ (.bool (!true)) _ (he21.tmp 25 _ rfl) rfl rfl) (fun a22 he22 => ?_)
   clear he21
   refine wl_end ?_
   refine wp_condF (he := he22) rfl ?_
   refine wp_skip ?_
   refine then_normal ?_
   refine wp_seq ?_
   refine wp_seqR ?_
   refine wl_val he22 rfl rfl (.slice (some ⟨b3, 0, none⟩) (0) (0)) (rn_move _ (Or.inl rfl) _ (he22.tmp 5 _ rfl)) (fun a23 he23 => ?_)
   clear he22
   refine wl_val he23 rfl rfl (.slice (a) (0) (c)) (rn_move _ (Or.inl rfl) _ (he23.tmp 0 _ rfl)) (fun a24 he24 => ?_)
   clear he23
   refine wl_callN he24 hm6 4 rfl rfl rfl _ #[.slice (a) (0) (c)] (enter_call _ _ _ rfl 9 #[] #[] rfl #[.slice (a) (0) (c)] (map1 (he24.tmp 28 _ rfl)) #[.slice (a) (0) (c)] rfl (fun _ _ => by kernel_rfl)) (c_toRuleS0 f a c _) (fun x4 b4 a25 w7 hx4 he25 hm7 => ?_)
   clear he24 hm6
   refine wl_call he25 hm7 rfl rfl _ #[.slice (some ⟨b3, 0, none⟩) (0) (0), .slice (some ⟨b4, 0, none⟩) (0) (0)] (enter_call _ _ _ rfl 11 #[] #[] rfl #[.slice (some ⟨b3, 0, none⟩) (0) (0), .slice (some ⟨b4, 0, none⟩) (0) (0)] (map2 (he25.tmp 27 _ rfl) (he25.tmp 29 _ rfl)) #[.slice (some ⟨b3, 0, none⟩) (0) (0), .slice (some ⟨b4, 0, none⟩) (0) (0)] rfl (fun _ _ => by kernel_rfl)) (.bool true) (callsV (congrArg Value.bool (eqRus_same f _)) (c_eqRuleS f f b3 0 0 0 b4 0 0 0 _ (hx3.at (hm7.bx 3 _ _ _ _ rfl)) (by omega) (hx4.at (hm7.bx 4 _ _ _ _ rfl)) (by omega))) (fun a26 w8 he26 hm8 => ?_)
   clear he25 hm7
   refine wl_val he26 rfl rfl (.bool false) (rn_un _ _ _ rfl _ (.bool (!true)) _ (he26.tmp 30 _ rfl) rfl rfl) (fun a27 he27 => ?_)
   clear he26
   refine wl_end ?_
   refine wp_condF (he := he27) rfl ?_
   refine wp_skip ?_
   refine then_normal ?_
   refine wp_seqR ?_
   refine wl_val he27 rfl rfl (.int .i64 (1)) (rn_move _ (Or.inr rfl) _ rfl) (fun a28 he28 => ?_)
   clear he27
   refine wl_end ?_
   refine wp_seqR ?_
   refine wl_val he28 rfl rfl (.slice (some ⟨b3, 0, none⟩) (0) (0)) (rn_move _ (Or.inl rfl) _ (he28.tmp 5 _ rfl)) (fun a29 he29 => ?_)
   clear he28
   refine wl_val he29 rfl rfl (.int .i64 (1)) (rn_move _ (Or.inl rfl) _ (he29.tmp 7 _ rfl)) (fun a30 he30 => ?_)
   clear he29
   refine wl_callK he30 hm8 3 rfl rfl rfl _ #[.slice (some ⟨b3, 0, none⟩) (0) (0), .int .i64 (1)] (enter_call _ _ _ rfl 17 #[] #[] rfl #[.slice (some ⟨b3, 0, none⟩) (0) (0), .int .i64 (1)] (map2 (he30.tmp 32 _ rfl) (he30.tmp 33 _ rfl)) #[.slice (some ⟨b3, 0, none⟩) (0) (0), .int .i64 (1)] rfl (fun _ _ => by kernel_rfl)) (.int .i64 (((1 + 5 * 0 : Nat) : Int))) (A' := markA (x3) 1 0) (c_mark (x3) b3 0 0 1 _ (hm8.bx 3 _ _ _ _ rfl) (hx3.fit) (by omega) (by omega)) (fun a31 w9 he31 hm9 => ?_)
   clear he30 hm8
   refine wl_val he31 rfl rfl (.int .i64 (((1 + 5 * 0 : Nat) : Int))) (rn_move _ (Or.inr rfl) _ (he31.tmp 34 _ rfl)) (fun a32 he32 => ?_)
   clear he31
   refine wl_end ?_
   refine wp_seq ?_
   refine wp_seqR ?_
   refine wl_val he32 rfl rfl (.int .i64 (((1 + 5 * 0 : Nat) : Int))) (rn_move _ (Or.inl rfl) _ (he32.tmp 7 _ rfl)) (fun a33 he33 => ?_)
   clear he32
   refine wl_val he33 rfl rfl (.bool false) (rn_bin _ _ _ _ _ rfl .i64 _ _ (he33.tmp 35 _ rfl) rfl (.bool (decide (((1 + 5 * 0 : Nat) : Int) < 0))) _ rfl (congrArg Value.bool (hk5))) (fun a34 he34 => ?_)
   clear he33
   refine wl_val he34 rfl rfl (.bool false) (rn_move _ (Or.inl rfl) _ (he34.tmp 36 _ rfl)) (fun a35 he35 => ?_)
   clear he34
   refine wl_val he35 rfl (wanted_slot he35 2 false rfl 37 rfl false rfl true rfl) (.slice (none) (0) (0)) (rn_move _ (Or.inl rfl) _ (he35.tmp 6 _ rfl)) (fun a36 he36 => ?_)
   clear he35
   refine wl_val he36 rfl (wanted_slot he36 2 false rfl 37 rfl false rfl true rfl) (.slice (some ⟨b2, 0, none⟩) (0) (x2.1)) (rn_move _ (Or.inl rfl) _ (he36.tmp 4 _ rfl)) (fun a37 he37 => ?_)
   clear he36
   refine wl_call he37 hm9 rfl (wanted_slot he37 2 false rfl 37 rfl false rfl true rfl) _ #[.slice (none) (0) (0), .slice (some ⟨b2, 0, none⟩) (0) (x2.1)] (enter_call _ _ _ rfl 11 #[] #[] rfl #[.slice (none) (0) (0), .slice (some ⟨b2, 0, none⟩) (0) (x2.1)] (map2 (he37.tmp 38 _ rfl) (he37.tmp 39 _ rfl)) #[.slice (none) (0) (0), .slice (some ⟨b2, 0, none⟩) (0) (x2.1)] rfl (fun _ _ => by kernel_rfl)) (.bool true) (c_eqRuleS00 _ _ _ _ _) (fun a38 w10 he38 hm10 => ?_)
   clear he37 hm9
   refine wl_val he38 rfl (wanted_slot he38 2 false rfl 37 rfl false rfl true rfl) (.bool false) (rn_un _ _ _ rfl _ (.bool (!true)) _ (he38.tmp 40 _ rfl) rfl rfl) (fun a39 he39 => ?_)
   clear he38
   refine wl_val he39 rfl rfl (.bool false) (rn_pickF _ _ _ rfl (he39.tmp 37 _ rfl) _ (he39.tmp 41 _ rfl)) (fun a40 he40 => ?_)
   clear he39
   refine wl_end ?_
   refine wp_condF (he := he40) rfl ?_
   refine wp_skip ?_
   refine then_normal ?_
   refine wp_seqR ?_
   refine wl_val he40 rfl rfl (.int .i64 (1)) (rn_move _ (Or.inr rfl) _ rfl) (fun a41 he41 => ?_)
   clear he40
   refine wl_end ?_
   refine wp_seqR ?_
   refine wl_val he41 rfl rfl (.slice (none) (0) (0)) (rn_move _ (Or.inl rfl) _ (he41.tmp 6 _ rfl)) (fun a42 he42 => ?_)
   clear he41
   refine wl_val he42 rfl rfl (.int .i64 (1)) (rn_move _ (Or.inl rfl) _ (he42.tmp 8 _ rfl)) (fun a43 he43 => ?_)
   clear he42
   refine wl_call he43 hm10 rfl rfl _ #[.slice (none) (0) (0), .int .i64 (1)] (enter_call _ _ _ rfl 17 #[] #[] rfl #[.slice (none) (0) (0), .int .i64 (1)] (map2 (he43.tmp 43 _ rfl) (he43.tmp 44 _ rfl)) #[.slice (none) (0) (0), .int .i64 (1)] rfl (fun _ _ => by kernel_rfl)) (.int .i64 (1)) (c_markRu0 _ _ 1 _) (fun a44 w11 he44 hm11 => ?_)
   clear he43 hm10
   refine wl_val he44 rfl rfl (.int .i64 (1)) (rn_move _ (Or.inr rfl) _ (he44.tmp 45 _ rfl)) (fun a45 he45 => ?_)
   clear he44
   refine wl_end ?_
   refine wp_seqR ?_
   refine wl_val he45 rfl rfl (.int .i64 (1)) (rn_move _ (Or.inr rfl) _ rfl) (fun a46 he46 => ?_)
   clear he45
   refine wl_end ?_
   refine wp_seqR ?_
   refine wl_val he46 rfl rfl (.slice (none) (0) (0)) (rn_move _ (Or.inl rfl) _ (he46.tmp 6 _ rfl)) (fun a47 he47 => ?_)
   clear he46
   refine wl_val he47 rfl rfl (.int .i64 (1)) (rn_move _ (Or.inl rfl) _ (he47.tmp 9 _ rfl)) (fun a48 he48 => ?_)
   clear he47
   refine wl_call he48 hm11 rfl rfl _ #[.slice (none) (0) (0), .int .i64 (1)] (enter_call _ _ _ rfl 22 #[] #[] rfl #[.slice (none) (0) (0), .int .i64 (1)] (map2 (he48.tmp 46 _ rfl) (he48.tmp 47 _ rfl)) #[.slice (none) (0) (0), .int .i64 (1)] rfl (fun _ _ => by kernel_rfl)) (.int .i64 (1)) (c_heldRu0 _ _ 1 _) (fun a49 w12 he49 hm12 => ?_)
   clear he48 hm11
   refine wl_val he49 rfl rfl (.int .i64 (1)) (rn_move _ (Or.inr rfl) _ (he49.tmp 48 _ rfl)) (fun a50 he50 => ?_)
   clear he49
   refine wl_end ?_
   refine wp_seq ?_
   refine wp_seqR ?_
   refine wl_val he50 rfl rfl (.int .i64 (1)) (rn_move _ (Or.inl rfl) _ (he50.tmp 9 _ rfl)) (fun a51 he51 => ?_)
   clear he50
   refine wl_val he51 rfl rfl (.bool false) (rn_bin _ _ _ _ _ rfl .i64 _ _ (he51.tmp 49 _ rfl) rfl (.bool (decide (1 < 0))) _ rfl (congrArg Value.bool (rfl))) (fun a52 he52 => ?_)
   clear he51
   refine wl_end ?_
   refine wp_condF (he := he52) rfl ?_
   refine wp_skip ?_
   refine then_normal ?_
   refine wp_seq ?_
   refine wp_seqR ?_
   refine wl_val he52 rfl rfl (.int .i64 (1)) (rn_move _ (Or.inl rfl) _ (he52.tmp 9 _ rfl)) (fun a53 he53 => ?_)
   clear he52
   refine wl_val he53 rfl rfl (.int .i64 (1)) (rn_move _ (Or.inl rfl) _ (he53.tmp 8 _ rfl)) (fun a54 he54 => ?_)
   clear he53
   refine wl_val he54 rfl rfl (.bool false) (rn_bin _ _ _ _ _ rfl .i64 _ _ (he54.tmp 51 _ rfl) (he54.tmp 52 _ rfl) (.bool ((1 != 1))) _ rfl (congrArg Value.bool (rfl))) (fun a55 he55 => ?_)
   clear he54
   refine wl_end ?_
   refine wp_condF (he := he55) rfl ?_
   refine wp_skip ?_
   refine then_normal ?_
   refine wp_seqR ?_
   refine wl_val he55 rfl rfl (.slice (a) (0) (c)) (rn_move _ (Or.inl rfl) _ (he55.tmp 0 _ rfl)) (fun a56 he56 => ?_)
   clear he55
   refine wl_callN he56 hm12 5 rfl rfl rfl _ #[.slice (a) (0) (c)] (enter_call _ _ _ rfl 9 #[] #[] rfl #[.slice (a) (0) (c)] (map1 (he56.tmp 54 _ rfl)) #[.slice (a) (0) (c)] rfl (fun _ _ => by kernel_rfl)) (c_toRuleS0 f a c _) (fun x5 b5 a57 w13 hx5 he57 hm13 => ?_)
   clear he56 hm12
   refine wl_call he57 hm13 rfl rfl _ #[.slice (some ⟨b5, 0, none⟩) (0) (0)] (enter_call _ _ _ rfl 21 #[] #[] rfl #[.slice (some ⟨b5, 0, none⟩) (0) (0)] (map1 (he57.tmp 55 _ rfl)) #[.slice (some ⟨b5, 0, none⟩) (0) (0)] rfl (fun _ _ => by kernel_rfl)) (.slice (none) (0) (0)) (c_RTidy_nil f b5 0 0 0 _ (hx5.at (hm13.bx 5 _ _ _ _ rfl)) (by omega) hok hem) (fun a58 w14 he58 hm14 => ?_)
   clear he57 hm13
   refine wl_val he58 rfl rfl (.slice (none) (0) (0)) (rn_move _ (Or.inr rfl) _ (he58.tmp 56 _ rfl)) (fun a59 he59 => ?_)
   clear he58
   refine wl_end ?_
   refine wp_seq ?_
   refine wp_seqR ?_
   refine wl_val he59 rfl rfl (.slice (none) (0) (0)) (rn_move _ (Or.inl rfl) _ (he59.tmp 10 _ rfl)) (fun a60 he60 => ?_)
   clear he59
   refine wl_val he60 rfl rfl (.slice (some ⟨b2, 0, none⟩) (0) (x2.1)) (rn_move _ (Or.inl rfl) _ (he60.tmp 4 _ rfl)) (fun a61 he61 => ?_)
   clear he60
   refine wl_call he61 hm14 rfl rfl _ #[.slice (none) (0) (0), .slice (some ⟨b2, 0, none⟩) (0) (x2.1)] (enter_call _ _ _ rfl 11 #[] #[] rfl #[.slice (none) (0) (0), .slice (some ⟨b2, 0, none⟩) (0) (x2.1)] (map2 (he61.tmp 57 _ rfl) (he61.tmp 58 _ rfl)) #[.slice (none) (0) (0), .slice (some ⟨b2, 0, none⟩) (0) (x2.1)] rfl (fun _ _ => by kernel_rfl)) (.bool true) (c_eqRuleS00 _ _ _ _ _) (fun a62 w15 he62 hm15 => ?_)
   clear he61 hm14
   refine wl_val he62 rfl rfl (.bool false) (rn_un _ _ _ rfl _ (.bool (!true)) _ (he62.tmp 59 _ rfl) rfl rfl) (fun a63 he63 => ?_)
   clear he62
   refine wl_end ?_
   refine wp_condF (he := he63) rfl ?_
   refine wp_skip ?_
   refine then_normal ?_
   refine wp_seqR ?_
   refine wl_val he63 rfl rfl (.int .i64 (1)) (rn_move _ (Or.inr rfl) _ rfl) (fun a64 he64 => ?_)
   clear he63
   refine wl_end ?_
   refine wp_seqR ?_
   refine wl_val he64 rfl rfl (.slice (none) (0) (0)) (rn_move _ (Or.inl rfl) _ (he64.tmp 6 _ rfl)) (fun a65 he65 => ?_)
   clear he64
   refine wl_val he65 rfl rfl (.int .i64 (1)) (rn_move _ (Or.inl rfl) _ (he65.tmp 9 _ rfl)) (fun a66 he66 => ?_)
   clear he65
   refine wl_call he66 hm15 rfl rfl _ #[.slice (none) (0) (0), .int .i64 (1)] (enter_call _ _ _ rfl 22 #[] #[] rfl #[.slice (none) (0) (0), .int .i64 (1)] (map2 (he66.tmp 61 _ rfl) (he66.tmp 62 _ rfl)) #[.slice (none) (0) (0), .int .i64 (1)] rfl (fun _ _ => by kernel_rfl)) (.int .i64 (1)) (c_heldRu0 _ _ 1 _) (fun a67 w16 he67 hm16 => ?_)
   clear he66 hm15
   refine wl_val he67 rfl rfl (.int .i64 (1)) (rn_move _ (Or.inr rfl) _ (he67.tmp 63 _ rfl)) (fun a68 he68 => ?_)
   clear he67
   refine wl_end ?_
   refine wp_seq ?_
   refine wp_seqR ?_
   refine wl_val he68 rfl rfl (.int .i64 (1)) (rn_move _ (Or.inl rfl) _ (he68.tmp 9 _ rfl)) (fun a69 he69 => ?_)
   clear he68
   refine wl_val he69 rfl rfl (.bool false) (rn_bin _ _ _ _ _ rfl .i64 _ _ (he69.tmp 64 _ rfl) rfl (.bool (decide (1 < 0))) _ rfl (congrArg Value.bool (rfl))) (fun a70 he70 => ?_)
   clear he69
   refine wl_end ?_
   refine wp_condF (he := he70) rfl ?_
   refine wp_skip ?_
   refine then_normal ?_
   refine wp_seq ?_
   refine wp_seqR ?_
   refine wl_val he70 rfl rfl (.int .i64 (1)) (rn_move _ (Or.inl rfl) _ (he70.tmp 9 _ rfl)) (fun a71 he71 => ?_)
   clear he70
   refine wl_val he71 rfl rfl (.int .i64 (1)) (rn_move _ (Or.inl rfl) _ (he71.tmp 8 _ rfl)) (fun a72 he72 => ?_)
   clear he71
   refine wl_val he72 rfl rfl (.bool false) (rn_bin _ _ _ _ _ rfl .i64 _ _ (he72.tmp 66 _ rfl) (he72.tmp 67 _ rfl) (.bool ((1 != 1))) _ rfl (congrArg Value.bool (rfl))) (fun a73 he73 => ?_)
   clear he72
   refine wl_end ?_
   refine wp_condF (he := he73) rfl ?_
   refine wp_skip ?_
   refine then_normal ?_
   refine wp_seqR ?_
   refine wl_val he73 rfl rfl (.bool true) (rn_move _ (Or.inr rfl) _ rfl) (fun a74 he74 => ?_)
   clear he73
   refine wl_end ?_
   refine wp_ret ?_
   exact bodyPost_ret (results_tmp he74 _ Try.results6 _ rfl) he74.defers ⟨rfl, hm16.below⟩
  ·
   have hd1p := of_decide_eq_true hd1
   refine wl_val he7 rfl rfl (.bool true) (rn_bin _ _ _ _ _ rfl .i64 _ _ (he7.tmp 14 _ rfl) rfl (.bool (decide (szN 0 < 0))) _ rfl (congrArg Value.bool (hd1))) (fun a8 he8 => ?_)
   clear he7
   refine wl_end ?_
   refine wp_condT (he := he8) rfl ?_
   refine wp_seqR ?_
   refine wl_val he8 rfl rfl (.bool true) (rn_move _ (Or.inr rfl) _ rfl) (fun a9 he9 => ?_)
   clear he8
   refine wl_end ?_
   refine wp_ret ?_
   refine ret_then ?_
   exact bodyPost_ret (results_tmp he9 _ Try.results6 _ rfl) he9.defers ⟨rfl, hm1.below⟩
theorem law_tidy (f : Nat → Ru) (a : Option Addr) (n c : Nat) (w : World) (hm : n ≤ maxLen) (hr : ArgRu w a n f) : Calls Try.prog 6 #[.slice a n c] w fun e w' => e = .returned (.bool true) ∧ Below w.heap.size w w' := by
  rcases hr with rfl | ⟨b, p, rfl, hR⟩
  · exact law_tidy_0 f a c w rfl rfl
  · have hm' : n ≤ 9223372036854775807 := by simpa [maxLen] using hm
    cases hok : ruOks f n
    · exact law_tidy_n f b p n c w hR hm' hok
    · by_cases hem : tidM f n = []
      · exact law_tidy_e f b p n c w hR hm' hok hem
      · exact law_tidy_y f b p n c w hR hm' hok hem
end Go.Proofs.Ytcopcajleonndaa
