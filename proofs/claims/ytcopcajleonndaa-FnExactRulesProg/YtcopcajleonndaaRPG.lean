/- Rules' programs, by both. -/
import Derived.Test.YtcopcajleonndaaIVW
import Derived.Test.YtcopcajleonndaaRA2
namespace Go.Proofs.Ytcopcajleonndaa
open Go.RowKit
set_option linter.unusedVariables false
set_option linter.unusedSimpArgs false
def endL (v : Int) : List Iv := [⟨1, 0, (-1), 0, v, 0⟩, ⟨20, 0, (-1), 0, 0, 0⟩]
def sendL (k : Int) : List Iv := [⟨1, 1, (-1), 0, k, 0⟩, ⟨19, 0, (-1), 0, 6, 0⟩]
def todoL (r : Ru) : List Iv := if r.ver == 2 then sendL r.key ++ endL r.ver else endL r.ver
def askL (r : Ru) (k : Int) : List Iv := [⟨17, 2, 6, r.at_, 0, 1⟩, ⟨r.op, 2, (-1), 1, r.num, 0⟩, ⟨16, 0, (-1), k, 0, 0⟩]
/-- The ops of a rule. -/
def ruleL (r : Ru) : List Iv := askL r ((todoL r).length : Nat) ++ todoL r
theorem ruleL_le (r : Ru) : (ruleL r).length ≤ 7 := by
  unfold ruleL todoL; split <;> simp [askL, sendL, endL]
/-- The ops of the first rules. -/
def progL (f : Nat → Ru) : Nat → List Iv
  | 0 => [⟨1, 6, 1, 0, 0, 0⟩]
  | i + 1 => progL f i ++ ruleL (f i)
theorem progL_le (f : Nat → Ru) : ∀ i, (progL f i).length ≤ 1 + 7 * i
  | 0 => by simp [progL]
  | i + 1 => by
    have := progL_le f i; have := ruleL_le (f i)
    rw [progL, List.length_append]; omega
/-- The program of rules. -/
def progM (f : Nat → Ru) (n : Nat) : List Iv := progL f n ++ endL 1
theorem progM_le (f : Nat → Ru) (n : Nat) : (progM f n).length ≤ 3 + 7 * n := by
  have := progL_le f n
  rw [progM, List.length_append]; simp [endL]; omega
/-- The answer is a new row of ops. -/
abbrev NewIv (w : World) (L : List Iv) (e : Ending) (w' : World) : Prop :=
  NewRow w (fun (x : Nat × Array Value) b => .slice (some ⟨b, 0, none⟩) L.length x.1) 48 (fun x => x.2) (fun x => Rw x.2 L.length x.1 6 (cellsOf Iv.arr L)) e w'
theorem c_endOps (v : Int) (w : World)  :
    Calls Try.prog 31 #[.int .i64 (v)] w fun e w' => NewIv w (endL v) e w' := by
  refine calls_begin Try.func31 rfl 7 rfl (Nat.le_of_ble_eq_true rfl) [(0, .int .i64 (v))] ⟨rfl, trivial⟩ (fun a0 he0 hm0 => ?_)
  refine wp_seqR ?_
  refine wl_val he0 rfl rfl (.slice none 0 0) (rn_move _ (Or.inr rfl) _ rfl) (fun a1 he1 => ?_)
  clear he0
  refine wl_end ?_
  refine wp_seqR ?_
  refine wl_val he1 rfl rfl (.int .i64 (v)) (rn_move _ (Or.inl rfl) _ (he1.tmp 0 _ rfl)) (fun a2 he2 => ?_)
  clear he1
  refine wl_val he2 rfl rfl (.agg (Iv.arr ((⟨1, 0, (-1), 0, v, 0⟩ : Iv)))) (rn_build _ _ rfl #[(0, .int .i64 (1)), (2, .int .i64 ((-1))), (4, .int .i64 (v))] (pmap3 rfl rfl (he2.tmp 3 _ rfl)) _ (by kernel_rfl)) (fun a3 he3 => ?_)
  clear he2
  refine wl_val he3 rfl rfl (.agg (Iv.arr ((⟨20, 0, (-1), 0, 0, 0⟩ : Iv)))) (rn_build _ _ rfl #[(0, .int .i64 (20)), (2, .int .i64 ((-1)))] (pmap2 rfl rfl) _ (by kernel_rfl)) (fun a4 he4 => ?_)
  clear he3
  refine wl_buildSlice he4 hm0 1 rfl rfl rfl _ _ _ rfl #[(0, .agg (Iv.arr ((⟨1, 0, (-1), 0, v, 0⟩ : Iv)))), (1, .agg (Iv.arr ((⟨20, 0, (-1), 0, 0, 0⟩ : Iv))))] (pmap2 (he4.tmp 4 _ rfl) (he4.tmp 5 _ rfl)) 48 ((cellsOf Iv.arr [(⟨1, 0, (-1), 0, v, 0⟩ : Iv), (⟨20, 0, (-1), 0, 0, 0⟩ : Iv)]).toArray) (by kernel_rfl) (fun a5 w1 b1 he5 hm1 => ?_)
  clear he4 hm0
  have rw1_0 : Rw ((cellsOf Iv.arr [(⟨1, 0, (-1), 0, v, 0⟩ : Iv), (⟨20, 0, (-1), 0, 0, 0⟩ : Iv)]).toArray) 2 2 6 (cellsOf Iv.arr ([(⟨1, 0, (-1), 0, v, 0⟩ : Iv), (⟨20, 0, (-1), 0, 0, 0⟩ : Iv)])) := Rw.lits Iv.sz [(⟨1, 0, (-1), 0, v, 0⟩ : Iv), (⟨20, 0, (-1), 0, 0, 0⟩ : Iv)] (by simp [maxLen])
  refine wl_val he5 rfl rfl (.slice (some ⟨b1, 0, none⟩) (2) (2)) (rn_move _ (Or.inr rfl) _ (he5.tmp 6 _ rfl)) (fun a6 he6 => ?_)
  clear he5
  refine wl_end ?_
  refine wp_ret ?_
  have hN : 2 = (endL v).length := (by simp [endL, ])
  have hL : cellsOf Iv.arr ([(⟨1, 0, (-1), 0, v, 0⟩ : Iv), (⟨20, 0, (-1), 0, 0, 0⟩ : Iv)]) = cellsOf Iv.arr (endL v) := congrArg _ (by simp [endL, ])
  exact bodyPost_ret (results_tmp he6 _ Try.results31 _ rfl) he6.defers ⟨(2, (cellsOf Iv.arr [(⟨1, 0, (-1), 0, v, 0⟩ : Iv), (⟨20, 0, (-1), 0, 0, 0⟩ : Iv)]).toArray), _, congrArg (fun k => Ending.returned (.slice (some ⟨b1, 0, none⟩) k (2))) hN, hm1.bx 1 _ _ _ _ rfl, rw1_0.cast hN hL, by have := hm1.own 1 _ rfl rfl; simpa using this, hm1.below⟩
theorem c_sendOps (v : Int) (w : World)  :
    Calls Try.prog 46 #[.int .i64 (v)] w fun e w' => NewIv w (sendL v) e w' := by
  refine calls_begin Try.func46 rfl 7 rfl (Nat.le_of_ble_eq_true rfl) [(0, .int .i64 (v))] ⟨rfl, trivial⟩ (fun a0 he0 hm0 => ?_)
  refine wp_seqR ?_
  refine wl_val he0 rfl rfl (.slice none 0 0) (rn_move _ (Or.inr rfl) _ rfl) (fun a1 he1 => ?_)
  clear he0
  refine wl_end ?_
  refine wp_seqR ?_
  refine wl_val he1 rfl rfl (.int .i64 (v)) (rn_move _ (Or.inl rfl) _ (he1.tmp 0 _ rfl)) (fun a2 he2 => ?_)
  clear he1
  refine wl_val he2 rfl rfl (.agg (Iv.arr ((⟨1, 1, (-1), 0, v, 0⟩ : Iv)))) (rn_build _ _ rfl #[(0, .int .i64 (1)), (1, .int .i64 (1)), (2, .int .i64 ((-1))), (4, .int .i64 (v))] (pmap4 rfl rfl rfl (he2.tmp 3 _ rfl)) _ (by kernel_rfl)) (fun a3 he3 => ?_)
  clear he2
  refine wl_val he3 rfl rfl (.agg (Iv.arr ((⟨19, 0, (-1), 0, 6, 0⟩ : Iv)))) (rn_build _ _ rfl #[(0, .int .i64 (19)), (2, .int .i64 ((-1))), (4, .int .i64 (6))] (pmap3 rfl rfl rfl) _ (by kernel_rfl)) (fun a4 he4 => ?_)
  clear he3
  refine wl_buildSlice he4 hm0 1 rfl rfl rfl _ _ _ rfl #[(0, .agg (Iv.arr ((⟨1, 1, (-1), 0, v, 0⟩ : Iv)))), (1, .agg (Iv.arr ((⟨19, 0, (-1), 0, 6, 0⟩ : Iv))))] (pmap2 (he4.tmp 4 _ rfl) (he4.tmp 5 _ rfl)) 48 ((cellsOf Iv.arr [(⟨1, 1, (-1), 0, v, 0⟩ : Iv), (⟨19, 0, (-1), 0, 6, 0⟩ : Iv)]).toArray) (by kernel_rfl) (fun a5 w1 b1 he5 hm1 => ?_)
  clear he4 hm0
  have rw1_0 : Rw ((cellsOf Iv.arr [(⟨1, 1, (-1), 0, v, 0⟩ : Iv), (⟨19, 0, (-1), 0, 6, 0⟩ : Iv)]).toArray) 2 2 6 (cellsOf Iv.arr ([(⟨1, 1, (-1), 0, v, 0⟩ : Iv), (⟨19, 0, (-1), 0, 6, 0⟩ : Iv)])) := Rw.lits Iv.sz [(⟨1, 1, (-1), 0, v, 0⟩ : Iv), (⟨19, 0, (-1), 0, 6, 0⟩ : Iv)] (by simp [maxLen])
  refine wl_val he5 rfl rfl (.slice (some ⟨b1, 0, none⟩) (2) (2)) (rn_move _ (Or.inr rfl) _ (he5.tmp 6 _ rfl)) (fun a6 he6 => ?_)
  clear he5
  refine wl_end ?_
  refine wp_ret ?_
  have hN : 2 = (sendL v).length := (by simp [sendL, ])
  have hL : cellsOf Iv.arr ([(⟨1, 1, (-1), 0, v, 0⟩ : Iv), (⟨19, 0, (-1), 0, 6, 0⟩ : Iv)]) = cellsOf Iv.arr (sendL v) := congrArg _ (by simp [sendL, ])
  exact bodyPost_ret (results_tmp he6 _ Try.results46 _ rfl) he6.defers ⟨(2, (cellsOf Iv.arr [(⟨1, 1, (-1), 0, v, 0⟩ : Iv), (⟨19, 0, (-1), 0, 6, 0⟩ : Iv)]).toArray), _, congrArg (fun k => Ending.returned (.slice (some ⟨b1, 0, none⟩) k (2))) hN, hm1.bx 1 _ _ _ _ rfl, rw1_0.cast hN hL, by have := hm1.own 1 _ rfl rfl; simpa using this, hm1.below⟩
theorem c_ruleOps (r : Ru) (w : World)  :
    Calls Try.prog 30 #[.agg (Ru.arr (r))] w fun e w' => NewIv w (ruleL r) e w' := by
  refine calls_begin Try.func30 rfl 31 rfl (Nat.le_of_ble_eq_true rfl) [(0, .agg (Ru.arr (r)))] ⟨rfl, trivial⟩ (fun a0 he0 hm0 => ?_)
  refine wp_seqR ?_
  refine wl_box he0 hm0 1 rfl rfl rfl _ _ rfl _ (he0.tmp 0 _ rfl) (Ru.arr (r)) rfl (fun a1 w1 b1 he1 hm1 => ?_)
  clear he0 hm0
  refine wl_val he1 rfl rfl (.slice none 0 0) (rn_move _ (Or.inr rfl) _ rfl) (fun a2 he2 => ?_)
  clear he1
  refine wl_end ?_
  refine wp_seqR ?_
  refine wl_val he2 rfl rfl (.pointer (some ⟨b1, 3, none⟩)) (rn_field _ _ _ rfl _ (.pointer (some ⟨b1, 3, none⟩)) (he2.tmp 1 _ rfl) (by kernel_rfl)) (fun a3 he3 => ?_)
  clear he2
  refine wl_val he3 rfl rfl (.int .i64 ((r).ver)) (rn_load1 hm1 1 rfl _ _ rfl (3) (he3.tmp 5 _ rfl) one3 _ rfl) (fun a4 he4 => ?_)
  clear he3
  refine wl_callN he4 hm1 2 rfl rfl rfl _ #[.int .i64 ((r).ver)] (enter_call _ _ _ rfl 31 #[] #[] rfl #[.int .i64 ((r).ver)] (map1 (he4.tmp 6 _ rfl)) #[.int .i64 ((r).ver)] rfl (fun _ _ => by kernel_rfl)) (c_endOps ((r).ver) _) (fun x2 b2 a5 w2 hx2 he5 hm2 => ?_)
  clear he4 hm1
  have rw2_n : Rw (x2.2) (2) (x2.1) 6 (cellsOf Iv.arr (endL ((r).ver))) := hx2
  refine wl_val he5 rfl rfl (.slice (some ⟨b2, 0, none⟩) (2) (x2.1)) (rn_move _ (Or.inr rfl) _ (he5.tmp 7 _ rfl)) (fun a6 he6 => ?_)
  clear he5
  refine wl_end ?_
  refine wp_seq ?_
  refine wp_seqR ?_
  refine wl_val he6 rfl rfl (.pointer (some ⟨b1, 3, none⟩)) (rn_field _ _ _ rfl _ (.pointer (some ⟨b1, 3, none⟩)) (he6.tmp 1 _ rfl) (by kernel_rfl)) (fun a7 he7 => ?_)
  clear he6
  refine wl_val he7 rfl rfl (.int .i64 ((r).ver)) (rn_load1 hm2 1 rfl _ _ rfl (3) (he7.tmp 8 _ rfl) one3 _ rfl) (fun a8 he8 => ?_)
  clear he7
  cases hd1 : (((r).ver == 2))
  · have hd1p : (r).ver ≠ 2 := by simpa using hd1
    refine wl_val he8 rfl rfl (.bool false) (rn_bin _ _ _ _ _ rfl .i64 _ _ (he8.tmp 9 _ rfl) rfl (.bool (((r).ver == 2))) _ rfl (congrArg Value.bool (hd1))) (fun a9 he9 => ?_)
    clear he8
    refine wl_end ?_
    refine wp_condF (he := he9) rfl ?_
    refine wp_skip ?_
    refine then_normal ?_
    refine wp_seqR ?_
    refine wl_val he9 rfl rfl (.pointer (some ⟨b1, 0, none⟩)) (rn_field _ _ _ rfl _ (.pointer (some ⟨b1, 0, none⟩)) (he9.tmp 1 _ rfl) (by kernel_rfl)) (fun a10 he10 => ?_)
    clear he9
    refine wl_val he10 rfl rfl (.int .i64 ((r).at_)) (rn_load1 hm2 1 rfl _ _ rfl (0) (he10.tmp 16 _ rfl) one3 _ rfl) (fun a11 he11 => ?_)
    clear he10
    refine wl_val he11 rfl rfl (.agg (Iv.arr ((⟨17, 2, 6, (r).at_, 0, 1⟩ : Iv)))) (rn_build _ _ rfl #[(0, .int .i64 (17)), (1, .int .i64 (2)), (2, .int .i64 (6)), (3, .int .i64 ((r).at_)), (5, .int .i64 (1))] (pmap5 rfl rfl rfl (he11.tmp 17 _ rfl) rfl) _ (by kernel_rfl)) (fun a12 he12 => ?_)
    clear he11
    refine wl_val he12 rfl rfl (.pointer (some ⟨b1, 1, none⟩)) (rn_field _ _ _ rfl _ (.pointer (some ⟨b1, 1, none⟩)) (he12.tmp 1 _ rfl) (by kernel_rfl)) (fun a13 he13 => ?_)
    clear he12
    refine wl_val he13 rfl rfl (.int .i64 ((r).op)) (rn_load1 hm2 1 rfl _ _ rfl (1) (he13.tmp 19 _ rfl) one3 _ rfl) (fun a14 he14 => ?_)
    clear he13
    refine wl_val he14 rfl rfl (.pointer (some ⟨b1, 2, none⟩)) (rn_field _ _ _ rfl _ (.pointer (some ⟨b1, 2, none⟩)) (he14.tmp 1 _ rfl) (by kernel_rfl)) (fun a15 he15 => ?_)
    clear he14
    refine wl_val he15 rfl rfl (.int .i64 ((r).num)) (rn_load1 hm2 1 rfl _ _ rfl (2) (he15.tmp 21 _ rfl) one3 _ rfl) (fun a16 he16 => ?_)
    clear he15
    refine wl_val he16 rfl rfl (.agg (Iv.arr ((⟨(r).op, 2, (-1), 1, (r).num, 0⟩ : Iv)))) (rn_build _ _ rfl #[(0, .int .i64 ((r).op)), (1, .int .i64 (2)), (2, .int .i64 ((-1))), (3, .int .i64 (1)), (4, .int .i64 ((r).num))] (pmap5 (he16.tmp 20 _ rfl) rfl rfl rfl (he16.tmp 22 _ rfl)) _ (by kernel_rfl)) (fun a17 he17 => ?_)
    clear he16
    refine wl_val he17 rfl rfl (.slice (some ⟨b2, 0, none⟩) (2) (x2.1)) (rn_move _ (Or.inl rfl) _ (he17.tmp 3 _ rfl)) (fun a18 he18 => ?_)
    clear he17
    refine wl_val he18 rfl rfl (.int .i64 (2)) (rn_builtin _ _ _ rfl #[.slice (some ⟨b2, 0, none⟩) (2) (x2.1)] (map1 (he18.tmp 24 _ rfl)) (.int .i64 (2)) (by kernel_rfl)) (fun a19 he19 => ?_)
    clear he18
    refine wl_val he19 rfl rfl (.agg (Iv.arr ((⟨16, 0, (-1), 2, 0, 0⟩ : Iv)))) (rn_build _ _ rfl #[(0, .int .i64 (16)), (2, .int .i64 ((-1))), (3, .int .i64 (2))] (pmap3 rfl rfl (he19.tmp 25 _ rfl)) _ (by kernel_rfl)) (fun a20 he20 => ?_)
    clear he19
    refine wl_buildSlice he20 hm2 3 rfl rfl rfl _ _ _ rfl #[(0, .agg (Iv.arr ((⟨17, 2, 6, (r).at_, 0, 1⟩ : Iv)))), (1, .agg (Iv.arr ((⟨(r).op, 2, (-1), 1, (r).num, 0⟩ : Iv)))), (2, .agg (Iv.arr ((⟨16, 0, (-1), 2, 0, 0⟩ : Iv))))] (pmap3 (he20.tmp 18 _ rfl) (he20.tmp 23 _ rfl) (he20.tmp 26 _ rfl)) 48 ((cellsOf Iv.arr [(⟨17, 2, 6, (r).at_, 0, 1⟩ : Iv), (⟨(r).op, 2, (-1), 1, (r).num, 0⟩ : Iv), (⟨16, 0, (-1), 2, 0, 0⟩ : Iv)]).toArray) (by kernel_rfl) (fun a21 w3 b3 he21 hm3 => ?_)
    clear he20 hm2
    have rw3_0 : Rw ((cellsOf Iv.arr [(⟨17, 2, 6, (r).at_, 0, 1⟩ : Iv), (⟨(r).op, 2, (-1), 1, (r).num, 0⟩ : Iv), (⟨16, 0, (-1), 2, 0, 0⟩ : Iv)]).toArray) 3 3 6 (cellsOf Iv.arr ([(⟨17, 2, 6, (r).at_, 0, 1⟩ : Iv), (⟨(r).op, 2, (-1), 1, (r).num, 0⟩ : Iv), (⟨16, 0, (-1), 2, 0, 0⟩ : Iv)])) := Rw.lits Iv.sz [(⟨17, 2, 6, (r).at_, 0, 1⟩ : Iv), (⟨(r).op, 2, (-1), 1, (r).num, 0⟩ : Iv), (⟨16, 0, (-1), 2, 0, 0⟩ : Iv)] (by simp [maxLen])
    refine wl_val he21 rfl rfl (.slice (some ⟨b3, 0, none⟩) (3) (3)) (rn_move _ (Or.inr rfl) _ (he21.tmp 27 _ rfl)) (fun a22 he22 => ?_)
    clear he21
    refine wl_end ?_
    refine wp_seqR ?_
    refine wl_val he22 rfl rfl (.slice (some ⟨b3, 0, none⟩) (3) (3)) (rn_move _ (Or.inl rfl) _ (he22.tmp 4 _ rfl)) (fun a23 he23 => ?_)
    clear he22
    refine wl_val he23 rfl rfl (.slice (some ⟨b2, 0, none⟩) (2) (x2.1)) (rn_move _ (Or.inl rfl) _ (he23.tmp 3 _ rfl)) (fun a24 he24 => ?_)
    clear he23
    refine wl_append (k := 3) (cap := 3) he24 hm3 3 rfl rfl rfl _ _ _ rfl el48 (he24.tmp 28 _ rfl) rw3_0 ⟨b2, 0, none⟩ 2 x2.1 (he24.tmp 29 _ rfl) (cellsOf Iv.arr (endL ((r).ver))) (rw2_n.len) (fun j u hu => by rw [Addr.add_mid, Nat.zero_add, (hm3.bx 2 _ _ _ _ rfl).cell]; exact rw2_n.get j u hu) (cellsOf_one Iv.one _) (by simp only [maxLen]; omega) (by omega) (fun a25 w4 b3_25 cap3_25 cur3_25 he25 hm4 rw3_25 => ?_)
    clear he24 hm3
    replace rw3_25 := rw3_25.app
    refine wl_val he25 rfl rfl (.slice (some ⟨b3_25, 0, none⟩) (3 + 2) (cap3_25)) (rn_move _ (Or.inr rfl) _ (he25.tmp 30 _ rfl)) (fun a26 he26 => ?_)
    clear he25
    refine wl_end ?_
    refine wp_ret ?_
    have hN : 3 + 2 = (ruleL r).length := (by simp [ruleL, askL, todoL, sendL, endL, hd1])
    have hL : cellsOf Iv.arr (([(⟨17, 2, 6, (r).at_, 0, 1⟩ : Iv), (⟨(r).op, 2, (-1), 1, (r).num, 0⟩ : Iv), (⟨16, 0, (-1), 2, 0, 0⟩ : Iv)]) ++ (endL ((r).ver))) = cellsOf Iv.arr (ruleL r) := congrArg _ (by simp [ruleL, askL, todoL, sendL, endL, hd1])
    exact bodyPost_ret (results_tmp he26 _ Try.results30 _ rfl) he26.defers ⟨(cap3_25, cur3_25), _, congrArg (fun k => Ending.returned (.slice (some ⟨b3_25, 0, none⟩) k (cap3_25))) hN, hm4.bx 3 _ _ _ _ rfl, rw3_25.cast hN hL, by have := hm4.own 3 _ rfl rfl; simpa using this, hm4.below⟩
  · have hd1p : (r).ver = 2 := by simpa using hd1
    refine wl_val he8 rfl rfl (.bool true) (rn_bin _ _ _ _ _ rfl .i64 _ _ (he8.tmp 9 _ rfl) rfl (.bool (((r).ver == 2))) _ rfl (congrArg Value.bool (hd1))) (fun a9 he9 => ?_)
    clear he8
    refine wl_end ?_
    refine wp_condT (he := he9) rfl ?_
    refine wp_region_lit ?_
    refine wl_val he9 rfl rfl (.pointer (some ⟨b1, 4, none⟩)) (rn_field _ _ _ rfl _ (.pointer (some ⟨b1, 4, none⟩)) (he9.tmp 1 _ rfl) (by kernel_rfl)) (fun a10 he10 => ?_)
    clear he9
    refine wl_val he10 rfl rfl (.int .i64 ((r).key)) (rn_load1 hm2 1 rfl _ _ rfl (4) (he10.tmp 11 _ rfl) one3 _ rfl) (fun a11 he11 => ?_)
    clear he10
    refine wl_callN he11 hm2 3 rfl rfl rfl _ #[.int .i64 ((r).key)] (enter_call _ _ _ rfl 46 #[] #[] rfl #[.int .i64 ((r).key)] (map1 (he11.tmp 12 _ rfl)) #[.int .i64 ((r).key)] rfl (fun _ _ => by kernel_rfl)) (c_sendOps ((r).key) _) (fun x3 b3 a12 w3 hx3 he12 hm3 => ?_)
    clear he11 hm2
    have rw3_n : Rw (x3.2) (2) (x3.1) 6 (cellsOf Iv.arr (sendL ((r).key))) := hx3
    refine wl_val he12 rfl rfl (.slice (some ⟨b2, 0, none⟩) (2) (x2.1)) (rn_move _ (Or.inl rfl) _ (he12.tmp 3 _ rfl)) (fun a13 he13 => ?_)
    clear he12
    refine wl_append (k := 2) (cap := x3.1) he13 hm3 3 rfl rfl rfl _ _ _ rfl el48 (he13.tmp 13 _ rfl) rw3_n ⟨b2, 0, none⟩ 2 x2.1 (he13.tmp 14 _ rfl) (cellsOf Iv.arr (endL ((r).ver))) (rw2_n.len) (fun j u hu => by rw [Addr.add_mid, Nat.zero_add, (hm3.bx 2 _ _ _ _ rfl).cell]; exact rw2_n.get j u hu) (cellsOf_one Iv.one _) (by simp only [maxLen]; omega) (by omega) (fun a14 w4 b3_14 cap3_14 cur3_14 he14 hm4 rw3_14 => ?_)
    clear he13 hm3
    replace rw3_14 := rw3_14.app
    refine wl_val he14 rfl rfl (.slice (some ⟨b3_14, 0, none⟩) (2 + 2) (cap3_14)) (rn_move _ (Or.inr rfl) _ (he14.tmp 15 _ rfl)) (fun a15 he15 => ?_)
    clear he14
    refine wpList_nil ?_
    refine then_normal ?_
    refine wp_seqR ?_
    refine wl_val he15 rfl rfl (.pointer (some ⟨b1, 0, none⟩)) (rn_field _ _ _ rfl _ (.pointer (some ⟨b1, 0, none⟩)) (he15.tmp 1 _ rfl) (by kernel_rfl)) (fun a16 he16 => ?_)
    clear he15
    refine wl_val he16 rfl rfl (.int .i64 ((r).at_)) (rn_load1 hm4 1 rfl _ _ rfl (0) (he16.tmp 16 _ rfl) one3 _ rfl) (fun a17 he17 => ?_)
    clear he16
    refine wl_val he17 rfl rfl (.agg (Iv.arr ((⟨17, 2, 6, (r).at_, 0, 1⟩ : Iv)))) (rn_build _ _ rfl #[(0, .int .i64 (17)), (1, .int .i64 (2)), (2, .int .i64 (6)), (3, .int .i64 ((r).at_)), (5, .int .i64 (1))] (pmap5 rfl rfl rfl (he17.tmp 17 _ rfl) rfl) _ (by kernel_rfl)) (fun a18 he18 => ?_)
    clear he17
    refine wl_val he18 rfl rfl (.pointer (some ⟨b1, 1, none⟩)) (rn_field _ _ _ rfl _ (.pointer (some ⟨b1, 1, none⟩)) (he18.tmp 1 _ rfl) (by kernel_rfl)) (fun a19 he19 => ?_)
    clear he18
    refine wl_val he19 rfl rfl (.int .i64 ((r).op)) (rn_load1 hm4 1 rfl _ _ rfl (1) (he19.tmp 19 _ rfl) one3 _ rfl) (fun a20 he20 => ?_)
    clear he19
    refine wl_val he20 rfl rfl (.pointer (some ⟨b1, 2, none⟩)) (rn_field _ _ _ rfl _ (.pointer (some ⟨b1, 2, none⟩)) (he20.tmp 1 _ rfl) (by kernel_rfl)) (fun a21 he21 => ?_)
    clear he20
    refine wl_val he21 rfl rfl (.int .i64 ((r).num)) (rn_load1 hm4 1 rfl _ _ rfl (2) (he21.tmp 21 _ rfl) one3 _ rfl) (fun a22 he22 => ?_)
    clear he21
    refine wl_val he22 rfl rfl (.agg (Iv.arr ((⟨(r).op, 2, (-1), 1, (r).num, 0⟩ : Iv)))) (rn_build _ _ rfl #[(0, .int .i64 ((r).op)), (1, .int .i64 (2)), (2, .int .i64 ((-1))), (3, .int .i64 (1)), (4, .int .i64 ((r).num))] (pmap5 (he22.tmp 20 _ rfl) rfl rfl rfl (he22.tmp 22 _ rfl)) _ (by kernel_rfl)) (fun a23 he23 => ?_)
    clear he22
    refine wl_val he23 rfl rfl (.slice (some ⟨b3_14, 0, none⟩) (2 + 2) (cap3_14)) (rn_move _ (Or.inl rfl) _ (he23.tmp 3 _ rfl)) (fun a24 he24 => ?_)
    clear he23
    refine wl_val he24 rfl rfl (.int .i64 (4)) (rn_builtin _ _ _ rfl #[.slice (some ⟨b3_14, 0, none⟩) (2 + 2) (cap3_14)] (map1 (he24.tmp 24 _ rfl)) (.int .i64 (4)) (by kernel_rfl)) (fun a25 he25 => ?_)
    clear he24
    refine wl_val he25 rfl rfl (.agg (Iv.arr ((⟨16, 0, (-1), 4, 0, 0⟩ : Iv)))) (rn_build _ _ rfl #[(0, .int .i64 (16)), (2, .int .i64 ((-1))), (3, .int .i64 (4))] (pmap3 rfl rfl (he25.tmp 25 _ rfl)) _ (by kernel_rfl)) (fun a26 he26 => ?_)
    clear he25
    refine wl_buildSlice he26 hm4 4 rfl rfl rfl _ _ _ rfl #[(0, .agg (Iv.arr ((⟨17, 2, 6, (r).at_, 0, 1⟩ : Iv)))), (1, .agg (Iv.arr ((⟨(r).op, 2, (-1), 1, (r).num, 0⟩ : Iv)))), (2, .agg (Iv.arr ((⟨16, 0, (-1), 4, 0, 0⟩ : Iv))))] (pmap3 (he26.tmp 18 _ rfl) (he26.tmp 23 _ rfl) (he26.tmp 26 _ rfl)) 48 ((cellsOf Iv.arr [(⟨17, 2, 6, (r).at_, 0, 1⟩ : Iv), (⟨(r).op, 2, (-1), 1, (r).num, 0⟩ : Iv), (⟨16, 0, (-1), 4, 0, 0⟩ : Iv)]).toArray) (by kernel_rfl) (fun a27 w5 b4 he27 hm5 => ?_)
    clear he26 hm4
    have rw4_0 : Rw ((cellsOf Iv.arr [(⟨17, 2, 6, (r).at_, 0, 1⟩ : Iv), (⟨(r).op, 2, (-1), 1, (r).num, 0⟩ : Iv), (⟨16, 0, (-1), 4, 0, 0⟩ : Iv)]).toArray) 3 3 6 (cellsOf Iv.arr ([(⟨17, 2, 6, (r).at_, 0, 1⟩ : Iv), (⟨(r).op, 2, (-1), 1, (r).num, 0⟩ : Iv), (⟨16, 0, (-1), 4, 0, 0⟩ : Iv)])) := Rw.lits Iv.sz [(⟨17, 2, 6, (r).at_, 0, 1⟩ : Iv), (⟨(r).op, 2, (-1), 1, (r).num, 0⟩ : Iv), (⟨16, 0, (-1), 4, 0, 0⟩ : Iv)] (by simp [maxLen])
    refine wl_val he27 rfl rfl (.slice (some ⟨b4, 0, none⟩) (3) (3)) (rn_move _ (Or.inr rfl) _ (he27.tmp 27 _ rfl)) (fun a28 he28 => ?_)
    clear he27
    refine wl_end ?_
    refine wp_seqR ?_
    refine wl_val he28 rfl rfl (.slice (some ⟨b4, 0, none⟩) (3) (3)) (rn_move _ (Or.inl rfl) _ (he28.tmp 4 _ rfl)) (fun a29 he29 => ?_)
    clear he28
    refine wl_val he29 rfl rfl (.slice (some ⟨b3_14, 0, none⟩) (2 + 2) (cap3_14)) (rn_move _ (Or.inl rfl) _ (he29.tmp 3 _ rfl)) (fun a30 he30 => ?_)
    clear he29
    refine wl_append (k := 3) (cap := 3) he30 hm5 4 rfl rfl rfl _ _ _ rfl el48 (he30.tmp 28 _ rfl) rw4_0 ⟨b3_14, 0, none⟩ (2 + 2) cap3_14 (he30.tmp 29 _ rfl) (cellsOf Iv.arr ((sendL ((r).key)) ++ (endL ((r).ver)))) (rw3_14.len) (fun j u hu => by rw [Addr.add_mid, Nat.zero_add, (hm5.bx 3 _ _ _ _ rfl).cell]; exact rw3_14.get j u hu) (cellsOf_one Iv.one _) (by simp only [maxLen]; omega) (by omega) (fun a31 w6 b4_31 cap4_31 cur4_31 he31 hm6 rw4_31 => ?_)
    clear he30 hm5
    replace rw4_31 := rw4_31.app
    refine wl_val he31 rfl rfl (.slice (some ⟨b4_31, 0, none⟩) (3 + (2 + 2)) (cap4_31)) (rn_move _ (Or.inr rfl) _ (he31.tmp 30 _ rfl)) (fun a32 he32 => ?_)
    clear he31
    refine wl_end ?_
    refine wp_ret ?_
    have hN : 3 + (2 + 2) = (ruleL r).length := (by simp [ruleL, askL, todoL, sendL, endL, hd1])
    have hL : cellsOf Iv.arr (([(⟨17, 2, 6, (r).at_, 0, 1⟩ : Iv), (⟨(r).op, 2, (-1), 1, (r).num, 0⟩ : Iv), (⟨16, 0, (-1), 4, 0, 0⟩ : Iv)]) ++ ((sendL ((r).key)) ++ (endL ((r).ver)))) = cellsOf Iv.arr (ruleL r) := congrArg _ (by simp [ruleL, askL, todoL, sendL, endL, hd1])
    exact bodyPost_ret (results_tmp he32 _ Try.results30 _ rfl) he32.defers ⟨(cap4_31, cur4_31), _, congrArg (fun k => Ending.returned (.slice (some ⟨b4_31, 0, none⟩) k (cap4_31))) hN, hm6.bx 4 _ _ _ _ rfl, rw4_31.cast hN hL, by have := hm6.own 4 _ rfl rfl; simpa using this, hm6.below⟩
theorem c_l9Rule (r : Ru) (w : World)  :
    Calls Try.prog 45 #[.agg (Ru.arr (r))] w fun e w' => NewIv w (ruleL r) e w' := by
  refine calls_begin Try.func45 rfl 35 rfl (Nat.le_of_ble_eq_true rfl) [(0, .agg (Ru.arr (r)))] ⟨rfl, trivial⟩ (fun a0 he0 hm0 => ?_)
  refine wp_seqR ?_
  refine wl_box he0 hm0 1 rfl rfl rfl _ _ rfl _ (he0.tmp 0 _ rfl) (Ru.arr (r)) rfl (fun a1 w1 b1 he1 hm1 => ?_)
  clear he0 hm0
  refine wl_val he1 rfl rfl (.slice none 0 0) (rn_move _ (Or.inr rfl) _ rfl) (fun a2 he2 => ?_)
  clear he1
  refine wl_end ?_
  refine wp_seqR ?_
  refine wl_val he2 rfl rfl (.pointer (some ⟨b1, 3, none⟩)) (rn_field _ _ _ rfl _ (.pointer (some ⟨b1, 3, none⟩)) (he2.tmp 1 _ rfl) (by kernel_rfl)) (fun a3 he3 => ?_)
  clear he2
  refine wl_val he3 rfl rfl (.int .i64 ((r).ver)) (rn_load1 hm1 1 rfl _ _ rfl (3) (he3.tmp 5 _ rfl) one3 _ rfl) (fun a4 he4 => ?_)
  clear he3
  refine wl_val he4 rfl rfl (.agg (Iv.arr ((⟨1, 0, (-1), 0, (r).ver, 0⟩ : Iv)))) (rn_build _ _ rfl #[(0, .int .i64 (1)), (2, .int .i64 ((-1))), (4, .int .i64 ((r).ver))] (pmap3 rfl rfl (he4.tmp 6 _ rfl)) _ (by kernel_rfl)) (fun a5 he5 => ?_)
  clear he4
  refine wl_val he5 rfl rfl (.agg (Iv.arr ((⟨20, 0, (-1), 0, 0, 0⟩ : Iv)))) (rn_build _ _ rfl #[(0, .int .i64 (20)), (2, .int .i64 ((-1)))] (pmap2 rfl rfl) _ (by kernel_rfl)) (fun a6 he6 => ?_)
  clear he5
  refine wl_buildSlice he6 hm1 2 rfl rfl rfl _ _ _ rfl #[(0, .agg (Iv.arr ((⟨1, 0, (-1), 0, (r).ver, 0⟩ : Iv)))), (1, .agg (Iv.arr ((⟨20, 0, (-1), 0, 0, 0⟩ : Iv))))] (pmap2 (he6.tmp 7 _ rfl) (he6.tmp 8 _ rfl)) 48 ((cellsOf Iv.arr [(⟨1, 0, (-1), 0, (r).ver, 0⟩ : Iv), (⟨20, 0, (-1), 0, 0, 0⟩ : Iv)]).toArray) (by kernel_rfl) (fun a7 w2 b2 he7 hm2 => ?_)
  clear he6 hm1
  have rw2_0 : Rw ((cellsOf Iv.arr [(⟨1, 0, (-1), 0, (r).ver, 0⟩ : Iv), (⟨20, 0, (-1), 0, 0, 0⟩ : Iv)]).toArray) 2 2 6 (cellsOf Iv.arr ([(⟨1, 0, (-1), 0, (r).ver, 0⟩ : Iv), (⟨20, 0, (-1), 0, 0, 0⟩ : Iv)])) := Rw.lits Iv.sz [(⟨1, 0, (-1), 0, (r).ver, 0⟩ : Iv), (⟨20, 0, (-1), 0, 0, 0⟩ : Iv)] (by simp [maxLen])
  refine wl_val he7 rfl rfl (.slice (some ⟨b2, 0, none⟩) (2) (2)) (rn_move _ (Or.inr rfl) _ (he7.tmp 9 _ rfl)) (fun a8 he8 => ?_)
  clear he7
  refine wl_end ?_
  refine wp_seq ?_
  refine wp_seqR ?_
  refine wl_val he8 rfl rfl (.pointer (some ⟨b1, 3, none⟩)) (rn_field _ _ _ rfl _ (.pointer (some ⟨b1, 3, none⟩)) (he8.tmp 1 _ rfl) (by kernel_rfl)) (fun a9 he9 => ?_)
  clear he8
  refine wl_val he9 rfl rfl (.int .i64 ((r).ver)) (rn_load1 hm2 1 rfl _ _ rfl (3) (he9.tmp 10 _ rfl) one3 _ rfl) (fun a10 he10 => ?_)
  clear he9
  cases hd1 : (((r).ver == 2))
  · have hd1p : (r).ver ≠ 2 := by simpa using hd1
    refine wl_val he10 rfl rfl (.bool false) (rn_bin _ _ _ _ _ rfl .i64 _ _ (he10.tmp 11 _ rfl) rfl (.bool (((r).ver == 2))) _ rfl (congrArg Value.bool (hd1))) (fun a11 he11 => ?_)
    clear he10
    refine wl_end ?_
    refine wp_condF (he := he11) rfl ?_
    refine wp_skip ?_
    refine then_normal ?_
    refine wp_seqR ?_
    refine wl_val he11 rfl rfl (.pointer (some ⟨b1, 0, none⟩)) (rn_field _ _ _ rfl _ (.pointer (some ⟨b1, 0, none⟩)) (he11.tmp 1 _ rfl) (by kernel_rfl)) (fun a12 he12 => ?_)
    clear he11
    refine wl_val he12 rfl rfl (.int .i64 ((r).at_)) (rn_load1 hm2 1 rfl _ _ rfl (0) (he12.tmp 20 _ rfl) one3 _ rfl) (fun a13 he13 => ?_)
    clear he12
    refine wl_val he13 rfl rfl (.agg (Iv.arr ((⟨17, 2, 6, (r).at_, 0, 1⟩ : Iv)))) (rn_build _ _ rfl #[(0, .int .i64 (17)), (1, .int .i64 (2)), (2, .int .i64 (6)), (3, .int .i64 ((r).at_)), (5, .int .i64 (1))] (pmap5 rfl rfl rfl (he13.tmp 21 _ rfl) rfl) _ (by kernel_rfl)) (fun a14 he14 => ?_)
    clear he13
    refine wl_val he14 rfl rfl (.pointer (some ⟨b1, 1, none⟩)) (rn_field _ _ _ rfl _ (.pointer (some ⟨b1, 1, none⟩)) (he14.tmp 1 _ rfl) (by kernel_rfl)) (fun a15 he15 => ?_)
    clear he14
    refine wl_val he15 rfl rfl (.int .i64 ((r).op)) (rn_load1 hm2 1 rfl _ _ rfl (1) (he15.tmp 23 _ rfl) one3 _ rfl) (fun a16 he16 => ?_)
    clear he15
    refine wl_val he16 rfl rfl (.pointer (some ⟨b1, 2, none⟩)) (rn_field _ _ _ rfl _ (.pointer (some ⟨b1, 2, none⟩)) (he16.tmp 1 _ rfl) (by kernel_rfl)) (fun a17 he17 => ?_)
    clear he16
    refine wl_val he17 rfl rfl (.int .i64 ((r).num)) (rn_load1 hm2 1 rfl _ _ rfl (2) (he17.tmp 25 _ rfl) one3 _ rfl) (fun a18 he18 => ?_)
    clear he17
    refine wl_val he18 rfl rfl (.agg (Iv.arr ((⟨(r).op, 2, (-1), 1, (r).num, 0⟩ : Iv)))) (rn_build _ _ rfl #[(0, .int .i64 ((r).op)), (1, .int .i64 (2)), (2, .int .i64 ((-1))), (4, .int .i64 ((r).num)), (3, .int .i64 (1))] (pmap5 (he18.tmp 24 _ rfl) rfl rfl (he18.tmp 26 _ rfl) rfl) _ (by kernel_rfl)) (fun a19 he19 => ?_)
    clear he18
    refine wl_val he19 rfl rfl (.slice (some ⟨b2, 0, none⟩) (2) (2)) (rn_move _ (Or.inl rfl) _ (he19.tmp 3 _ rfl)) (fun a20 he20 => ?_)
    clear he19
    refine wl_val he20 rfl rfl (.int .i64 (2)) (rn_builtin _ _ _ rfl #[.slice (some ⟨b2, 0, none⟩) (2) (2)] (map1 (he20.tmp 28 _ rfl)) (.int .i64 (2)) (by kernel_rfl)) (fun a21 he21 => ?_)
    clear he20
    refine wl_val he21 rfl rfl (.agg (Iv.arr ((⟨16, 0, (-1), 2, 0, 0⟩ : Iv)))) (rn_build _ _ rfl #[(0, .int .i64 (16)), (2, .int .i64 ((-1))), (3, .int .i64 (2))] (pmap3 rfl rfl (he21.tmp 29 _ rfl)) _ (by kernel_rfl)) (fun a22 he22 => ?_)
    clear he21
    refine wl_buildSlice he22 hm2 3 rfl rfl rfl _ _ _ rfl #[(0, .agg (Iv.arr ((⟨17, 2, 6, (r).at_, 0, 1⟩ : Iv)))), (1, .agg (Iv.arr ((⟨(r).op, 2, (-1), 1, (r).num, 0⟩ : Iv)))), (2, .agg (Iv.arr ((⟨16, 0, (-1), 2, 0, 0⟩ : Iv))))] (pmap3 (he22.tmp 22 _ rfl) (he22.tmp 27 _ rfl) (he22.tmp 30 _ rfl)) 48 ((cellsOf Iv.arr [(⟨17, 2, 6, (r).at_, 0, 1⟩ : Iv), (⟨(r).op, 2, (-1), 1, (r).num, 0⟩ : Iv), (⟨16, 0, (-1), 2, 0, 0⟩ : Iv)]).toArray) (by kernel_rfl) (fun a23 w3 b3 he23 hm3 => ?_)
    clear he22 hm2
    have rw3_0 : Rw ((cellsOf Iv.arr [(⟨17, 2, 6, (r).at_, 0, 1⟩ : Iv), (⟨(r).op, 2, (-1), 1, (r).num, 0⟩ : Iv), (⟨16, 0, (-1), 2, 0, 0⟩ : Iv)]).toArray) 3 3 6 (cellsOf Iv.arr ([(⟨17, 2, 6, (r).at_, 0, 1⟩ : Iv), (⟨(r).op, 2, (-1), 1, (r).num, 0⟩ : Iv), (⟨16, 0, (-1), 2, 0, 0⟩ : Iv)])) := Rw.lits Iv.sz [(⟨17, 2, 6, (r).at_, 0, 1⟩ : Iv), (⟨(r).op, 2, (-1), 1, (r).num, 0⟩ : Iv), (⟨16, 0, (-1), 2, 0, 0⟩ : Iv)] (by simp [maxLen])
    refine wl_val he23 rfl rfl (.slice (some ⟨b3, 0, none⟩) (3) (3)) (rn_move _ (Or.inr rfl) _ (he23.tmp 31 _ rfl)) (fun a24 he24 => ?_)
    clear he23
    refine wl_end ?_
    refine wp_seqR ?_
    refine wl_val he24 rfl rfl (.slice (some ⟨b3, 0, none⟩) (3) (3)) (rn_move _ (Or.inl rfl) _ (he24.tmp 4 _ rfl)) (fun a25 he25 => ?_)
    clear he24
    refine wl_val he25 rfl rfl (.slice (some ⟨b2, 0, none⟩) (2) (2)) (rn_move _ (Or.inl rfl) _ (he25.tmp 3 _ rfl)) (fun a26 he26 => ?_)
    clear he25
    refine wl_append (k := 3) (cap := 3) he26 hm3 3 rfl rfl rfl _ _ _ rfl el48 (he26.tmp 32 _ rfl) rw3_0 ⟨b2, 0, none⟩ 2 2 (he26.tmp 33 _ rfl) (cellsOf Iv.arr ([(⟨1, 0, (-1), 0, (r).ver, 0⟩ : Iv), (⟨20, 0, (-1), 0, 0, 0⟩ : Iv)])) (rw2_0.len) (fun j u hu => by rw [Addr.add_mid, Nat.zero_add, (hm3.bx 2 _ _ _ _ rfl).cell]; exact rw2_0.get j u hu) (cellsOf_one Iv.one _) (by simp only [maxLen]; omega) (by omega) (fun a27 w4 b3_27 cap3_27 cur3_27 he27 hm4 rw3_27 => ?_)
    clear he26 hm3
    replace rw3_27 := rw3_27.app
    refine wl_val he27 rfl rfl (.slice (some ⟨b3_27, 0, none⟩) (3 + 2) (cap3_27)) (rn_move _ (Or.inr rfl) _ (he27.tmp 34 _ rfl)) (fun a28 he28 => ?_)
    clear he27
    refine wl_end ?_
    refine wp_ret ?_
    have hN : 3 + 2 = (ruleL r).length := (by simp [ruleL, askL, todoL, sendL, endL, hd1])
    have hL : cellsOf Iv.arr (([(⟨17, 2, 6, (r).at_, 0, 1⟩ : Iv), (⟨(r).op, 2, (-1), 1, (r).num, 0⟩ : Iv), (⟨16, 0, (-1), 2, 0, 0⟩ : Iv)]) ++ ([(⟨1, 0, (-1), 0, (r).ver, 0⟩ : Iv), (⟨20, 0, (-1), 0, 0, 0⟩ : Iv)])) = cellsOf Iv.arr (ruleL r) := congrArg _ (by simp [ruleL, askL, todoL, sendL, endL, hd1])
    exact bodyPost_ret (results_tmp he28 _ Try.results45 _ rfl) he28.defers ⟨(cap3_27, cur3_27), _, congrArg (fun k => Ending.returned (.slice (some ⟨b3_27, 0, none⟩) k (cap3_27))) hN, hm4.bx 3 _ _ _ _ rfl, rw3_27.cast hN hL, by have := hm4.own 3 _ rfl rfl; simpa using this, hm4.below⟩
  · have hd1p : (r).ver = 2 := by simpa using hd1
    refine wl_val he10 rfl rfl (.bool true) (rn_bin _ _ _ _ _ rfl .i64 _ _ (he10.tmp 11 _ rfl) rfl (.bool (((r).ver == 2))) _ rfl (congrArg Value.bool (hd1))) (fun a11 he11 => ?_)
    clear he10
    refine wl_end ?_
    refine wp_condT (he := he11) rfl ?_
    refine wp_region_lit ?_
    refine wl_val he11 rfl rfl (.pointer (some ⟨b1, 4, none⟩)) (rn_field _ _ _ rfl _ (.pointer (some ⟨b1, 4, none⟩)) (he11.tmp 1 _ rfl) (by kernel_rfl)) (fun a12 he12 => ?_)
    clear he11
    refine wl_val he12 rfl rfl (.int .i64 ((r).key)) (rn_load1 hm2 1 rfl _ _ rfl (4) (he12.tmp 13 _ rfl) one3 _ rfl) (fun a13 he13 => ?_)
    clear he12
    refine wl_val he13 rfl rfl (.agg (Iv.arr ((⟨1, 1, (-1), 0, (r).key, 0⟩ : Iv)))) (rn_build _ _ rfl #[(0, .int .i64 (1)), (1, .int .i64 (1)), (2, .int .i64 ((-1))), (4, .int .i64 ((r).key))] (pmap4 rfl rfl rfl (he13.tmp 14 _ rfl)) _ (by kernel_rfl)) (fun a14 he14 => ?_)
    clear he13
    refine wl_val he14 rfl rfl (.agg (Iv.arr ((⟨19, 0, (-1), 0, 6, 0⟩ : Iv)))) (rn_build _ _ rfl #[(0, .int .i64 (19)), (2, .int .i64 ((-1))), (4, .int .i64 (6))] (pmap3 rfl rfl rfl) _ (by kernel_rfl)) (fun a15 he15 => ?_)
    clear he14
    refine wl_buildSlice he15 hm2 3 rfl rfl rfl _ _ _ rfl #[(0, .agg (Iv.arr ((⟨1, 1, (-1), 0, (r).key, 0⟩ : Iv)))), (1, .agg (Iv.arr ((⟨19, 0, (-1), 0, 6, 0⟩ : Iv))))] (pmap2 (he15.tmp 15 _ rfl) (he15.tmp 16 _ rfl)) 48 ((cellsOf Iv.arr [(⟨1, 1, (-1), 0, (r).key, 0⟩ : Iv), (⟨19, 0, (-1), 0, 6, 0⟩ : Iv)]).toArray) (by kernel_rfl) (fun a16 w3 b3 he16 hm3 => ?_)
    clear he15 hm2
    have rw3_0 : Rw ((cellsOf Iv.arr [(⟨1, 1, (-1), 0, (r).key, 0⟩ : Iv), (⟨19, 0, (-1), 0, 6, 0⟩ : Iv)]).toArray) 2 2 6 (cellsOf Iv.arr ([(⟨1, 1, (-1), 0, (r).key, 0⟩ : Iv), (⟨19, 0, (-1), 0, 6, 0⟩ : Iv)])) := Rw.lits Iv.sz [(⟨1, 1, (-1), 0, (r).key, 0⟩ : Iv), (⟨19, 0, (-1), 0, 6, 0⟩ : Iv)] (by simp [maxLen])
    refine wl_val he16 rfl rfl (.slice (some ⟨b2, 0, none⟩) (2) (2)) (rn_move _ (Or.inl rfl) _ (he16.tmp 3 _ rfl)) (fun a17 he17 => ?_)
    clear he16
    refine wl_append (k := 2) (cap := 2) he17 hm3 3 rfl rfl rfl _ _ _ rfl el48 (he17.tmp 17 _ rfl) rw3_0 ⟨b2, 0, none⟩ 2 2 (he17.tmp 18 _ rfl) (cellsOf Iv.arr ([(⟨1, 0, (-1), 0, (r).ver, 0⟩ : Iv), (⟨20, 0, (-1), 0, 0, 0⟩ : Iv)])) (rw2_0.len) (fun j u hu => by rw [Addr.add_mid, Nat.zero_add, (hm3.bx 2 _ _ _ _ rfl).cell]; exact rw2_0.get j u hu) (cellsOf_one Iv.one _) (by simp only [maxLen]; omega) (by omega) (fun a18 w4 b3_18 cap3_18 cur3_18 he18 hm4 rw3_18 => ?_)
    clear he17 hm3
    replace rw3_18 := rw3_18.app
    refine wl_val he18 rfl rfl (.slice (some ⟨b3_18, 0, none⟩) (2 + 2) (cap3_18)) (rn_move _ (Or.inr rfl) _ (he18.tmp 19 _ rfl)) (fun a19 he19 => ?_)
    clear he18
    refine wpList_nil ?_
    refine then_normal ?_
    refine wp_seqR ?_
    refine wl_val he19 rfl rfl (.pointer (some ⟨b1, 0, none⟩)) (rn_field _ _ _ rfl _ (.pointer (some ⟨b1, 0, none⟩)) (he19.tmp 1 _ rfl) (by kernel_rfl)) (fun a20 he20 => ?_)
    clear he19
    refine wl_val he20 rfl rfl (.int .i64 ((r).at_)) (rn_load1 hm4 1 rfl _ _ rfl (0) (he20.tmp 20 _ rfl) one3 _ rfl) (fun a21 he21 => ?_)
    clear he20
    refine wl_val he21 rfl rfl (.agg (Iv.arr ((⟨17, 2, 6, (r).at_, 0, 1⟩ : Iv)))) (rn_build _ _ rfl #[(0, .int .i64 (17)), (1, .int .i64 (2)), (2, .int .i64 (6)), (3, .int .i64 ((r).at_)), (5, .int .i64 (1))] (pmap5 rfl rfl rfl (he21.tmp 21 _ rfl) rfl) _ (by kernel_rfl)) (fun a22 he22 => ?_)
    clear he21
    refine wl_val he22 rfl rfl (.pointer (some ⟨b1, 1, none⟩)) (rn_field _ _ _ rfl _ (.pointer (some ⟨b1, 1, none⟩)) (he22.tmp 1 _ rfl) (by kernel_rfl)) (fun a23 he23 => ?_)
    clear he22
    refine wl_val he23 rfl rfl (.int .i64 ((r).op)) (rn_load1 hm4 1 rfl _ _ rfl (1) (he23.tmp 23 _ rfl) one3 _ rfl) (fun a24 he24 => ?_)
    clear he23
    refine wl_val he24 rfl rfl (.pointer (some ⟨b1, 2, none⟩)) (rn_field _ _ _ rfl _ (.pointer (some ⟨b1, 2, none⟩)) (he24.tmp 1 _ rfl) (by kernel_rfl)) (fun a25 he25 => ?_)
    clear he24
    refine wl_val he25 rfl rfl (.int .i64 ((r).num)) (rn_load1 hm4 1 rfl _ _ rfl (2) (he25.tmp 25 _ rfl) one3 _ rfl) (fun a26 he26 => ?_)
    clear he25
    refine wl_val he26 rfl rfl (.agg (Iv.arr ((⟨(r).op, 2, (-1), 1, (r).num, 0⟩ : Iv)))) (rn_build _ _ rfl #[(0, .int .i64 ((r).op)), (1, .int .i64 (2)), (2, .int .i64 ((-1))), (4, .int .i64 ((r).num)), (3, .int .i64 (1))] (pmap5 (he26.tmp 24 _ rfl) rfl rfl (he26.tmp 26 _ rfl) rfl) _ (by kernel_rfl)) (fun a27 he27 => ?_)
    clear he26
    refine wl_val he27 rfl rfl (.slice (some ⟨b3_18, 0, none⟩) (2 + 2) (cap3_18)) (rn_move _ (Or.inl rfl) _ (he27.tmp 3 _ rfl)) (fun a28 he28 => ?_)
    clear he27
    refine wl_val he28 rfl rfl (.int .i64 (4)) (rn_builtin _ _ _ rfl #[.slice (some ⟨b3_18, 0, none⟩) (2 + 2) (cap3_18)] (map1 (he28.tmp 28 _ rfl)) (.int .i64 (4)) (by kernel_rfl)) (fun a29 he29 => ?_)
    clear he28
    refine wl_val he29 rfl rfl (.agg (Iv.arr ((⟨16, 0, (-1), 4, 0, 0⟩ : Iv)))) (rn_build _ _ rfl #[(0, .int .i64 (16)), (2, .int .i64 ((-1))), (3, .int .i64 (4))] (pmap3 rfl rfl (he29.tmp 29 _ rfl)) _ (by kernel_rfl)) (fun a30 he30 => ?_)
    clear he29
    refine wl_buildSlice he30 hm4 4 rfl rfl rfl _ _ _ rfl #[(0, .agg (Iv.arr ((⟨17, 2, 6, (r).at_, 0, 1⟩ : Iv)))), (1, .agg (Iv.arr ((⟨(r).op, 2, (-1), 1, (r).num, 0⟩ : Iv)))), (2, .agg (Iv.arr ((⟨16, 0, (-1), 4, 0, 0⟩ : Iv))))] (pmap3 (he30.tmp 22 _ rfl) (he30.tmp 27 _ rfl) (he30.tmp 30 _ rfl)) 48 ((cellsOf Iv.arr [(⟨17, 2, 6, (r).at_, 0, 1⟩ : Iv), (⟨(r).op, 2, (-1), 1, (r).num, 0⟩ : Iv), (⟨16, 0, (-1), 4, 0, 0⟩ : Iv)]).toArray) (by kernel_rfl) (fun a31 w5 b4 he31 hm5 => ?_)
    clear he30 hm4
    have rw4_0 : Rw ((cellsOf Iv.arr [(⟨17, 2, 6, (r).at_, 0, 1⟩ : Iv), (⟨(r).op, 2, (-1), 1, (r).num, 0⟩ : Iv), (⟨16, 0, (-1), 4, 0, 0⟩ : Iv)]).toArray) 3 3 6 (cellsOf Iv.arr ([(⟨17, 2, 6, (r).at_, 0, 1⟩ : Iv), (⟨(r).op, 2, (-1), 1, (r).num, 0⟩ : Iv), (⟨16, 0, (-1), 4, 0, 0⟩ : Iv)])) := Rw.lits Iv.sz [(⟨17, 2, 6, (r).at_, 0, 1⟩ : Iv), (⟨(r).op, 2, (-1), 1, (r).num, 0⟩ : Iv), (⟨16, 0, (-1), 4, 0, 0⟩ : Iv)] (by simp [maxLen])
    refine wl_val he31 rfl rfl (.slice (some ⟨b4, 0, none⟩) (3) (3)) (rn_move _ (Or.inr rfl) _ (he31.tmp 31 _ rfl)) (fun a32 he32 => ?_)
    clear he31
    refine wl_end ?_
    refine wp_seqR ?_
    refine wl_val he32 rfl rfl (.slice (some ⟨b4, 0, none⟩) (3) (3)) (rn_move _ (Or.inl rfl) _ (he32.tmp 4 _ rfl)) (fun a33 he33 => ?_)
    clear he32
    refine wl_val he33 rfl rfl (.slice (some ⟨b3_18, 0, none⟩) (2 + 2) (cap3_18)) (rn_move _ (Or.inl rfl) _ (he33.tmp 3 _ rfl)) (fun a34 he34 => ?_)
    clear he33
    refine wl_append (k := 3) (cap := 3) he34 hm5 4 rfl rfl rfl _ _ _ rfl el48 (he34.tmp 32 _ rfl) rw4_0 ⟨b3_18, 0, none⟩ (2 + 2) cap3_18 (he34.tmp 33 _ rfl) (cellsOf Iv.arr (([(⟨1, 1, (-1), 0, (r).key, 0⟩ : Iv), (⟨19, 0, (-1), 0, 6, 0⟩ : Iv)]) ++ ([(⟨1, 0, (-1), 0, (r).ver, 0⟩ : Iv), (⟨20, 0, (-1), 0, 0, 0⟩ : Iv)]))) (rw3_18.len) (fun j u hu => by rw [Addr.add_mid, Nat.zero_add, (hm5.bx 3 _ _ _ _ rfl).cell]; exact rw3_18.get j u hu) (cellsOf_one Iv.one _) (by simp only [maxLen]; omega) (by omega) (fun a35 w6 b4_35 cap4_35 cur4_35 he35 hm6 rw4_35 => ?_)
    clear he34 hm5
    replace rw4_35 := rw4_35.app
    refine wl_val he35 rfl rfl (.slice (some ⟨b4_35, 0, none⟩) (3 + (2 + 2)) (cap4_35)) (rn_move _ (Or.inr rfl) _ (he35.tmp 34 _ rfl)) (fun a36 he36 => ?_)
    clear he35
    refine wl_end ?_
    refine wp_ret ?_
    have hN : 3 + (2 + 2) = (ruleL r).length := (by simp [ruleL, askL, todoL, sendL, endL, hd1])
    have hL : cellsOf Iv.arr (([(⟨17, 2, 6, (r).at_, 0, 1⟩ : Iv), (⟨(r).op, 2, (-1), 1, (r).num, 0⟩ : Iv), (⟨16, 0, (-1), 4, 0, 0⟩ : Iv)]) ++ (([(⟨1, 1, (-1), 0, (r).key, 0⟩ : Iv), (⟨19, 0, (-1), 0, 6, 0⟩ : Iv)]) ++ ([(⟨1, 0, (-1), 0, (r).ver, 0⟩ : Iv), (⟨20, 0, (-1), 0, 0, 0⟩ : Iv)]))) = cellsOf Iv.arr (ruleL r) := congrArg _ (by simp [ruleL, askL, todoL, sendL, endL, hd1])
    exact bodyPost_ret (results_tmp he36 _ Try.results45 _ rfl) he36.defers ⟨(cap4_35, cur4_35), _, congrArg (fun k => Ending.returned (.slice (some ⟨b4_35, 0, none⟩) k (cap4_35))) hN, hm6.bx 4 _ _ _ _ rfl, rw4_35.cast hN hL, by have := hm6.own 4 _ rfl rfl; simpa using this, hm6.below⟩
theorem c_l9Prog (f : Nat → Ru) (b p n c : Nat) (w : World) (hR : RowAt w b p n 5 fun i => (f i).arr) (hn : n ≤ 6) :
    Calls Try.prog 29 #[.slice (some ⟨b, p, none⟩) (n) (c)] w fun e w' => NewIv w (progM f n) e w' := by
  refine calls_begin Try.func29 rfl 25 rfl (Nat.le_of_ble_eq_true rfl) [(0, .slice (some ⟨b, p, none⟩) (n) (c))] ⟨rfl, trivial⟩ (fun a0 he0 hm0 => ?_)
  refine wp_seqR ?_
  refine wl_val he0 rfl rfl (.slice none 0 0) (rn_move _ (Or.inr rfl) _ rfl) (fun a1 he1 => ?_)
  clear he0
  refine wl_end ?_
  refine wp_seqR ?_
  refine wl_val he1 rfl rfl (.agg (Iv.arr ((⟨1, 6, 1, 0, 0, 0⟩ : Iv)))) (rn_build _ _ rfl #[(0, .int .i64 (1)), (1, .int .i64 (6)), (2, .int .i64 (1))] (pmap3 rfl rfl rfl) _ (by kernel_rfl)) (fun a2 he2 => ?_)
  clear he1
  refine wl_buildSlice he2 hm0 1 rfl rfl rfl _ _ _ rfl #[(0, .agg (Iv.arr ((⟨1, 6, 1, 0, 0, 0⟩ : Iv))))] (pmap1 (he2.tmp 5 _ rfl)) 48 ((cellsOf Iv.arr [(⟨1, 6, 1, 0, 0, 0⟩ : Iv)]).toArray) (by kernel_rfl) (fun a3 w1 b1 he3 hm1 => ?_)
  clear he2 hm0
  have rw1_0 : Rw ((cellsOf Iv.arr [(⟨1, 6, 1, 0, 0, 0⟩ : Iv)]).toArray) 1 1 6 (cellsOf Iv.arr ([(⟨1, 6, 1, 0, 0, 0⟩ : Iv)])) := Rw.lits Iv.sz [(⟨1, 6, 1, 0, 0, 0⟩ : Iv)] (by simp [maxLen])
  refine wl_val he3 rfl rfl (.slice (some ⟨b1, 0, none⟩) (1) (1)) (rn_move _ (Or.inr rfl) _ (he3.tmp 6 _ rfl)) (fun a4 he4 => ?_)
  clear he3
  refine wl_end ?_
  refine wp_seq ?_
  refine wp_seqR ?_
  refine wl_val he4 rfl rfl (.int .i64 (0)) (rn_move _ (Or.inr rfl) _ rfl) (fun a5 he5 => ?_)
  clear he4
  refine wl_end ?_
  refine wp_block ?_
  refine wp_loopN (fun mz az wz => ∃ (i : Nat), ∃ (pn : Nat), ∃ (pb : Nat), ∃ (pc : Nat), ∃ (cur : Array Value), mz = n - (i) ∧ (i ≤ n ∧ pn = (progL f (i)).length ∧ Rw (cur) (pn) (pc) 6 (cellsOf Iv.arr (progL f (i)))) ∧ EV az 25 [] [(0, .slice (some ⟨b, p, none⟩) (n) (c)), (2, .slice none 0 0), (5, .agg (Iv.arr ((⟨1, 6, 1, 0, 0, 0⟩ : Iv)))), (6, .slice (some ⟨b1, 0, none⟩) (1) (1)), (4, .int .i64 (((i : Nat) : Int))), (3, .slice (some ⟨pb, 0, none⟩) (pn) (pc))] ∧ MM [] w wz [(1, ⟨true, pb, 48, cur⟩)]) ⟨_, 0, 1, b1, 1, (cellsOf Iv.arr [(⟨1, 6, 1, 0, 0, 0⟩ : Iv)]).toArray, rfl, ⟨by omega, rfl, rw1_0⟩, he5.sub _ ⟨rfl, rfl, rfl, rfl, rfl, rfl, trivial⟩, hm1.sub _ ⟨rfl, trivial⟩⟩ ?_
  rintro mz1 a6 w2 ⟨i, pn, pb, pc, cur, rfl, hrel1, he6, hm2⟩
  clear he5 hm1
  obtain ⟨hra, hpn, hrw⟩ := hrel1
  have hp7 : pn ≤ 1 + 7 * i := by rw [hpn]; exact progL_le f i
  have hr7 := ruleL_le (f i)
  refine wp_seq ?_
  refine wp_seqR ?_
  refine wl_val he6 rfl rfl (.int .i64 (((i : Nat) : Int))) (rn_move _ (Or.inl rfl) _ (he6.tmp 4 _ rfl)) (fun a7 he7 => ?_)
  clear he6
  refine wl_val he7 rfl rfl (.slice (some ⟨b, p, none⟩) (n) (c)) (rn_move _ (Or.inl rfl) _ (he7.tmp 0 _ rfl)) (fun a8 he8 => ?_)
  clear he7
  refine wl_val he8 rfl rfl (.int .i64 (((n : Nat) : Int))) (rn_builtin _ _ _ rfl #[.slice (some ⟨b, p, none⟩) (n) (c)] (map1 (he8.tmp 8 _ rfl)) (.int .i64 (((n : Nat) : Int))) (by kernel_rfl)) (fun a9 he9 => ?_)
  clear he8
  cases hd1 : (decide (((i : Nat) : Int) < ((n : Nat) : Int)))
  · have hd1p := of_decide_eq_false hd1
    refine wl_val he9 rfl rfl (.bool false) (rn_bin _ _ _ _ _ rfl .i64 _ _ (he9.tmp 7 _ rfl) (he9.tmp 9 _ rfl) (.bool (decide (((i : Nat) : Int) < ((n : Nat) : Int)))) _ rfl (congrArg Value.bool (hd1))) (fun a10 he10 => ?_)
    clear he9
    refine wl_end ?_
    refine wp_condF (he := he10) rfl ?_
    refine wp_exit ?_
    refine exit_then ?_
    refine exit_then ?_
    refine exit_here ?_
    refine then_normal ?_
    refine wp_seqR ?_
    refine wl_val he10 rfl rfl (.slice (some ⟨pb, 0, none⟩) (pn) (pc)) (rn_move _ (Or.inl rfl) _ (he10.tmp 3 _ rfl)) (fun a11 he11 => ?_)
    clear he10
    refine wl_val he11 rfl rfl (.agg (Iv.arr ((⟨1, 0, (-1), 0, 1, 0⟩ : Iv)))) (rn_build _ _ rfl #[(0, .int .i64 (1)), (2, .int .i64 ((-1))), (4, .int .i64 (1))] (pmap3 rfl rfl rfl) _ (by kernel_rfl)) (fun a12 he12 => ?_)
    clear he11
    refine wl_val he12 rfl rfl (.agg (Iv.arr ((⟨20, 0, (-1), 0, 0, 0⟩ : Iv)))) (rn_build _ _ rfl #[(0, .int .i64 (20)), (2, .int .i64 ((-1)))] (pmap2 rfl rfl) _ (by kernel_rfl)) (fun a13 he13 => ?_)
    clear he12
    refine wl_buildSlice he13 hm2 2 rfl rfl rfl _ _ _ rfl #[(0, .agg (Iv.arr ((⟨1, 0, (-1), 0, 1, 0⟩ : Iv)))), (1, .agg (Iv.arr ((⟨20, 0, (-1), 0, 0, 0⟩ : Iv))))] (pmap2 (he13.tmp 21 _ rfl) (he13.tmp 22 _ rfl)) 48 ((cellsOf Iv.arr [(⟨1, 0, (-1), 0, 1, 0⟩ : Iv), (⟨20, 0, (-1), 0, 0, 0⟩ : Iv)]).toArray) (by kernel_rfl) (fun a14 w3 b2 he14 hm3 => ?_)
    clear he13 hm2
    have rw2_0 : Rw ((cellsOf Iv.arr [(⟨1, 0, (-1), 0, 1, 0⟩ : Iv), (⟨20, 0, (-1), 0, 0, 0⟩ : Iv)]).toArray) 2 2 6 (cellsOf Iv.arr ([(⟨1, 0, (-1), 0, 1, 0⟩ : Iv), (⟨20, 0, (-1), 0, 0, 0⟩ : Iv)])) := Rw.lits Iv.sz [(⟨1, 0, (-1), 0, 1, 0⟩ : Iv), (⟨20, 0, (-1), 0, 0, 0⟩ : Iv)] (by simp [maxLen])
    refine wl_append (k := pn) (cap := pc) he14 hm3 1 rfl rfl rfl _ _ _ rfl el48 (he14.tmp 20 _ rfl) hrw ⟨b2, 0, none⟩ 2 2 (he14.tmp 23 _ rfl) (cellsOf Iv.arr ([(⟨1, 0, (-1), 0, 1, 0⟩ : Iv), (⟨20, 0, (-1), 0, 0, 0⟩ : Iv)])) (rw2_0.len) (fun j u hu => by rw [Addr.add_mid, Nat.zero_add, (hm3.bx 2 _ _ _ _ rfl).cell]; exact rw2_0.get j u hu) (cellsOf_one Iv.one _) (by simp only [maxLen]; omega) (by omega) (fun a15 w4 b1_15 cap1_15 cur1_15 he15 hm4 rw1_15 => ?_)
    clear he14 hm3
    replace rw1_15 := rw1_15.app
    refine wl_val he15 rfl rfl (.slice (some ⟨b1_15, 0, none⟩) (pn + 2) (cap1_15)) (rn_move _ (Or.inr rfl) _ (he15.tmp 24 _ rfl)) (fun a16 he16 => ?_)
    clear he15
    refine wl_end ?_
    refine wp_ret ?_
    have hN : pn + 2 = (progM f n).length := (by rw [show n = i by omega, hpn]; simp [progM, endL])
    have hL : cellsOf Iv.arr ((progL f (i)) ++ ([(⟨1, 0, (-1), 0, 1, 0⟩ : Iv), (⟨20, 0, (-1), 0, 0, 0⟩ : Iv)])) = cellsOf Iv.arr (progM f n) := congrArg _ (by rw [show n = i by omega]; simp [progM, endL])
    exact bodyPost_ret (results_tmp he16 _ Try.results29 _ rfl) he16.defers ⟨(cap1_15, cur1_15), _, congrArg (fun k => Ending.returned (.slice (some ⟨b1_15, 0, none⟩) k (cap1_15))) hN, hm4.bx 1 _ _ _ _ rfl, rw1_15.cast hN hL, by have := hm4.own 1 _ rfl rfl; simpa using this, hm4.below⟩
  · have hd1p := of_decide_eq_true hd1
    refine wl_val he9 rfl rfl (.bool true) (rn_bin _ _ _ _ _ rfl .i64 _ _ (he9.tmp 7 _ rfl) (he9.tmp 9 _ rfl) (.bool (decide (((i : Nat) : Int) < ((n : Nat) : Int)))) _ rfl (congrArg Value.bool (hd1))) (fun a10 he10 => ?_)
    clear he9
    refine wl_end ?_
    refine wp_condT (he := he10) rfl ?_
    refine wp_skip ?_
    refine then_normal ?_
    refine wp_seq ?_
    refine wp_block ?_
    refine wp_region_lit ?_
    refine wl_val he10 rfl rfl (.slice (some ⟨pb, 0, none⟩) (pn) (pc)) (rn_move _ (Or.inl rfl) _ (he10.tmp 3 _ rfl)) (fun a11 he11 => ?_)
    clear he10
    refine wl_val he11 rfl rfl (.slice (some ⟨b, p, none⟩) (n) (c)) (rn_move _ (Or.inl rfl) _ (he11.tmp 0 _ rfl)) (fun a12 he12 => ?_)
    clear he11
    refine wl_val he12 rfl rfl (.int .i64 (((i : Nat) : Int))) (rn_move _ (Or.inl rfl) _ (he12.tmp 4 _ rfl)) (fun a13 he13 => ?_)
    clear he12
    refine wl_val he13 rfl rfl (.pointer (some ⟨b, p + i * 5, none⟩)) (rn_indexA _ _ _ rfl _ _ (.pointer (some ⟨b, p + i * 5, none⟩)) (he13.tmp 14 _ rfl) (he13.tmp 15 _ rfl) (ixS 39 5 (by kernel_rfl) (fun w => by kernel_rfl) (b) (p) (n) (c) (i) (by omega) _)) (fun a14 he14 => ?_)
    clear he13
    refine wl_val he14 rfl rfl (.agg (Ru.arr (f i))) (rn_rowA hm2 hR (by simp) (i) (by omega) _ _ rfl (he14.tmp 16 _ rfl) agg39 (by kernel_rfl)) (fun a15 he15 => ?_)
    clear he14
    refine wl_callN he15 hm2 2 rfl rfl rfl _ #[.agg (Ru.arr (f i))] (enter_call _ _ _ rfl 45 #[] #[] rfl #[.agg (Ru.arr (f i))] (map1 (he15.tmp 17 _ rfl)) #[.agg (Ru.arr (f i))] rfl (fun _ _ => by kernel_rfl)) (c_l9Rule (f i) _) (fun x2 b2 a16 w3 hx2 he16 hm3 => ?_)
    clear he15 hm2
    have rw2_n : Rw (x2.2) ((ruleL (f i)).length) (x2.1) 6 (cellsOf Iv.arr (ruleL (f i))) := hx2
    refine wl_append (k := pn) (cap := pc) he16 hm3 1 rfl rfl rfl _ _ _ rfl el48 (he16.tmp 13 _ rfl) hrw ⟨b2, 0, none⟩ ((ruleL (f i)).length) x2.1 (he16.tmp 18 _ rfl) (cellsOf Iv.arr (ruleL (f i))) (rw2_n.len) (fun j u hu => by rw [Addr.add_mid, Nat.zero_add, (hm3.bx 2 _ _ _ _ rfl).cell]; exact rw2_n.get j u hu) (cellsOf_one Iv.one _) (by simp only [maxLen]; omega) (by omega) (fun a17 w4 b1_17 cap1_17 cur1_17 he17 hm4 rw1_17 => ?_)
    clear he16 hm3
    replace rw1_17 := rw1_17.app
    refine wl_val he17 rfl rfl (.slice (some ⟨b1_17, 0, none⟩) (pn + ((ruleL (f i)).length)) (cap1_17)) (rn_move _ (Or.inr rfl) _ (he17.tmp 19 _ rfl)) (fun a18 he18 => ?_)
    clear he17
    refine wpList_nil ?_
    refine in_normal ?_
    refine then_normal ?_
    refine wp_region_lit ?_
    refine wl_val he18 rfl rfl (.int .i64 (((i : Nat) : Int))) (rn_move _ (Or.inl rfl) _ (he18.tmp 4 _ rfl)) (fun a19 he19 => ?_)
    clear he18
    refine wl_val he19 rfl rfl (.int .i64 (((i + 1 : Nat) : Int))) (rn_bin _ _ _ _ _ rfl .i64 _ _ (he19.tmp 11 _ rfl) rfl (.int .i64 (IntKind.wrap .i64 (((i : Nat) : Int) + 1))) _ rfl (addN (i := i) (c := 1) (by omega))) (fun a20 he20 => ?_)
    clear he19
    refine wl_val he20 rfl rfl (.int .i64 (((i + 1 : Nat) : Int))) (rn_move _ (Or.inr rfl) _ (he20.tmp 12 _ rfl)) (fun a21 he21 => ?_)
    clear he20
    refine wpList_nil ?_
    exact ⟨n - (i + 1), by omega, i + 1, pn + ((ruleL (f i)).length), b1_17, cap1_17, cur1_17, rfl, ⟨by omega, by rw [progL, List.length_append, hpn], rw1_17⟩, he21.sub _ ⟨rfl, rfl, rfl, rfl, rfl, rfl, trivial⟩, hm4.sub _ ⟨rfl, trivial⟩⟩
theorem c_RProg (f : Nat → Ru) (b p n c : Nat) (w : World) (hR : RowAt w b p n 5 fun i => (f i).arr) (hn : n ≤ 1048576) (hok : ruOks f n = true) :
    Calls Try.prog 15 #[.slice (some ⟨b, p, none⟩) (n) (c)] w fun e w' => NewIv w (progM f n) e w' := by
  refine calls_begin Try.func15 rfl 25 rfl (Nat.le_of_ble_eq_true rfl) [(0, .slice (some ⟨b, p, none⟩) (n) (c))] ⟨rfl, trivial⟩ (fun a0 he0 hm0 => ?_)
  have hn6 := (ruOks_all hok).2
  refine wp_seqR ?_
  refine wl_val he0 rfl rfl (.slice none 0 0) (rn_move _ (Or.inr rfl) _ rfl) (fun a1 he1 => ?_)
  clear he0
  refine wl_end ?_
  refine wp_seq ?_
  refine wp_seqR ?_
  refine wl_val he1 rfl rfl (.slice (some ⟨b, p, none⟩) (n) (c)) (rn_move _ (Or.inl rfl) _ (he1.tmp 0 _ rfl)) (fun a2 he2 => ?_)
  clear he1
  refine wl_call he2 hm0 rfl rfl _ #[.slice (some ⟨b, p, none⟩) (n) (c)] (enter_call _ _ _ rfl 10 #[] #[] rfl #[.slice (some ⟨b, p, none⟩) (n) (c)] (map1 (he2.tmp 6 _ rfl)) #[.slice (some ⟨b, p, none⟩) (n) (c)] rfl (fun _ _ => by kernel_rfl)) (.bool true) (callsV (congrArg Value.bool (hok)) (c_Oks f b p n c _ (hR.kb hm0.keep (by simp)) hn)) (fun a3 w1 he3 hm1 => ?_)
  clear he2 hm0
  refine wl_val he3 rfl rfl (.bool false) (rn_un _ _ _ rfl _ (.bool (!true)) _ (he3.tmp 7 _ rfl) rfl rfl) (fun a4 he4 => ?_)
  clear he3
  refine wl_end ?_
  refine wp_condF (he := he4) rfl ?_
  refine wp_skip ?_
  refine then_normal ?_
  refine wp_seqR ?_
  refine wl_val he4 rfl rfl (.agg (Iv.arr ((⟨1, 6, 1, 0, 0, 0⟩ : Iv)))) (rn_build _ _ rfl #[(0, .int .i64 (1)), (1, .int .i64 (6)), (2, .int .i64 (1))] (pmap3 rfl rfl rfl) _ (by kernel_rfl)) (fun a5 he5 => ?_)
  clear he4
  refine wl_buildSlice he5 hm1 1 rfl rfl rfl _ _ _ rfl #[(0, .agg (Iv.arr ((⟨1, 6, 1, 0, 0, 0⟩ : Iv))))] (pmap1 (he5.tmp 9 _ rfl)) 48 ((cellsOf Iv.arr [(⟨1, 6, 1, 0, 0, 0⟩ : Iv)]).toArray) (by kernel_rfl) (fun a6 w2 b1 he6 hm2 => ?_)
  clear he5 hm1
  have rw1_0 : Rw ((cellsOf Iv.arr [(⟨1, 6, 1, 0, 0, 0⟩ : Iv)]).toArray) 1 1 6 (cellsOf Iv.arr ([(⟨1, 6, 1, 0, 0, 0⟩ : Iv)])) := Rw.lits Iv.sz [(⟨1, 6, 1, 0, 0, 0⟩ : Iv)] (by simp [maxLen])
  refine wl_val he6 rfl rfl (.slice (some ⟨b1, 0, none⟩) (1) (1)) (rn_move _ (Or.inr rfl) _ (he6.tmp 10 _ rfl)) (fun a7 he7 => ?_)
  clear he6
  refine wl_end ?_
  refine wp_seq ?_
  refine wp_seqR ?_
  refine wl_val he7 rfl rfl (.slice (some ⟨b, p, none⟩) (n) (c)) (rn_move _ (Or.inl rfl) _ (he7.tmp 0 _ rfl)) (fun a8 he8 => ?_)
  clear he7
  refine wl_val he8 rfl rfl (.int .i64 (((n : Nat) : Int))) (rn_builtin _ _ _ rfl #[.slice (some ⟨b, p, none⟩) (n) (c)] (map1 (he8.tmp 11 _ rfl)) (.int .i64 (((n : Nat) : Int))) (by kernel_rfl)) (fun a9 he9 => ?_)
  clear he8
  refine wl_val he9 rfl rfl (.int .i64 (0)) (rn_move _ (Or.inl rfl) _ rfl) (fun a10 he10 => ?_)
  clear he9
  refine wl_end ?_
  refine wp_block ?_
  refine wp_loopN (fun mz az wz => ∃ (i : Nat), ∃ (pn : Nat), ∃ (pb : Nat), ∃ (pc : Nat), ∃ (cur : Array Value), mz = n - (i) ∧ (i ≤ n ∧ pn = (progL f (i)).length ∧ Rw (cur) (pn) (pc) 6 (cellsOf Iv.arr (progL f (i)))) ∧ EV az 25 [] [(0, .slice (some ⟨b, p, none⟩) (n) (c)), (2, .slice none 0 0), (6, .slice (some ⟨b, p, none⟩) (n) (c)), (7, .bool true), (8, .bool false), (9, .agg (Iv.arr ((⟨1, 6, 1, 0, 0, 0⟩ : Iv)))), (10, .slice (some ⟨b1, 0, none⟩) (1) (1)), (11, .slice (some ⟨b, p, none⟩) (n) (c)), (12, .int .i64 (((n : Nat) : Int))), (13, .int .i64 (((i : Nat) : Int))), (3, .slice (some ⟨pb, 0, none⟩) (pn) (pc))] ∧ MM [] w wz [(1, ⟨true, pb, 48, cur⟩)]) ⟨_, 0, 1, b1, 1, (cellsOf Iv.arr [(⟨1, 6, 1, 0, 0, 0⟩ : Iv)]).toArray, rfl, ⟨by omega, rfl, rw1_0⟩, he10.sub _ ⟨rfl, rfl, rfl, rfl, rfl, rfl, rfl, rfl, rfl, rfl, rfl, trivial⟩, hm2.sub _ ⟨rfl, trivial⟩⟩ ?_
  rintro mz1 a11 w3 ⟨i, pn, pb, pc, cur, rfl, hrel1, he11, hm3⟩
  clear he10 hm2
  obtain ⟨hra, hpn, hrw⟩ := hrel1
  have hp7 : pn ≤ 1 + 7 * i := by rw [hpn]; exact progL_le f i
  have hr7 := ruleL_le (f i)
  refine wp_seqR ?_
  cases hd1 : (decide (((i : Nat) : Int) < ((n : Nat) : Int)))
  · have hd1p := of_decide_eq_false hd1
    refine wl_val he11 rfl rfl (.bool false) (rn_bin _ _ _ _ _ rfl .i64 _ _ (he11.tmp 13 _ rfl) (he11.tmp 12 _ rfl) (.bool (decide (((i : Nat) : Int) < ((n : Nat) : Int)))) _ rfl (congrArg Value.bool (hd1))) (fun a12 he12 => ?_)
    clear he11
    refine wl_end ?_
    refine wp_seq ?_
    refine wp_condF (he := he12) rfl ?_
    refine wp_exit ?_
    refine exit_then ?_
    refine exit_then ?_
    refine exit_here ?_
    refine then_normal ?_
    refine wp_seqR ?_
    refine wl_val he12 rfl rfl (.slice (some ⟨pb, 0, none⟩) (pn) (pc)) (rn_move _ (Or.inl rfl) _ (he12.tmp 3 _ rfl)) (fun a13 he13 => ?_)
    clear he12
    refine wl_callN he13 hm3 2 rfl rfl rfl _ #[.int .i64 (1)] (enter_call _ _ _ rfl 31 #[] #[] rfl #[.int .i64 (1)] (map1 rfl) #[.int .i64 (1)] rfl (fun _ _ => by kernel_rfl)) (c_endOps (1) _) (fun x2 b2 a14 w4 hx2 he14 hm4 => ?_)
    clear he13 hm3
    have rw2_n : Rw (x2.2) (2) (x2.1) 6 (cellsOf Iv.arr (endL (1))) := hx2
    refine wl_append (k := pn) (cap := pc) he14 hm4 1 rfl rfl rfl _ _ _ rfl el48 (he14.tmp 22 _ rfl) hrw ⟨b2, 0, none⟩ 2 x2.1 (he14.tmp 23 _ rfl) (cellsOf Iv.arr (endL (1))) (rw2_n.len) (fun j u hu => by rw [Addr.add_mid, Nat.zero_add, (hm4.bx 2 _ _ _ _ rfl).cell]; exact rw2_n.get j u hu) (cellsOf_one Iv.one _) (by simp only [maxLen]; omega) (by omega) (fun a15 w5 b1_15 cap1_15 cur1_15 he15 hm5 rw1_15 => ?_)
    clear he14 hm4
    replace rw1_15 := rw1_15.app
    refine wl_val he15 rfl rfl (.slice (some ⟨b1_15, 0, none⟩) (pn + 2) (cap1_15)) (rn_move _ (Or.inr rfl) _ (he15.tmp 24 _ rfl)) (fun a16 he16 => ?_)
    clear he15
    refine wl_end ?_
    refine wp_ret ?_
    have hN : pn + 2 = (progM f n).length := (by rw [show n = i by omega, hpn]; simp [progM, endL])
    have hL : cellsOf Iv.arr ((progL f (i)) ++ (endL (1))) = cellsOf Iv.arr (progM f n) := congrArg _ (by rw [show n = i by omega]; simp [progM, endL])
    exact bodyPost_ret (results_tmp he16 _ Try.results15 _ rfl) he16.defers ⟨(cap1_15, cur1_15), _, congrArg (fun k => Ending.returned (.slice (some ⟨b1_15, 0, none⟩) k (cap1_15))) hN, hm5.bx 1 _ _ _ _ rfl, rw1_15.cast hN hL, by have := hm5.own 1 _ rfl rfl; simpa using this, hm5.below⟩
  · have hd1p := of_decide_eq_true hd1
    refine wl_val he11 rfl rfl (.bool true) (rn_bin _ _ _ _ _ rfl .i64 _ _ (he11.tmp 13 _ rfl) (he11.tmp 12 _ rfl) (.bool (decide (((i : Nat) : Int) < ((n : Nat) : Int)))) _ rfl (congrArg Value.bool (hd1))) (fun a12 he12 => ?_)
    clear he11
    refine wl_end ?_
    refine wp_seq ?_
    refine wp_condT (he := he12) rfl ?_
    refine wp_skip ?_
    refine then_normal ?_
    refine wp_seq ?_
    refine wp_block ?_
    refine wp_seqR ?_
    refine wl_val he12 rfl rfl (.pointer (some ⟨b, p + i * 5, none⟩)) (rn_indexA _ _ _ rfl _ _ (.pointer (some ⟨b, p + i * 5, none⟩)) (he12.tmp 11 _ rfl) (he12.tmp 13 _ rfl) (ixS 39 5 (by kernel_rfl) (fun w => by kernel_rfl) (b) (p) (n) (c) (i) (by omega) _)) (fun a13 he13 => ?_)
    clear he12
    refine wl_val he13 rfl rfl (.agg (Ru.arr (f i))) (rn_rowA hm3 hR (by simp) (i) (by omega) _ _ rfl (he13.tmp 15 _ rfl) agg39 (by kernel_rfl)) (fun a14 he14 => ?_)
    clear he13
    refine wl_alloc he14 hm3 2 rfl rfl rfl _ rfl (.agg #[.int .i64 0, .int .i64 0, .int .i64 0, .int .i64 0, .int .i64 0]) (fun w => by kernel_rfl) (#[.int .i64 (0), .int .i64 (0), .int .i64 (0), .int .i64 (0), .int .i64 (0)]) rfl (fun a15 w4 b2 he15 hm4 => ?_)
    clear he14 hm3
    refine wl_store he15 hm4 2 rfl rfl rfl _ _ _ rfl (0) (he15.tmp 5 _ rfl) _ (he15.tmp 16 _ rfl) 5 agg39.size rfl (Ru.one _) (by decide) (Ru.arr (f i)) (by kernel_rfl) (fun w5 hm5 => ?_)
    clear hm4
    refine wl_end ?_
    refine wp_region_lit ?_
    refine wl_val he15 rfl rfl (.slice (some ⟨pb, 0, none⟩) (pn) (pc)) (rn_move _ (Or.inl rfl) _ (he15.tmp 3 _ rfl)) (fun a16 he16 => ?_)
    clear he15
    refine wl_val he16 rfl rfl (.agg (Ru.arr (f i))) (rn_loadA hm5 2 rfl _ _ rfl (0) (he16.tmp 5 _ rfl) 5 agg39 (Ru.arr (f i)) (by kernel_rfl) rfl) (fun a17 he17 => ?_)
    clear he16
    refine wl_callN he17 hm5 3 rfl rfl rfl _ #[.agg (Ru.arr (f i))] (enter_call _ _ _ rfl 30 #[] #[] rfl #[.agg (Ru.arr (f i))] (map1 (he17.tmp 18 _ rfl)) #[.agg (Ru.arr (f i))] rfl (fun _ _ => by kernel_rfl)) (c_ruleOps (f i) _) (fun x3 b3 a18 w6 hx3 he18 hm6 => ?_)
    clear he17 hm5
    have rw3_n : Rw (x3.2) ((ruleL (f i)).length) (x3.1) 6 (cellsOf Iv.arr (ruleL (f i))) := hx3
    refine wl_append (k := pn) (cap := pc) he18 hm6 1 rfl rfl rfl _ _ _ rfl el48 (he18.tmp 17 _ rfl) hrw ⟨b3, 0, none⟩ ((ruleL (f i)).length) x3.1 (he18.tmp 19 _ rfl) (cellsOf Iv.arr (ruleL (f i))) (rw3_n.len) (fun j u hu => by rw [Addr.add_mid, Nat.zero_add, (hm6.bx 3 _ _ _ _ rfl).cell]; exact rw3_n.get j u hu) (cellsOf_one Iv.one _) (by simp only [maxLen]; omega) (by omega) (fun a19 w7 b1_19 cap1_19 cur1_19 he19 hm7 rw1_19 => ?_)
    clear he18 hm6
    replace rw1_19 := rw1_19.app
    refine wl_val he19 rfl rfl (.slice (some ⟨b1_19, 0, none⟩) (pn + ((ruleL (f i)).length)) (cap1_19)) (rn_move _ (Or.inr rfl) _ (he19.tmp 20 _ rfl)) (fun a20 he20 => ?_)
    clear he19
    refine wpList_nil ?_
    refine in_normal ?_
    refine then_normal ?_
    refine wp_region_lit ?_
    refine wl_val he20 rfl rfl (.int .i64 (((i + 1 : Nat) : Int))) (rn_bin _ _ _ _ _ rfl .i64 _ _ (he20.tmp 13 _ rfl) rfl (.int .i64 (IntKind.wrap .i64 (((i : Nat) : Int) + 1))) _ rfl (addN (i := i) (c := 1) (by omega))) (fun a21 he21 => ?_)
    clear he20
    refine wl_val he21 rfl rfl (.int .i64 (((i + 1 : Nat) : Int))) (rn_move _ (Or.inl rfl) _ (he21.tmp 21 _ rfl)) (fun a22 he22 => ?_)
    clear he21
    refine wpList_nil ?_
    exact ⟨n - (i + 1), by omega, i + 1, pn + ((ruleL (f i)).length), b1_19, cap1_19, cur1_19, rfl, ⟨by omega, by rw [progL, List.length_append, hpn], rw1_19⟩, he22.sub _ ⟨rfl, rfl, rfl, rfl, rfl, rfl, rfl, rfl, rfl, rfl, rfl, trivial⟩, hm7.sub _ ⟨rfl, trivial⟩⟩
theorem c_spRProg (f : Nat → Ru) (b p n c : Nat) (w : World) (hR : RowAt w b p n 5 fun i => (f i).arr) (hn : n ≤ 1048576) (hok : ruOks f n = true) :
    Calls Try.prog 14 #[.slice (some ⟨b, p, none⟩) (n) (c)] w fun e w' => NewIv w (progM f n) e w' := by
  refine calls_begin Try.func14 rfl 8 rfl (Nat.le_of_ble_eq_true rfl) [(0, .slice (some ⟨b, p, none⟩) (n) (c))] ⟨rfl, trivial⟩ (fun a0 he0 hm0 => ?_)
  refine wp_seqR ?_
  refine wl_val he0 rfl rfl (.slice none 0 0) (rn_move _ (Or.inr rfl) _ rfl) (fun a1 he1 => ?_)
  clear he0
  refine wl_end ?_
  refine wp_seq ?_
  refine wp_seqR ?_
  refine wl_val he1 rfl rfl (.slice (some ⟨b, p, none⟩) (n) (c)) (rn_move _ (Or.inl rfl) _ (he1.tmp 0 _ rfl)) (fun a2 he2 => ?_)
  clear he1
  refine wl_call he2 hm0 rfl rfl _ #[.slice (some ⟨b, p, none⟩) (n) (c)] (enter_call _ _ _ rfl 23 #[] #[] rfl #[.slice (some ⟨b, p, none⟩) (n) (c)] (map1 (he2.tmp 3 _ rfl)) #[.slice (some ⟨b, p, none⟩) (n) (c)] rfl (fun _ _ => by kernel_rfl)) (.bool true) (callsV (congrArg Value.bool (hok)) (c_oks f b p n c _ (hR.kb hm0.keep (by simp)) hn)) (fun a3 w1 he3 hm1 => ?_)
  clear he2 hm0
  refine wl_val he3 rfl rfl (.bool false) (rn_un _ _ _ rfl _ (.bool (!true)) _ (he3.tmp 4 _ rfl) rfl rfl) (fun a4 he4 => ?_)
  clear he3
  refine wl_end ?_
  refine wp_condF (he := he4) rfl ?_
  refine wp_skip ?_
  refine then_normal ?_
  refine wp_seqR ?_
  refine wl_val he4 rfl rfl (.slice (some ⟨b, p, none⟩) (n) (c)) (rn_move _ (Or.inl rfl) _ (he4.tmp 0 _ rfl)) (fun a5 he5 => ?_)
  clear he4
  refine wl_callN he5 hm1 1 rfl rfl rfl _ #[.slice (some ⟨b, p, none⟩) (n) (c)] (enter_call _ _ _ rfl 29 #[] #[] rfl #[.slice (some ⟨b, p, none⟩) (n) (c)] (map1 (he5.tmp 6 _ rfl)) #[.slice (some ⟨b, p, none⟩) (n) (c)] rfl (fun _ _ => by kernel_rfl)) (c_l9Prog f b p n c _ (hR.kb hm1.keep (by simp)) (ruOks_all hok).2) (fun x1 b1 a6 w2 hx1 he6 hm2 => ?_)
  clear he5 hm1
  have rw1_n : Rw (x1.2) ((progM f n).length) (x1.1) 6 (cellsOf Iv.arr (progM f n)) := hx1
  refine wl_val he6 rfl rfl (.slice (some ⟨b1, 0, none⟩) ((progM f n).length) (x1.1)) (rn_move _ (Or.inr rfl) _ (he6.tmp 7 _ rfl)) (fun a7 he7 => ?_)
  clear he6
  refine wl_end ?_
  refine wp_ret ?_
  have hN : (progM f n).length = (progM f n).length := rfl
  have hL : cellsOf Iv.arr (progM f n) = cellsOf Iv.arr (progM f n) := congrArg _ rfl
  exact bodyPost_ret (results_tmp he7 _ Try.results14 _ rfl) he7.defers ⟨(x1.1, x1.2), _, congrArg (fun k => Ending.returned (.slice (some ⟨b1, 0, none⟩) k (x1.1))) hN, hm2.bx 1 _ _ _ _ rfl, rw1_n.cast hN hL, by have := hm2.own 1 _ rfl rfl; simpa using this, hm2.below⟩
theorem c_RProg_no (f : Nat → Ru) (b p n c : Nat) (w : World) (hR : RowAt w b p n 5 fun i => (f i).arr) (hn : n ≤ 1048576) (hok : ruOks f n = false) :
    Calls Try.prog 15 #[.slice (some ⟨b, p, none⟩) (n) (c)] w fun e w' => e = .returned (.slice none 0 0) ∧ Below w.heap.size w w' := by
  refine calls_begin Try.func15 rfl 25 rfl (Nat.le_of_ble_eq_true rfl) [(0, .slice (some ⟨b, p, none⟩) (n) (c))] ⟨rfl, trivial⟩ (fun a0 he0 hm0 => ?_)
  refine wp_seqR ?_
  refine wl_val he0 rfl rfl (.slice none 0 0) (rn_move _ (Or.inr rfl) _ rfl) (fun a1 he1 => ?_)
  clear he0
  refine wl_end ?_
  refine wp_seq ?_
  refine wp_seqR ?_
  refine wl_val he1 rfl rfl (.slice (some ⟨b, p, none⟩) (n) (c)) (rn_move _ (Or.inl rfl) _ (he1.tmp 0 _ rfl)) (fun a2 he2 => ?_)
  clear he1
  refine wl_call he2 hm0 rfl rfl _ #[.slice (some ⟨b, p, none⟩) (n) (c)] (enter_call _ _ _ rfl 10 #[] #[] rfl #[.slice (some ⟨b, p, none⟩) (n) (c)] (map1 (he2.tmp 6 _ rfl)) #[.slice (some ⟨b, p, none⟩) (n) (c)] rfl (fun _ _ => by kernel_rfl)) (.bool false) (callsV (congrArg Value.bool (hok)) (c_Oks f b p n c _ (hR.kb hm0.keep (by simp)) hn)) (fun a3 w1 he3 hm1 => ?_)
  clear he2 hm0
  refine wl_val he3 rfl rfl (.bool true) (rn_un _ _ _ rfl _ (.bool (!false)) _ (he3.tmp 7 _ rfl) rfl rfl) (fun a4 he4 => ?_)
  clear he3
  refine wl_end ?_
  refine wp_condT (he := he4) rfl ?_
  refine wp_seqR ?_
  refine wl_val he4 rfl rfl (.slice none 0 0) (rn_move _ (Or.inr rfl) _ rfl) (fun a5 he5 => ?_)
  clear he4
  refine wl_end ?_
  refine wp_ret ?_
  refine ret_then ?_
  exact bodyPost_ret (results_tmp he5 _ Try.results15 _ rfl) he5.defers ⟨rfl, hm1.below⟩
theorem c_spRProg_no (f : Nat → Ru) (b p n c : Nat) (w : World) (hR : RowAt w b p n 5 fun i => (f i).arr) (hn : n ≤ 1048576) (hok : ruOks f n = false) :
    Calls Try.prog 14 #[.slice (some ⟨b, p, none⟩) (n) (c)] w fun e w' => e = .returned (.slice none 0 0) ∧ Below w.heap.size w w' := by
  refine calls_begin Try.func14 rfl 8 rfl (Nat.le_of_ble_eq_true rfl) [(0, .slice (some ⟨b, p, none⟩) (n) (c))] ⟨rfl, trivial⟩ (fun a0 he0 hm0 => ?_)
  refine wp_seqR ?_
  refine wl_val he0 rfl rfl (.slice none 0 0) (rn_move _ (Or.inr rfl) _ rfl) (fun a1 he1 => ?_)
  clear he0
  refine wl_end ?_
  refine wp_seq ?_
  refine wp_seqR ?_
  refine wl_val he1 rfl rfl (.slice (some ⟨b, p, none⟩) (n) (c)) (rn_move _ (Or.inl rfl) _ (he1.tmp 0 _ rfl)) (fun a2 he2 => ?_)
  clear he1
  refine wl_call he2 hm0 rfl rfl _ #[.slice (some ⟨b, p, none⟩) (n) (c)] (enter_call _ _ _ rfl 23 #[] #[] rfl #[.slice (some ⟨b, p, none⟩) (n) (c)] (map1 (he2.tmp 3 _ rfl)) #[.slice (some ⟨b, p, none⟩) (n) (c)] rfl (fun _ _ => by kernel_rfl)) (.bool false) (callsV (congrArg Value.bool (hok)) (c_oks f b p n c _ (hR.kb hm0.keep (by simp)) hn)) (fun a3 w1 he3 hm1 => ?_)
  clear he2 hm0
  refine wl_val he3 rfl rfl (.bool true) (rn_un _ _ _ rfl _ (.bool (!false)) _ (he3.tmp 4 _ rfl) rfl rfl) (fun a4 he4 => ?_)
  clear he3
  refine wl_end ?_
  refine wp_condT (he := he4) rfl ?_
  refine wp_seqR ?_
  refine wl_val he4 rfl rfl (.slice none 0 0) (rn_move _ (Or.inr rfl) _ rfl) (fun a5 he5 => ?_)
  clear he4
  refine wl_end ?_
  refine wp_ret ?_
  refine ret_then ?_
  exact bodyPost_ret (results_tmp he5 _ Try.results14 _ rfl) he5.defers ⟨rfl, hm1.below⟩
end Go.Proofs.Ytcopcajleonndaa
