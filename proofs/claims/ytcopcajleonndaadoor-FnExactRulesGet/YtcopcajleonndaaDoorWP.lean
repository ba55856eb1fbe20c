/- Rules marked and held, by the laws. -/
import Derived.Test.YtcopcajleonndaaDoorWJ
namespace Go.Proofs.YtcopcajleonndaaDoor
open Go.RowKit
set_option linter.unusedVariables false
set_option linter.unusedSimpArgs false
def mark1 (A : Array Value) (o k : Nat) : Array Value :=
  ovw (ovw (ovw (ovw (ovw A o (#[.int .i64 ((k : Nat) : Int)] : Array Value).toList) (o + 1) (#[.int .i64 ((k + 1 : Nat) : Int)] : Array Value).toList) (o + 2) (#[.int .i64 ((k + 1 + 1 : Nat) : Int)] : Array Value).toList) (o + 3) (#[.int .i64 ((k + 1 + 1 + 1 : Nat) : Int)] : Array Value).toList) (o + 4) (#[.int .i64 ((k + 1 + 1 + 1 + 1 : Nat) : Int)] : Array Value).toList
def markA (A : Array Value) (k : Nat) : Nat → Array Value
  | 0 => A
  | i + 1 => mark1 (markA A k i) (0 + i * 5) (k + 5 * i)
def markF (k : Nat) (i : Nat) : Ru := ⟨((k + 5 * i : Nat) : Int), ((k + 5 * i + 1 : Nat) : Int), ((k + 5 * i + 1 + 1 : Nat) : Int), ((k + 5 * i + 1 + 1 + 1 : Nat) : Int), ((k + 5 * i + 1 + 1 + 1 + 1 : Nat) : Int)⟩
theorem mark1_size (A : Array Value) (o k : Nat) : (mark1 A o k).size = A.size := by unfold mark1; simp only [ovw_size]
theorem markA_size (A : Array Value) (k : Nat) : ∀ n, (markA A k n).size = A.size
  | 0 => rfl
  | n + 1 => by rw [markA, mark1_size, markA_size]
theorem ov1 (A : Array Value) (o : Nat) (v : Value) (m : Nat) (h : o < A.size) : (ovw A o (#[v] : Array Value).toList)[m]? = if m = o then some v else A[m]? := by
  show (A.setIfInBounds o v)[m]? = _
  by_cases e : m = o
  · subst e; simp [h]
  · rw [if_neg e, Array.getElem?_setIfInBounds_ne (Ne.symm e)]
theorem mark1_in {A : Array Value} {o k j : Nat} (h : o + 5 ≤ A.size) (hj : j < 5) : (mark1 A o k)[o + j]? = some (.int .i64 ((k + j : Nat) : Int)) := by
  unfold mark1
  rw [ov1 _ _ _ _ (by simp only [ovw_size]; omega), ov1 _ _ _ _ (by simp only [ovw_size]; omega), ov1 _ _ _ _ (by simp only [ovw_size]; omega), ov1 _ _ _ _ (by simp only [ovw_size]; omega), ov1 _ _ _ _ (by omega)]
  rcases (by omega : j = 0 ∨ j = 1 ∨ j = 2 ∨ j = 3 ∨ j = 4) with rfl | rfl | rfl | rfl | rfl <;> simp <;> omega
theorem mark1_out {A : Array Value} {o k m : Nat} (h : o + 5 ≤ A.size) (hm : m < o ∨ o + 5 ≤ m) : (mark1 A o k)[m]? = A[m]? := by
  unfold mark1
  rw [ov1 _ _ _ _ (by simp only [ovw_size]; omega), ov1 _ _ _ _ (by simp only [ovw_size]; omega), ov1 _ _ _ _ (by simp only [ovw_size]; omega), ov1 _ _ _ _ (by simp only [ovw_size]; omega), ov1 _ _ _ _ (by omega)]
  rw [if_neg (by omega), if_neg (by omega), if_neg (by omega), if_neg (by omega), if_neg (by omega)]
theorem markA_row (A : Array Value) (k : Nat) : ∀ n, n * 5 ≤ A.size → RuRow (markA A k n) (markF k) n
  | 0, _ => fun i hi => absurd hi (Nat.not_lt_zero _)
  | n + 1, h => by
    intro i hi j hj
    rw [markA]
    rcases Nat.lt_or_ge i n with h1 | h1
    · rw [mark1_out (by rw [markA_size]; omega) (by omega)]; exact markA_row A k n (by omega) i h1 j hj
    · obtain rfl : i = n := by omega
      rw [mark1_in (by rw [markA_size]; omega) hj]
      rcases (by omega : j = 0 ∨ j = 1 ∨ j = 2 ∨ j = 3 ∨ j = 4) with rfl | rfl | rfl | rfl | rfl <;> rfl
set_option maxHeartbeats 4000000 in
theorem c_mark (A : Array Value) (b n c k : Nat) (w : World) (hA : BX w b 36 A) (hs : n * 5 ≤ A.size) (hn : n ≤ 1048576) (hk : k ≤ 1048576) :
    Calls Tryd.prog 12 #[.slice (some ⟨b, 0, none⟩) (n) (c), .int .i64 (((k : Nat) : Int))] w fun e w' => e = .returned (.int .i64 ((k + 5 * n : Nat) : Int)) ∧ KB [b] w w' ∧ BX w' b 36 (markA A k n) := by
  refine calls_begin Tryd.func12 rfl 48 rfl (Nat.le_of_ble_eq_true rfl) [(0, .slice (some ⟨b, 0, none⟩) (n) (c)), (1, .int .i64 (((k : Nat) : Int)))] ⟨rfl, rfl, trivial⟩ (fun a0 he0 hm0 => ?_)
  have hm1 := MM.start1 (w := w) 1 hA
  clear hm0
  refine wp_seqR ?_
  refine wl_val he0 rfl rfl (.int .i64 (0)) (rn_move _ (Or.inr rfl) _ rfl) (fun a1 he1 => ?_)
  clear he0
  refine wl_end ?_
  refine wp_seq ?_
  refine wp_seqR ?_
  refine wl_val he1 rfl rfl (.int .i64 (0)) (rn_move _ (Or.inr rfl) _ rfl) (fun a2 he2 => ?_)
  clear he1
  refine wl_end ?_
  refine wp_block ?_
  refine wp_loopN (fun mz az wz => ∃ (i : Nat), ∃ (kk : Nat), ∃ (cur : Array Value), mz = n - (i) ∧ (i ≤ n ∧ kk = k + 5 * (i) ∧ cur = markA A k (i)) ∧ EV az 48 [] [(0, .slice (some ⟨b, 0, none⟩) (n) (c)), (4, .int .i64 (0)), (5, .int .i64 (((i : Nat) : Int))), (1, .int .i64 (((kk : Nat) : Int)))] ∧ MM [b] w wz [(1, ⟨true, b, 36, cur⟩)]) ⟨_, 0, k, A, rfl, ⟨by omega, by omega, rfl⟩, he2.sub _ ⟨rfl, rfl, rfl, rfl, trivial⟩, hm1.sub _ ⟨rfl, trivial⟩⟩ ?_
  rintro mz1 a3 w2 ⟨i, kk, cur, rfl, hrel1, he3, hm2⟩
  clear he2 hm1
  obtain ⟨hra, hkk, hcur⟩ := hrel1
  have hsz : cur.size = A.size := by rw [hcur, markA_size]
  refine wp_seq ?_
  refine wp_seqR ?_
  refine wl_val he3 rfl rfl (.int .i64 (((i : Nat) : Int))) (rn_move _ (Or.inl rfl) _ (he3.tmp 5 _ rfl)) (fun a4 he4 => ?_)
  clear he3
  refine wl_val he4 rfl rfl (.slice (some ⟨b, 0, none⟩) (n) (c)) (rn_move _ (Or.inl rfl) _ (he4.tmp 0 _ rfl)) (fun a5 he5 => ?_)
  clear he4
  refine wl_val he5 rfl rfl (.int .i64 (((n : Nat) : Int))) (rn_builtin _ _ _ rfl #[.slice (some ⟨b, 0, none⟩) (n) (c)] (map1 (he5.tmp 7 _ rfl)) (.int .i64 (((n : Nat) : Int))) (by kernel_rfl)) (fun a6 he6 => ?_)
  clear he5
  cases hd1 : (decide (((i : Nat) : Int) < ((n : Nat) : Int)))
  · have hd1p := of_decide_eq_false hd1
    refine wl_val he6 rfl rfl (.bool false) (rn_bin _ _ _ _ _ rfl .i64 _ _ (he6.tmp 6 _ rfl) (he6.tmp 8 _ rfl) (.bool (decide (((i : Nat) : Int) < ((n : Nat) : Int)))) _ rfl (congrArg Value.bool (hd1))) (fun a7 he7 => ?_)
    clear he6
    refine wl_end ?_
    refine wp_condF (he := he7) rfl ?_
    refine wp_exit ?_
    refine exit_then ?_
    refine exit_then ?_
    refine exit_here ?_
    refine then_normal ?_
    refine wp_seqR ?_
    refine wl_val he7 rfl rfl (.int .i64 (((kk : Nat) : Int))) (rn_move _ (Or.inl rfl) _ (he7.tmp 1 _ rfl)) (fun a8 he8 => ?_)
    clear he7
    refine wl_val he8 rfl rfl (.int .i64 (((kk : Nat) : Int))) (rn_move _ (Or.inr rfl) _ (he8.tmp 47 _ rfl)) (fun a9 he9 => ?_)
    clear he8
    refine wl_end ?_
    refine wp_ret ?_
    exact bodyPost_ret (results_tmp he9 _ Tryd.results12 _ rfl) he9.defers ⟨by rw [hkk, show i = n by omega], hm2.keep, by have := hm2.bx 1 _ _ _ _ rfl; rw [hcur, show i = n by omega] at this; exact this⟩
  · have hd1p := of_decide_eq_true hd1
    refine wl_val he6 rfl rfl (.bool true) (rn_bin _ _ _ _ _ rfl .i64 _ _ (he6.tmp 6 _ rfl) (he6.tmp 8 _ rfl) (.bool (decide (((i : Nat) : Int) < ((n : Nat) : Int)))) _ rfl (congrArg Value.bool (hd1))) (fun a7 he7 => ?_)
    clear he6
    refine wl_end ?_
    refine wp_condT (he := he7) rfl ?_
    refine wp_skip ?_
    refine then_normal ?_
    refine wp_seq ?_
    refine wp_block ?_
    refine wp_seqR ?_
    refine wl_val he7 rfl rfl (.slice (some ⟨b, 0, none⟩) (n) (c)) (rn_move _ (Or.inl rfl) _ (he7.tmp 0 _ rfl)) (fun a8 he8 => ?_)
    clear he7
    refine wl_val he8 rfl rfl (.int .i64 (((i : Nat) : Int))) (rn_move _ (Or.inl rfl) _ (he8.tmp 5 _ rfl)) (fun a9 he9 => ?_)
    clear he8
    refine wl_val he9 rfl rfl (.int .i64 (((kk : Nat) : Int))) (rn_move _ (Or.inl rfl) _ (he9.tmp 1 _ rfl)) (fun a10 he10 => ?_)
    clear he9
    refine wl_val he10 rfl rfl (.pointer (some ⟨b, 0 + i * 5, none⟩)) (rn_indexA _ _ _ rfl _ _ (.pointer (some ⟨b, 0 + i * 5, none⟩)) (he10.tmp 12 _ rfl) (he10.tmp 13 _ rfl) (ixS 36 5 (by kernel_rfl) (fun w => by kernel_rfl) (b) (0) (n) (c) (i) (by omega) _)) (fun a11 he11 => ?_)
    clear he10
    refine wl_val he11 rfl rfl (.pointer (some ⟨b, 0 + i * 5, none⟩)) (rn_field _ _ _ rfl _ (.pointer (some ⟨b, 0 + i * 5, none⟩)) (he11.tmp 15 _ rfl) (by kernel_rfl)) (fun a12 he12 => ?_)
    clear he11
    refine wl_store he12 hm2 1 rfl rfl rfl _ _ _ rfl (0 + i * 5) (he12.tmp 16 _ rfl) _ (he12.tmp 14 _ rfl) 1 one3.size rfl (by kernel_rfl) (by simp only [ovw_size, hsz]; omega) (ovw (cur) (0 + i * 5) (#[.int .i64 (((kk : Nat) : Int))]).toList) rfl (fun w3 hm3 => ?_)
    clear hm2
    refine wl_end ?_
    refine wp_seqR ?_
    refine wl_val he12 rfl rfl (.int .i64 (((kk : Nat) : Int))) (rn_move _ (Or.inl rfl) _ (he12.tmp 1 _ rfl)) (fun a13 he13 => ?_)
    clear he12
    refine wl_val he13 rfl rfl (.int .i64 (((kk + 1 : Nat) : Int))) (rn_bin _ _ _ _ _ rfl .i64 _ _ (he13.tmp 17 _ rfl) rfl (.int .i64 (IntKind.wrap .i64 (((kk : Nat) : Int) + 1))) _ rfl (addN (i := kk) (c := 1) (by omega))) (fun a14 he14 => ?_)
    clear he13
    refine wl_val he14 rfl rfl (.int .i64 (((kk + 1 : Nat) : Int))) (rn_move _ (Or.inr rfl) _ (he14.tmp 18 _ rfl)) (fun a15 he15 => ?_)
    clear he14
    refine wl_end ?_
    refine wp_seqR ?_
    refine wl_val he15 rfl rfl (.slice (some ⟨b, 0, none⟩) (n) (c)) (rn_move _ (Or.inl rfl) _ (he15.tmp 0 _ rfl)) (fun a16 he16 => ?_)
    clear he15
    refine wl_val he16 rfl rfl (.int .i64 (((i : Nat) : Int))) (rn_move _ (Or.inl rfl) _ (he16.tmp 5 _ rfl)) (fun a17 he17 => ?_)
    clear he16
    refine wl_val he17 rfl rfl (.int .i64 (((kk + 1 : Nat) : Int))) (rn_move _ (Or.inl rfl) _ (he17.tmp 1 _ rfl)) (fun a18 he18 => ?_)
    clear he17
    refine wl_val he18 rfl rfl (.pointer (some ⟨b, 0 + i * 5, none⟩)) (rn_indexA _ _ _ rfl _ _ (.pointer (some ⟨b, 0 + i * 5, none⟩)) (he18.tmp 19 _ rfl) (he18.tmp 20 _ rfl) (ixS 36 5 (by kernel_rfl) (fun w => by kernel_rfl) (b) (0) (n) (c) (i) (by omega) _)) (fun a19 he19 => ?_)
    clear he18
    refine wl_val he19 rfl rfl (.pointer (some ⟨b, 0 + i * 5 + 1, none⟩)) (rn_field _ _ _ rfl _ (.pointer (some ⟨b, 0 + i * 5 + 1, none⟩)) (he19.tmp 22 _ rfl) (by kernel_rfl)) (fun a20 he20 => ?_)
    clear he19
    refine wl_store he20 hm3 1 rfl rfl rfl _ _ _ rfl (0 + i * 5 + 1) (he20.tmp 23 _ rfl) _ (he20.tmp 21 _ rfl) 1 one3.size rfl (by kernel_rfl) (by simp only [ovw_size, hsz]; omega) (ovw (ovw (cur) (0 + i * 5) (#[.int .i64 (((kk : Nat) : Int))]).toList) (0 + i * 5 + 1) (#[.int .i64 (((kk + 1 : Nat) : Int))]).toList) rfl (fun w4 hm4 => ?_)
    clear hm3
    refine wl_end ?_
    refine wp_seqR ?_
    refine wl_val he20 rfl rfl (.int .i64 (((kk + 1 : Nat) : Int))) (rn_move _ (Or.inl rfl) _ (he20.tmp 1 _ rfl)) (fun a21 he21 => ?_)
    clear he20
    refine wl_val he21 rfl rfl (.int .i64 ((((kk + 1) + 1 : Nat) : Int))) (rn_bin _ _ _ _ _ rfl .i64 _ _ (he21.tmp 24 _ rfl) rfl (.int .i64 (IntKind.wrap .i64 (((kk + 1 : Nat) : Int) + 1))) _ rfl (addN (i := kk + 1) (c := 1) (by omega))) (fun a22 he22 => ?_)
    clear he21
    refine wl_val he22 rfl rfl (.int .i64 ((((kk + 1) + 1 : Nat) : Int))) (rn_move _ (Or.inr rfl) _ (he22.tmp 25 _ rfl)) (fun a23 he23 => ?_)
    clear he22
    refine wl_end ?_
    refine wp_seqR ?_
    refine wl_val he23 rfl rfl (.slice (some ⟨b, 0, none⟩) (n) (c)) (rn_move _ (Or.inl rfl) _ (he23.tmp 0 _ rfl)) (fun a24 he24 => ?_)
    clear he23
    refine wl_val he24 rfl rfl (.int .i64 (((i : Nat) : Int))) (rn_move _ (Or.inl rfl) _ (he24.tmp 5 _ rfl)) (fun a25 he25 => ?_)
    clear he24
    refine wl_val he25 rfl rfl (.int .i64 ((((kk + 1) + 1 : Nat) : Int))) (rn_move _ (Or.inl rfl) _ (he25.tmp 1 _ rfl)) (fun a26 he26 => ?_)
    clear he25
    refine wl_val he26 rfl rfl (.pointer (some ⟨b, 0 + i * 5, none⟩)) (rn_indexA _ _ _ rfl _ _ (.pointer (some ⟨b, 0 + i * 5, none⟩)) (he26.tmp 26 _ rfl) (he26.tmp 27 _ rfl) (ixS 36 5 (by kernel_rfl) (fun w => by kernel_rfl) (b) (0) (n) (c) (i) (by omega) _)) (fun a27 he27 => ?_)
    clear he26
    refine wl_val he27 rfl rfl (.pointer (some ⟨b, 0 + i * 5 + 2, none⟩)) (rn_field _ _ _ rfl _ (.pointer (some ⟨b, 0 + i * 5 + 2, none⟩)) (he27.tmp 29 _ rfl) (by kernel_rfl)) (fun a28 he28 => ?_)
    clear he27
    refine wl_store he28 hm4 1 rfl rfl rfl _ _ _ rfl (0 + i * 5 + 2) (he28.tmp 30 _ rfl) _ (he28.tmp 28 _ rfl) 1 one3.size rfl (by kernel_rfl) (by simp only [ovw_size, hsz]; omega) (ovw (ovw (ovw (cur) (0 + i * 5) (#[.int .i64 (((kk : Nat) : Int))]).toList) (0 + i * 5 + 1) (#[.int .i64 (((kk + 1 : Nat) : Int))]).toList) (0 + i * 5 + 2) (#[.int .i64 ((((kk + 1) + 1 : Nat) : Int))]).toList) rfl (fun w5 hm5 => ?_)
    clear hm4
    refine wl_end ?_
    refine wp_seqR ?_
    refine wl_val he28 rfl rfl (.int .i64 ((((kk + 1) + 1 : Nat) : Int))) (rn_move _ (Or.inl rfl) _ (he28.tmp 1 _ rfl)) (fun a29 he29 => ?_)
    clear he28
    refine wl_val he29 rfl rfl (.int .i64 (((((kk + 1) + 1) + 1 : Nat) : Int))) (rn_bin _ _ _ _ _ rfl .i64 _ _ (he29.tmp 31 _ rfl) rfl (.int .i64 (IntKind.wrap .i64 ((((kk + 1) + 1 : Nat) : Int) + 1))) _ rfl (addN (i := (kk + 1) + 1) (c := 1) (by omega))) (fun a30 he30 => ?_)
    clear he29
    refine wl_val he30 rfl rfl (.int .i64 (((((kk + 1) + 1) + 1 : Nat) : Int))) (rn_move _ (Or.inr rfl) _ (he30.tmp 32 _ rfl)) (fun a31 he31 => ?_)
    clear he30
    refine wl_end ?_
    refine wp_seqR ?_
    refine wl_val he31 rfl rfl (.slice (some ⟨b, 0, none⟩) (n) (c)) (rn_move _ (Or.inl rfl) _ (he31.tmp 0 _ rfl)) (fun a32 he32 => ?_)
    clear he31
    refine wl_val he32 rfl rfl (.int .i64 (((i : Nat) : Int))) (rn_move _ (Or.inl rfl) _ (he32.tmp 5 _ rfl)) (fun a33 he33 => ?_)
    clear he32
    refine wl_val he33 rfl rfl (.int .i64 (((((kk + 1) + 1) + 1 : Nat) : Int))) (rn_move _ (Or.inl rfl) _ (he33.tmp 1 _ rfl)) (fun a34 he34 => ?_)
    clear he33
    refine wl_val he34 rfl rfl (.pointer (some ⟨b, 0 + i * 5, none⟩)) (rn_indexA _ _ _ rfl _ _ (.pointer (some ⟨b, 0 + i * 5, none⟩)) (he34.tmp 33 _ rfl) (he34.tmp 34 _ rfl) (ixS 36 5 (by kernel_rfl) (fun w => by kernel_rfl) (b) (0) (n) (c) (i) (by omega) _)) (fun a35 he35 => ?_)
    clear he34
    refine wl_val he35 rfl rfl (.pointer (some ⟨b, 0 + i * 5 + 3, none⟩)) (rn_field _ _ _ rfl _ (.pointer (some ⟨b, 0 + i * 5 + 3, none⟩)) (he35.tmp 36 _ rfl) (by kernel_rfl)) (fun a36 he36 => ?_)
    clear he35
    refine wl_store he36 hm5 1 rfl rfl rfl _ _ _ rfl (0 + i * 5 + 3) (he36.tmp 37 _ rfl) _ (he36.tmp 35 _ rfl) 1 one3.size rfl (by kernel_rfl) (by simp only [ovw_size, hsz]; omega) (ovw (ovw (ovw (ovw (cur) (0 + i * 5) (#[.int .i64 (((kk : Nat) : Int))]).toList) (0 + i * 5 + 1) (#[.int .i64 (((kk + 1 : Nat) : Int))]).toList) (0 + i * 5 + 2) (#[.int .i64 ((((kk + 1) + 1 : Nat) : Int))]).toList) (0 + i * 5 + 3) (#[.int .i64 (((((kk + 1) + 1) + 1 : Nat) : Int))]).toList) rfl (fun w6 hm6 => ?_)
    clear hm5
    refine wl_end ?_
    refine wp_seqR ?_
    refine wl_val he36 rfl rfl (.int .i64 (((((kk + 1) + 1) + 1 : Nat) : Int))) (rn_move _ (Or.inl rfl) _ (he36.tmp 1 _ rfl)) (fun a37 he37 => ?_)
    clear he36
    refine wl_val he37 rfl rfl (.int .i64 ((((((kk + 1) + 1) + 1) + 1 : Nat) : Int))) (rn_bin _ _ _ _ _ rfl .i64 _ _ (he37.tmp 38 _ rfl) rfl (.int .i64 (IntKind.wrap .i64 (((((kk + 1) + 1) + 1 : Nat) : Int) + 1))) _ rfl (addN (i := ((kk + 1) + 1) + 1) (c := 1) (by omega))) (fun a38 he38 => ?_)
    clear he37
    refine wl_val he38 rfl rfl (.int .i64 ((((((kk + 1) + 1) + 1) + 1 : Nat) : Int))) (rn_move _ (Or.inr rfl) _ (he38.tmp 39 _ rfl)) (fun a39 he39 => ?_)
    clear he38
    refine wl_end ?_
    refine wp_seqR ?_
    refine wl_val he39 rfl rfl (.slice (some ⟨b, 0, none⟩) (n) (c)) (rn_move _ (Or.inl rfl) _ (he39.tmp 0 _ rfl)) (fun a40 he40 => ?_)
    clear he39
    refine wl_val he40 rfl rfl (.int .i64 (((i : Nat) : Int))) (rn_move _ (Or.inl rfl) _ (he40.tmp 5 _ rfl)) (fun a41 he41 => ?_)
    clear he40
    refine wl_val he41 rfl rfl (.int .i64 ((((((kk + 1) + 1) + 1) + 1 : Nat) : Int))) (rn_move _ (Or.inl rfl) _ (he41.tmp 1 _ rfl)) (fun a42 he42 => ?_)
    clear he41
    refine wl_val he42 rfl rfl (.pointer (some ⟨b, 0 + i * 5, none⟩)) (rn_indexA _ _ _ rfl _ _ (.pointer (some ⟨b, 0 + i * 5, none⟩)) (he42.tmp 40 _ rfl) (he42.tmp 41 _ rfl) (ixS 36 5 (by kernel_rfl) (fun w => by kernel_rfl) (b) (0) (n) (c) (i) (by omega) _)) (fun a43 he43 => ?_)
    clear he42
    refine wl_val he43 rfl rfl (.pointer (some ⟨b, 0 + i * 5 + 4, none⟩)) (rn_field _ _ _ rfl _ (.pointer (some ⟨b, 0 + i * 5 + 4, none⟩)) (he43.tmp 43 _ rfl) (by kernel_rfl)) (fun a44 he44 => ?_)
    clear he43
    refine wl_store he44 hm6 1 rfl rfl rfl _ _ _ rfl (0 + i * 5 + 4) (he44.tmp 44 _ rfl) _ (he44.tmp 42 _ rfl) 1 one3.size rfl (by kernel_rfl) (by simp only [ovw_size, hsz]; omega) (ovw (ovw (ovw (ovw (ovw (cur) (0 + i * 5) (#[.int .i64 (((kk : Nat) : Int))]).toList) (0 + i * 5 + 1) (#[.int .i64 (((kk + 1 : Nat) : Int))]).toList) (0 + i * 5 + 2) (#[.int .i64 ((((kk + 1) + 1 : Nat) : Int))]).toList) (0 + i * 5 + 3) (#[.int .i64 (((((kk + 1) + 1) + 1 : Nat) : Int))]).toList) (0 + i * 5 + 4) (#[.int .i64 ((((((kk + 1) + 1) + 1) + 1 : Nat) : Int))]).toList) rfl (fun w7 hm7 => ?_)
    clear hm6
    refine wl_end ?_
    refine wp_region_lit ?_
    refine wl_val he44 rfl rfl (.int .i64 ((((((kk + 1) + 1) + 1) + 1 : Nat) : Int))) (rn_move _ (Or.inl rfl) _ (he44.tmp 1 _ rfl)) (fun a45 he45 => ?_)
    clear he44
    refine wl_val he45 rfl rfl (.int .i64 (((((((kk + 1) + 1) + 1) + 1) + 1 : Nat) : Int))) (rn_bin _ _ _ _ _ rfl .i64 _ _ (he45.tmp 45 _ rfl) rfl (.int .i64 (IntKind.wrap .i64 ((((((kk + 1) + 1) + 1) + 1 : Nat) : Int) + 1))) _ rfl (addN (i := (((kk + 1) + 1) + 1) + 1) (c := 1) (by omega))) (fun a46 he46 => ?_)
    clear he45
    refine wl_val he46 rfl rfl (.int .i64 (((((((kk + 1) + 1) + 1) + 1) + 1 : Nat) : Int))) (rn_move _ (Or.inr rfl) _ (he46.tmp 46 _ rfl)) (fun a47 he47 => ?_)
    clear he46
    refine wpList_nil ?_
    refine in_normal ?_
    refine then_normal ?_
    refine wp_region_lit ?_
    refine wl_val he47 rfl rfl (.int .i64 (((i : Nat) : Int))) (rn_move _ (Or.inl rfl) _ (he47.tmp 5 _ rfl)) (fun a48 he48 => ?_)
    clear he47
    refine wl_val he48 rfl rfl (.int .i64 (((i + 1 : Nat) : Int))) (rn_bin _ _ _ _ _ rfl .i64 _ _ (he48.tmp 10 _ rfl) rfl (.int .i64 (IntKind.wrap .i64 (((i : Nat) : Int) + 1))) _ rfl (addN (i := i) (c := 1) (by omega))) (fun a49 he49 => ?_)
    clear he48
    refine wl_val he49 rfl rfl (.int .i64 (((i + 1 : Nat) : Int))) (rn_move _ (Or.inr rfl) _ (he49.tmp 11 _ rfl)) (fun a50 he50 => ?_)
    clear he49
    refine wpList_nil ?_
    exact ⟨n - (i + 1), by omega, i + 1, kk + 1 + 1 + 1 + 1 + 1, ovw (ovw (ovw (ovw (ovw (cur) (0 + i * 5) (#[.int .i64 (((kk : Nat) : Int))]).toList) (0 + i * 5 + 1) (#[.int .i64 (((kk + 1 : Nat) : Int))]).toList) (0 + i * 5 + 2) (#[.int .i64 ((((kk + 1) + 1 : Nat) : Int))]).toList) (0 + i * 5 + 3) (#[.int .i64 (((((kk + 1) + 1) + 1 : Nat) : Int))]).toList) (0 + i * 5 + 4) (#[.int .i64 ((((((kk + 1) + 1) + 1) + 1 : Nat) : Int))]).toList, rfl, ⟨by omega, by omega, by rw [hcur, hkk]; rfl⟩, he50.sub _ ⟨rfl, rfl, rfl, rfl, trivial⟩, hm7.sub _ ⟨rfl, trivial⟩⟩
theorem c_held (b p n c k : Nat) (w : World) (hR : RowAt w b p n 5 fun i => (markF k i).arr) (hn : n ≤ 1048576) (hk : k ≤ 1048576) :
    Calls Tryd.prog 13 #[.slice (some ⟨b, p, none⟩) (n) (c), .int .i64 (((k : Nat) : Int))] w fun e w' => e = .returned (.int .i64 ((k + 5 * n : Nat) : Int)) ∧ Below w.heap.size w w' := by
  refine calls_begin Tryd.func13 rfl 58 rfl (Nat.le_of_ble_eq_true rfl) [(0, .slice (some ⟨b, p, none⟩) (n) (c)), (1, .int .i64 (((k : Nat) : Int)))] ⟨rfl, rfl, trivial⟩ (fun a0 he0 hm0 => ?_)
  refine wp_seqR ?_
  refine wl_val he0 rfl rfl (.int .i64 (0)) (rn_move _ (Or.inr rfl) _ rfl) (fun a1 he1 => ?_)
  clear he0
  refine wl_end ?_
  refine wp_seq ?_
  refine wp_seqR ?_
  refine wl_val he1 rfl rfl (.int .i64 (0)) (rn_move _ (Or.inr rfl) _ rfl) (fun a2 he2 => ?_)
  clear he1
  refine wl_end ?_
  refine wp_block ?_
  refine wp_loopN (fun mz az wz => ∃ (i : Nat), ∃ (kk : Nat), mz = n - (i) ∧ (i ≤ n ∧ kk = k + 5 * (i)) ∧ EV az 58 [] [(0, .slice (some ⟨b, p, none⟩) (n) (c)), (5, .int .i64 (((i : Nat) : Int))), (1, .int .i64 (((kk : Nat) : Int)))] ∧ MM [] w wz []) ⟨_, 0, k, rfl, ⟨by omega, by omega⟩, he2.sub _ ⟨rfl, rfl, rfl, trivial⟩, hm0.sub _ trivial⟩ ?_
  rintro mz1 a3 w1 ⟨i, kk, rfl, hrel1, he3, hm1⟩
  clear he2 hm0
  obtain ⟨hra, hkk⟩ := hrel1
  refine wp_seq ?_
  refine wp_seqR ?_
  refine wl_val he3 rfl rfl (.int .i64 (((i : Nat) : Int))) (rn_move _ (Or.inl rfl) _ (he3.tmp 5 _ rfl)) (fun a4 he4 => ?_)
  clear he3
  refine wl_val he4 rfl rfl (.slice (some ⟨b, p, none⟩) (n) (c)) (rn_move _ (Or.inl rfl) _ (he4.tmp 0 _ rfl)) (fun a5 he5 => ?_)
  clear he4
  refine wl_val he5 rfl rfl (.int .i64 (((n : Nat) : Int))) (rn_builtin _ _ _ rfl #[.slice (some ⟨b, p, none⟩) (n) (c)] (map1 (he5.tmp 7 _ rfl)) (.int .i64 (((n : Nat) : Int))) (by kernel_rfl)) (fun a6 he6 => ?_)
  clear he5
  cases hd1 : (decide (((i : Nat) : Int) < ((n : Nat) : Int)))
  · have hd1p := of_decide_eq_false hd1
    refine wl_val he6 rfl rfl (.bool false) (rn_bin _ _ _ _ _ rfl .i64 _ _ (he6.tmp 6 _ rfl) (he6.tmp 8 _ rfl) (.bool (decide (((i : Nat) : Int) < ((n : Nat) : Int)))) _ rfl (congrArg Value.bool (hd1))) (fun a7 he7 => ?_)
    clear he6
    refine wl_end ?_
    refine wp_condF (he := he7) rfl ?_
    refine wp_exit ?_
    refine exit_then ?_
    refine exit_then ?_
    refine exit_here ?_
    refine then_normal ?_
    refine wp_seqR ?_
    refine wl_val he7 rfl rfl (.int .i64 (((kk : Nat) : Int))) (rn_move _ (Or.inl rfl) _ (he7.tmp 1 _ rfl)) (fun a8 he8 => ?_)
    clear he7
    refine wl_val he8 rfl rfl (.int .i64 (((kk : Nat) : Int))) (rn_move _ (Or.inr rfl) _ (he8.tmp 57 _ rfl)) (fun a9 he9 => ?_)
    clear he8
    refine wl_end ?_
    refine wp_ret ?_
    exact bodyPost_ret (results_tmp he9 _ Tryd.results13 _ rfl) he9.defers ⟨(by first | (exfalso; simp [markF] at hd1; omega) | rw [hkk, show i = n by omega]), hm1.below⟩
  · have hd1p := of_decide_eq_true hd1
    refine wl_val he6 rfl rfl (.bool true) (rn_bin _ _ _ _ _ rfl .i64 _ _ (he6.tmp 6 _ rfl) (he6.tmp 8 _ rfl) (.bool (decide (((i : Nat) : Int) < ((n : Nat) : Int)))) _ rfl (congrArg Value.bool (hd1))) (fun a7 he7 => ?_)
    clear he6
    refine wl_end ?_
    refine wp_condT (he := he7) rfl ?_
    refine wp_skip ?_
    refine then_normal ?_
    refine wp_seq ?_
    refine wp_block ?_
    refine wp_seq ?_
    refine wp_seqR ?_
    refine wl_val he7 rfl rfl (.slice (some ⟨b, p, none⟩) (n) (c)) (rn_move _ (Or.inl rfl) _ (he7.tmp 0 _ rfl)) (fun a8 he8 => ?_)
    clear he7
    refine wl_val he8 rfl rfl (.int .i64 (((i : Nat) : Int))) (rn_move _ (Or.inl rfl) _ (he8.tmp 5 _ rfl)) (fun a9 he9 => ?_)
    clear he8
    refine wl_val he9 rfl rfl (.pointer (some ⟨b, p + i * 5, none⟩)) (rn_indexA _ _ _ rfl _ _ (.pointer (some ⟨b, p + i * 5, none⟩)) (he9.tmp 12 _ rfl) (he9.tmp 13 _ rfl) (ixS 36 5 (by kernel_rfl) (fun w => by kernel_rfl) (b) (p) (n) (c) (i) (by omega) _)) (fun a10 he10 => ?_)
    clear he9
    refine wl_val he10 rfl rfl (.pointer (some ⟨b, p + i * 5, none⟩)) (rn_field _ _ _ rfl _ (.pointer (some ⟨b, p + i * 5, none⟩)) (he10.tmp 14 _ rfl) (by kernel_rfl)) (fun a11 he11 => ?_)
    clear he10
    refine wl_val he11 rfl rfl (.int .i64 ((markF k i).at_)) (rn_row1 hm1 hR (by simp) (i) (by omega) 0 (by omega) _ _ rfl (he11.tmp 15 _ rfl) one3 _ rfl) (fun a12 he12 => ?_)
    clear he11
    refine wl_val he12 rfl rfl (.int .i64 (((kk : Nat) : Int))) (rn_move _ (Or.inl rfl) _ (he12.tmp 1 _ rfl)) (fun a13 he13 => ?_)
    clear he12
    cases hd2 : (((markF k i).at_ != ((kk : Nat) : Int)))
    · have hd2p : (markF k i).at_ = ((kk : Nat) : Int) := by simpa using hd2
      refine wl_val he13 rfl rfl (.bool false) (rn_bin _ _ _ _ _ rfl .i64 _ _ (he13.tmp 16 _ rfl) (he13.tmp 17 _ rfl) (.bool (((markF k i).at_ != ((kk : Nat) : Int)))) _ rfl (congrArg Value.bool (hd2))) (fun a14 he14 => ?_)
      clear he13
      refine wl_end ?_
      refine wp_condF (he := he14) rfl ?_
      refine wp_skip ?_
      refine then_normal ?_
      refine wp_seqR ?_
      refine wl_val he14 rfl rfl (.int .i64 (((kk : Nat) : Int))) (rn_move _ (Or.inl rfl) _ (he14.tmp 1 _ rfl)) (fun a15 he15 => ?_)
      clear he14
      refine wl_val he15 rfl rfl (.int .i64 (((kk + 1 : Nat) : Int))) (rn_bin _ _ _ _ _ rfl .i64 _ _ (he15.tmp 19 _ rfl) rfl (.int .i64 (IntKind.wrap .i64 (((kk : Nat) : Int) + 1))) _ rfl (addN (i := kk) (c := 1) (by omega))) (fun a16 he16 => ?_)
      clear he15
      refine wl_val he16 rfl rfl (.int .i64 (((kk + 1 : Nat) : Int))) (rn_move _ (Or.inr rfl) _ (he16.tmp 20 _ rfl)) (fun a17 he17 => ?_)
      clear he16
      refine wl_end ?_
      refine wp_seq ?_
      refine wp_seqR ?_
      refine wl_val he17 rfl rfl (.slice (some ⟨b, p, none⟩) (n) (c)) (rn_move _ (Or.inl rfl) _ (he17.tmp 0 _ rfl)) (fun a18 he18 => ?_)
      clear he17
      refine wl_val he18 rfl rfl (.int .i64 (((i : Nat) : Int))) (rn_move _ (Or.inl rfl) _ (he18.tmp 5 _ rfl)) (fun a19 he19 => ?_)
      clear he18
      refine wl_val he19 rfl rfl (.pointer (some ⟨b, p + i * 5, none⟩)) (rn_indexA _ _ _ rfl _ _ (.pointer (some ⟨b, p + i * 5, none⟩)) (he19.tmp 21 _ rfl) (he19.tmp 22 _ rfl) (ixS 36 5 (by kernel_rfl) (fun w => by kernel_rfl) (b) (p) (n) (c) (i) (by omega) _)) (fun a20 he20 => ?_)
      clear he19
      refine wl_val he20 rfl rfl (.pointer (some ⟨b, p + i * 5 + 1, none⟩)) (rn_field _ _ _ rfl _ (.pointer (some ⟨b, p + i * 5 + 1, none⟩)) (he20.tmp 23 _ rfl) (by kernel_rfl)) (fun a21 he21 => ?_)
      clear he20
      refine wl_val he21 rfl rfl (.int .i64 ((markF k i).op)) (rn_row1 hm1 hR (by simp) (i) (by omega) 1 (by omega) _ _ rfl (he21.tmp 24 _ rfl) one3 _ rfl) (fun a22 he22 => ?_)
      clear he21
      refine wl_val he22 rfl rfl (.int .i64 (((kk + 1 : Nat) : Int))) (rn_move _ (Or.inl rfl) _ (he22.tmp 1 _ rfl)) (fun a23 he23 => ?_)
      clear he22
      cases hd3 : (((markF k i).op != ((kk + 1 : Nat) : Int)))
      · have hd3p : (markF k i).op = ((kk + 1 : Nat) : Int) := by simpa using hd3
        refine wl_val he23 rfl rfl (.bool false) (rn_bin _ _ _ _ _ rfl .i64 _ _ (he23.tmp 25 _ rfl) (he23.tmp 26 _ rfl) (.bool (((markF k i).op != ((kk + 1 : Nat) : Int)))) _ rfl (congrArg Value.bool (hd3))) (fun a24 he24 => ?_)
        clear he23
        refine wl_end ?_
        refine wp_condF (he := he24) rfl ?_
        refine wp_skip ?_
        refine then_normal ?_
        refine wp_seqR ?_
        refine wl_val he24 rfl rfl (.int .i64 (((kk + 1 : Nat) : Int))) (rn_move _ (Or.inl rfl) _ (he24.tmp 1 _ rfl)) (fun a25 he25 => ?_)
        clear he24
        refine wl_val he25 rfl rfl (.int .i64 ((((kk + 1) + 1 : Nat) : Int))) (rn_bin _ _ _ _ _ rfl .i64 _ _ (he25.tmp 28 _ rfl) rfl (.int .i64 (IntKind.wrap .i64 (((kk + 1 : Nat) : Int) + 1))) _ rfl (addN (i := kk + 1) (c := 1) (by omega))) (fun a26 he26 => ?_)
        clear he25
        refine wl_val he26 rfl rfl (.int .i64 ((((kk + 1) + 1 : Nat) : Int))) (rn_move _ (Or.inr rfl) _ (he26.tmp 29 _ rfl)) (fun a27 he27 => ?_)
        clear he26
        refine wl_end ?_
        refine wp_seq ?_
        refine wp_seqR ?_
        refine wl_val he27 rfl rfl (.slice (some ⟨b, p, none⟩) (n) (c)) (rn_move _ (Or.inl rfl) _ (he27.tmp 0 _ rfl)) (fun a28 he28 => ?_)
        clear he27
        refine wl_val he28 rfl rfl (.int .i64 (((i : Nat) : Int))) (rn_move _ (Or.inl rfl) _ (he28.tmp 5 _ rfl)) (fun a29 he29 => ?_)
        clear he28
        refine wl_val he29 rfl rfl (.pointer (some ⟨b, p + i * 5, none⟩)) (rn_indexA _ _ _ rfl _ _ (.pointer (some ⟨b, p + i * 5, none⟩)) (he29.tmp 30 _ rfl) (he29.tmp 31 _ rfl) (ixS 36 5 (by kernel_rfl) (fun w => by kernel_rfl) (b) (p) (n) (c) (i) (by omega) _)) (fun a30 he30 => ?_)
        clear he29
        refine wl_val he30 rfl rfl (.pointer (some ⟨b, p + i * 5 + 2, none⟩)) (rn_field _ _ _ rfl _ (.pointer (some ⟨b, p + i * 5 + 2, none⟩)) (he30.tmp 32 _ rfl) (by kernel_rfl)) (fun a31 he31 => ?_)
        clear he30
        refine wl_val he31 rfl rfl (.int .i64 ((markF k i).num)) (rn_row1 hm1 hR (by simp) (i) (by omega) 2 (by omega) _ _ rfl (he31.tmp 33 _ rfl) one3 _ rfl) (fun a32 he32 => ?_)
        clear he31
        refine wl_val he32 rfl rfl (.int .i64 ((((kk + 1) + 1 : Nat) : Int))) (rn_move _ (Or.inl rfl) _ (he32.tmp 1 _ rfl)) (fun a33 he33 => ?_)
        clear he32
        cases hd4 : (((markF k i).num != (((kk + 1) + 1 : Nat) : Int)))
        · have hd4p : (markF k i).num = (((kk + 1) + 1 : Nat) : Int) := by simpa using hd4
          refine wl_val he33 rfl rfl (.bool false) (rn_bin _ _ _ _ _ rfl .i64 _ _ (he33.tmp 34 _ rfl) (he33.tmp 35 _ rfl) (.bool (((markF k i).num != (((kk + 1) + 1 : Nat) : Int)))) _ rfl (congrArg Value.bool (hd4))) (fun a34 he34 => ?_)
          clear he33
          refine wl_end ?_
          refine wp_condF (he := he34) rfl ?_
          refine wp_skip ?_
          refine then_normal ?_
          refine wp_seqR ?_
          refine wl_val he34 rfl rfl (.int .i64 ((((kk + 1) + 1 : Nat) : Int))) (rn_move _ (Or.inl rfl) _ (he34.tmp 1 _ rfl)) (fun a35 he35 => ?_)
          clear he34
          refine wl_val he35 rfl rfl (.int .i64 (((((kk + 1) + 1) + 1 : Nat) : Int))) (rn_bin _ _ _ _ _ rfl .i64 _ _ (he35.tmp 37 _ rfl) rfl (.int .i64 (IntKind.wrap .i64 ((((kk + 1) + 1 : Nat) : Int) + 1))) _ rfl (addN (i := (kk + 1) + 1) (c := 1) (by omega))) (fun a36 he36 => ?_)
          clear he35
          refine wl_val he36 rfl rfl (.int .i64 (((((kk + 1) + 1) + 1 : Nat) : Int))) (rn_move _ (Or.inr rfl) _ (he36.tmp 38 _ rfl)) (fun a37 he37 => ?_)
          clear he36
          refine wl_end ?_
          refine wp_seq ?_
          refine wp_seqR ?_
          refine wl_val he37 rfl rfl (.slice (some ⟨b, p, none⟩) (n) (c)) (rn_move _ (Or.inl rfl) _ (he37.tmp 0 _ rfl)) (fun a38 he38 => ?_)
          clear he37
          refine wl_val he38 rfl rfl (.int .i64 (((i : Nat) : Int))) (rn_move _ (Or.inl rfl) _ (he38.tmp 5 _ rfl)) (fun a39 he39 => ?_)
          clear he38
          refine wl_val he39 rfl rfl (.pointer (some ⟨b, p + i * 5, none⟩)) (rn_indexA _ _ _ rfl _ _ (.pointer (some ⟨b, p + i * 5, none⟩)) (he39.tmp 39 _ rfl) (he39.tmp 40 _ rfl) (ixS 36 5 (by kernel_rfl) (fun w => by kernel_rfl) (b) (p) (n) (c) (i) (by omega) _)) (fun a40 he40 => ?_)
          clear he39
          refine wl_val he40 rfl rfl (.pointer (some ⟨b, p + i * 5 + 3, none⟩)) (rn_field _ _ _ rfl _ (.pointer (some ⟨b, p + i * 5 + 3, none⟩)) (he40.tmp 41 _ rfl) (by kernel_rfl)) (fun a41 he41 => ?_)
          clear he40
          refine wl_val he41 rfl rfl (.int .i64 ((markF k i).ver)) (rn_row1 hm1 hR (by simp) (i) (by omega) 3 (by omega) _ _ rfl (he41.tmp 42 _ rfl) one3 _ rfl) (fun a42 he42 => ?_)
          clear he41
          refine wl_val he42 rfl rfl (.int .i64 (((((kk + 1) + 1) + 1 : Nat) : Int))) (rn_move _ (Or.inl rfl) _ (he42.tmp 1 _ rfl)) (fun a43 he43 => ?_)
          clear he42
          cases hd5 : (((markF k i).ver != ((((kk + 1) + 1) + 1 : Nat) : Int)))
          · have hd5p : (markF k i).ver = ((((kk + 1) + 1) + 1 : Nat) : Int) := by simpa using hd5
            refine wl_val he43 rfl rfl (.bool false) (rn_bin _ _ _ _ _ rfl .i64 _ _ (he43.tmp 43 _ rfl) (he43.tmp 44 _ rfl) (.bool (((markF k i).ver != ((((kk + 1) + 1) + 1 : Nat) : Int)))) _ rfl (congrArg Value.bool (hd5))) (fun a44 he44 => ?_)
            clear he43
            refine wl_end ?_
            refine wp_condF (he := he44) rfl ?_
            refine wp_skip ?_
            refine then_normal ?_
            refine wp_seqR ?_
            refine wl_val he44 rfl rfl (.int .i64 (((((kk + 1) + 1) + 1 : Nat) : Int))) (rn_move _ (Or.inl rfl) _ (he44.tmp 1 _ rfl)) (fun a45 he45 => ?_)
            clear he44
            refine wl_val he45 rfl rfl (.int .i64 ((((((kk + 1) + 1) + 1) + 1 : Nat) : Int))) (rn_bin _ _ _ _ _ rfl .i64 _ _ (he45.tmp 46 _ rfl) rfl (.int .i64 (IntKind.wrap .i64 (((((kk + 1) + 1) + 1 : Nat) : Int) + 1))) _ rfl (addN (i := ((kk + 1) + 1) + 1) (c := 1) (by omega))) (fun a46 he46 => ?_)
            clear he45
            refine wl_val he46 rfl rfl (.int .i64 ((((((kk + 1) + 1) + 1) + 1 : Nat) : Int))) (rn_move _ (Or.inr rfl) _ (he46.tmp 47 _ rfl)) (fun a47 he47 => ?_)
            clear he46
            refine wl_end ?_
            refine wp_seq ?_
            refine wp_seqR ?_
            refine wl_val he47 rfl rfl (.slice (some ⟨b, p, none⟩) (n) (c)) (rn_move _ (Or.inl rfl) _ (he47.tmp 0 _ rfl)) (fun a48 he48 => ?_)
            clear he47
            refine wl_val he48 rfl rfl (.int .i64 (((i : Nat) : Int))) (rn_move _ (Or.inl rfl) _ (he48.tmp 5 _ rfl)) (fun a49 he49 => ?_)
            clear he48
            refine wl_val he49 rfl rfl (.pointer (some ⟨b, p + i * 5, none⟩)) (rn_indexA _ _ _ rfl _ _ (.pointer (some ⟨b, p + i * 5, none⟩)) (he49.tmp 48 _ rfl) (he49.tmp 49 _ rfl) (ixS 36 5 (by kernel_rfl) (fun w => by kernel_rfl) (b) (p) (n) (c) (i) (by omega) _)) (fun a50 he50 => ?_)
            clear he49
            refine wl_val he50 rfl rfl (.pointer (some ⟨b, p + i * 5 + 4, none⟩)) (rn_field _ _ _ rfl _ (.pointer (some ⟨b, p + i * 5 + 4, none⟩)) (he50.tmp 50 _ rfl) (by kernel_rfl)) (fun a51 he51 => ?_)
            clear he50
            refine wl_val he51 rfl rfl (.int .i64 ((markF k i).key)) (rn_row1 hm1 hR (by simp) (i) (by omega) 4 (by omega) _ _ rfl (he51.tmp 51 _ rfl) one3 _ rfl) (fun a52 he52 => ?_)
            clear he51
            refine wl_val he52 rfl rfl (.int .i64 ((((((kk + 1) + 1) + 1) + 1 : Nat) : Int))) (rn_move _ (Or.inl rfl) _ (he52.tmp 1 _ rfl)) (fun a53 he53 => ?_)
            clear he52
            cases hd6 : (((markF k i).key != (((((kk + 1) + 1) + 1) + 1 : Nat) : Int)))
            · have hd6p : (markF k i).key = (((((kk + 1) + 1) + 1) + 1 : Nat) : Int) := by simpa using hd6
              refine wl_val he53 rfl rfl (.bool false) (rn_bin _ _ _ _ _ rfl .i64 _ _ (he53.tmp 52 _ rfl) (he53.tmp 53 _ rfl) (.bool (((markF k i).key != (((((kk + 1) + 1) + 1) + 1 : Nat) : Int)))) _ rfl (congrArg Value.bool (hd6))) (fun a54 he54 => ?_)
              clear he53
              refine wl_end ?_
              refine wp_condF (he := he54) rfl ?_
              refine wp_skip ?_
              refine then_normal ?_
              refine wp_region_lit ?_
              refine wl_val he54 rfl rfl (.int .i64 ((((((kk + 1) + 1) + 1) + 1 : Nat) : Int))) (rn_move _ (Or.inl rfl) _ (he54.tmp 1 _ rfl)) (fun a55 he55 => ?_)
              clear he54
              refine wl_val he55 rfl rfl (.int .i64 (((((((kk + 1) + 1) + 1) + 1) + 1 : Nat) : Int))) (rn_bin _ _ _ _ _ rfl .i64 _ _ (he55.tmp 55 _ rfl) rfl (.int .i64 (IntKind.wrap .i64 ((((((kk + 1) + 1) + 1) + 1 : Nat) : Int) + 1))) _ rfl (addN (i := (((kk + 1) + 1) + 1) + 1) (c := 1) (by omega))) (fun a56 he56 => ?_)
              clear he55
              refine wl_val he56 rfl rfl (.int .i64 (((((((kk + 1) + 1) + 1) + 1) + 1 : Nat) : Int))) (rn_move _ (Or.inr rfl) _ (he56.tmp 56 _ rfl)) (fun a57 he57 => ?_)
              clear he56
              refine wpList_nil ?_
              refine in_normal ?_
              refine then_normal ?_
              refine wp_region_lit ?_
              refine wl_val he57 rfl rfl (.int .i64 (((i : Nat) : Int))) (rn_move _ (Or.inl rfl) _ (he57.tmp 5 _ rfl)) (fun a58 he58 => ?_)
              clear he57
              refine wl_val he58 rfl rfl (.int .i64 (((i + 1 : Nat) : Int))) (rn_bin _ _ _ _ _ rfl .i64 _ _ (he58.tmp 10 _ rfl) rfl (.int .i64 (IntKind.wrap .i64 (((i : Nat) : Int) + 1))) _ rfl (addN (i := i) (c := 1) (by omega))) (fun a59 he59 => ?_)
              clear he58
              refine wl_val he59 rfl rfl (.int .i64 (((i + 1 : Nat) : Int))) (rn_move _ (Or.inr rfl) _ (he59.tmp 11 _ rfl)) (fun a60 he60 => ?_)
              clear he59
              refine wpList_nil ?_
              exact ⟨n - (i + 1), by omega, i + 1, kk + 1 + 1 + 1 + 1 + 1, rfl, ⟨by omega, by omega⟩, he60.sub _ ⟨rfl, rfl, rfl, trivial⟩, hm1.sub _ trivial⟩
            · have hd6p : (markF k i).key ≠ (((((kk + 1) + 1) + 1) + 1 : Nat) : Int) := by simpa using hd6
              refine wl_val he53 rfl rfl (.bool true) (rn_bin _ _ _ _ _ rfl .i64 _ _ (he53.tmp 52 _ rfl) (he53.tmp 53 _ rfl) (.bool (((markF k i).key != (((((kk + 1) + 1) + 1) + 1 : Nat) : Int)))) _ rfl (congrArg Value.bool (hd6))) (fun a54 he54 => ?_)
              clear he53
              refine wl_end ?_
              refine wp_condT (he := he54) rfl ?_
              refine wp_seqR ?_
              refine wl_val he54 rfl rfl (.int .i64 ((-1))) (rn_move _ (Or.inr rfl) _ rfl) (fun a55 he55 => ?_)
              clear he54
              refine wl_end ?_
              refine wp_ret ?_
              refine ret_then ?_
              refine ret_in ?_
              refine ret_then ?_
              refine ret_then ?_
              refine ret_in ?_
              refine ret_then ?_
              exact bodyPost_ret (results_tmp he55 _ Tryd.results13 _ rfl) he55.defers ⟨(by first | (exfalso; simp [markF] at hd1 hd2 hd3 hd4 hd5 hd6; omega) | rw [hkk, show i = n by omega]), hm1.below⟩
          · have hd5p : (markF k i).ver ≠ ((((kk + 1) + 1) + 1 : Nat) : Int) := by simpa using hd5
            refine wl_val he43 rfl rfl (.bool true) (rn_bin _ _ _ _ _ rfl .i64 _ _ (he43.tmp 43 _ rfl) (he43.tmp 44 _ rfl) (.bool (((markF k i).ver != ((((kk + 1) + 1) + 1 : Nat) : Int)))) _ rfl (congrArg Value.bool (hd5))) (fun a44 he44 => ?_)
            clear he43
            refine wl_end ?_
            refine wp_condT (he := he44) rfl ?_
            refine wp_seqR ?_
            refine wl_val he44 rfl rfl (.int .i64 ((-1))) (rn_move _ (Or.inr rfl) _ rfl) (fun a45 he45 => ?_)
            clear he44
            refine wl_end ?_
            refine wp_ret ?_
            refine ret_then ?_
            refine ret_in ?_
            refine ret_then ?_
            refine ret_then ?_
            refine ret_in ?_
            refine ret_then ?_
            exact bodyPost_ret (results_tmp he45 _ Tryd.results13 _ rfl) he45.defers ⟨(by first | (exfalso; simp [markF] at hd1 hd2 hd3 hd4 hd5; omega) | rw [hkk, show i = n by omega]), hm1.below⟩
        · have hd4p : (markF k i).num ≠ (((kk + 1) + 1 : Nat) : Int) := by simpa using hd4
          refine wl_val he33 rfl rfl (.bool true) (rn_bin _ _ _ _ _ rfl .i64 _ _ (he33.tmp 34 _ rfl) (he33.tmp 35 _ rfl) (.bool (((markF k i).num != (((kk + 1) + 1 : Nat) : Int)))) _ rfl (congrArg Value.bool (hd4))) (fun a34 he34 => ?_)
          clear he33
          refine wl_end ?_
          refine wp_condT (he := he34) rfl ?_
          refine wp_seqR ?_
          refine wl_val he34 rfl rfl (.int .i64 ((-1))) (rn_move _ (Or.inr rfl) _ rfl) (fun a35 he35 => ?_)
          clear he34
          refine wl_end ?_
          refine wp_ret ?_
          refine ret_then ?_
          refine ret_in ?_
          refine ret_then ?_
          refine ret_then ?_
          refine ret_in ?_
          refine ret_then ?_
          exact bodyPost_ret (results_tmp he35 _ Tryd.results13 _ rfl) he35.defers ⟨(by first | (exfalso; simp [markF] at hd1 hd2 hd3 hd4; omega) | rw [hkk, show i = n by omega]), hm1.below⟩
      · have hd3p : (markF k i).op ≠ ((kk + 1 : Nat) : Int) := by simpa using hd3
        refine wl_val he23 rfl rfl (.bool true) (rn_bin _ _ _ _ _ rfl .i64 _ _ (he23.tmp 25 _ rfl) (he23.tmp 26 _ rfl) (.bool (((markF k i).op != ((kk + 1 : Nat) : Int)))) _ rfl (congrArg Value.bool (hd3))) (fun a24 he24 => ?_)
        clear he23
        refine wl_end ?_
        refine wp_condT (he := he24) rfl ?_
        refine wp_seqR ?_
        refine wl_val he24 rfl rfl (.int .i64 ((-1))) (rn_move _ (Or.inr rfl) _ rfl) (fun a25 he25 => ?_)
        clear he24
        refine wl_end ?_
        refine wp_ret ?_
        refine ret_then ?_
        refine ret_in ?_
        refine ret_then ?_
        refine ret_then ?_
        refine ret_in ?_
        refine ret_then ?_
        exact bodyPost_ret (results_tmp he25 _ Tryd.results13 _ rfl) he25.defers ⟨(by first | (exfalso; simp [markF] at hd1 hd2 hd3; omega) | rw [hkk, show i = n by omega]), hm1.below⟩
    · have hd2p : (markF k i).at_ ≠ ((kk : Nat) : Int) := by simpa using hd2
      refine wl_val he13 rfl rfl (.bool true) (rn_bin _ _ _ _ _ rfl .i64 _ _ (he13.tmp 16 _ rfl) (he13.tmp 17 _ rfl) (.bool (((markF k i).at_ != ((kk : Nat) : Int)))) _ rfl (congrArg Value.bool (hd2))) (fun a14 he14 => ?_)
      clear he13
      refine wl_end ?_
      refine wp_condT (he := he14) rfl ?_
      refine wp_seqR ?_
      refine wl_val he14 rfl rfl (.int .i64 ((-1))) (rn_move _ (Or.inr rfl) _ rfl) (fun a15 he15 => ?_)
      clear he14
      refine wl_end ?_
      refine wp_ret ?_
      refine ret_then ?_
      refine ret_in ?_
      refine ret_then ?_
      refine ret_then ?_
      refine ret_in ?_
      refine ret_then ?_
      exact bodyPost_ret (results_tmp he15 _ Tryd.results13 _ rfl) he15.defers ⟨(by first | (exfalso; simp [markF] at hd1 hd2; omega) | rw [hkk, show i = n by omega]), hm1.below⟩
end Go.Proofs.YtcopcajleonndaaDoor
