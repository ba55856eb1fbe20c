/- Rows of ops: made, compared, marked. -/
import Derived.Test.YtcopcajleonndaaSM
import Derived.Test.YtcopcajleonndaaWP
namespace Go.Proofs.Ytcopcajleonndaa
open Go.RowKit
set_option linter.unusedVariables false
set_option linter.unusedSimpArgs false
/-- An op. -/
structure Iv where
  op : Int
  dst : Int
  src : Int
  off : Int
  imm : Int
  size : Int
def Iv.arr (r : Iv) : Array Value := #[.int .i64 r.op, .int .i64 r.dst, .int .i64 r.src, .int .i64 r.off, .int .i64 r.imm, .int .i64 r.size]
theorem Iv.one (r : Iv) : r.arr.all (·.oneCell') = true := by kernel_rfl
theorem Iv.sz (r : Iv) : r.arr.size = 6 := rfl
theorem agg48 : AggT Try.prog 48 6 := ⟨fun w => by kernel_rfl, fun w => by kernel_rfl⟩
theorem el48 : ElT Try.prog 32 48 (.agg #[.int .i64 0, .int .i64 0, .int .i64 0, .int .i64 0, .int .i64 0, .int .i64 0]) 6 48 := ⟨by kernel_rfl, by kernel_rfl, by kernel_rfl, by decide⟩
theorem Ru.sz (r : Ru) : r.arr.size = 5 := rfl
def eqIv (r q : Iv) : Bool := !(r.op != q.op) && (!(r.dst != q.dst) && (!(r.src != q.src) && (!(r.off != q.off) && (!(r.imm != q.imm) && !(r.size != q.size)))))
theorem eqIv_iff {r q : Iv} : eqIv r q = true ↔ r = q := by
  obtain ⟨a, b, c, d, e, g⟩ := r
  obtain ⟨a', b', c', d', e', g'⟩ := q
  simp [eqIv]
def eqIvs (f g : Nat → Iv) (n m : Nat) : Bool := decide (n = m) && (List.range n).all fun i => eqIv (f i) (g i)
theorem eqIvs_len {f g : Nat → Iv} {n m : Nat} (h : ¬ n = m) : eqIvs f g n m = false := by simp [eqIvs, h]
theorem eqIvs_no {f g : Nat → Iv} {n m i : Nat} (hi : i < n) (h : eqIv (f i) (g i) = false) : eqIvs f g n m = false := by
  rw [eqIvs, List.all_eq_false.2 ⟨i, List.mem_range.2 hi, by simp [h]⟩, Bool.and_false]
theorem eqIvs_yes {f g : Nat → Iv} {n m : Nat} (h0 : n = m) (h : ∀ i, i < n → eqIv (f i) (g i) = true) : eqIvs f g n m = true := by
  rw [eqIvs, List.all_eq_true.2 fun i hi => h i (List.mem_range.1 hi), decide_eq_true h0]; rfl
theorem eqIvs_same (f : Nat → Iv) (n : Nat) : eqIvs f f n n = true := eqIvs_yes rfl fun i hi => eqIv_iff.2 rfl
/-- The first k of a row of ops. -/
def IvRow (cur : Array Value) (f : Nat → Iv) (k : Nat) : Prop := ∀ i, i < k → ∀ j, j < 6 → cur[0 + i * 6 + j]? = (f i).arr[j]?
theorem IvRow.at {w : World} {b n : Nat} {T : TypeId} {cur : Array Value} {f : Nat → Iv} (h : IvRow cur f n) (hx : BX w b T cur) : RowAt w b 0 n 6 fun i => (f i).arr :=
  ⟨hx.lt, fun i hi j hj => ⟨by rw [hx.cell]; exact h i hi j hj, hj⟩⟩
def mark1I (A : Array Value) (o k : Nat) : Array Value :=
  ovw (ovw (ovw (ovw (ovw (ovw A o (#[.int .i64 ((k : Nat) : Int)] : Array Value).toList) (o + 1) (#[.int .i64 ((k + 1 : Nat) : Int)] : Array Value).toList) (o + 2) (#[.int .i64 ((k + 1 + 1 : Nat) : Int)] : Array Value).toList) (o + 3) (#[.int .i64 ((k + 1 + 1 + 1 : Nat) : Int)] : Array Value).toList) (o + 4) (#[.int .i64 ((k + 1 + 1 + 1 + 1 : Nat) : Int)] : Array Value).toList) (o + 5) (#[.int .i64 ((k + 1 + 1 + 1 + 1 + 1 : Nat) : Int)] : Array Value).toList
def markAI (A : Array Value) (k : Nat) : Nat → Array Value
  | 0 => A
  | i + 1 => mark1I (markAI A k i) (0 + i * 6) (k + 6 * i)
def markFI (k : Nat) (i : Nat) : Iv := ⟨((k + 6 * i : Nat) : Int), ((k + 6 * i + 1 : Nat) : Int), ((k + 6 * i + 1 + 1 : Nat) : Int), ((k + 6 * i + 1 + 1 + 1 : Nat) : Int), ((k + 6 * i + 1 + 1 + 1 + 1 : Nat) : Int), ((k + 6 * i + 1 + 1 + 1 + 1 + 1 : Nat) : Int)⟩
theorem mark1I_size (A : Array Value) (o k : Nat) : (mark1I A o k).size = A.size := by unfold mark1I; simp only [ovw_size]
theorem markAI_size (A : Array Value) (k : Nat) : ∀ n, (markAI A k n).size = A.size
  | 0 => rfl
  | n + 1 => by rw [markAI, mark1I_size, markAI_size]
theorem mark1I_in {A : Array Value} {o k j : Nat} (h : o + 6 ≤ A.size) (hj : j < 6) : (mark1I A o k)[o + j]? = some (.int .i64 ((k + j : Nat) : Int)) := by
  unfold mark1I
  rw [ov1 _ _ _ _ (by simp only [ovw_size]; omega), ov1 _ _ _ _ (by simp only [ovw_size]; omega), ov1 _ _ _ _ (by simp only [ovw_size]; omega), ov1 _ _ _ _ (by simp only [ovw_size]; omega), ov1 _ _ _ _ (by simp only [ovw_size]; omega), ov1 _ _ _ _ (by omega)]
  rcases (by omega : j = 0 ∨ j = 1 ∨ j = 2 ∨ j = 3 ∨ j = 4 ∨ j = 5) with rfl | rfl | rfl | rfl | rfl | rfl <;> simp <;> omega
theorem mark1I_out {A : Array Value} {o k m : Nat} (h : o + 6 ≤ A.size) (hm : m < o ∨ o + 6 ≤ m) : (mark1I A o k)[m]? = A[m]? := by
  unfold mark1I
  rw [ov1 _ _ _ _ (by simp only [ovw_size]; omega), ov1 _ _ _ _ (by simp only [ovw_size]; omega), ov1 _ _ _ _ (by simp only [ovw_size]; omega), ov1 _ _ _ _ (by simp only [ovw_size]; omega), ov1 _ _ _ _ (by simp only [ovw_size]; omega), ov1 _ _ _ _ (by omega)]
  rw [if_neg (by omega), if_neg (by omega), if_neg (by omega), if_neg (by omega), if_neg (by omega), if_neg (by omega)]
theorem markAI_row (A : Array Value) (k : Nat) : ∀ n, n * 6 ≤ A.size → IvRow (markAI A k n) (markFI k) n
  | 0, _ => fun i hi => absurd hi (Nat.not_lt_zero _)
  | n + 1, h => by
    intro i hi j hj
    rw [markAI]
    rcases Nat.lt_or_ge i n with h1 | h1
    · rw [mark1I_out (by rw [markAI_size]; omega) (by omega)]; exact markAI_row A k n (by omega) i h1 j hj
    · obtain rfl : i = n := by omega
      rw [mark1I_in (by rw [markAI_size]; omega) hj]
      rcases (by omega : j = 0 ∨ j = 1 ∨ j = 2 ∨ j = 3 ∨ j = 4 ∨ j = 5) with rfl | rfl | rfl | rfl | rfl | rfl <;> rfl
theorem c_eqIns (r q : Iv) (w : World)  :
    Calls Try.prog 32 #[.agg (Iv.arr (r)), .agg (Iv.arr (q))] w fun e w' => e = .returned (.bool (eqIv r q)) ∧ Below w.heap.size w w' := by
  refine calls_begin Try.func32 rfl 35 rfl (Nat.le_of_ble_eq_true rfl) [(0, .agg (Iv.arr (r))), (1, .agg (Iv.arr (q)))] ⟨rfl, rfl, trivial⟩ (fun a0 he0 hm0 => ?_)
  refine wp_seqR ?_
  refine wl_box he0 hm0 1 rfl rfl rfl _ _ rfl _ (he0.tmp 0 _ rfl) (Iv.arr (r)) rfl (fun a1 w1 b1 he1 hm1 => ?_)
  clear he0 hm0
  refine wl_box he1 hm1 2 rfl rfl rfl _ _ rfl _ (he1.tmp 1 _ rfl) (Iv.arr (q)) rfl (fun a2 w2 b2 he2 hm2 => ?_)
  clear he1 hm1
  refine wl_val he2 rfl rfl (.bool false) (rn_move _ (Or.inr rfl) _ rfl) (fun a3 he3 => ?_)
  clear he2
  refine wl_end ?_
  refine wp_seq ?_
  refine wp_seqR ?_
  refine wl_val he3 rfl rfl (.pointer (some ⟨b1, 0, none⟩)) (rn_field _ _ _ rfl _ (.pointer (some ⟨b1, 0, none⟩)) (he3.tmp 2 _ rfl) (by kernel_rfl)) (fun a4 he4 => ?_)
  clear he3
  refine wl_val he4 rfl rfl (.int .i64 ((r).op)) (rn_load1 hm2 1 rfl _ _ rfl (0) (he4.tmp 5 _ rfl) one3 _ rfl) (fun a5 he5 => ?_)
  clear he4
  refine wl_val he5 rfl rfl (.pointer (some ⟨b2, 0, none⟩)) (rn_field _ _ _ rfl _ (.pointer (some ⟨b2, 0, none⟩)) (he5.tmp 3 _ rfl) (by kernel_rfl)) (fun a6 he6 => ?_)
  clear he5
  refine wl_val he6 rfl rfl (.int .i64 ((q).op)) (rn_load1 hm2 2 rfl _ _ rfl (0) (he6.tmp 7 _ rfl) one3 _ rfl) (fun a7 he7 => ?_)
  clear he6
  cases hd1 : (((r).op != (q).op))
  · have hd1p : (r).op = (q).op := by simpa using hd1
    refine wl_val he7 rfl rfl (.bool false) (rn_bin _ _ _ _ _ rfl .i64 _ _ (he7.tmp 6 _ rfl) (he7.tmp 8 _ rfl) (.bool (((r).op != (q).op))) _ rfl (congrArg Value.bool (hd1))) (fun a8 he8 => ?_)
    clear he7
    refine wl_end ?_
    refine wp_condF (he := he8) rfl ?_
    refine wp_skip ?_
    refine then_normal ?_
    refine wp_seq ?_
    refine wp_seqR ?_
    refine wl_val he8 rfl rfl (.pointer (some ⟨b1, 1, none⟩)) (rn_field _ _ _ rfl _ (.pointer (some ⟨b1, 1, none⟩)) (he8.tmp 2 _ rfl) (by kernel_rfl)) (fun a9 he9 => ?_)
    clear he8
    refine wl_val he9 rfl rfl (.int .i64 ((r).dst)) (rn_load1 hm2 1 rfl _ _ rfl (1) (he9.tmp 10 _ rfl) one3 _ rfl) (fun a10 he10 => ?_)
    clear he9
    refine wl_val he10 rfl rfl (.pointer (some ⟨b2, 1, none⟩)) (rn_field _ _ _ rfl _ (.pointer (some ⟨b2, 1, none⟩)) (he10.tmp 3 _ rfl) (by kernel_rfl)) (fun a11 he11 => ?_)
    clear he10
    refine wl_val he11 rfl rfl (.int .i64 ((q).dst)) (rn_load1 hm2 2 rfl _ _ rfl (1) (he11.tmp 12 _ rfl) one3 _ rfl) (fun a12 he12 => ?_)
    clear he11
    cases hd2 : (((r).dst != (q).dst))
    · have hd2p : (r).dst = (q).dst := by simpa using hd2
      refine wl_val he12 rfl rfl (.bool false) (rn_bin _ _ _ _ _ rfl .i64 _ _ (he12.tmp 11 _ rfl) (he12.tmp 13 _ rfl) (.bool (((r).dst != (q).dst))) _ rfl (congrArg Value.bool (hd2))) (fun a13 he13 => ?_)
      clear he12
      refine wl_end ?_
      refine wp_condF (he := he13) rfl ?_
      refine wp_skip ?_
      refine then_normal ?_
      refine wp_seq ?_
      refine wp_seqR ?_
      refine wl_val he13 rfl rfl (.pointer (some ⟨b1, 2, none⟩)) (rn_field _ _ _ rfl _ (.pointer (some ⟨b1, 2, none⟩)) (he13.tmp 2 _ rfl) (by kernel_rfl)) (fun a14 he14 => ?_)
      clear he13
      refine wl_val he14 rfl rfl (.int .i64 ((r).src)) (rn_load1 hm2 1 rfl _ _ rfl (2) (he14.tmp 15 _ rfl) one3 _ rfl) (fun a15 he15 => ?_)
      clear he14
      refine wl_val he15 rfl rfl (.pointer (some ⟨b2, 2, none⟩)) (rn_field _ _ _ rfl _ (.pointer (some ⟨b2, 2, none⟩)) (he15.tmp 3 _ rfl) (by kernel_rfl)) (fun a16 he16 => ?_)
      clear he15
      refine wl_val he16 rfl rfl (.int .i64 ((q).src)) (rn_load1 hm2 2 rfl _ _ rfl (2) (he16.tmp 17 _ rfl) one3 _ rfl) (fun a17 he17 => ?_)
      clear he16
      cases hd3 : (((r).src != (q).src))
      · have hd3p : (r).src = (q).src := by simpa using hd3
        refine wl_val he17 rfl rfl (.bool false) (rn_bin _ _ _ _ _ rfl .i64 _ _ (he17.tmp 16 _ rfl) (he17.tmp 18 _ rfl) (.bool (((r).src != (q).src))) _ rfl (congrArg Value.bool (hd3))) (fun a18 he18 => ?_)
        clear he17
        refine wl_end ?_
        refine wp_condF (he := he18) rfl ?_
        refine wp_skip ?_
        refine then_normal ?_
        refine wp_seq ?_
        refine wp_seqR ?_
        refine wl_val he18 rfl rfl (.pointer (some ⟨b1, 3, none⟩)) (rn_field _ _ _ rfl _ (.pointer (some ⟨b1, 3, none⟩)) (he18.tmp 2 _ rfl) (by kernel_rfl)) (fun a19 he19 => ?_)
        clear he18
        refine wl_val he19 rfl rfl (.int .i64 ((r).off)) (rn_load1 hm2 1 rfl _ _ rfl (3) (he19.tmp 20 _ rfl) one3 _ rfl) (fun a20 he20 => ?_)
        clear he19
        refine wl_val he20 rfl rfl (.pointer (some ⟨b2, 3, none⟩)) (rn_field _ _ _ rfl _ (.pointer (some ⟨b2, 3, none⟩)) (he20.tmp 3 _ rfl) (by kernel_rfl)) (fun a21 he21 => ?_)
        clear he20
        refine wl_val he21 rfl rfl (.int .i64 ((q).off)) (rn_load1 hm2 2 rfl _ _ rfl (3) (he21.tmp 22 _ rfl) one3 _ rfl) (fun a22 he22 => ?_)
        clear he21
        cases hd4 : (((r).off != (q).off))
        · have hd4p : (r).off = (q).off := by simpa using hd4
          refine wl_val he22 rfl rfl (.bool false) (rn_bin _ _ _ _ _ rfl .i64 _ _ (he22.tmp 21 _ rfl) (he22.tmp 23 _ rfl) (.bool (((r).off != (q).off))) _ rfl (congrArg Value.bool (hd4))) (fun a23 he23 => ?_)
          clear he22
          refine wl_end ?_
          refine wp_condF (he := he23) rfl ?_
          refine wp_skip ?_
          refine then_normal ?_
          refine wp_seq ?_
          refine wp_seqR ?_
          refine wl_val he23 rfl rfl (.pointer (some ⟨b1, 4, none⟩)) (rn_field _ _ _ rfl _ (.pointer (some ⟨b1, 4, none⟩)) (he23.tmp 2 _ rfl) (by kernel_rfl)) (fun a24 he24 => ?_)
          clear he23
          refine wl_val he24 rfl rfl (.int .i64 ((r).imm)) (rn_load1 hm2 1 rfl _ _ rfl (4) (he24.tmp 25 _ rfl) one3 _ rfl) (fun a25 he25 => ?_)
          clear he24
          refine wl_val he25 rfl rfl (.pointer (some ⟨b2, 4, none⟩)) (rn_field _ _ _ rfl _ (.pointer (some ⟨b2, 4, none⟩)) (he25.tmp 3 _ rfl) (by kernel_rfl)) (fun a26 he26 => ?_)
          clear he25
          refine wl_val he26 rfl rfl (.int .i64 ((q).imm)) (rn_load1 hm2 2 rfl _ _ rfl (4) (he26.tmp 27 _ rfl) one3 _ rfl) (fun a27 he27 => ?_)
          clear he26
          cases hd5 : (((r).imm != (q).imm))
          · have hd5p : (r).imm = (q).imm := by simpa using hd5
            refine wl_val he27 rfl rfl (.bool false) (rn_bin _ _ _ _ _ rfl .i64 _ _ (he27.tmp 26 _ rfl) (he27.tmp 28 _ rfl) (.bool (((r).imm != (q).imm))) _ rfl (congrArg Value.bool (hd5))) (fun a28 he28 => ?_)
            clear he27
            refine wl_end ?_
            refine wp_condF (he := he28) rfl ?_
            refine wp_skip ?_
            refine then_normal ?_
            refine wp_seq ?_
            refine wp_seqR ?_
            refine wl_val he28 rfl rfl (.pointer (some ⟨b1, 5, none⟩)) (rn_field _ _ _ rfl _ (.pointer (some ⟨b1, 5, none⟩)) (he28.tmp 2 _ rfl) (by kernel_rfl)) (fun a29 he29 => ?_)
            clear he28
            refine wl_val he29 rfl rfl (.int .i64 ((r).size)) (rn_load1 hm2 1 rfl _ _ rfl (5) (he29.tmp 30 _ rfl) one3 _ rfl) (fun a30 he30 => ?_)
            clear he29
            refine wl_val he30 rfl rfl (.pointer (some ⟨b2, 5, none⟩)) (rn_field _ _ _ rfl _ (.pointer (some ⟨b2, 5, none⟩)) (he30.tmp 3 _ rfl) (by kernel_rfl)) (fun a31 he31 => ?_)
            clear he30
            refine wl_val he31 rfl rfl (.int .i64 ((q).size)) (rn_load1 hm2 2 rfl _ _ rfl (5) (he31.tmp 32 _ rfl) one3 _ rfl) (fun a32 he32 => ?_)
            clear he31
            cases hd6 : (((r).size != (q).size))
            · have hd6p : (r).size = (q).size := by simpa using hd6
              refine wl_val he32 rfl rfl (.bool false) (rn_bin _ _ _ _ _ rfl .i64 _ _ (he32.tmp 31 _ rfl) (he32.tmp 33 _ rfl) (.bool (((r).size != (q).size))) _ rfl (congrArg Value.bool (hd6))) (fun a33 he33 => ?_)
              clear he32
              refine wl_end ?_
              refine wp_condF (he := he33) rfl ?_
              refine wp_skip ?_
              refine then_normal ?_
              refine wp_seqR ?_
              refine wl_val he33 rfl rfl (.bool true) (rn_move _ (Or.inr rfl) _ rfl) (fun a34 he34 => ?_)
              clear he33
              refine wl_end ?_
              refine wp_ret ?_
              exact bodyPost_ret (results_tmp he34 _ Try.results32 _ rfl) he34.defers ⟨(by simp only [eqIv, hd1, hd2, hd3, hd4, hd5, hd6, Bool.not_true, Bool.not_false, Bool.false_and, Bool.true_and]), hm2.below⟩
            · have hd6p : (r).size ≠ (q).size := by simpa using hd6
              refine wl_val he32 rfl rfl (.bool true) (rn_bin _ _ _ _ _ rfl .i64 _ _ (he32.tmp 31 _ rfl) (he32.tmp 33 _ rfl) (.bool (((r).size != (q).size))) _ rfl (congrArg Value.bool (hd6))) (fun a33 he33 => ?_)
              clear he32
              refine wl_end ?_
              refine wp_condT (he := he33) rfl ?_
              refine wp_seqR ?_
              refine wl_val he33 rfl rfl (.bool false) (rn_move _ (Or.inr rfl) _ rfl) (fun a34 he34 => ?_)
              clear he33
              refine wl_end ?_
              refine wp_ret ?_
              refine ret_then ?_
              exact bodyPost_ret (results_tmp he34 _ Try.results32 _ rfl) he34.defers ⟨(by simp only [eqIv, hd1, hd2, hd3, hd4, hd5, hd6, Bool.not_true, Bool.not_false, Bool.false_and, Bool.true_and]), hm2.below⟩
          · have hd5p : (r).imm ≠ (q).imm := by simpa using hd5
            refine wl_val he27 rfl rfl (.bool true) (rn_bin _ _ _ _ _ rfl .i64 _ _ (he27.tmp 26 _ rfl) (he27.tmp 28 _ rfl) (.bool (((r).imm != (q).imm))) _ rfl (congrArg Value.bool (hd5))) (fun a28 he28 => ?_)
            clear he27
            refine wl_end ?_
            refine wp_condT (he := he28) rfl ?_
            refine wp_seqR ?_
            refine wl_val he28 rfl rfl (.bool false) (rn_move _ (Or.inr rfl) _ rfl) (fun a29 he29 => ?_)
            clear he28
            refine wl_end ?_
            refine wp_ret ?_
            refine ret_then ?_
            exact bodyPost_ret (results_tmp he29 _ Try.results32 _ rfl) he29.defers ⟨(by simp only [eqIv, hd1, hd2, hd3, hd4, hd5, Bool.not_true, Bool.not_false, Bool.false_and, Bool.true_and]), hm2.below⟩
        · have hd4p : (r).off ≠ (q).off := by simpa using hd4
          refine wl_val he22 rfl rfl (.bool true) (rn_bin _ _ _ _ _ rfl .i64 _ _ (he22.tmp 21 _ rfl) (he22.tmp 23 _ rfl) (.bool (((r).off != (q).off))) _ rfl (congrArg Value.bool (hd4))) (fun a23 he23 => ?_)
          clear he22
          refine wl_end ?_
          refine wp_condT (he := he23) rfl ?_
          refine wp_seqR ?_
          refine wl_val he23 rfl rfl (.bool false) (rn_move _ (Or.inr rfl) _ rfl) (fun a24 he24 => ?_)
          clear he23
          refine wl_end ?_
          refine wp_ret ?_
          refine ret_then ?_
          exact bodyPost_ret (results_tmp he24 _ Try.results32 _ rfl) he24.defers ⟨(by simp only [eqIv, hd1, hd2, hd3, hd4, Bool.not_true, Bool.not_false, Bool.false_and, Bool.true_and]), hm2.below⟩
      · have hd3p : (r).src ≠ (q).src := by simpa using hd3
        refine wl_val he17 rfl rfl (.bool true) (rn_bin _ _ _ _ _ rfl .i64 _ _ (he17.tmp 16 _ rfl) (he17.tmp 18 _ rfl) (.bool (((r).src != (q).src))) _ rfl (congrArg Value.bool (hd3))) (fun a18 he18 => ?_)
        clear he17
        refine wl_end ?_
        refine wp_condT (he := he18) rfl ?_
        refine wp_seqR ?_
        refine wl_val he18 rfl rfl (.bool false) (rn_move _ (Or.inr rfl) _ rfl) (fun a19 he19 => ?_)
        clear he18
        refine wl_end ?_
        refine wp_ret ?_
        refine ret_then ?_
        exact bodyPost_ret (results_tmp he19 _ Try.results32 _ rfl) he19.defers ⟨(by simp only [eqIv, hd1, hd2, hd3, Bool.not_true, Bool.not_false, Bool.false_and, Bool.true_and]), hm2.below⟩
    · have hd2p : (r).dst ≠ (q).dst := by simpa using hd2
      refine wl_val he12 rfl rfl (.bool true) (rn_bin _ _ _ _ _ rfl .i64 _ _ (he12.tmp 11 _ rfl) (he12.tmp 13 _ rfl) (.bool (((r).dst != (q).dst))) _ rfl (congrArg Value.bool (hd2))) (fun a13 he13 => ?_)
      clear he12
      refine wl_end ?_
      refine wp_condT (he := he13) rfl ?_
      refine wp_seqR ?_
      refine wl_val he13 rfl rfl (.bool false) (rn_move _ (Or.inr rfl) _ rfl) (fun a14 he14 => ?_)
      clear he13
      refine wl_end ?_
      refine wp_ret ?_
      refine ret_then ?_
      exact bodyPost_ret (results_tmp he14 _ Try.results32 _ rfl) he14.defers ⟨(by simp only [eqIv, hd1, hd2, Bool.not_true, Bool.not_false, Bool.false_and, Bool.true_and]), hm2.below⟩
  · have hd1p : (r).op ≠ (q).op := by simpa using hd1
    refine wl_val he7 rfl rfl (.bool true) (rn_bin _ _ _ _ _ rfl .i64 _ _ (he7.tmp 6 _ rfl) (he7.tmp 8 _ rfl) (.bool (((r).op != (q).op))) _ rfl (congrArg Value.bool (hd1))) (fun a8 he8 => ?_)
    clear he7
    refine wl_end ?_
    refine wp_condT (he := he8) rfl ?_
    refine wp_seqR ?_
    refine wl_val he8 rfl rfl (.bool false) (rn_move _ (Or.inr rfl) _ rfl) (fun a9 he9 => ?_)
    clear he8
    refine wl_end ?_
    refine wp_ret ?_
    refine ret_then ?_
    exact bodyPost_ret (results_tmp he9 _ Try.results32 _ rfl) he9.defers ⟨(by simp only [eqIv, hd1, Bool.not_true, Bool.not_false, Bool.false_and, Bool.true_and]), hm2.below⟩
theorem c_eqInsS (f g : Nat → Iv) (b p n c b2 p2 m c2 : Nat) (w : World) (hR : RowAt w b p n 6 fun i => (f i).arr) (hn : n ≤ 1048576) (hQ : RowAt w b2 p2 m 6 fun i => (g i).arr) (hm : m ≤ 1048576) :
    Calls Try.prog 16 #[.slice (some ⟨b, p, none⟩) (n) (c), .slice (some ⟨b2, p2, none⟩) (m) (c2)] w fun e w' => e = .returned (.bool (eqIvs f g n m)) ∧ Below w.heap.size w w' := by
  refine calls_begin Try.func16 rfl 27 rfl (Nat.le_of_ble_eq_true rfl) [(0, .slice (some ⟨b, p, none⟩) (n) (c)), (1, .slice (some ⟨b2, p2, none⟩) (m) (c2))] ⟨rfl, rfl, trivial⟩ (fun a0 he0 hm0 => ?_)
  refine wp_seqR ?_
  refine wl_val he0 rfl rfl (.bool false) (rn_move _ (Or.inr rfl) _ rfl) (fun a1 he1 => ?_)
  clear he0
  refine wl_end ?_
  refine wp_seq ?_
  refine wp_seqR ?_
  refine wl_val he1 rfl rfl (.slice (some ⟨b, p, none⟩) (n) (c)) (rn_move _ (Or.inl rfl) _ (he1.tmp 0 _ rfl)) (fun a2 he2 => ?_)
  clear he1
  refine wl_val he2 rfl rfl (.int .i64 (((n : Nat) : Int))) (rn_builtin _ _ _ rfl #[.slice (some ⟨b, p, none⟩) (n) (c)] (map1 (he2.tmp 6 _ rfl)) (.int .i64 (((n : Nat) : Int))) (by kernel_rfl)) (fun a3 he3 => ?_)
  clear he2
  refine wl_val he3 rfl rfl (.slice (some ⟨b2, p2, none⟩) (m) (c2)) (rn_move _ (Or.inl rfl) _ (he3.tmp 1 _ rfl)) (fun a4 he4 => ?_)
  clear he3
  refine wl_val he4 rfl rfl (.int .i64 (((m : Nat) : Int))) (rn_builtin _ _ _ rfl #[.slice (some ⟨b2, p2, none⟩) (m) (c2)] (map1 (he4.tmp 8 _ rfl)) (.int .i64 (((m : Nat) : Int))) (by kernel_rfl)) (fun a5 he5 => ?_)
  clear he4
  cases hd1 : ((((n : Nat) : Int) != ((m : Nat) : Int)))
  · have hd1p : ((n : Nat) : Int) = ((m : Nat) : Int) := by simpa using hd1
    refine wl_val he5 rfl rfl (.bool false) (rn_bin _ _ _ _ _ rfl .i64 _ _ (he5.tmp 7 _ rfl) (he5.tmp 9 _ rfl) (.bool ((((n : Nat) : Int) != ((m : Nat) : Int)))) _ rfl (congrArg Value.bool (hd1))) (fun a6 he6 => ?_)
    clear he5
    refine wl_end ?_
    refine wp_condF (he := he6) rfl ?_
    refine wp_skip ?_
    refine then_normal ?_
    refine wp_seq ?_
    refine wp_seqR ?_
    refine wl_val he6 rfl rfl (.int .i64 (0)) (rn_move _ (Or.inr rfl) _ rfl) (fun a7 he7 => ?_)
    clear he6
    refine wl_end ?_
    refine wp_block ?_
    refine wp_loopN (fun mz az wz => ∃ (i : Nat), mz = n - (i) ∧ (i ≤ n ∧ ∀ j, j < i → eqIv (f j) (g j) = true) ∧ EV az 27 [] [(0, .slice (some ⟨b, p, none⟩) (n) (c)), (1, .slice (some ⟨b2, p2, none⟩) (m) (c2)), (6, .slice (some ⟨b, p, none⟩) (n) (c)), (7, .int .i64 (((n : Nat) : Int))), (8, .slice (some ⟨b2, p2, none⟩) (m) (c2)), (9, .int .i64 (((m : Nat) : Int))), (10, .bool false), (5, .int .i64 (((i : Nat) : Int)))] ∧ MM [] w wz []) ⟨_, 0, rfl, ⟨by omega, fun j hj => by omega⟩, he7.sub _ ⟨rfl, rfl, rfl, rfl, rfl, rfl, rfl, rfl, trivial⟩, hm0.sub _ trivial⟩ ?_
    rintro mz1 a8 w1 ⟨i, rfl, hrel1, he8, hm1⟩
    clear he7 hm0
    have hrel1a := hrel1.1
    refine wp_seq ?_
    refine wp_seqR ?_
    refine wl_val he8 rfl rfl (.int .i64 (((i : Nat) : Int))) (rn_move _ (Or.inl rfl) _ (he8.tmp 5 _ rfl)) (fun a9 he9 => ?_)
    clear he8
    refine wl_val he9 rfl rfl (.slice (some ⟨b, p, none⟩) (n) (c)) (rn_move _ (Or.inl rfl) _ (he9.tmp 0 _ rfl)) (fun a10 he10 => ?_)
    clear he9
    refine wl_val he10 rfl rfl (.int .i64 (((n : Nat) : Int))) (rn_builtin _ _ _ rfl #[.slice (some ⟨b, p, none⟩) (n) (c)] (map1 (he10.tmp 12 _ rfl)) (.int .i64 (((n : Nat) : Int))) (by kernel_rfl)) (fun a11 he11 => ?_)
    clear he10
    cases hd2 : (decide (((i : Nat) : Int) < ((n : Nat) : Int)))
    · have hd2p := of_decide_eq_false hd2
      refine wl_val he11 rfl rfl (.bool false) (rn_bin _ _ _ _ _ rfl .i64 _ _ (he11.tmp 11 _ rfl) (he11.tmp 13 _ rfl) (.bool (decide (((i : Nat) : Int) < ((n : Nat) : Int)))) _ rfl (congrArg Value.bool (hd2))) (fun a12 he12 => ?_)
      clear he11
      refine wl_end ?_
      refine wp_condF (he := he12) rfl ?_
      refine wp_exit ?_
      refine exit_then ?_
      refine exit_then ?_
      refine exit_here ?_
      refine then_normal ?_
      refine wp_seqR ?_
      refine wl_val he12 rfl rfl (.bool true) (rn_move _ (Or.inr rfl) _ rfl) (fun a13 he13 => ?_)
      clear he12
      refine wl_end ?_
      refine wp_ret ?_
      exact bodyPost_ret (results_tmp he13 _ Try.results16 _ rfl) he13.defers ⟨(by first | rw [eqIvs_len (by omega)] | rw [eqIvs_no (i := i) (by omega) (by assumption)] | rw [eqIvs_yes (by omega) fun j hj => hrel1.2 j (by omega)]), hm1.below⟩
    · have hd2p := of_decide_eq_true hd2
      refine wl_val he11 rfl rfl (.bool true) (rn_bin _ _ _ _ _ rfl .i64 _ _ (he11.tmp 11 _ rfl) (he11.tmp 13 _ rfl) (.bool (decide (((i : Nat) : Int) < ((n : Nat) : Int)))) _ rfl (congrArg Value.bool (hd2))) (fun a12 he12 => ?_)
      clear he11
      refine wl_end ?_
      refine wp_condT (he := he12) rfl ?_
      refine wp_skip ?_
      refine then_normal ?_
      refine wp_seq ?_
      refine wp_block ?_
      refine wp_seq ?_
      refine wh_begin (by kernel_rfl) hm1 [] trivial (fun w2 hm2 => ?_)
      clear hm1
      refine wh_take (i := 0) (op := ?op1d01_0) (fuel := 9) (hi := ?hi1d01_0) (hs := ?hs1d01_0) (hf := ?hf1d01_0) (hr := ?hr1d01_0) (hQ2 := ?hq1d01_0) (he := he12) (hm := hm2) (hS := trivial) (hd := ?hd1d01_0) (hw := ?hw1d01_0) (v := .slice (some ⟨b, p, none⟩) (n) (c)) (hy := ?hy1d01_0) (hQ := ?hp1d01_0) (k := fun a13 he13 => ?k1d01_0)
      case hi1d01_0 => rw [List.getElem?_toArray]; rfl
      case hs1d01_0 | hf1d01_0 | hr1d01_0 => kernel_rfl
      case hq1d01_0 => exact fun _ _ _ _ h => h
      case hd1d01_0 => rfl
      case hw1d01_0 => exact rfl
      case hp1d01_0 => exact fun _ _ _ h => h
      case hy1d01_0 => exact fun wS hmS => rn_move _ (Or.inl rfl) _ (he12.tmp 0 _ rfl)
      clear he12
      refine wh_take (i := 1) (op := ?op1d01_1) (fuel := 8) (hi := ?hi1d01_1) (hs := ?hs1d01_1) (hf := ?hf1d01_1) (hr := ?hr1d01_1) (hQ2 := ?hq1d01_1) (he := he13) (hm := hm2) (hS := trivial) (hd := ?hd1d01_1) (hw := ?hw1d01_1) (v := .int .i64 (((i : Nat) : Int))) (hy := ?hy1d01_1) (hQ := ?hp1d01_1) (k := fun a14 he14 => ?k1d01_1)
      case hi1d01_1 => rw [List.getElem?_toArray]; rfl
      case hs1d01_1 | hf1d01_1 | hr1d01_1 => kernel_rfl
      case hq1d01_1 => exact fun _ _ _ _ h => h
      case hd1d01_1 => rfl
      case hw1d01_1 => exact rfl
      case hp1d01_1 => exact fun _ _ _ h => h
      case hy1d01_1 => exact fun wS hmS => rn_move _ (Or.inl rfl) _ (he13.tmp 5 _ rfl)
      clear he13
      refine wh_take (i := 2) (op := ?op1d01_2) (fuel := 7) (hi := ?hi1d01_2) (hs := ?hs1d01_2) (hf := ?hf1d01_2) (hr := ?hr1d01_2) (hQ2 := ?hq1d01_2) (he := he14) (hm := hm2) (hS := trivial) (hd := ?hd1d01_2) (hw := ?hw1d01_2) (v := .pointer (some ⟨b, p + i * 6, none⟩)) (hy := ?hy1d01_2) (hQ := ?hp1d01_2) (k := fun a15 he15 => ?k1d01_2)
      case hi1d01_2 => rw [List.getElem?_toArray]; rfl
      case hs1d01_2 | hf1d01_2 | hr1d01_2 => kernel_rfl
      case hq1d01_2 => exact fun _ _ _ _ h => h
      case hd1d01_2 => rfl
      case hw1d01_2 => exact rfl
      case hp1d01_2 => exact fun _ _ _ h => h
      case hy1d01_2 => exact fun wS hmS => rn_indexA _ _ _ rfl _ _ (.pointer (some ⟨b, p + i * 6, none⟩)) (he14.tmp 17 _ rfl) (he14.tmp 18 _ rfl) (ixS 48 6 (by kernel_rfl) (fun w => by kernel_rfl) (b) (p) (n) (c) (i) (by omega) _)
      clear he14
      refine wh_take (i := 3) (op := ?op1d01_3) (fuel := 6) (hi := ?hi1d01_3) (hs := ?hs1d01_3) (hf := ?hf1d01_3) (hr := ?hr1d01_3) (hQ2 := ?hq1d01_3) (he := he15) (hm := hm2) (hS := trivial) (hd := ?hd1d01_3) (hw := ?hw1d01_3) (v := .agg (Iv.arr (f i))) (hy := ?hy1d01_3) (hQ := ?hp1d01_3) (k := fun a16 he16 => ?k1d01_3)
      case hi1d01_3 => rw [List.getElem?_toArray]; rfl
      case hs1d01_3 | hf1d01_3 | hr1d01_3 => kernel_rfl
      case hq1d01_3 => exact fun _ _ _ _ h => h
      case hd1d01_3 => rfl
      case hw1d01_3 => exact rfl
      case hp1d01_3 => exact fun _ _ _ h => h
      case hy1d01_3 => exact fun wS hmS => rn_rowA hmS hR (by simp) (i) (by omega) _ _ rfl (he15.tmp 19 _ rfl) agg48 (by kernel_rfl)
      clear he15
      refine wh_take (i := 4) (op := ?op1d01_4) (fuel := 5) (hi := ?hi1d01_4) (hs := ?hs1d01_4) (hf := ?hf1d01_4) (hr := ?hr1d01_4) (hQ2 := ?hq1d01_4) (he := he16) (hm := hm2) (hS := trivial) (hd := ?hd1d01_4) (hw := ?hw1d01_4) (v := .slice (some ⟨b2, p2, none⟩) (m) (c2)) (hy := ?hy1d01_4) (hQ := ?hp1d01_4) (k := fun a17 he17 => ?k1d01_4)
      case hi1d01_4 => rw [List.getElem?_toArray]; rfl
      case hs1d01_4 | hf1d01_4 | hr1d01_4 => kernel_rfl
      case hq1d01_4 => exact fun _ _ _ _ h => h
      case hd1d01_4 => rfl
      case hw1d01_4 => exact rfl
      case hp1d01_4 => exact fun _ _ _ h => h
      case hy1d01_4 => exact fun wS hmS => rn_move _ (Or.inl rfl) _ (he16.tmp 1 _ rfl)
      clear he16
      refine wh_take (i := 5) (op := ?op1d01_5) (fuel := 4) (hi := ?hi1d01_5) (hs := ?hs1d01_5) (hf := ?hf1d01_5) (hr := ?hr1d01_5) (hQ2 := ?hq1d01_5) (he := he17) (hm := hm2) (hS := trivial) (hd := ?hd1d01_5) (hw := ?hw1d01_5) (v := .int .i64 (((i : Nat) : Int))) (hy := ?hy1d01_5) (hQ := ?hp1d01_5) (k := fun a18 he18 => ?k1d01_5)
      case hi1d01_5 => rw [List.getElem?_toArray]; rfl
      case hs1d01_5 | hf1d01_5 | hr1d01_5 => kernel_rfl
      case hq1d01_5 => exact fun _ _ _ _ h => h
      case hd1d01_5 => rfl
      case hw1d01_5 => exact rfl
      case hp1d01_5 => exact fun _ _ _ h => h
      case hy1d01_5 => exact fun wS hmS => rn_move _ (Or.inl rfl) _ (he17.tmp 5 _ rfl)
      clear he17
      refine wh_take (i := 6) (op := ?op1d01_6) (fuel := 3) (hi := ?hi1d01_6) (hs := ?hs1d01_6) (hf := ?hf1d01_6) (hr := ?hr1d01_6) (hQ2 := ?hq1d01_6) (he := he18) (hm := hm2) (hS := trivial) (hd := ?hd1d01_6) (hw := ?hw1d01_6) (v := .pointer (some ⟨b2, p2 + i * 6, none⟩)) (hy := ?hy1d01_6) (hQ := ?hp1d01_6) (k := fun a19 he19 => ?k1d01_6)
      case hi1d01_6 => rw [List.getElem?_toArray]; rfl
      case hs1d01_6 | hf1d01_6 | hr1d01_6 => kernel_rfl
      case hq1d01_6 => exact fun _ _ _ _ h => h
      case hd1d01_6 => rfl
      case hw1d01_6 => exact rfl
      case hp1d01_6 => exact fun _ _ _ h => h
      case hy1d01_6 => exact fun wS hmS => rn_indexA _ _ _ rfl _ _ (.pointer (some ⟨b2, p2 + i * 6, none⟩)) (he18.tmp 21 _ rfl) (he18.tmp 22 _ rfl) (ixS 48 6 (by kernel_rfl) (fun w => by kernel_rfl) (b2) (p2) (m) (c2) (i) (by omega) _)
      clear he18
      refine wh_take (i := 7) (op := ?op1d01_7) (fuel := 2) (hi := ?hi1d01_7) (hs := ?hs1d01_7) (hf := ?hf1d01_7) (hr := ?hr1d01_7) (hQ2 := ?hq1d01_7) (he := he19) (hm := hm2) (hS := trivial) (hd := ?hd1d01_7) (hw := ?hw1d01_7) (v := .agg (Iv.arr (g i))) (hy := ?hy1d01_7) (hQ := ?hp1d01_7) (k := fun a20 he20 => ?k1d01_7)
      case hi1d01_7 => rw [List.getElem?_toArray]; rfl
      case hs1d01_7 | hf1d01_7 | hr1d01_7 => kernel_rfl
      case hq1d01_7 => exact fun _ _ _ _ h => h
      case hd1d01_7 => rfl
      case hw1d01_7 => exact rfl
      case hp1d01_7 => exact fun _ _ _ h => h
      case hy1d01_7 => exact fun wS hmS => rn_rowA hmS hQ (by simp) (i) (by omega) _ _ rfl (he19.tmp 23 _ rfl) agg48 (by kernel_rfl)
      clear he19
      cases hd3 : (eqIv (f i) (g i))
      · refine wh_call (i := 8) (op := ?op1d010_8) (fuel := 1) ?hr1d010_8 ?hi1d010_8 he20 hm2 trivial ?hd1d010_8 ?hw1d010_8 _ #[.agg (Iv.arr (f i)), .agg (Iv.arr (g i))] ?en1d010_8 (.bool false) (callsV (congrArg Value.bool (hd3)) (c_eqIns _ _ _)) (fun a21 w3 he21 hm3 => ?k1d010_8)
        case hi1d010_8 => rw [List.getElem?_toArray]; rfl
        case hw1d010_8 => exact rfl
        case hr1d010_8 => kernel_rfl
        case hd1d010_8 => rfl
        case en1d010_8 => exact (enter_call _ _ _ rfl 32 #[] #[] rfl #[.agg (Iv.arr (f i)), .agg (Iv.arr (g i))] (map2 (he20.tmp 20 _ rfl) (he20.tmp 24 _ rfl)) #[.agg (Iv.arr (f i)), .agg (Iv.arr (g i))] rfl (fun _ _ => by kernel_rfl))
        clear he20 hm2
        refine wh_take (i := 9) (op := ?op1d010_9) (fuel := 0) (hi := ?hi1d010_9) (hs := ?hs1d010_9) (hf := ?hf1d010_9) (hr := ?hr1d010_9) (hQ2 := ?hq1d010_9) (he := he21) (hm := hm3) (hS := trivial) (hd := ?hd1d010_9) (hw := ?hw1d010_9) (v := .bool true) (hy := ?hy1d010_9) (hQ := ?hp1d010_9) (k := fun a22 he22 => ?k1d010_9)
        case hi1d010_9 => rw [List.getElem?_toArray]; rfl
        case hs1d010_9 | hf1d010_9 | hr1d010_9 => kernel_rfl
        case hq1d010_9 => exact fun _ _ _ _ h => h
        case hd1d010_9 => rfl
        case hw1d010_9 => exact rfl
        case hp1d010_9 => exact fun _ _ _ h => h
        case hy1d010_9 => exact fun wS hmS => rn_un _ _ _ rfl _ (.bool (!false)) _ (he21.tmp 25 _ rfl) rfl rfl
        clear he21
        refine wpAnyH_done (by kernel_rfl) ?_ _
        refine then_normal ?_
        refine wp_condT (he := he22) rfl ?_
        refine wp_seqR ?_
        refine wl_val he22 rfl rfl (.bool false) (rn_move _ (Or.inr rfl) _ rfl) (fun a23 he23 => ?_)
        clear he22
        refine wl_end ?_
        refine wp_ret ?_
        refine ret_in ?_
        refine ret_then ?_
        refine ret_then ?_
        refine ret_in ?_
        refine ret_then ?_
        exact bodyPost_ret (results_tmp he23 _ Try.results16 _ rfl) he23.defers ⟨(by first | rw [eqIvs_len (by omega)] | rw [eqIvs_no (i := i) (by omega) (by assumption)] | rw [eqIvs_yes (by omega) fun j hj => hrel1.2 j (by omega)]), hm3.below⟩
      · refine wh_call (i := 8) (op := ?op1d011_8) (fuel := 1) ?hr1d011_8 ?hi1d011_8 he20 hm2 trivial ?hd1d011_8 ?hw1d011_8 _ #[.agg (Iv.arr (f i)), .agg (Iv.arr (g i))] ?en1d011_8 (.bool true) (callsV (congrArg Value.bool (hd3)) (c_eqIns _ _ _)) (fun a21 w3 he21 hm3 => ?k1d011_8)
        case hi1d011_8 => rw [List.getElem?_toArray]; rfl
        case hw1d011_8 => exact rfl
        case hr1d011_8 => kernel_rfl
        case hd1d011_8 => rfl
        case en1d011_8 => exact (enter_call _ _ _ rfl 32 #[] #[] rfl #[.agg (Iv.arr (f i)), .agg (Iv.arr (g i))] (map2 (he20.tmp 20 _ rfl) (he20.tmp 24 _ rfl)) #[.agg (Iv.arr (f i)), .agg (Iv.arr (g i))] rfl (fun _ _ => by kernel_rfl))
        clear he20 hm2
        refine wh_take (i := 9) (op := ?op1d011_9) (fuel := 0) (hi := ?hi1d011_9) (hs := ?hs1d011_9) (hf := ?hf1d011_9) (hr := ?hr1d011_9) (hQ2 := ?hq1d011_9) (he := he21) (hm := hm3) (hS := trivial) (hd := ?hd1d011_9) (hw := ?hw1d011_9) (v := .bool false) (hy := ?hy1d011_9) (hQ := ?hp1d011_9) (k := fun a22 he22 => ?k1d011_9)
        case hi1d011_9 => rw [List.getElem?_toArray]; rfl
        case hs1d011_9 | hf1d011_9 | hr1d011_9 => kernel_rfl
        case hq1d011_9 => exact fun _ _ _ _ h => h
        case hd1d011_9 => rfl
        case hw1d011_9 => exact rfl
        case hp1d011_9 => exact fun _ _ _ h => h
        case hy1d011_9 => exact fun wS hmS => rn_un _ _ _ rfl _ (.bool (!true)) _ (he21.tmp 25 _ rfl) rfl rfl
        clear he21
        refine wpAnyH_done (by kernel_rfl) ?_ _
        refine then_normal ?_
        refine wp_condF (he := he22) rfl ?_
        refine wp_skip ?_
        refine in_normal ?_
        refine then_normal ?_
        refine wp_region_lit ?_
        refine wl_val he22 rfl rfl (.int .i64 (((i : Nat) : Int))) (rn_move _ (Or.inl rfl) _ (he22.tmp 5 _ rfl)) (fun a23 he23 => ?_)
        clear he22
        refine wl_val he23 rfl rfl (.int .i64 (((i + 1 : Nat) : Int))) (rn_bin _ _ _ _ _ rfl .i64 _ _ (he23.tmp 15 _ rfl) rfl (.int .i64 (IntKind.wrap .i64 (((i : Nat) : Int) + 1))) _ rfl (addN (i := i) (c := 1) (by omega))) (fun a24 he24 => ?_)
        clear he23
        refine wl_val he24 rfl rfl (.int .i64 (((i + 1 : Nat) : Int))) (rn_move _ (Or.inr rfl) _ (he24.tmp 16 _ rfl)) (fun a25 he25 => ?_)
        clear he24
        refine wpList_nil ?_
        exact ⟨n - (i + 1), by omega, i + 1, rfl, ⟨by omega, fun j hj => by rcases Nat.lt_or_ge j i with hh | hh; exact hrel1.2 j hh; rw [show j = i by omega]; assumption⟩, he25.sub _ ⟨rfl, rfl, rfl, rfl, rfl, rfl, rfl, rfl, trivial⟩, hm3.sub _ trivial⟩
  · have hd1p : ((n : Nat) : Int) ≠ ((m : Nat) : Int) := by simpa using hd1
    refine wl_val he5 rfl rfl (.bool true) (rn_bin _ _ _ _ _ rfl .i64 _ _ (he5.tmp 7 _ rfl) (he5.tmp 9 _ rfl) (.bool ((((n : Nat) : Int) != ((m : Nat) : Int)))) _ rfl (congrArg Value.bool (hd1))) (fun a6 he6 => ?_)
    clear he5
    refine wl_end ?_
    refine wp_condT (he := he6) rfl ?_
    refine wp_seqR ?_
    refine wl_val he6 rfl rfl (.bool false) (rn_move _ (Or.inr rfl) _ rfl) (fun a7 he7 => ?_)
    clear he6
    refine wl_end ?_
    refine wp_ret ?_
    refine ret_then ?_
    exact bodyPost_ret (results_tmp he7 _ Try.results16 _ rfl) he7.defers ⟨(by first | rw [eqIvs_len (by omega)] | rw [eqIvs_no (i := i) (by omega) (by assumption)] | rw [eqIvs_yes (by omega) fun j hj => hrel1.2 j (by omega)]), hm0.below⟩
set_option maxHeartbeats 4000000 in
theorem c_markI (A : Array Value) (b n c k : Nat) (w : World) (hA : BX w b 48 A) (hs : n * 6 ≤ A.size) (hn : n ≤ 1048576) (hk : k ≤ 1048576) :
    Calls Try.prog 18 #[.slice (some ⟨b, 0, none⟩) (n) (c), .int .i64 (((k : Nat) : Int))] w fun e w' => e = .returned (.int .i64 ((k + 6 * n : Nat) : Int)) ∧ KB [b] w w' ∧ BX w' b 48 (markAI A k n) := by
  refine calls_begin Try.func18 rfl 55 rfl (Nat.le_of_ble_eq_true rfl) [(0, .slice (some ⟨b, 0, none⟩) (n) (c)), (1, .int .i64 (((k : Nat) : Int)))] ⟨rfl, rfl, trivial⟩ (fun a0 he0 hm0 => ?_)
  have hm1 := MM.start1 (w := w) 1 hA
  clear hm0
  refine wp_seqR ?_
  refine wl_val he0 rfl rfl (.int .i64 (0)) (rn_move _ (Or.inr rfl) _ rfl) (fun a1 he1 => ?_)
  clear he0
  refine wl_end ?_
  refine wp_seq ?_
  refine wp_seqR ?_
  refine wl_val he1 rfl rfl (.int .i64 (0)) (rn_move _ (Or.inr rfl) _ rfl) (fun a2 he2 => ?_)
  clear he1
  refine wl_end ?_
  refine wp_block ?_
  refine wp_loopN (fun mz az wz => ∃ (i : Nat), ∃ (kk : Nat), ∃ (cur : Array Value), mz = n - (i) ∧ (i ≤ n ∧ kk = k + 6 * (i) ∧ cur = markAI A k (i)) ∧ EV az 55 [] [(0, .slice (some ⟨b, 0, none⟩) (n) (c)), (4, .int .i64 (0)), (5, .int .i64 (((i : Nat) : Int))), (1, .int .i64 (((kk : Nat) : Int)))] ∧ MM [b] w wz [(1, ⟨true, b, 48, cur⟩)]) ⟨_, 0, k, A, rfl, ⟨by omega, by omega, rfl⟩, he2.sub _ ⟨rfl, rfl, rfl, rfl, trivial⟩, hm1.sub _ ⟨rfl, trivial⟩⟩ ?_
  rintro mz1 a3 w2 ⟨i, kk, cur, rfl, hrel1, he3, hm2⟩
  clear he2 hm1
  obtain ⟨hra, hkk, hcur⟩ := hrel1
  have hsz : cur.size = A.size := by rw [hcur, markAI_size]
  refine wp_seq ?_
  refine wp_seqR ?_
  refine wl_val he3 rfl rfl (.int .i64 (((i : Nat) : Int))) (rn_move _ (Or.inl rfl) _ (he3.tmp 5 _ rfl)) (fun a4 he4 => ?_)
  clear he3
  refine wl_val he4 rfl rfl (.slice (some ⟨b, 0, none⟩) (n) (c)) (rn_move _ (Or.inl rfl) _ (he4.tmp 0 _ rfl)) (fun a5 he5 => ?_)
  clear he4
  refine wl_val he5 rfl rfl (.int .i64 (((n : Nat) : Int))) (rn_builtin _ _ _ rfl #[.slice (some ⟨b, 0, none⟩) (n) (c)] (map1 (he5.tmp 7 _ rfl)) (.int .i64 (((n : Nat) : Int))) (by kernel_rfl)) (fun a6 he6 => ?_)
  clear he5
  cases hd1 : (decide (((i : Nat) : Int) < ((n : Nat) : Int)))
  · have hd1p := of_decide_eq_false hd1
    refine wl_val he6 rfl rfl (.bool false) (rn_bin _ _ _ _ _ rfl .i64 _ _ (he6.tmp 6 _ rfl) (he6.tmp 8 _ rfl) (.bool (decide (((i : Nat) : Int) < ((n : Nat) : Int)))) _ rfl (congrArg Value.bool (hd1))) (fun a7 he7 => ?_)
    clear he6
    refine wl_end ?_
    refine wp_condF (he := he7) rfl ?_
    refine wp_exit ?_
    refine exit_then ?_
    refine exit_then ?_
    refine exit_here ?_
    refine then_normal ?_
    refine wp_seqR ?_
    refine wl_val he7 rfl rfl (.int .i64 (((kk : Nat) : Int))) (rn_move _ (Or.inl rfl) _ (he7.tmp 1 _ rfl)) (fun a8 he8 => ?_)
    clear he7
    refine wl_val he8 rfl rfl (.int .i64 (((kk : Nat) : Int))) (rn_move _ (Or.inr rfl) _ (he8.tmp 54 _ rfl)) (fun a9 he9 => ?_)
    clear he8
    refine wl_end ?_
    refine wp_ret ?_
    exact bodyPost_ret (results_tmp he9 _ Try.results18 _ rfl) he9.defers ⟨by rw [hkk, show i = n by omega], hm2.keep, by have := hm2.bx 1 _ _ _ _ rfl; rw [hcur, show i = n by omega] at this; exact this⟩
  · have hd1p := of_decide_eq_true hd1
    refine wl_val he6 rfl rfl (.bool true) (rn_bin _ _ _ _ _ rfl .i64 _ _ (he6.tmp 6 _ rfl) (he6.tmp 8 _ rfl) (.bool (decide (((i : Nat) : Int) < ((n : Nat) : Int)))) _ rfl (congrArg Value.bool (hd1))) (fun a7 he7 => ?_)
    clear he6
    refine wl_end ?_
    refine wp_condT (he := he7) rfl ?_
    refine wp_skip ?_
    refine then_normal ?_
    refine wp_seq ?_
    refine wp_block ?_
    refine wp_seqR ?_
    refine wl_val he7 rfl rfl (.slice (some ⟨b, 0, none⟩) (n) (c)) (rn_move _ (Or.inl rfl) _ (he7.tmp 0 _ rfl)) (fun a8 he8 => ?_)
    clear he7
    refine wl_val he8 rfl rfl (.int .i64 (((i : Nat) : Int))) (rn_move _ (Or.inl rfl) _ (he8.tmp 5 _ rfl)) (fun a9 he9 => ?_)
    clear he8
    refine wl_val he9 rfl rfl (.int .i64 (((kk : Nat) : Int))) (rn_move _ (Or.inl rfl) _ (he9.tmp 1 _ rfl)) (fun a10 he10 => ?_)
    clear he9
    refine wl_val he10 rfl rfl (.pointer (some ⟨b, 0 + i * 6, none⟩)) (rn_indexA _ _ _ rfl _ _ (.pointer (some ⟨b, 0 + i * 6, none⟩)) (he10.tmp 12 _ rfl) (he10.tmp 13 _ rfl) (ixS 48 6 (by kernel_rfl) (fun w => by kernel_rfl) (b) (0) (n) (c) (i) (by omega) _)) (fun a11 he11 => ?_)
    clear he10
    refine wl_val he11 rfl rfl (.pointer (some ⟨b, 0 + i * 6, none⟩)) (rn_field _ _ _ rfl _ (.pointer (some ⟨b, 0 + i * 6, none⟩)) (he11.tmp 15 _ rfl) (by kernel_rfl)) (fun a12 he12 => ?_)
    clear he11
    obtain ⟨q1, hq1⟩ : ∃ q1 : Array Value, q1 = ovw (cur) (0 + i * 6) (#[.int .i64 (((kk : Nat) : Int))]).toList := ⟨_, rfl⟩
    have hsq1 : q1.size = (cur).size := by rw [hq1, ovw_size]
    refine wl_store he12 hm2 1 rfl rfl rfl _ _ _ rfl (0 + i * 6) (he12.tmp 16 _ rfl) _ (he12.tmp 14 _ rfl) 1 one3.size rfl (by kernel_rfl) (by omega) (q1) hq1.symm (fun w3 hm3 => ?_)
    clear hm2
    refine wl_end ?_
    refine wp_seqR ?_
    refine wl_val he12 rfl rfl (.int .i64 (((kk : Nat) : Int))) (rn_move _ (Or.inl rfl) _ (he12.tmp 1 _ rfl)) (fun a13 he13 => ?_)
    clear he12
    refine wl_val he13 rfl rfl (.int .i64 (((kk + 1 : Nat) : Int))) (rn_bin _ _ _ _ _ rfl .i64 _ _ (he13.tmp 17 _ rfl) rfl (.int .i64 (IntKind.wrap .i64 (((kk : Nat) : Int) + 1))) _ rfl (addN (i := kk) (c := 1) (by omega))) (fun a14 he14 => ?_)
    clear he13
    refine wl_val he14 rfl rfl (.int .i64 (((kk + 1 : Nat) : Int))) (rn_move _ (Or.inr rfl) _ (he14.tmp 18 _ rfl)) (fun a15 he15 => ?_)
    clear he14
    refine wl_end ?_
    refine wp_seqR ?_
    refine wl_val he15 rfl rfl (.slice (some ⟨b, 0, none⟩) (n) (c)) (rn_move _ (Or.inl rfl) _ (he15.tmp 0 _ rfl)) (fun a16 he16 => ?_)
    clear he15
    refine wl_val he16 rfl rfl (.int .i64 (((i : Nat) : Int))) (rn_move _ (Or.inl rfl) _ (he16.tmp 5 _ rfl)) (fun a17 he17 => ?_)
    clear he16
    refine wl_val he17 rfl rfl (.int .i64 (((kk + 1 : Nat) : Int))) (rn_move _ (Or.inl rfl) _ (he17.tmp 1 _ rfl)) (fun a18 he18 => ?_)
    clear he17
    refine wl_val he18 rfl rfl (.pointer (some ⟨b, 0 + i * 6, none⟩)) (rn_indexA _ _ _ rfl _ _ (.pointer (some ⟨b, 0 + i * 6, none⟩)) (he18.tmp 19 _ rfl) (he18.tmp 20 _ rfl) (ixS 48 6 (by kernel_rfl) (fun w => by kernel_rfl) (b) (0) (n) (c) (i) (by omega) _)) (fun a19 he19 => ?_)
    clear he18
    refine wl_val he19 rfl rfl (.pointer (some ⟨b, 0 + i * 6 + 1, none⟩)) (rn_field _ _ _ rfl _ (.pointer (some ⟨b, 0 + i * 6 + 1, none⟩)) (he19.tmp 22 _ rfl) (by kernel_rfl)) (fun a20 he20 => ?_)
    clear he19
    obtain ⟨q2, hq2⟩ : ∃ q2 : Array Value, q2 = ovw (q1) (0 + i * 6 + 1) (#[.int .i64 (((kk + 1 : Nat) : Int))]).toList := ⟨_, rfl⟩
    have hsq2 : q2.size = (q1).size := by rw [hq2, ovw_size]
    refine wl_store he20 hm3 1 rfl rfl rfl _ _ _ rfl (0 + i * 6 + 1) (he20.tmp 23 _ rfl) _ (he20.tmp 21 _ rfl) 1 one3.size rfl (by kernel_rfl) (by omega) (q2) hq2.symm (fun w4 hm4 => ?_)
    clear hm3
    refine wl_end ?_
    refine wp_seqR ?_
    refine wl_val he20 rfl rfl (.int .i64 (((kk + 1 : Nat) : Int))) (rn_move _ (Or.inl rfl) _ (he20.tmp 1 _ rfl)) (fun a21 he21 => ?_)
    clear he20
    refine wl_val he21 rfl rfl (.int .i64 ((((kk + 1) + 1 : Nat) : Int))) (rn_bin _ _ _ _ _ rfl .i64 _ _ (he21.tmp 24 _ rfl) rfl (.int .i64 (IntKind.wrap .i64 (((kk + 1 : Nat) : Int) + 1))) _ rfl (addN (i := kk + 1) (c := 1) (by omega))) (fun a22 he22 => ?_)
    clear he21
    refine wl_val he22 rfl rfl (.int .i64 ((((kk + 1) + 1 : Nat) : Int))) (rn_move _ (Or.inr rfl) _ (he22.tmp 25 _ rfl)) (fun a23 he23 => ?_)
    clear he22
    refine wl_end ?_
    refine wp_seqR ?_
    refine wl_val he23 rfl rfl (.slice (some ⟨b, 0, none⟩) (n) (c)) (rn_move _ (Or.inl rfl) _ (he23.tmp 0 _ rfl)) (fun a24 he24 => ?_)
    clear he23
    refine wl_val he24 rfl rfl (.int .i64 (((i : Nat) : Int))) (rn_move _ (Or.inl rfl) _ (he24.tmp 5 _ rfl)) (fun a25 he25 => ?_)
    clear he24
    refine wl_val he25 rfl rfl (.int .i64 ((((kk + 1) + 1 : Nat) : Int))) (rn_move _ (Or.inl rfl) _ (he25.tmp 1 _ rfl)) (fun a26 he26 => ?_)
    clear he25
    refine wl_val he26 rfl rfl (.pointer (some ⟨b, 0 + i * 6, none⟩)) (rn_indexA _ _ _ rfl _ _ (.pointer (some ⟨b, 0 + i * 6, none⟩)) (he26.tmp 26 _ rfl) (he26.tmp 27 _ rfl) (ixS 48 6 (by kernel_rfl) (fun w => by kernel_rfl) (b) (0) (n) (c) (i) (by omega) _)) (fun a27 he27 => ?_)
    clear he26
    refine wl_val he27 rfl rfl (.pointer (some ⟨b, 0 + i * 6 + 2, none⟩)) (rn_field _ _ _ rfl _ (.pointer (some ⟨b, 0 + i * 6 + 2, none⟩)) (he27.tmp 29 _ rfl) (by kernel_rfl)) (fun a28 he28 => ?_)
    clear he27
    obtain ⟨q3, hq3⟩ : ∃ q3 : Array Value, q3 = ovw (q2) (0 + i * 6 + 2) (#[.int .i64 ((((kk + 1) + 1 : Nat) : Int))]).toList := ⟨_, rfl⟩
    have hsq3 : q3.size = (q2).size := by rw [hq3, ovw_size]
    refine wl_store he28 hm4 1 rfl rfl rfl _ _ _ rfl (0 + i * 6 + 2) (he28.tmp 30 _ rfl) _ (he28.tmp 28 _ rfl) 1 one3.size rfl (by kernel_rfl) (by omega) (q3) hq3.symm (fun w5 hm5 => ?_)
    clear hm4
    refine wl_end ?_
    refine wp_seqR ?_
    refine wl_val he28 rfl rfl (.int .i64 ((((kk + 1) + 1 : Nat) : Int))) (rn_move _ (Or.inl rfl) _ (he28.tmp 1 _ rfl)) (fun a29 he29 => ?_)
    clear he28
    refine wl_val he29 rfl rfl (.int .i64 (((((kk + 1) + 1) + 1 : Nat) : Int))) (rn_bin _ _ _ _ _ rfl .i64 _ _ (he29.tmp 31 _ rfl) rfl (.int .i64 (IntKind.wrap .i64 ((((kk + 1) + 1 : Nat) : Int) + 1))) _ rfl (addN (i := (kk + 1) + 1) (c := 1) (by omega))) (fun a30 he30 => ?_)
    clear he29
    refine wl_val he30 rfl rfl (.int .i64 (((((kk + 1) + 1) + 1 : Nat) : Int))) (rn_move _ (Or.inr rfl) _ (he30.tmp 32 _ rfl)) (fun a31 he31 => ?_)
    clear he30
    refine wl_end ?_
    refine wp_seqR ?_
    refine wl_val he31 rfl rfl (.slice (some ⟨b, 0, none⟩) (n) (c)) (rn_move _ (Or.inl rfl) _ (he31.tmp 0 _ rfl)) (fun a32 he32 => ?_)
    clear he31
    refine wl_val he32 rfl rfl (.int .i64 (((i : Nat) : Int))) (rn_move _ (Or.inl rfl) _ (he32.tmp 5 _ rfl)) (fun a33 he33 => ?_)
    clear he32
    refine wl_val he33 rfl rfl (.int .i64 (((((kk + 1) + 1) + 1 : Nat) : Int))) (rn_move _ (Or.inl rfl) _ (he33.tmp 1 _ rfl)) (fun a34 he34 => ?_)
    clear he33
    refine wl_val he34 rfl rfl (.pointer (some ⟨b, 0 + i * 6, none⟩)) (rn_indexA _ _ _ rfl _ _ (.pointer (some ⟨b, 0 + i * 6, none⟩)) (he34.tmp 33 _ rfl) (he34.tmp 34 _ rfl) (ixS 48 6 (by kernel_rfl) (fun w => by kernel_rfl) (b) (0) (n) (c) (i) (by omega) _)) (fun a35 he35 => ?_)
    clear he34
    refine wl_val he35 rfl rfl (.pointer (some ⟨b, 0 + i * 6 + 3, none⟩)) (rn_field _ _ _ rfl _ (.pointer (some ⟨b, 0 + i * 6 + 3, none⟩)) (he35.tmp 36 _ rfl) (by kernel_rfl)) (fun a36 he36 => ?_)
    clear he35
    obtain ⟨q4, hq4⟩ : ∃ q4 : Array Value, q4 = ovw (q3) (0 + i * 6 + 3) (#[.int .i64 (((((kk + 1) + 1) + 1 : Nat) : Int))]).toList := ⟨_, rfl⟩
    have hsq4 : q4.size = (q3).size := by rw [hq4, ovw_size]
    refine wl_store he36 hm5 1 rfl rfl rfl _ _ _ rfl (0 + i * 6 + 3) (he36.tmp 37 _ rfl) _ (he36.tmp 35 _ rfl) 1 one3.size rfl (by kernel_rfl) (by omega) (q4) hq4.symm (fun w6 hm6 => ?_)
    clear hm5
    refine wl_end ?_
    refine wp_seqR ?_
    refine wl_val he36 rfl rfl (.int .i64 (((((kk + 1) + 1) + 1 : Nat) : Int))) (rn_move _ (Or.inl rfl) _ (he36.tmp 1 _ rfl)) (fun a37 he37 => ?_)
    clear he36
    refine wl_val he37 rfl rfl (.int .i64 ((((((kk + 1) + 1) + 1) + 1 : Nat) : Int))) (rn_bin _ _ _ _ _ rfl .i64 _ _ (he37.tmp 38 _ rfl) rfl (.int .i64 (IntKind.wrap .i64 (((((kk + 1) + 1) + 1 : Nat) : Int) + 1))) _ rfl (addN (i := ((kk + 1) + 1) + 1) (c := 1) (by omega))) (fun a38 he38 => ?_)
    clear he37
    refine wl_val he38 rfl rfl (.int .i64 ((((((kk + 1) + 1) + 1) + 1 : Nat) : Int))) (rn_move _ (Or.inr rfl) _ (he38.tmp 39 _ rfl)) (fun a39 he39 => ?_)
    clear he38
    refine wl_end ?_
    refine wp_seqR ?_
    refine wl_val he39 rfl rfl (.slice (some ⟨b, 0, none⟩) (n) (c)) (rn_move _ (Or.inl rfl) _ (he39.tmp 0 _ rfl)) (fun a40 he40 => ?_)
    clear he39
    refine wl_val he40 rfl rfl (.int .i64 (((i : Nat) : Int))) (rn_move _ (Or.inl rfl) _ (he40.tmp 5 _ rfl)) (fun a41 he41 => ?_)
    clear he40
    refine wl_val he41 rfl rfl (.int .i64 ((((((kk + 1) + 1) + 1) + 1 : Nat) : Int))) (rn_move _ (Or.inl rfl) _ (he41.tmp 1 _ rfl)) (fun a42 he42 => ?_)
    clear he41
    refine wl_val he42 rfl rfl (.pointer (some ⟨b, 0 + i * 6, none⟩)) (rn_indexA _ _ _ rfl _ _ (.pointer (some ⟨b, 0 + i * 6, none⟩)) (he42.tmp 40 _ rfl) (he42.tmp 41 _ rfl) (ixS 48 6 (by kernel_rfl) (fun w => by kernel_rfl) (b) (0) (n) (c) (i) (by omega) _)) (fun a43 he43 => ?_)
    clear he42
    refine wl_val he43 rfl rfl (.pointer (some ⟨b, 0 + i * 6 + 4, none⟩)) (rn_field _ _ _ rfl _ (.pointer (some ⟨b, 0 + i * 6 + 4, none⟩)) (he43.tmp 43 _ rfl) (by kernel_rfl)) (fun a44 he44 => ?_)
    clear he43
    obtain ⟨q5, hq5⟩ : ∃ q5 : Array Value, q5 = ovw (q4) (0 + i * 6 + 4) (#[.int .i64 ((((((kk + 1) + 1) + 1) + 1 : Nat) : Int))]).toList := ⟨_, rfl⟩
    have hsq5 : q5.size = (q4).size := by rw [hq5, ovw_size]
    refine wl_store he44 hm6 1 rfl rfl rfl _ _ _ rfl (0 + i * 6 + 4) (he44.tmp 44 _ rfl) _ (he44.tmp 42 _ rfl) 1 one3.size rfl (by kernel_rfl) (by omega) (q5) hq5.symm (fun w7 hm7 => ?_)
    clear hm6
    refine wl_end ?_
    refine wp_seqR ?_
    refine wl_val he44 rfl rfl (.int .i64 ((((((kk + 1) + 1) + 1) + 1 : Nat) : Int))) (rn_move _ (Or.inl rfl) _ (he44.tmp 1 _ rfl)) (fun a45 he45 => ?_)
    clear he44
    refine wl_val he45 rfl rfl (.int .i64 (((((((kk + 1) + 1) + 1) + 1) + 1 : Nat) : Int))) (rn_bin _ _ _ _ _ rfl .i64 _ _ (he45.tmp 45 _ rfl) rfl (.int .i64 (IntKind.wrap .i64 ((((((kk + 1) + 1) + 1) + 1 : Nat) : Int) + 1))) _ rfl (addN (i := (((kk + 1) + 1) + 1) + 1) (c := 1) (by omega))) (fun a46 he46 => ?_)
    clear he45
    refine wl_val he46 rfl rfl (.int .i64 (((((((kk + 1) + 1) + 1) + 1) + 1 : Nat) : Int))) (rn_move _ (Or.inr rfl) _ (he46.tmp 46 _ rfl)) (fun a47 he47 => ?_)
    clear he46
    refine wl_end ?_
    refine wp_seqR ?_
    refine wl_val he47 rfl rfl (.slice (some ⟨b, 0, none⟩) (n) (c)) (rn_move _ (Or.inl rfl) _ (he47.tmp 0 _ rfl)) (fun a48 he48 => ?_)
    clear he47
    refine wl_val he48 rfl rfl (.int .i64 (((i : Nat) : Int))) (rn_move _ (Or.inl rfl) _ (he48.tmp 5 _ rfl)) (fun a49 he49 => ?_)
    clear he48
    refine wl_val he49 rfl rfl (.int .i64 (((((((kk + 1) + 1) + 1) + 1) + 1 : Nat) : Int))) (rn_move _ (Or.inl rfl) _ (he49.tmp 1 _ rfl)) (fun a50 he50 => ?_)
    clear he49
    refine wl_val he50 rfl rfl (.pointer (some ⟨b, 0 + i * 6, none⟩)) (rn_indexA _ _ _ rfl _ _ (.pointer (some ⟨b, 0 + i * 6, none⟩)) (he50.tmp 47 _ rfl) (he50.tmp 48 _ rfl) (ixS 48 6 (by kernel_rfl) (fun w => by kernel_rfl) (b) (0) (n) (c) (i) (by omega) _)) (fun a51 he51 => ?_)
    clear he50
    refine wl_val he51 rfl rfl (.pointer (some ⟨b, 0 + i * 6 + 5, none⟩)) (rn_field _ _ _ rfl _ (.pointer (some ⟨b, 0 + i * 6 + 5, none⟩)) (he51.tmp 50 _ rfl) (by kernel_rfl)) (fun a52 he52 => ?_)
    clear he51
    obtain ⟨q6, hq6⟩ : ∃ q6 : Array Value, q6 = ovw (q5) (0 + i * 6 + 5) (#[.int .i64 (((((((kk + 1) + 1) + 1) + 1) + 1 : Nat) : Int))]).toList := ⟨_, rfl⟩
    have hsq6 : q6.size = (q5).size := by rw [hq6, ovw_size]
    refine wl_store he52 hm7 1 rfl rfl rfl _ _ _ rfl (0 + i * 6 + 5) (he52.tmp 51 _ rfl) _ (he52.tmp 49 _ rfl) 1 one3.size rfl (by kernel_rfl) (by omega) (q6) hq6.symm (fun w8 hm8 => ?_)
    clear hm7
    refine wl_end ?_
    refine wp_region_lit ?_
    refine wl_val he52 rfl rfl (.int .i64 (((((((kk + 1) + 1) + 1) + 1) + 1 : Nat) : Int))) (rn_move _ (Or.inl rfl) _ (he52.tmp 1 _ rfl)) (fun a53 he53 => ?_)
    clear he52
    refine wl_val he53 rfl rfl (.int .i64 ((((((((kk + 1) + 1) + 1) + 1) + 1) + 1 : Nat) : Int))) (rn_bin _ _ _ _ _ rfl .i64 _ _ (he53.tmp 52 _ rfl) rfl (.int .i64 (IntKind.wrap .i64 (((((((kk + 1) + 1) + 1) + 1) + 1 : Nat) : Int) + 1))) _ rfl (addN (i := ((((kk + 1) + 1) + 1) + 1) + 1) (c := 1) (by omega))) (fun a54 he54 => ?_)
    clear he53
    refine wl_val he54 rfl rfl (.int .i64 ((((((((kk + 1) + 1) + 1) + 1) + 1) + 1 : Nat) : Int))) (rn_move _ (Or.inr rfl) _ (he54.tmp 53 _ rfl)) (fun a55 he55 => ?_)
    clear he54
    refine wpList_nil ?_
    refine in_normal ?_
    refine then_normal ?_
    refine wp_region_lit ?_
    refine wl_val he55 rfl rfl (.int .i64 (((i : Nat) : Int))) (rn_move _ (Or.inl rfl) _ (he55.tmp 5 _ rfl)) (fun a56 he56 => ?_)
    clear he55
    refine wl_val he56 rfl rfl (.int .i64 (((i + 1 : Nat) : Int))) (rn_bin _ _ _ _ _ rfl .i64 _ _ (he56.tmp 10 _ rfl) rfl (.int .i64 (IntKind.wrap .i64 (((i : Nat) : Int) + 1))) _ rfl (addN (i := i) (c := 1) (by omega))) (fun a57 he57 => ?_)
    clear he56
    refine wl_val he57 rfl rfl (.int .i64 (((i + 1 : Nat) : Int))) (rn_move _ (Or.inr rfl) _ (he57.tmp 11 _ rfl)) (fun a58 he58 => ?_)
    clear he57
    refine wpList_nil ?_
    exact ⟨n - (i + 1), by omega, i + 1, kk + 1 + 1 + 1 + 1 + 1 + 1, q6, rfl, ⟨by omega, by omega, by rw [hq6, hq5, hq4, hq3, hq2, hq1, hcur, hkk]; rfl⟩, he58.sub _ ⟨rfl, rfl, rfl, rfl, trivial⟩, hm8.sub _ ⟨rfl, trivial⟩⟩
theorem c_heldI (b p n c k : Nat) (w : World) (hR : RowAt w b p n 6 fun i => (markFI k i).arr) (hn : n ≤ 1048576) (hk : k ≤ 1048576) :
    Calls Try.prog 19 #[.slice (some ⟨b, p, none⟩) (n) (c), .int .i64 (((k : Nat) : Int))] w fun e w' => e = .returned (.int .i64 ((k + 6 * n : Nat) : Int)) ∧ Below w.heap.size w w' := by
  refine calls_begin Try.func19 rfl 67 rfl (Nat.le_of_ble_eq_true rfl) [(0, .slice (some ⟨b, p, none⟩) (n) (c)), (1, .int .i64 (((k : Nat) : Int)))] ⟨rfl, rfl, trivial⟩ (fun a0 he0 hm0 => ?_)
  refine wp_seqR ?_
  refine wl_val he0 rfl rfl (.int .i64 (0)) (rn_move _ (Or.inr rfl) _ rfl) (fun a1 he1 => ?_)
  clear he0
  refine wl_end ?_
  refine wp_seq ?_
  refine wp_seqR ?_
  refine wl_val he1 rfl rfl (.int .i64 (0)) (rn_move _ (Or.inr rfl) _ rfl) (fun a2 he2 => ?_)
  clear he1
  refine wl_end ?_
  refine wp_block ?_
  refine wp_loopN (fun mz az wz => ∃ (i : Nat), ∃ (kk : Nat), mz = n - (i) ∧ (i ≤ n ∧ kk = k + 6 * (i)) ∧ EV az 67 [] [(0, .slice (some ⟨b, p, none⟩) (n) (c)), (5, .int .i64 (((i : Nat) : Int))), (1, .int .i64 (((kk : Nat) : Int)))] ∧ MM [] w wz []) ⟨_, 0, k, rfl, ⟨by omega, by omega⟩, he2.sub _ ⟨rfl, rfl, rfl, trivial⟩, hm0.sub _ trivial⟩ ?_
  rintro mz1 a3 w1 ⟨i, kk, rfl, hrel1, he3, hm1⟩
  clear he2 hm0
  obtain ⟨hra, hkk⟩ := hrel1
  refine wp_seq ?_
  refine wp_seqR ?_
  refine wl_val he3 rfl rfl (.int .i64 (((i : Nat) : Int))) (rn_move _ (Or.inl rfl) _ (he3.tmp 5 _ rfl)) (fun a4 he4 => ?_)
  clear he3
  refine wl_val he4 rfl rfl (.slice (some ⟨b, p, none⟩) (n) (c)) (rn_move _ (Or.inl rfl) _ (he4.tmp 0 _ rfl)) (fun a5 he5 => ?_)
  clear he4
  refine wl_val he5 rfl rfl (.int .i64 (((n : Nat) : Int))) (rn_builtin _ _ _ rfl #[.slice (some ⟨b, p, none⟩) (n) (c)] (map1 (he5.tmp 7 _ rfl)) (.int .i64 (((n : Nat) : Int))) (by kernel_rfl)) (fun a6 he6 => ?_)
  clear he5
  cases hd1 : (decide (((i : Nat) : Int) < ((n : Nat) : Int)))
  · have hd1p := of_decide_eq_false hd1
    refine wl_val he6 rfl rfl (.bool false) (rn_bin _ _ _ _ _ rfl .i64 _ _ (he6.tmp 6 _ rfl) (he6.tmp 8 _ rfl) (.bool (decide (((i : Nat) : Int) < ((n : Nat) : Int)))) _ rfl (congrArg Value.bool (hd1))) (fun a7 he7 => ?_)
    clear he6
    refine wl_end ?_
    refine wp_condF (he := he7) rfl ?_
    refine wp_exit ?_
    refine exit_then ?_
    refine exit_then ?_
    refine exit_here ?_
    refine then_normal ?_
    refine wp_seqR ?_
    refine wl_val he7 rfl rfl (.int .i64 (((kk : Nat) : Int))) (rn_move _ (Or.inl rfl) _ (he7.tmp 1 _ rfl)) (fun a8 he8 => ?_)
    clear he7
    refine wl_val he8 rfl rfl (.int .i64 (((kk : Nat) : Int))) (rn_move _ (Or.inr rfl) _ (he8.tmp 66 _ rfl)) (fun a9 he9 => ?_)
    clear he8
    refine wl_end ?_
    refine wp_ret ?_
    exact bodyPost_ret (results_tmp he9 _ Try.results19 _ rfl) he9.defers ⟨(by first | (exfalso; simp [markFI] at hd1; omega) | rw [hkk, show i = n by omega]), hm1.below⟩
  · have hd1p := of_decide_eq_true hd1
    refine wl_val he6 rfl rfl (.bool true) (rn_bin _ _ _ _ _ rfl .i64 _ _ (he6.tmp 6 _ rfl) (he6.tmp 8 _ rfl) (.bool (decide (((i : Nat) : Int) < ((n : Nat) : Int)))) _ rfl (congrArg Value.bool (hd1))) (fun a7 he7 => ?_)
    clear he6
    refine wl_end ?_
    refine wp_condT (he := he7) rfl ?_
    refine wp_skip ?_
    refine then_normal ?_
    refine wp_seq ?_
    refine wp_block ?_
    refine wp_seq ?_
    refine wp_seqR ?_
    refine wl_val he7 rfl rfl (.slice (some ⟨b, p, none⟩) (n) (c)) (rn_move _ (Or.inl rfl) _ (he7.tmp 0 _ rfl)) (fun a8 he8 => ?_)
    clear he7
    refine wl_val he8 rfl rfl (.int .i64 (((i : Nat) : Int))) (rn_move _ (Or.inl rfl) _ (he8.tmp 5 _ rfl)) (fun a9 he9 => ?_)
    clear he8
    refine wl_val he9 rfl rfl (.pointer (some ⟨b, p + i * 6, none⟩)) (rn_indexA _ _ _ rfl _ _ (.pointer (some ⟨b, p + i * 6, none⟩)) (he9.tmp 12 _ rfl) (he9.tmp 13 _ rfl) (ixS 48 6 (by kernel_rfl) (fun w => by kernel_rfl) (b) (p) (n) (c) (i) (by omega) _)) (fun a10 he10 => ?_)
    clear he9
    refine wl_val he10 rfl rfl (.pointer (some ⟨b, p + i * 6, none⟩)) (rn_field _ _ _ rfl _ (.pointer (some ⟨b, p + i * 6, none⟩)) (he10.tmp 14 _ rfl) (by kernel_rfl)) (fun a11 he11 => ?_)
    clear he10
    refine wl_val he11 rfl rfl (.int .i64 ((markFI k i).op)) (rn_row1 hm1 hR (by simp) (i) (by omega) 0 (by omega) _ _ rfl (he11.tmp 15 _ rfl) one3 _ rfl) (fun a12 he12 => ?_)
    clear he11
    refine wl_val he12 rfl rfl (.int .i64 (((kk : Nat) : Int))) (rn_move _ (Or.inl rfl) _ (he12.tmp 1 _ rfl)) (fun a13 he13 => ?_)
    clear he12
    cases hd2 : (((markFI k i).op != ((kk : Nat) : Int)))
    · have hd2p : (markFI k i).op = ((kk : Nat) : Int) := by simpa using hd2
      refine wl_val he13 rfl rfl (.bool false) (rn_bin _ _ _ _ _ rfl .i64 _ _ (he13.tmp 16 _ rfl) (he13.tmp 17 _ rfl) (.bool (((markFI k i).op != ((kk : Nat) : Int)))) _ rfl (congrArg Value.bool (hd2))) (fun a14 he14 => ?_)
      clear he13
      refine wl_end ?_
      refine wp_condF (he := he14) rfl ?_
      refine wp_skip ?_
      refine then_normal ?_
      refine wp_seqR ?_
      refine wl_val he14 rfl rfl (.int .i64 (((kk : Nat) : Int))) (rn_move _ (Or.inl rfl) _ (he14.tmp 1 _ rfl)) (fun a15 he15 => ?_)
      clear he14
      refine wl_val he15 rfl rfl (.int .i64 (((kk + 1 : Nat) : Int))) (rn_bin _ _ _ _ _ rfl .i64 _ _ (he15.tmp 19 _ rfl) rfl (.int .i64 (IntKind.wrap .i64 (((kk : Nat) : Int) + 1))) _ rfl (addN (i := kk) (c := 1) (by omega))) (fun a16 he16 => ?_)
      clear he15
      refine wl_val he16 rfl rfl (.int .i64 (((kk + 1 : Nat) : Int))) (rn_move _ (Or.inr rfl) _ (he16.tmp 20 _ rfl)) (fun a17 he17 => ?_)
      clear he16
      refine wl_end ?_
      refine wp_seq ?_
      refine wp_seqR ?_
      refine wl_val he17 rfl rfl (.slice (some ⟨b, p, none⟩) (n) (c)) (rn_move _ (Or.inl rfl) _ (he17.tmp 0 _ rfl)) (fun a18 he18 => ?_)
      clear he17
      refine wl_val he18 rfl rfl (.int .i64 (((i : Nat) : Int))) (rn_move _ (Or.inl rfl) _ (he18.tmp 5 _ rfl)) (fun a19 he19 => ?_)
      clear he18
      refine wl_val he19 rfl rfl (.pointer (some ⟨b, p + i * 6, none⟩)) (rn_indexA _ _ _ rfl _ _ (.pointer (some ⟨b, p + i * 6, none⟩)) (he19.tmp 21 _ rfl) (he19.tmp 22 _ rfl) (ixS 48 6 (by kernel_rfl) (fun w => by kernel_rfl) (b) (p) (n) (c) (i) (by omega) _)) (fun a20 he20 => ?_)
      clear he19
      refine wl_val he20 rfl rfl (.pointer (some ⟨b, p + i * 6 + 1, none⟩)) (rn_field _ _ _ rfl _ (.pointer (some ⟨b, p + i * 6 + 1, none⟩)) (he20.tmp 23 _ rfl) (by kernel_rfl)) (fun a21 he21 => ?_)
      clear he20
      refine wl_val he21 rfl rfl (.int .i64 ((markFI k i).dst)) (rn_row1 hm1 hR (by simp) (i) (by omega) 1 (by omega) _ _ rfl (he21.tmp 24 _ rfl) one3 _ rfl) (fun a22 he22 => ?_)
      clear he21
      refine wl_val he22 rfl rfl (.int .i64 (((kk + 1 : Nat) : Int))) (rn_move _ (Or.inl rfl) _ (he22.tmp 1 _ rfl)) (fun a23 he23 => ?_)
      clear he22
      cases hd3 : (((markFI k i).dst != ((kk + 1 : Nat) : Int)))
      · have hd3p : (markFI k i).dst = ((kk + 1 : Nat) : Int) := by simpa using hd3
        refine wl_val he23 rfl rfl (.bool false) (rn_bin _ _ _ _ _ rfl .i64 _ _ (he23.tmp 25 _ rfl) (he23.tmp 26 _ rfl) (.bool (((markFI k i).dst != ((kk + 1 : Nat) : Int)))) _ rfl (congrArg Value.bool (hd3))) (fun a24 he24 => ?_)
        clear he23
        refine wl_end ?_
        refine wp_condF (he := he24) rfl ?_
        refine wp_skip ?_
        refine then_normal ?_
        refine wp_seqR ?_
        refine wl_val he24 rfl rfl (.int .i64 (((kk + 1 : Nat) : Int))) (rn_move _ (Or.inl rfl) _ (he24.tmp 1 _ rfl)) (fun a25 he25 => ?_)
        clear he24
        refine wl_val he25 rfl rfl (.int .i64 ((((kk + 1) + 1 : Nat) : Int))) (rn_bin _ _ _ _ _ rfl .i64 _ _ (he25.tmp 28 _ rfl) rfl (.int .i64 (IntKind.wrap .i64 (((kk + 1 : Nat) : Int) + 1))) _ rfl (addN (i := kk + 1) (c := 1) (by omega))) (fun a26 he26 => ?_)
        clear he25
        refine wl_val he26 rfl rfl (.int .i64 ((((kk + 1) + 1 : Nat) : Int))) (rn_move _ (Or.inr rfl) _ (he26.tmp 29 _ rfl)) (fun a27 he27 => ?_)
        clear he26
        refine wl_end ?_
        refine wp_seq ?_
        refine wp_seqR ?_
        refine wl_val he27 rfl rfl (.slice (some ⟨b, p, none⟩) (n) (c)) (rn_move _ (Or.inl rfl) _ (he27.tmp 0 _ rfl)) (fun a28 he28 => ?_)
        clear he27
        refine wl_val he28 rfl rfl (.int .i64 (((i : Nat) : Int))) (rn_move _ (Or.inl rfl) _ (he28.tmp 5 _ rfl)) (fun a29 he29 => ?_)
        clear he28
        refine wl_val he29 rfl rfl (.pointer (some ⟨b, p + i * 6, none⟩)) (rn_indexA _ _ _ rfl _ _ (.pointer (some ⟨b, p + i * 6, none⟩)) (he29.tmp 30 _ rfl) (he29.tmp 31 _ rfl) (ixS 48 6 (by kernel_rfl) (fun w => by kernel_rfl) (b) (p) (n) (c) (i) (by omega) _)) (fun a30 he30 => ?_)
        clear he29
        refine wl_val he30 rfl rfl (.pointer (some ⟨b, p + i * 6 + 2, none⟩)) (rn_field _ _ _ rfl _ (.pointer (some ⟨b, p + i * 6 + 2, none⟩)) (he30.tmp 32 _ rfl) (by kernel_rfl)) (fun a31 he31 => ?_)
        clear he30
        refine wl_val he31 rfl rfl (.int .i64 ((markFI k i).src)) (rn_row1 hm1 hR (by simp) (i) (by omega) 2 (by omega) _ _ rfl (he31.tmp 33 _ rfl) one3 _ rfl) (fun a32 he32 => ?_)
        clear he31
        refine wl_val he32 rfl rfl (.int .i64 ((((kk + 1) + 1 : Nat) : Int))) (rn_move _ (Or.inl rfl) _ (he32.tmp 1 _ rfl)) (fun a33 he33 => ?_)
        clear he32
        cases hd4 : (((markFI k i).src != (((kk + 1) + 1 : Nat) : Int)))
        · have hd4p : (markFI k i).src = (((kk + 1) + 1 : Nat) : Int) := by simpa using hd4
          refine wl_val he33 rfl rfl (.bool false) (rn_bin _ _ _ _ _ rfl .i64 _ _ (he33.tmp 34 _ rfl) (he33.tmp 35 _ rfl) (.bool (((markFI k i).src != (((kk + 1) + 1 : Nat) : Int)))) _ rfl (congrArg Value.bool (hd4))) (fun a34 he34 => ?_)
          clear he33
          refine wl_end ?_
          refine wp_condF (he := he34) rfl ?_
          refine wp_skip ?_
          refine then_normal ?_
          refine wp_seqR ?_
          refine wl_val he34 rfl rfl (.int .i64 ((((kk + 1) + 1 : Nat) : Int))) (rn_move _ (Or.inl rfl) _ (he34.tmp 1 _ rfl)) (fun a35 he35 => ?_)
          clear he34
          refine wl_val he35 rfl rfl (.int .i64 (((((kk + 1) + 1) + 1 : Nat) : Int))) (rn_bin _ _ _ _ _ rfl .i64 _ _ (he35.tmp 37 _ rfl) rfl (.int .i64 (IntKind.wrap .i64 ((((kk + 1) + 1 : Nat) : Int) + 1))) _ rfl (addN (i := (kk + 1) + 1) (c := 1) (by omega))) (fun a36 he36 => ?_)
          clear he35
          refine wl_val he36 rfl rfl (.int .i64 (((((kk + 1) + 1) + 1 : Nat) : Int))) (rn_move _ (Or.inr rfl) _ (he36.tmp 38 _ rfl)) (fun a37 he37 => ?_)
          clear he36
          refine wl_end ?_
          refine wp_seq ?_
          refine wp_seqR ?_
          refine wl_val he37 rfl rfl (.slice (some ⟨b, p, none⟩) (n) (c)) (rn_move _ (Or.inl rfl) _ (he37.tmp 0 _ rfl)) (fun a38 he38 => ?_)
          clear he37
          refine wl_val he38 rfl rfl (.int .i64 (((i : Nat) : Int))) (rn_move _ (Or.inl rfl) _ (he38.tmp 5 _ rfl)) (fun a39 he39 => ?_)
          clear he38
          refine wl_val he39 rfl rfl (.pointer (some ⟨b, p + i * 6, none⟩)) (rn_indexA _ _ _ rfl _ _ (.pointer (some ⟨b, p + i * 6, none⟩)) (he39.tmp 39 _ rfl) (he39.tmp 40 _ rfl) (ixS 48 6 (by kernel_rfl) (fun w => by kernel_rfl) (b) (p) (n) (c) (i) (by omega) _)) (fun a40 he40 => ?_)
          clear he39
          refine wl_val he40 rfl rfl (.pointer (some ⟨b, p + i * 6 + 3, none⟩)) (rn_field _ _ _ rfl _ (.pointer (some ⟨b, p + i * 6 + 3, none⟩)) (he40.tmp 41 _ rfl) (by kernel_rfl)) (fun a41 he41 => ?_)
          clear he40
          refine wl_val he41 rfl rfl (.int .i64 ((markFI k i).off)) (rn_row1 hm1 hR (by simp) (i) (by omega) 3 (by omega) _ _ rfl (he41.tmp 42 _ rfl) one3 _ rfl) (fun a42 he42 => ?_)
          clear he41
          refine wl_val he42 rfl rfl (.int .i64 (((((kk + 1) + 1) + 1 : Nat) : Int))) (rn_move _ (Or.inl rfl) _ (he42.tmp 1 _ rfl)) (fun a43 he43 => ?_)
          clear he42
          cases hd5 : (((markFI k i).off != ((((kk + 1) + 1) + 1 : Nat) : Int)))
          · have hd5p : (markFI k i).off = ((((kk + 1) + 1) + 1 : Nat) : Int) := by simpa using hd5
            refine wl_val he43 rfl rfl (.bool false) (rn_bin _ _ _ _ _ rfl .i64 _ _ (he43.tmp 43 _ rfl) (he43.tmp 44 _ rfl) (.bool (((markFI k i).off != ((((kk + 1) + 1) + 1 : Nat) : Int)))) _ rfl (congrArg Value.bool (hd5))) (fun a44 he44 => ?_)
            clear he43
            refine wl_end ?_
            refine wp_condF (he := he44) rfl ?_
            refine wp_skip ?_
            refine then_normal ?_
            refine wp_seqR ?_
            refine wl_val he44 rfl rfl (.int .i64 (((((kk + 1) + 1) + 1 : Nat) : Int))) (rn_move _ (Or.inl rfl) _ (he44.tmp 1 _ rfl)) (fun a45 he45 => ?_)
            clear he44
            refine wl_val he45 rfl rfl (.int .i64 ((((((kk + 1) + 1) + 1) + 1 : Nat) : Int))) (rn_bin _ _ _ _ _ rfl .i64 _ _ (he45.tmp 46 _ rfl) rfl (.int .i64 (IntKind.wrap .i64 (((((kk + 1) + 1) + 1 : Nat) : Int) + 1))) _ rfl (addN (i := ((kk + 1) + 1) + 1) (c := 1) (by omega))) (fun a46 he46 => ?_)
            clear he45
            refine wl_val he46 rfl rfl (.int .i64 ((((((kk + 1) + 1) + 1) + 1 : Nat) : Int))) (rn_move _ (Or.inr rfl) _ (he46.tmp 47 _ rfl)) (fun a47 he47 => ?_)
            clear he46
            refine wl_end ?_
            refine wp_seq ?_
            refine wp_seqR ?_
            refine wl_val he47 rfl rfl (.slice (some ⟨b, p, none⟩) (n) (c)) (rn_move _ (Or.inl rfl) _ (he47.tmp 0 _ rfl)) (fun a48 he48 => ?_)
            clear he47
            refine wl_val he48 rfl rfl (.int .i64 (((i : Nat) : Int))) (rn_move _ (Or.inl rfl) _ (he48.tmp 5 _ rfl)) (fun a49 he49 => ?_)
            clear he48
            refine wl_val he49 rfl rfl (.pointer (some ⟨b, p + i * 6, none⟩)) (rn_indexA _ _ _ rfl _ _ (.pointer (some ⟨b, p + i * 6, none⟩)) (he49.tmp 48 _ rfl) (he49.tmp 49 _ rfl) (ixS 48 6 (by kernel_rfl) (fun w => by kernel_rfl) (b) (p) (n) (c) (i) (by omega) _)) (fun a50 he50 => ?_)
            clear he49
            refine wl_val he50 rfl rfl (.pointer (some ⟨b, p + i * 6 + 4, none⟩)) (rn_field _ _ _ rfl _ (.pointer (some ⟨b, p + i * 6 + 4, none⟩)) (he50.tmp 50 _ rfl) (by kernel_rfl)) (fun a51 he51 => ?_)
            clear he50
            refine wl_val he51 rfl rfl (.int .i64 ((markFI k i).imm)) (rn_row1 hm1 hR (by simp) (i) (by omega) 4 (by omega) _ _ rfl (he51.tmp 51 _ rfl) one3 _ rfl) (fun a52 he52 => ?_)
            clear he51
            refine wl_val he52 rfl rfl (.int .i64 ((((((kk + 1) + 1) + 1) + 1 : Nat) : Int))) (rn_move _ (Or.inl rfl) _ (he52.tmp 1 _ rfl)) (fun a53 he53 => ?_)
            clear he52
            cases hd6 : (((markFI k i).imm != (((((kk + 1) + 1) + 1) + 1 : Nat) : Int)))
            · have hd6p : (markFI k i).imm = (((((kk + 1) + 1) + 1) + 1 : Nat) : Int) := by simpa using hd6
              refine wl_val he53 rfl rfl (.bool false) (rn_bin _ _ _ _ _ rfl .i64 _ _ (he53.tmp 52 _ rfl) (he53.tmp 53 _ rfl) (.bool (((markFI k i).imm != (((((kk + 1) + 1) + 1) + 1 : Nat) : Int)))) _ rfl (congrArg Value.bool (hd6))) (fun a54 he54 => ?_)
              clear he53
              refine wl_end ?_
              refine wp_condF (he := he54) rfl ?_
              refine wp_skip ?_
              refine then_normal ?_
              refine wp_seqR ?_
              refine wl_val he54 rfl rfl (.int .i64 ((((((kk + 1) + 1) + 1) + 1 : Nat) : Int))) (rn_move _ (Or.inl rfl) _ (he54.tmp 1 _ rfl)) (fun a55 he55 => ?_)
              clear he54
              refine wl_val he55 rfl rfl (.int .i64 (((((((kk + 1) + 1) + 1) + 1) + 1 : Nat) : Int))) (rn_bin _ _ _ _ _ rfl .i64 _ _ (he55.tmp 55 _ rfl) rfl (.int .i64 (IntKind.wrap .i64 ((((((kk + 1) + 1) + 1) + 1 : Nat) : Int) + 1))) _ rfl (addN (i := (((kk + 1) + 1) + 1) + 1) (c := 1) (by omega))) (fun a56 he56 => ?_)
              clear he55
              refine wl_val he56 rfl rfl (.int .i64 (((((((kk + 1) + 1) + 1) + 1) + 1 : Nat) : Int))) (rn_move _ (Or.inr rfl) _ (he56.tmp 56 _ rfl)) (fun a57 he57 => ?_)
              clear he56
              refine wl_end ?_
              refine wp_seq ?_
              refine wp_seqR ?_
              refine wl_val he57 rfl rfl (.slice (some ⟨b, p, none⟩) (n) (c)) (rn_move _ (Or.inl rfl) _ (he57.tmp 0 _ rfl)) (fun a58 he58 => ?_)
              clear he57
              refine wl_val he58 rfl rfl (.int .i64 (((i : Nat) : Int))) (rn_move _ (Or.inl rfl) _ (he58.tmp 5 _ rfl)) (fun a59 he59 => ?_)
              clear he58
              refine wl_val he59 rfl rfl (.pointer (some ⟨b, p + i * 6, none⟩)) (rn_indexA _ _ _ rfl _ _ (.pointer (some ⟨b, p + i * 6, none⟩)) (he59.tmp 57 _ rfl) (he59.tmp 58 _ rfl) (ixS 48 6 (by kernel_rfl) (fun w => by kernel_rfl) (b) (p) (n) (c) (i) (by omega) _)) (fun a60 he60 => ?_)
              clear he59
              refine wl_val he60 rfl rfl (.pointer (some ⟨b, p + i * 6 + 5, none⟩)) (rn_field _ _ _ rfl _ (.pointer (some ⟨b, p + i * 6 + 5, none⟩)) (he60.tmp 59 _ rfl) (by kernel_rfl)) (fun a61 he61 => ?_)
              clear he60
              refine wl_val he61 rfl rfl (.int .i64 ((markFI k i).size)) (rn_row1 hm1 hR (by simp) (i) (by omega) 5 (by omega) _ _ rfl (he61.tmp 60 _ rfl) one3 _ rfl) (fun a62 he62 => ?_)
              clear he61
              refine wl_val he62 rfl rfl (.int .i64 (((((((kk + 1) + 1) + 1) + 1) + 1 : Nat) : Int))) (rn_move _ (Or.inl rfl) _ (he62.tmp 1 _ rfl)) (fun a63 he63 => ?_)
              clear he62
              cases hd7 : (((markFI k i).size != ((((((kk + 1) + 1) + 1) + 1) + 1 : Nat) : Int)))
              · have hd7p : (markFI k i).size = ((((((kk + 1) + 1) + 1) + 1) + 1 : Nat) : Int) := by simpa using hd7
                refine wl_val he63 rfl rfl (.bool false) (rn_bin _ _ _ _ _ rfl .i64 _ _ (he63.tmp 61 _ rfl) (he63.tmp 62 _ rfl) (.bool (((markFI k i).size != ((((((kk + 1) + 1) + 1) + 1) + 1 : Nat) : Int)))) _ rfl (congrArg Value.bool (hd7))) (fun a64 he64 => ?_)
                clear he63
                refine wl_end ?_
                refine wp_condF (he := he64) rfl ?_
                refine wp_skip ?_
                refine then_normal ?_
                refine wp_region_lit ?_
                refine wl_val he64 rfl rfl (.int .i64 (((((((kk + 1) + 1) + 1) + 1) + 1 : Nat) : Int))) (rn_move _ (Or.inl rfl) _ (he64.tmp 1 _ rfl)) (fun a65 he65 => ?_)
                clear he64
                refine wl_val he65 rfl rfl (.int .i64 ((((((((kk + 1) + 1) + 1) + 1) + 1) + 1 : Nat) : Int))) (rn_bin _ _ _ _ _ rfl .i64 _ _ (he65.tmp 64 _ rfl) rfl (.int .i64 (IntKind.wrap .i64 (((((((kk + 1) + 1) + 1) + 1) + 1 : Nat) : Int) + 1))) _ rfl (addN (i := ((((kk + 1) + 1) + 1) + 1) + 1) (c := 1) (by omega))) (fun a66 he66 => ?_)
                clear he65
                refine wl_val he66 rfl rfl (.int .i64 ((((((((kk + 1) + 1) + 1) + 1) + 1) + 1 : Nat) : Int))) (rn_move _ (Or.inr rfl) _ (he66.tmp 65 _ rfl)) (fun a67 he67 => ?_)
                clear he66
                refine wpList_nil ?_
                refine in_normal ?_
                refine then_normal ?_
                refine wp_region_lit ?_
                refine wl_val he67 rfl rfl (.int .i64 (((i : Nat) : Int))) (rn_move _ (Or.inl rfl) _ (he67.tmp 5 _ rfl)) (fun a68 he68 => ?_)
                clear he67
                refine wl_val he68 rfl rfl (.int .i64 (((i + 1 : Nat) : Int))) (rn_bin _ _ _ _ _ rfl .i64 _ _ (he68.tmp 10 _ rfl) rfl (.int .i64 (IntKind.wrap .i64 (((i : Nat) : Int) + 1))) _ rfl (addN (i := i) (c := 1) (by omega))) (fun a69 he69 => ?_)
                clear he68
                refine wl_val he69 rfl rfl (.int .i64 (((i + 1 : Nat) : Int))) (rn_move _ (Or.inr rfl) _ (he69.tmp 11 _ rfl)) (fun a70 he70 => ?_)
                clear he69
                refine wpList_nil ?_
                exact ⟨n - (i + 1), by omega, i + 1, kk + 1 + 1 + 1 + 1 + 1 + 1, rfl, ⟨by omega, by omega⟩, he70.sub _ ⟨rfl, rfl, rfl, trivial⟩, hm1.sub _ trivial⟩
              · have hd7p : (markFI k i).size ≠ ((((((kk + 1) + 1) + 1) + 1) + 1 : Nat) : Int) := by simpa using hd7
                refine wl_val he63 rfl rfl (.bool true) (rn_bin _ _ _ _ _ rfl .i64 _ _ (he63.tmp 61 _ rfl) (he63.tmp 62 _ rfl) (.bool (((markFI k i).size != ((((((kk + 1) + 1) + 1) + 1) + 1 : Nat) : Int)))) _ rfl (congrArg Value.bool (hd7))) (fun a64 he64 => ?_)
                clear he63
                refine wl_end ?_
                refine wp_condT (he := he64) rfl ?_
                refine wp_seqR ?_
                refine wl_val he64 rfl rfl (.int .i64 ((-1))) (rn_move _ (Or.inr rfl) _ rfl) (fun a65 he65 => ?_)
                clear he64
                refine wl_end ?_
                refine wp_ret ?_
                refine ret_then ?_
                refine ret_in ?_
                refine ret_then ?_
                refine ret_then ?_
                refine ret_in ?_
                refine ret_then ?_
                exact bodyPost_ret (results_tmp he65 _ Try.results19 _ rfl) he65.defers ⟨(by first | (exfalso; simp [markFI] at hd1 hd2 hd3 hd4 hd5 hd6 hd7; omega) | rw [hkk, show i = n by omega]), hm1.below⟩
            · have hd6p : (markFI k i).imm ≠ (((((kk + 1) + 1) + 1) + 1 : Nat) : Int) := by simpa using hd6
              refine wl_val he53 rfl rfl (.bool true) (rn_bin _ _ _ _ _ rfl .i64 _ _ (he53.tmp 52 _ rfl) (he53.tmp 53 _ rfl) (.bool (((markFI k i).imm != (((((kk + 1) + 1) + 1) + 1 : Nat) : Int)))) _ rfl (congrArg Value.bool (hd6))) (fun a54 he54 => ?_)
              clear he53
              refine wl_end ?_
              refine wp_condT (he := he54) rfl ?_
              refine wp_seqR ?_
              refine wl_val he54 rfl rfl (.int .i64 ((-1))) (rn_move _ (Or.inr rfl) _ rfl) (fun a55 he55 => ?_)
              clear he54
              refine wl_end ?_
              refine wp_ret ?_
              refine ret_then ?_
              refine ret_in ?_
              refine ret_then ?_
              refine ret_then ?_
              refine ret_in ?_
              refine ret_then ?_
              exact bodyPost_ret (results_tmp he55 _ Try.results19 _ rfl) he55.defers ⟨(by first | (exfalso; simp [markFI] at hd1 hd2 hd3 hd4 hd5 hd6; omega) | rw [hkk, show i = n by omega]), hm1.below⟩
          · have hd5p : (markFI k i).off ≠ ((((kk + 1) + 1) + 1 : Nat) : Int) := by simpa using hd5
            refine wl_val he43 rfl rfl (.bool true) (rn_bin _ _ _ _ _ rfl .i64 _ _ (he43.tmp 43 _ rfl) (he43.tmp 44 _ rfl) (.bool (((markFI k i).off != ((((kk + 1) + 1) + 1 : Nat) : Int)))) _ rfl (congrArg Value.bool (hd5))) (fun a44 he44 => ?_)
            clear he43
            refine wl_end ?_
            refine wp_condT (he := he44) rfl ?_
            refine wp_seqR ?_
            refine wl_val he44 rfl rfl (.int .i64 ((-1))) (rn_move _ (Or.inr rfl) _ rfl) (fun a45 he45 => ?_)
            clear he44
            refine wl_end ?_
            refine wp_ret ?_
            refine ret_then ?_
            refine ret_in ?_
            refine ret_then ?_
            refine ret_then ?_
            refine ret_in ?_
            refine ret_then ?_
            exact bodyPost_ret (results_tmp he45 _ Try.results19 _ rfl) he45.defers ⟨(by first | (exfalso; simp [markFI] at hd1 hd2 hd3 hd4 hd5; omega) | rw [hkk, show i = n by omega]), hm1.below⟩
        · have hd4p : (markFI k i).src ≠ (((kk + 1) + 1 : Nat) : Int) := by simpa using hd4
          refine wl_val he33 rfl rfl (.bool true) (rn_bin _ _ _ _ _ rfl .i64 _ _ (he33.tmp 34 _ rfl) (he33.tmp 35 _ rfl) (.bool (((markFI k i).src != (((kk + 1) + 1 : Nat) : Int)))) _ rfl (congrArg Value.bool (hd4))) (fun a34 he34 => ?_)
          clear he33
          refine wl_end ?_
          refine wp_condT (he := he34) rfl ?_
          refine wp_seqR ?_
          refine wl_val he34 rfl rfl (.int .i64 ((-1))) (rn_move _ (Or.inr rfl) _ rfl) (fun a35 he35 => ?_)
          clear he34
          refine wl_end ?_
          refine wp_ret ?_
          refine ret_then ?_
          refine ret_in ?_
          refine ret_then ?_
          refine ret_then ?_
          refine ret_in ?_
          refine ret_then ?_
          exact bodyPost_ret (results_tmp he35 _ Try.results19 _ rfl) he35.defers ⟨(by first | (exfalso; simp [markFI] at hd1 hd2 hd3 hd4; omega) | rw [hkk, show i = n by omega]), hm1.below⟩
      · have hd3p : (markFI k i).dst ≠ ((kk + 1 : Nat) : Int) := by simpa using hd3
        refine wl_val he23 rfl rfl (.bool true) (rn_bin _ _ _ _ _ rfl .i64 _ _ (he23.tmp 25 _ rfl) (he23.tmp 26 _ rfl) (.bool (((markFI k i).dst != ((kk + 1 : Nat) : Int)))) _ rfl (congrArg Value.bool (hd3))) (fun a24 he24 => ?_)
        clear he23
        refine wl_end ?_
        refine wp_condT (he := he24) rfl ?_
        refine wp_seqR ?_
        refine wl_val he24 rfl rfl (.int .i64 ((-1))) (rn_move _ (Or.inr rfl) _ rfl) (fun a25 he25 => ?_)
        clear he24
        refine wl_end ?_
        refine wp_ret ?_
        refine ret_then ?_
        refine ret_in ?_
        refine ret_then ?_
        refine ret_then ?_
        refine ret_in ?_
        refine ret_then ?_
        exact bodyPost_ret (results_tmp he25 _ Try.results19 _ rfl) he25.defers ⟨(by first | (exfalso; simp [markFI] at hd1 hd2 hd3; omega) | rw [hkk, show i = n by omega]), hm1.below⟩
    · have hd2p : (markFI k i).op ≠ ((kk : Nat) : Int) := by simpa using hd2
      refine wl_val he13 rfl rfl (.bool true) (rn_bin _ _ _ _ _ rfl .i64 _ _ (he13.tmp 16 _ rfl) (he13.tmp 17 _ rfl) (.bool (((markFI k i).op != ((kk : Nat) : Int)))) _ rfl (congrArg Value.bool (hd2))) (fun a14 he14 => ?_)
      clear he13
      refine wl_end ?_
      refine wp_condT (he := he14) rfl ?_
      refine wp_seqR ?_
      refine wl_val he14 rfl rfl (.int .i64 ((-1))) (rn_move _ (Or.inr rfl) _ rfl) (fun a15 he15 => ?_)
      clear he14
      refine wl_end ?_
      refine wp_ret ?_
      refine ret_then ?_
      refine ret_in ?_
      refine ret_then ?_
      refine ret_then ?_
      refine ret_in ?_
      refine ret_then ?_
      exact bodyPost_ret (results_tmp he15 _ Try.results19 _ rfl) he15.defers ⟨(by first | (exfalso; simp [markFI] at hd1 hd2; omega) | rw [hkk, show i = n by omega]), hm1.below⟩
end Go.Proofs.Ytcopcajleonndaa
