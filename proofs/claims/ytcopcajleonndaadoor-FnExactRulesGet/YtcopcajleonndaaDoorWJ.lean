/- Rules copied and compared, by the laws. -/
import Derived.Test.YtcopcajleonndaaDoorWA
import Derived.Test.YtcopcajleonndaaDoorSU
namespace Go.Proofs.YtcopcajleonndaaDoor
open Go.RowKit
set_option linter.unusedVariables false
set_option linter.unusedSimpArgs false
theorem agg38 : AggT Tryd.prog 38 5 := ⟨fun w => by kernel_rfl, fun w => by kernel_rfl⟩
theorem el36 : ElT Tryd.prog 25 36 (.agg #[.int .i64 0, .int .i64 0, .int .i64 0, .int .i64 0, .int .i64 0]) 5 40 := ⟨by kernel_rfl, by kernel_rfl, by kernel_rfl, by decide⟩
def eqRu (r q : Ru) : Bool := !(r.at_ != q.at_) && (!(r.op != q.op) && (!(r.num != q.num) && (!(r.ver != q.ver) && !(r.key != q.key))))
theorem eqRu_iff {r q : Ru} : eqRu r q = true ↔ r = q := by
  obtain ⟨a, b, c, d, e⟩ := r
  obtain ⟨a', b', c', d', e'⟩ := q
  simp [eqRu]
def eqRus (f g : Nat → Ru) (n m : Nat) : Bool := decide (n = m) && (List.range n).all fun i => eqRu (f i) (g i)
theorem eqRus_len {f g : Nat → Ru} {n m : Nat} (h : ¬ n = m) : eqRus f g n m = false := by simp [eqRus, h]
theorem eqRus_no {f g : Nat → Ru} {n m i : Nat} (hi : i < n) (h : eqRu (f i) (g i) = false) : eqRus f g n m = false := by
  rw [eqRus, List.all_eq_false.2 ⟨i, List.mem_range.2 hi, by simp [h]⟩, Bool.and_false]
theorem eqRus_yes {f g : Nat → Ru} {n m : Nat} (h0 : n = m) (h : ∀ i, i < n → eqRu (f i) (g i) = true) : eqRus f g n m = true := by
  rw [eqRus, List.all_eq_true.2 fun i hi => h i (List.mem_range.1 hi), decide_eq_true h0]; rfl
theorem ovw_size : ∀ (l : List Value) (A : Array Value) (o : Nat), (ovw A o l).size = A.size
  | [], _, _ => rfl
  | v :: l, A, o => by rw [ovw, ovw_size l]; simp
theorem ovw_get : ∀ (l : List Value) (A : Array Value) (o m : Nat), o + l.length ≤ A.size → (ovw A o l)[m]? = if o ≤ m ∧ m < o + l.length then l[m - o]? else A[m]?
  | [], A, o, m, _ => by rw [ovw, if_neg (by rintro ⟨h1, h2⟩; simp at h2; omega)]
  | v :: l, A, o, m, h => by
    simp only [List.length_cons] at h ⊢
    rw [ovw, ovw_get l _ (o + 1) m (by simp; omega)]
    rcases Nat.lt_trichotomy m o with hm | hm | hm
    · rw [if_neg (by omega), if_neg (by omega), Array.getElem?_setIfInBounds_ne (by omega)]
    · subst hm
      rw [if_neg (by omega), if_pos (by omega), Nat.sub_self, Array.getElem?_setIfInBounds_self_of_lt (by omega)]; rfl
    · by_cases h2 : m < o + 1 + l.length
      · rw [if_pos (by omega), if_pos (by omega), show m - o = (m - (o + 1)) + 1 by omega, List.getElem?_cons_succ]
      · rw [if_neg (by omega), if_neg (by omega), Array.getElem?_setIfInBounds_ne (by omega)]
/-- The first k of a row of rules. -/
def RuRow (cur : Array Value) (f : Nat → Ru) (k : Nat) : Prop := ∀ i, i < k → ∀ j, j < 5 → cur[0 + i * 5 + j]? = (f i).arr[j]?
theorem RuRow.next {cur : Array Value} {f : Nat → Ru} {k n : Nat} (h : RuRow cur f k) (hs : cur.size = n * 5) (hk : k < n) : RuRow (ovw cur (0 + k * 5) ((f k).arr).toList) f (k + 1) := by
  intro i hi j hj
  have hl : ((f k).arr).toList.length = 5 := rfl
  rw [ovw_get _ _ _ _ (by rw [hl, hs]; omega), hl]
  rcases Nat.lt_or_ge i k with h1 | h1
  · rw [if_neg (by omega)]; exact h i h1 j hj
  · obtain rfl : i = k := by omega
    rw [if_pos (by omega), show 0 + i * 5 + j - (0 + i * 5) = j by omega]; simp
theorem RuRow.at {w : World} {b n : Nat} {T : TypeId} {cur : Array Value} {f : Nat → Ru} (h : RuRow cur f n) (hx : BX w b T cur) : RowAt w b 0 n 5 fun i => (f i).arr :=
  ⟨hx.lt, fun i hi j hj => ⟨by rw [hx.cell]; exact h i hi j hj, hj⟩⟩
theorem c_toRule (r : Ru) (w : World)  :
    Calls Tryd.prog 16 #[.agg (Ru.arr (r))] w fun e w' => e = .returned (.agg r.arr) ∧ Below w.heap.size w w' := by
  refine calls_begin Tryd.func16 rfl 20 rfl (Nat.le_of_ble_eq_true rfl) [(0, .agg (Ru.arr (r)))] ⟨rfl, trivial⟩ (fun a0 he0 hm0 => ?_)
  refine wp_seqR ?_
  refine wl_box he0 hm0 1 rfl rfl rfl _ _ rfl _ (he0.tmp 0 _ rfl) (Ru.arr (r)) rfl (fun a1 w1 b1 he1 hm1 => ?_)
  clear he0 hm0
  refine wl_alloc he1 hm1 2 rfl rfl rfl _ rfl (.agg #[.int .i64 0, .int .i64 0, .int .i64 0, .int .i64 0, .int .i64 0]) (fun w => by kernel_rfl) (#[.int .i64 (0), .int .i64 (0), .int .i64 (0), .int .i64 (0), .int .i64 (0)]) rfl (fun a2 w2 b2 he2 hm2 => ?_)
  clear he1 hm1
  refine wl_end ?_
  refine wp_seqR ?_
  refine wl_alloc he2 hm2 3 rfl rfl rfl _ rfl (.agg #[.int .i64 0, .int .i64 0, .int .i64 0, .int .i64 0, .int .i64 0]) (fun w => by kernel_rfl) (#[.int .i64 (0), .int .i64 (0), .int .i64 (0), .int .i64 (0), .int .i64 (0)]) rfl (fun a3 w3 b3 he3 hm3 => ?_)
  clear he2 hm2
  refine wl_end ?_
  refine wp_seqR ?_
  refine wl_val he3 rfl rfl (.pointer (some ⟨b1, 0, none⟩)) (rn_field _ _ _ rfl _ (.pointer (some ⟨b1, 0, none⟩)) (he3.tmp 1 _ rfl) (by kernel_rfl)) (fun a4 he4 => ?_)
  clear he3
  refine wl_val he4 rfl rfl (.int .i64 ((r).at_)) (rn_load1 hm3 1 rfl _ _ rfl (0) (he4.tmp 4 _ rfl) one3 _ rfl) (fun a5 he5 => ?_)
  clear he4
  refine wl_val he5 rfl rfl (.pointer (some ⟨b3, 0, none⟩)) (rn_field _ _ _ rfl _ (.pointer (some ⟨b3, 0, none⟩)) (he5.tmp 3 _ rfl) (by kernel_rfl)) (fun a6 he6 => ?_)
  clear he5
  refine wl_store he6 hm3 3 rfl rfl rfl _ _ _ rfl (0) (he6.tmp 6 _ rfl) _ (he6.tmp 5 _ rfl) 1 one3.size rfl (by kernel_rfl) (by simp) (#[.int .i64 ((r).at_), .int .i64 (0), .int .i64 (0), .int .i64 (0), .int .i64 (0)]) (by kernel_rfl) (fun w4 hm4 => ?_)
  clear hm3
  refine wl_end ?_
  refine wp_seqR ?_
  refine wl_val he6 rfl rfl (.pointer (some ⟨b1, 1, none⟩)) (rn_field _ _ _ rfl _ (.pointer (some ⟨b1, 1, none⟩)) (he6.tmp 1 _ rfl) (by kernel_rfl)) (fun a7 he7 => ?_)
  clear he6
  refine wl_val he7 rfl rfl (.int .i64 ((r).op)) (rn_load1 hm4 1 rfl _ _ rfl (1) (he7.tmp 7 _ rfl) one3 _ rfl) (fun a8 he8 => ?_)
  clear he7
  refine wl_val he8 rfl rfl (.pointer (some ⟨b3, 1, none⟩)) (rn_field _ _ _ rfl _ (.pointer (some ⟨b3, 1, none⟩)) (he8.tmp 3 _ rfl) (by kernel_rfl)) (fun a9 he9 => ?_)
  clear he8
  refine wl_store he9 hm4 3 rfl rfl rfl _ _ _ rfl (1) (he9.tmp 9 _ rfl) _ (he9.tmp 8 _ rfl) 1 one3.size rfl (by kernel_rfl) (by simp) (#[.int .i64 ((r).at_), .int .i64 ((r).op), .int .i64 (0), .int .i64 (0), .int .i64 (0)]) (by kernel_rfl) (fun w5 hm5 => ?_)
  clear hm4
  refine wl_end ?_
  refine wp_seqR ?_
  refine wl_val he9 rfl rfl (.pointer (some ⟨b1, 2, none⟩)) (rn_field _ _ _ rfl _ (.pointer (some ⟨b1, 2, none⟩)) (he9.tmp 1 _ rfl) (by kernel_rfl)) (fun a10 he10 => ?_)
  clear he9
  refine wl_val he10 rfl rfl (.int .i64 ((r).num)) (rn_load1 hm5 1 rfl _ _ rfl (2) (he10.tmp 10 _ rfl) one3 _ rfl) (fun a11 he11 => ?_)
  clear he10
  refine wl_val he11 rfl rfl (.pointer (some ⟨b3, 2, none⟩)) (rn_field _ _ _ rfl _ (.pointer (some ⟨b3, 2, none⟩)) (he11.tmp 3 _ rfl) (by kernel_rfl)) (fun a12 he12 => ?_)
  clear he11
  refine wl_store he12 hm5 3 rfl rfl rfl _ _ _ rfl (2) (he12.tmp 12 _ rfl) _ (he12.tmp 11 _ rfl) 1 one3.size rfl (by kernel_rfl) (by simp) (#[.int .i64 ((r).at_), .int .i64 ((r).op), .int .i64 ((r).num), .int .i64 (0), .int .i64 (0)]) (by kernel_rfl) (fun w6 hm6 => ?_)
  clear hm5
  refine wl_end ?_
  refine wp_seqR ?_
  refine wl_val he12 rfl rfl (.pointer (some ⟨b1, 3, none⟩)) (rn_field _ _ _ rfl _ (.pointer (some ⟨b1, 3, none⟩)) (he12.tmp 1 _ rfl) (by kernel_rfl)) (fun a13 he13 => ?_)
  clear he12
  refine wl_val he13 rfl rfl (.int .i64 ((r).ver)) (rn_load1 hm6 1 rfl _ _ rfl (3) (he13.tmp 13 _ rfl) one3 _ rfl) (fun a14 he14 => ?_)
  clear he13
  refine wl_val he14 rfl rfl (.pointer (some ⟨b3, 3, none⟩)) (rn_field _ _ _ rfl _ (.pointer (some ⟨b3, 3, none⟩)) (he14.tmp 3 _ rfl) (by kernel_rfl)) (fun a15 he15 => ?_)
  clear he14
  refine wl_store he15 hm6 3 rfl rfl rfl _ _ _ rfl (3) (he15.tmp 15 _ rfl) _ (he15.tmp 14 _ rfl) 1 one3.size rfl (by kernel_rfl) (by simp) (#[.int .i64 ((r).at_), .int .i64 ((r).op), .int .i64 ((r).num), .int .i64 ((r).ver), .int .i64 (0)]) (by kernel_rfl) (fun w7 hm7 => ?_)
  clear hm6
  refine wl_end ?_
  refine wp_seqR ?_
  refine wl_val he15 rfl rfl (.pointer (some ⟨b1, 4, none⟩)) (rn_field _ _ _ rfl _ (.pointer (some ⟨b1, 4, none⟩)) (he15.tmp 1 _ rfl) (by kernel_rfl)) (fun a16 he16 => ?_)
  clear he15
  refine wl_val he16 rfl rfl (.int .i64 ((r).key)) (rn_load1 hm7 1 rfl _ _ rfl (4) (he16.tmp 16 _ rfl) one3 _ rfl) (fun a17 he17 => ?_)
  clear he16
  refine wl_val he17 rfl rfl (.pointer (some ⟨b3, 4, none⟩)) (rn_field _ _ _ rfl _ (.pointer (some ⟨b3, 4, none⟩)) (he17.tmp 3 _ rfl) (by kernel_rfl)) (fun a18 he18 => ?_)
  clear he17
  refine wl_store he18 hm7 3 rfl rfl rfl _ _ _ rfl (4) (he18.tmp 18 _ rfl) _ (he18.tmp 17 _ rfl) 1 one3.size rfl (by kernel_rfl) (by simp) (#[.int .i64 ((r).at_), .int .i64 ((r).op), .int .i64 ((r).num), .int .i64 ((r).ver), .int .i64 ((r).key)]) (by kernel_rfl) (fun w8 hm8 => ?_)
  clear hm7
  refine wl_end ?_
  refine wp_seqR ?_
  refine wl_val he18 rfl rfl (.agg (#[.int .i64 ((r).at_), .int .i64 ((r).op), .int .i64 ((r).num), .int .i64 ((r).ver), .int .i64 ((r).key)])) (rn_loadA hm8 3 rfl _ _ rfl (0) (he18.tmp 3 _ rfl) 5 agg36 (#[.int .i64 ((r).at_), .int .i64 ((r).op), .int .i64 ((r).num), .int .i64 ((r).ver), .int .i64 ((r).key)]) rfl rfl) (fun a19 he19 => ?_)
  clear he18
  refine wl_store he19 hm8 2 rfl rfl rfl _ _ _ rfl (0) (he19.tmp 2 _ rfl) _ (he19.tmp 19 _ rfl) 5 agg36.size rfl (by kernel_rfl) (by simp) (#[.int .i64 ((r).at_), .int .i64 ((r).op), .int .i64 ((r).num), .int .i64 ((r).ver), .int .i64 ((r).key)]) (by kernel_rfl) (fun w9 hm9 => ?_)
  clear hm8
  refine wl_end ?_
  refine wp_ret ?_
  exact bodyPost_ret (results_cell he19 hm9 _ _ Tryd.results16 _ rfl 2 rfl 5 agg36 (by first | rfl | assumption)) he19.defers ⟨rfl, hm9.below⟩
theorem c_eqRule (r q : Ru) (w : World)  :
    Calls Tryd.prog 19 #[.agg (Ru.arr (r)), .agg (Ru.arr (q))] w fun e w' => e = .returned (.bool (eqRu r q)) ∧ Below w.heap.size w w' := by
  refine calls_begin Tryd.func19 rfl 30 rfl (Nat.le_of_ble_eq_true rfl) [(0, .agg (Ru.arr (r))), (1, .agg (Ru.arr (q)))] ⟨rfl, rfl, trivial⟩ (fun a0 he0 hm0 => ?_)
  refine wp_seqR ?_
  refine wl_box he0 hm0 1 rfl rfl rfl _ _ rfl _ (he0.tmp 0 _ rfl) (Ru.arr (r)) rfl (fun a1 w1 b1 he1 hm1 => ?_)
  clear he0 hm0
  refine wl_box he1 hm1 2 rfl rfl rfl _ _ rfl _ (he1.tmp 1 _ rfl) (Ru.arr (q)) rfl (fun a2 w2 b2 he2 hm2 => ?_)
  clear he1 hm1
  refine wl_val he2 rfl rfl (.bool false) (rn_move _ (Or.inr rfl) _ rfl) (fun a3 he3 => ?_)
  clear he2
  refine wl_end ?_
  refine wp_seq ?_
  refine wp_seqR ?_
  refine wl_val he3 rfl rfl (.pointer (some ⟨b1, 0, none⟩)) (rn_field _ _ _ rfl _ (.pointer (some ⟨b1, 0, none⟩)) (he3.tmp 2 _ rfl) (by kernel_rfl)) (fun a4 he4 => ?_)
  clear he3
  refine wl_val he4 rfl rfl (.int .i64 ((r).at_)) (rn_load1 hm2 1 rfl _ _ rfl (0) (he4.tmp 5 _ rfl) one3 _ rfl) (fun a5 he5 => ?_)
  clear he4
  refine wl_val he5 rfl rfl (.pointer (some ⟨b2, 0, none⟩)) (rn_field _ _ _ rfl _ (.pointer (some ⟨b2, 0, none⟩)) (he5.tmp 3 _ rfl) (by kernel_rfl)) (fun a6 he6 => ?_)
  clear he5
  refine wl_val he6 rfl rfl (.int .i64 ((q).at_)) (rn_load1 hm2 2 rfl _ _ rfl (0) (he6.tmp 7 _ rfl) one3 _ rfl) (fun a7 he7 => ?_)
  clear he6
  cases hd1 : (((r).at_ != (q).at_))
  · have hd1p : (r).at_ = (q).at_ := by simpa using hd1
    refine wl_val he7 rfl rfl (.bool false) (rn_bin _ _ _ _ _ rfl .i64 _ _ (he7.tmp 6 _ rfl) (he7.tmp 8 _ rfl) (.bool (((r).at_ != (q).at_))) _ rfl (congrArg Value.bool (hd1))) (fun a8 he8 => ?_)
    clear he7
    refine wl_end ?_
    refine wp_condF (he := he8) rfl ?_
    refine wp_skip ?_
    refine then_normal ?_
    refine wp_seq ?_
    refine wp_seqR ?_
    refine wl_val he8 rfl rfl (.pointer (some ⟨b1, 1, none⟩)) (rn_field _ _ _ rfl _ (.pointer (some ⟨b1, 1, none⟩)) (he8.tmp 2 _ rfl) (by kernel_rfl)) (fun a9 he9 => ?_)
    clear he8
    refine wl_val he9 rfl rfl (.int .i64 ((r).op)) (rn_load1 hm2 1 rfl _ _ rfl (1) (he9.tmp 10 _ rfl) one3 _ rfl) (fun a10 he10 => ?_)
    clear he9
    refine wl_val he10 rfl rfl (.pointer (some ⟨b2, 1, none⟩)) (rn_field _ _ _ rfl _ (.pointer (some ⟨b2, 1, none⟩)) (he10.tmp 3 _ rfl) (by kernel_rfl)) (fun a11 he11 => ?_)
    clear he10
    refine wl_val he11 rfl rfl (.int .i64 ((q).op)) (rn_load1 hm2 2 rfl _ _ rfl (1) (he11.tmp 12 _ rfl) one3 _ rfl) (fun a12 he12 => ?_)
    clear he11
    cases hd2 : (((r).op != (q).op))
    · have hd2p : (r).op = (q).op := by simpa using hd2
      refine wl_val he12 rfl rfl (.bool false) (rn_bin _ _ _ _ _ rfl .i64 _ _ (he12.tmp 11 _ rfl) (he12.tmp 13 _ rfl) (.bool (((r).op != (q).op))) _ rfl (congrArg Value.bool (hd2))) (fun a13 he13 => ?_)
      clear he12
      refine wl_end ?_
      refine wp_condF (he := he13) rfl ?_
      refine wp_skip ?_
      refine then_normal ?_
      refine wp_seq ?_
      refine wp_seqR ?_
      refine wl_val he13 rfl rfl (.pointer (some ⟨b1, 2, none⟩)) (rn_field _ _ _ rfl _ (.pointer (some ⟨b1, 2, none⟩)) (he13.tmp 2 _ rfl) (by kernel_rfl)) (fun a14 he14 => ?_)
      clear he13
      refine wl_val he14 rfl rfl (.int .i64 ((r).num)) (rn_load1 hm2 1 rfl _ _ rfl (2) (he14.tmp 15 _ rfl) one3 _ rfl) (fun a15 he15 => ?_)
      clear he14
      refine wl_val he15 rfl rfl (.pointer (some ⟨b2, 2, none⟩)) (rn_field _ _ _ rfl _ (.pointer (some ⟨b2, 2, none⟩)) (he15.tmp 3 _ rfl) (by kernel_rfl)) (fun a16 he16 => ?_)
      clear he15
      refine wl_val he16 rfl rfl (.int .i64 ((q).num)) (rn_load1 hm2 2 rfl _ _ rfl (2) (he16.tmp 17 _ rfl) one3 _ rfl) (fun a17 he17 => ?_)
      clear he16
      cases hd3 : (((r).num != (q).num))
      · have hd3p : (r).num = (q).num := by simpa using hd3
        refine wl_val he17 rfl rfl (.bool false) (rn_bin _ _ _ _ _ rfl .i64 _ _ (he17.tmp 16 _ rfl) (he17.tmp 18 _ rfl) (.bool (((r).num != (q).num))) _ rfl (congrArg Value.bool (hd3))) (fun a18 he18 => ?_)
        clear he17
        refine wl_end ?_
        refine wp_condF (he := he18) rfl ?_
        refine wp_skip ?_
        refine then_normal ?_
        refine wp_seq ?_
        refine wp_seqR ?_
        refine wl_val he18 rfl rfl (.pointer (some ⟨b1, 3, none⟩)) (rn_field _ _ _ rfl _ (.pointer (some ⟨b1, 3, none⟩)) (he18.tmp 2 _ rfl) (by kernel_rfl)) (fun a19 he19 => ?_)
        clear he18
        refine wl_val he19 rfl rfl (.int .i64 ((r).ver)) (rn_load1 hm2 1 rfl _ _ rfl (3) (he19.tmp 20 _ rfl) one3 _ rfl) (fun a20 he20 => ?_)
        clear he19
        refine wl_val he20 rfl rfl (.pointer (some ⟨b2, 3, none⟩)) (rn_field _ _ _ rfl _ (.pointer (some ⟨b2, 3, none⟩)) (he20.tmp 3 _ rfl) (by kernel_rfl)) (fun a21 he21 => ?_)
        clear he20
        refine wl_val he21 rfl rfl (.int .i64 ((q).ver)) (rn_load1 hm2 2 rfl _ _ rfl (3) (he21.tmp 22 _ rfl) one3 _ rfl) (fun a22 he22 => ?_)
        clear he21
        cases hd4 : (((r).ver != (q).ver))
        · have hd4p : (r).ver = (q).ver := by simpa using hd4
          refine wl_val he22 rfl rfl (.bool false) (rn_bin _ _ _ _ _ rfl .i64 _ _ (he22.tmp 21 _ rfl) (he22.tmp 23 _ rfl) (.bool (((r).ver != (q).ver))) _ rfl (congrArg Value.bool (hd4))) (fun a23 he23 => ?_)
          clear he22
          refine wl_end ?_
          refine wp_condF (he := he23) rfl ?_
          refine wp_skip ?_
          refine then_normal ?_
          refine wp_seq ?_
          refine wp_seqR ?_
          refine wl_val he23 rfl rfl (.pointer (some ⟨b1, 4, none⟩)) (rn_field _ _ _ rfl _ (.pointer (some ⟨b1, 4, none⟩)) (he23.tmp 2 _ rfl) (by kernel_rfl)) (fun a24 he24 => ?_)
          clear he23
          refine wl_val he24 rfl rfl (.int .i64 ((r).key)) (rn_load1 hm2 1 rfl _ _ rfl (4) (he24.tmp 25 _ rfl) one3 _ rfl) (fun a25 he25 => ?_)
          clear he24
          refine wl_val he25 rfl rfl (.pointer (some ⟨b2, 4, none⟩)) (rn_field _ _ _ rfl _ (.pointer (some ⟨b2, 4, none⟩)) (he25.tmp 3 _ rfl) (by kernel_rfl)) (fun a26 he26 => ?_)
          clear he25
          refine wl_val he26 rfl rfl (.int .i64 ((q).key)) (rn_load1 hm2 2 rfl _ _ rfl (4) (he26.tmp 27 _ rfl) one3 _ rfl) (fun a27 he27 => ?_)
          clear he26
          cases hd5 : (((r).key != (q).key))
          · have hd5p : (r).key = (q).key := by simpa using hd5
            refine wl_val he27 rfl rfl (.bool false) (rn_bin _ _ _ _ _ rfl .i64 _ _ (he27.tmp 26 _ rfl) (he27.tmp 28 _ rfl) (.bool (((r).key != (q).key))) _ rfl (congrArg Value.bool (hd5))) (fun a28 he28 => ?_)
            clear he27
            refine wl_end ?_
            refine wp_condF (he := he28) rfl ?_
            refine wp_skip ?_
            refine then_normal ?_
            refine wp_seqR ?_
            refine wl_val he28 rfl rfl (.bool true) (rn_move _ (Or.inr rfl) _ rfl) (fun a29 he29 => ?_)
            clear he28
            refine wl_end ?_
            refine wp_ret ?_
            exact bodyPost_ret (results_tmp he29 _ Tryd.results19 _ rfl) he29.defers ⟨(by simp only [eqRu, hd1, hd2, hd3, hd4, hd5, Bool.not_true, Bool.not_false, Bool.false_and, Bool.true_and]), hm2.below⟩
          · have hd5p : (r).key ≠ (q).key := by simpa using hd5
            refine wl_val he27 rfl rfl (.bool true) (rn_bin _ _ _ _ _ rfl .i64 _ _ (he27.tmp 26 _ rfl) (he27.tmp 28 _ rfl) (.bool (((r).key != (q).key))) _ rfl (congrArg Value.bool (hd5))) (fun a28 he28 => ?_)
            clear he27
            refine wl_end ?_
            refine wp_condT (he := he28) rfl ?_
            refine wp_seqR ?_
            refine wl_val he28 rfl rfl (.bool false) (rn_move _ (Or.inr rfl) _ rfl) (fun a29 he29 => ?_)
            clear he28
            refine wl_end ?_
            refine wp_ret ?_
            refine ret_then ?_
            exact bodyPost_ret (results_tmp he29 _ Tryd.results19 _ rfl) he29.defers ⟨(by simp only [eqRu, hd1, hd2, hd3, hd4, hd5, Bool.not_true, Bool.not_false, Bool.false_and, Bool.true_and]), hm2.below⟩
        · have hd4p : (r).ver ≠ (q).ver := by simpa using hd4
          refine wl_val he22 rfl rfl (.bool true) (rn_bin _ _ _ _ _ rfl .i64 _ _ (he22.tmp 21 _ rfl) (he22.tmp 23 _ rfl) (.bool (((r).ver != (q).ver))) _ rfl (congrArg Value.bool (hd4))) (fun a23 he23 => ?_)
          clear he22
          refine wl_end ?_
          refine wp_condT (he := he23) rfl ?_
          refine wp_seqR ?_
          refine wl_val he23 rfl rfl (.bool false) (rn_move _ (Or.inr rfl) _ rfl) (fun a24 he24 => ?_)
          clear he23
          refine wl_end ?_
          refine wp_ret ?_
          refine ret_then ?_
          exact bodyPost_ret (results_tmp he24 _ Tryd.results19 _ rfl) he24.defers ⟨(by simp only [eqRu, hd1, hd2, hd3, hd4, Bool.not_true, Bool.not_false, Bool.false_and, Bool.true_and]), hm2.below⟩
      · have hd3p : (r).num ≠ (q).num := by simpa using hd3
        refine wl_val he17 rfl rfl (.bool true) (rn_bin _ _ _ _ _ rfl .i64 _ _ (he17.tmp 16 _ rfl) (he17.tmp 18 _ rfl) (.bool (((r).num != (q).num))) _ rfl (congrArg Value.bool (hd3))) (fun a18 he18 => ?_)
        clear he17
        refine wl_end ?_
        refine wp_condT (he := he18) rfl ?_
        refine wp_seqR ?_
        refine wl_val he18 rfl rfl (.bool false) (rn_move _ (Or.inr rfl) _ rfl) (fun a19 he19 => ?_)
        clear he18
        refine wl_end ?_
        refine wp_ret ?_
        refine ret_then ?_
        exact bodyPost_ret (results_tmp he19 _ Tryd.results19 _ rfl) he19.defers ⟨(by simp only [eqRu, hd1, hd2, hd3, Bool.not_true, Bool.not_false, Bool.false_and, Bool.true_and]), hm2.below⟩
    · have hd2p : (r).op ≠ (q).op := by simpa using hd2
      refine wl_val he12 rfl rfl (.bool true) (rn_bin _ _ _ _ _ rfl .i64 _ _ (he12.tmp 11 _ rfl) (he12.tmp 13 _ rfl) (.bool (((r).op != (q).op))) _ rfl (congrArg Value.bool (hd2))) (fun a13 he13 => ?_)
      clear he12
      refine wl_end ?_
      refine wp_condT (he := he13) rfl ?_
      refine wp_seqR ?_
      refine wl_val he13 rfl rfl (.bool false) (rn_move _ (Or.inr rfl) _ rfl) (fun a14 he14 => ?_)
      clear he13
      refine wl_end ?_
      refine wp_ret ?_
      refine ret_then ?_
      exact bodyPost_ret (results_tmp he14 _ Tryd.results19 _ rfl) he14.defers ⟨(by simp only [eqRu, hd1, hd2, Bool.not_true, Bool.not_false, Bool.false_and, Bool.true_and]), hm2.below⟩
  · have hd1p : (r).at_ ≠ (q).at_ := by simpa using hd1
    refine wl_val he7 rfl rfl (.bool true) (rn_bin _ _ _ _ _ rfl .i64 _ _ (he7.tmp 6 _ rfl) (he7.tmp 8 _ rfl) (.bool (((r).at_ != (q).at_))) _ rfl (congrArg Value.bool (hd1))) (fun a8 he8 => ?_)
    clear he7
    refine wl_end ?_
    refine wp_condT (he := he8) rfl ?_
    refine wp_seqR ?_
    refine wl_val he8 rfl rfl (.bool false) (rn_move _ (Or.inr rfl) _ rfl) (fun a9 he9 => ?_)
    clear he8
    refine wl_end ?_
    refine wp_ret ?_
    refine ret_then ?_
    exact bodyPost_ret (results_tmp he9 _ Tryd.results19 _ rfl) he9.defers ⟨(by simp only [eqRu, hd1, Bool.not_true, Bool.not_false, Bool.false_and, Bool.true_and]), hm2.below⟩
theorem c_eqRuleS (f g : Nat → Ru) (b p n c b2 p2 m c2 : Nat) (w : World) (hR : RowAt w b p n 5 fun i => (f i).arr) (hn : n ≤ 1048576) (hQ : RowAt w b2 p2 m 5 fun i => (g i).arr) (hm : m ≤ 1048576) :
    Calls Tryd.prog 9 #[.slice (some ⟨b, p, none⟩) (n) (c), .slice (some ⟨b2, p2, none⟩) (m) (c2)] w fun e w' => e = .returned (.bool (eqRus f g n m)) ∧ Below w.heap.size w w' := by
  refine calls_begin Tryd.func9 rfl 27 rfl (Nat.le_of_ble_eq_true rfl) [(0, .slice (some ⟨b, p, none⟩) (n) (c)), (1, .slice (some ⟨b2, p2, none⟩) (m) (c2))] ⟨rfl, rfl, trivial⟩ (fun a0 he0 hm0 => ?_)
  refine wp_seqR ?_
  refine wl_val he0 rfl rfl (.bool false) (rn_move _ (Or.inr rfl) _ rfl) (fun a1 he1 => ?_)
  clear he0
  refine wl_end ?_
  refine wp_seq ?_
  refine wp_seqR ?_
  refine wl_val he1 rfl rfl (.slice (some ⟨b, p, none⟩) (n) (c)) (rn_move _ (Or.inl rfl) _ (he1.tmp 0 _ rfl)) (fun a2 he2 => ?_)
  clear he1
  refine wl_val he2 rfl rfl (.int .i64 (((n : Nat) : Int))) (rn_builtin _ _ _ rfl #[.slice (some ⟨b, p, none⟩) (n) (c)] (map1 (he2.tmp 6 _ rfl)) (.int .i64 (((n : Nat) : Int))) (by kernel_rfl)) (fun a3 he3 => ?_)
  clear he2
  refine wl_val he3 rfl rfl (.slice (some ⟨b2, p2, none⟩) (m) (c2)) (rn_move _ (Or.inl rfl) _ (he3.tmp 1 _ rfl)) (fun a4 he4 => ?_)
  clear he3
  refine wl_val he4 rfl rfl (.int .i64 (((m : Nat) : Int))) (rn_builtin _ _ _ rfl #[.slice (some ⟨b2, p2, none⟩) (m) (c2)] (map1 (he4.tmp 8 _ rfl)) (.int .i64 (((m : Nat) : Int))) (by kernel_rfl)) (fun a5 he5 => ?_)
  clear he4
  cases hd1 : ((((n : Nat) : Int) != ((m : Nat) : Int)))
  · have hd1p : ((n : Nat) : Int) = ((m : Nat) : Int) := by simpa using hd1
    refine wl_val he5 rfl rfl (.bool false) (rn_bin _ _ _ _ _ rfl .i64 _ _ (he5.tmp 7 _ rfl) (he5.tmp 9 _ rfl) (.bool ((((n : Nat) : Int) != ((m : Nat) : Int)))) _ rfl (congrArg Value.bool (hd1))) (fun a6 he6 => ?_)
    clear he5
    refine wl_end ?_
    refine wp_condF (he := he6) rfl ?_
    refine wp_skip ?_
    refine then_normal ?_
    refine wp_seq ?_
    refine wp_seqR ?_
    refine wl_val he6 rfl rfl (.int .i64 (0)) (rn_move _ (Or.inr rfl) _ rfl) (fun a7 he7 => ?_)
    clear he6
    refine wl_end ?_
    refine wp_block ?_
    refine wp_loopN (fun mz az wz => ∃ (i : Nat), mz = n - (i) ∧ (i ≤ n ∧ ∀ j, j < i → eqRu (f j) (g j) = true) ∧ EV az 27 [] [(0, .slice (some ⟨b, p, none⟩) (n) (c)), (1, .slice (some ⟨b2, p2, none⟩) (m) (c2)), (6, .slice (some ⟨b, p, none⟩) (n) (c)), (7, .int .i64 (((n : Nat) : Int))), (8, .slice (some ⟨b2, p2, none⟩) (m) (c2)), (9, .int .i64 (((m : Nat) : Int))), (10, .bool false), (5, .int .i64 (((i : Nat) : Int)))] ∧ MM [] w wz []) ⟨_, 0, rfl, ⟨by omega, fun j hj => by omega⟩, he7.sub _ ⟨rfl, rfl, rfl, rfl, rfl, rfl, rfl, rfl, trivial⟩, hm0.sub _ trivial⟩ ?_
    rintro mz1 a8 w1 ⟨i, rfl, hrel1, he8, hm1⟩
    clear he7 hm0
    have hrel1a := hrel1.1
    refine wp_seq ?_
    refine wp_seqR ?_
    refine wl_val he8 rfl rfl (.int .i64 (((i : Nat) : Int))) (rn_move _ (Or.inl rfl) _ (he8.tmp 5 _ rfl)) (fun a9 he9 => ?_)
    clear he8
    refine wl_val he9 rfl rfl (.slice (some ⟨b, p, none⟩) (n) (c)) (rn_move _ (Or.inl rfl) _ (he9.tmp 0 _ rfl)) (fun a10 he10 => ?_)
    clear he9
    refine wl_val he10 rfl rfl (.int .i64 (((n : Nat) : Int))) (rn_builtin _ _ _ rfl #[.slice (some ⟨b, p, none⟩) (n) (c)] (map1 (he10.tmp 12 _ rfl)) (.int .i64 (((n : Nat) : Int))) (by kernel_rfl)) (fun a11 he11 => ?_)
    clear he10
    cases hd2 : (decide (((i : Nat) : Int) < ((n : Nat) : Int)))
    · have hd2p := of_decide_eq_false hd2
      refine wl_val he11 rfl rfl (.bool false) (rn_bin _ _ _ _ _ rfl .i64 _ _ (he11.tmp 11 _ rfl) (he11.tmp 13 _ rfl) (.bool (decide (((i : Nat) : Int) < ((n : Nat) : Int)))) _ rfl (congrArg Value.bool (hd2))) (fun a12 he12 => ?_)
      clear he11
      refine wl_end ?_
      refine wp_condF (he := he12) rfl ?_
      refine wp_exit ?_
      refine exit_then ?_
      refine exit_then ?_
      refine exit_here ?_
      refine then_normal ?_
      refine wp_seqR ?_
      refine wl_val he12 rfl rfl (.bool true) (rn_move _ (Or.inr rfl) _ rfl) (fun a13 he13 => ?_)
      clear he12
      refine wl_end ?_
      refine wp_ret ?_
      exact bodyPost_ret (results_tmp he13 _ Tryd.results9 _ rfl) he13.defers ⟨(by first | rw [eqRus_len (by omega)] | rw [eqRus_no (i := i) (by omega) (by assumption)] | rw [eqRus_yes (by omega) fun j hj => hrel1.2 j (by omega)]), hm1.below⟩
    · have hd2p := of_decide_eq_true hd2
      refine wl_val he11 rfl rfl (.bool true) (rn_bin _ _ _ _ _ rfl .i64 _ _ (he11.tmp 11 _ rfl) (he11.tmp 13 _ rfl) (.bool (decide (((i : Nat) : Int) < ((n : Nat) : Int)))) _ rfl (congrArg Value.bool (hd2))) (fun a12 he12 => ?_)
      clear he11
      refine wl_end ?_
      refine wp_condT (he := he12) rfl ?_
      refine wp_skip ?_
      refine then_normal ?_
      refine wp_seq ?_
      refine wp_block ?_
      refine wp_seq ?_
      refine wh_begin (by kernel_rfl) hm1 [] trivial (fun w2 hm2 => ?_)
      clear hm1
      refine wh_take (i := 0) (op := ?op1d01_0) (fuel := 9) (hi := ?hi1d01_0) (hs := ?hs1d01_0) (hf := ?hf1d01_0) (hr := ?hr1d01_0) (hQ2 := ?hq1d01_0) (he := he12) (hm := hm2) (hS := trivial) (hd := ?hd1d01_0) (hw := ?hw1d01_0) (v := .slice (some ⟨b, p, none⟩) (n) (c)) (hy := ?hy1d01_0) (hQ := ?hp1d01_0) (k := fun a13 he13 => ?k1d01_0)
      case hi1d01_0 => rw [List.getElem?_toArray]; rfl
      case hs1d01_0 | hf1d01_0 | hr1d01_0 => kernel_rfl
      case hq1d01_0 => exact fun _ _ _ _ h => h
      case hd1d01_0 => rfl
      case hw1d01_0 => exact rfl
      case hp1d01_0 => exact fun _ _ _ h => h
      case hy1d01_0 => exact fun wS hmS => rn_move _ (Or.inl rfl) _ (he12.tmp 0 _ rfl)
      clear he12
      refine wh_take (i := 1) (op := ?op1d01_1) (fuel := 8) (hi := ?hi1d01_1) (hs := ?hs1d01_1) (hf := ?hf1d01_1) (hr := ?hr1d01_1) (hQ2 := ?hq1d01_1) (he := he13) (hm := hm2) (hS := trivial) (hd := ?hd1d01_1) (hw := ?hw1d01_1) (v := .int .i64 (((i : Nat) : Int))) (hy := ?hy1d01_1) (hQ := ?hp1d01_1) (k := fun a14 he14 => ?k1d01_1)
      case hi1d01_1 => rw [List.getElem?_toArray]; rfl
      case hs1d01_1 | hf1d01_1 | hr1d01_1 => kernel_rfl
      case hq1d01_1 => exact fun _ _ _ _ h => h
      case hd1d01_1 => rfl
      case hw1d01_1 => exact rfl
      case hp1d01_1 => exact fun _ _ _ h => h
      case hy1d01_1 => exact fun wS hmS => rn_move _ (Or.inl rfl) _ (he13.tmp 5 _ rfl)
      clear he13
      refine wh_take (i := 2) (op := ?op1d01_2) (fuel := 7) (hi := ?hi1d01_2) (hs := ?hs1d01_2) (hf := ?hf1d01_2) (hr := ?hr1d01_2) (hQ2 := ?hq1d01_2) (he := he14) (hm := hm2) (hS := trivial) (hd := ?hd1d01_2) (hw := ?hw1d01_2) (v := .pointer (some ⟨b, p + i * 5, none⟩)) (hy := ?hy1d01_2) (hQ := ?hp1d01_2) (k := fun a15 he15 => ?k1d01_2)
      case hi1d01_2 => rw [List.getElem?_toArray]; rfl
      case hs1d01_2 | hf1d01_2 | hr1d01_2 => kernel_rfl
      case hq1d01_2 => exact fun _ _ _ _ h => h
      case hd1d01_2 => rfl
      case hw1d01_2 => exact rfl
      case hp1d01_2 => exact fun _ _ _ h => h
      case hy1d01_2 => exact fun wS hmS => rn_indexA _ _ _ rfl _ _ (.pointer (some ⟨b, p + i * 5, none⟩)) (he14.tmp 17 _ rfl) (he14.tmp 18 _ rfl) (ixS 36 5 (by kernel_rfl) (fun w => by kernel_rfl) (b) (p) (n) (c) (i) (by omega) _)
      clear he14
      refine wh_take (i := 3) (op := ?op1d01_3) (fuel := 6) (hi := ?hi1d01_3) (hs := ?hs1d01_3) (hf := ?hf1d01_3) (hr := ?hr1d01_3) (hQ2 := ?hq1d01_3) (he := he15) (hm := hm2) (hS := trivial) (hd := ?hd1d01_3) (hw := ?hw1d01_3) (v := .agg (Ru.arr (f i))) (hy := ?hy1d01_3) (hQ := ?hp1d01_3) (k := fun a16 he16 => ?k1d01_3)
      case hi1d01_3 => rw [List.getElem?_toArray]; rfl
      case hs1d01_3 | hf1d01_3 | hr1d01_3 => kernel_rfl
      case hq1d01_3 => exact fun _ _ _ _ h => h
      case hd1d01_3 => rfl
      case hw1d01_3 => exact rfl
      case hp1d01_3 => exact fun _ _ _ h => h
      case hy1d01_3 => exact fun wS hmS => rn_rowA hmS hR (by simp) (i) (by omega) _ _ rfl (he15.tmp 19 _ rfl) agg36 (by kernel_rfl)
      clear he15
      refine wh_take (i := 4) (op := ?op1d01_4) (fuel := 5) (hi := ?hi1d01_4) (hs := ?hs1d01_4) (hf := ?hf1d01_4) (hr := ?hr1d01_4) (hQ2 := ?hq1d01_4) (he := he16) (hm := hm2) (hS := trivial) (hd := ?hd1d01_4) (hw := ?hw1d01_4) (v := .slice (some ⟨b2, p2, none⟩) (m) (c2)) (hy := ?hy1d01_4) (hQ := ?hp1d01_4) (k := fun a17 he17 => ?k1d01_4)
      case hi1d01_4 => rw [List.getElem?_toArray]; rfl
      case hs1d01_4 | hf1d01_4 | hr1d01_4 => kernel_rfl
      case hq1d01_4 => exact fun _ _ _ _ h => h
      case hd1d01_4 => rfl
      case hw1d01_4 => exact rfl
      case hp1d01_4 => exact fun _ _ _ h => h
      case hy1d01_4 => exact fun wS hmS => rn_move _ (Or.inl rfl) _ (he16.tmp 1 _ rfl)
      clear he16
      refine wh_take (i := 5) (op := ?op1d01_5) (fuel := 4) (hi := ?hi1d01_5) (hs := ?hs1d01_5) (hf := ?hf1d01_5) (hr := ?hr1d01_5) (hQ2 := ?hq1d01_5) (he := he17) (hm := hm2) (hS := trivial) (hd := ?hd1d01_5) (hw := ?hw1d01_5) (v := .int .i64 (((i : Nat) : Int))) (hy := ?hy1d01_5) (hQ := ?hp1d01_5) (k := fun a18 he18 => ?k1d01_5)
      case hi1d01_5 => rw [List.getElem?_toArray]; rfl
      case hs1d01_5 | hf1d01_5 | hr1d01_5 => kernel_rfl
      case hq1d01_5 => exact fun _ _ _ _ h => h
      case hd1d01_5 => rfl
      case hw1d01_5 => exact rfl
      case hp1d01_5 => exact fun _ _ _ h => h
      case hy1d01_5 => exact fun wS hmS => rn_move _ (Or.inl rfl) _ (he17.tmp 5 _ rfl)
      clear he17
      refine wh_take (i := 6) (op := ?op1d01_6) (fuel := 3) (hi := ?hi1d01_6) (hs := ?hs1d01_6) (hf := ?hf1d01_6) (hr := ?hr1d01_6) (hQ2 := ?hq1d01_6) (he := he18) (hm := hm2) (hS := trivial) (hd := ?hd1d01_6) (hw := ?hw1d01_6) (v := .pointer (some ⟨b2, p2 + i * 5, none⟩)) (hy := ?hy1d01_6) (hQ := ?hp1d01_6) (k := fun a19 he19 => ?k1d01_6)
      case hi1d01_6 => rw [List.getElem?_toArray]; rfl
      case hs1d01_6 | hf1d01_6 | hr1d01_6 => kernel_rfl
      case hq1d01_6 => exact fun _ _ _ _ h => h
      case hd1d01_6 => rfl
      case hw1d01_6 => exact rfl
      case hp1d01_6 => exact fun _ _ _ h => h
      case hy1d01_6 => exact fun wS hmS => rn_indexA _ _ _ rfl _ _ (.pointer (some ⟨b2, p2 + i * 5, none⟩)) (he18.tmp 21 _ rfl) (he18.tmp 22 _ rfl) (ixS 36 5 (by kernel_rfl) (fun w => by kernel_rfl) (b2) (p2) (m) (c2) (i) (by omega) _)
      clear he18
      refine wh_take (i := 7) (op := ?op1d01_7) (fuel := 2) (hi := ?hi1d01_7) (hs := ?hs1d01_7) (hf := ?hf1d01_7) (hr := ?hr1d01_7) (hQ2 := ?hq1d01_7) (he := he19) (hm := hm2) (hS := trivial) (hd := ?hd1d01_7) (hw := ?hw1d01_7) (v := .agg (Ru.arr (g i))) (hy := ?hy1d01_7) (hQ := ?hp1d01_7) (k := fun a20 he20 => ?k1d01_7)
      case hi1d01_7 => rw [List.getElem?_toArray]; rfl
      case hs1d01_7 | hf1d01_7 | hr1d01_7 => kernel_rfl
      case hq1d01_7 => exact fun _ _ _ _ h => h
      case hd1d01_7 => rfl
      case hw1d01_7 => exact rfl
      case hp1d01_7 => exact fun _ _ _ h => h
      case hy1d01_7 => exact fun wS hmS => rn_rowA hmS hQ (by simp) (i) (by omega) _ _ rfl (he19.tmp 23 _ rfl) agg36 (by kernel_rfl)
      clear he19
      cases hd3 : (eqRu (f i) (g i))
      · refine wh_call (i := 8) (op := ?op1d010_8) (fuel := 1) ?hr1d010_8 ?hi1d010_8 he20 hm2 trivial ?hd1d010_8 ?hw1d010_8 _ #[.agg (Ru.arr (f i)), .agg (Ru.arr (g i))] ?en1d010_8 (.bool false) (callsV (congrArg Value.bool (hd3)) (c_eqRule _ _ _)) (fun a21 w3 he21 hm3 => ?k1d010_8)
        case hi1d010_8 => rw [List.getElem?_toArray]; rfl
        case hw1d010_8 => exact rfl
        case hr1d010_8 => kernel_rfl
        case hd1d010_8 => rfl
        case en1d010_8 => exact (enter_call _ _ _ rfl 19 #[] #[] rfl #[.agg (Ru.arr (f i)), .agg (Ru.arr (g i))] (map2 (he20.tmp 20 _ rfl) (he20.tmp 24 _ rfl)) #[.agg (Ru.arr (f i)), .agg (Ru.arr (g i))] rfl (fun _ _ => by kernel_rfl))
        clear he20 hm2
        refine wh_take (i := 9) (op := ?op1d010_9) (fuel := 0) (hi := ?hi1d010_9) (hs := ?hs1d010_9) (hf := ?hf1d010_9) (hr := ?hr1d010_9) (hQ2 := ?hq1d010_9) (he := he21) (hm := hm3) (hS := trivial) (hd := ?hd1d010_9) (hw := ?hw1d010_9) (v := .bool true) (hy := ?hy1d010_9) (hQ := ?hp1d010_9) (k := fun a22 he22 => ?k1d010_9)
        case hi1d010_9 => rw [List.getElem?_toArray]; rfl
        case hs1d010_9 | hf1d010_9 | hr1d010_9 => kernel_rfl
        case hq1d010_9 => exact fun _ _ _ _ h => h
        case hd1d010_9 => rfl
        case hw1d010_9 => exact rfl
        case hp1d010_9 => exact fun _ _ _ h => h
        case hy1d010_9 => exact fun wS hmS => rn_un _ _ _ rfl _ (.bool (!false)) _ (he21.tmp 25 _ rfl) rfl rfl
        clear he21
        refine wpAnyH_done (by kernel_rfl) ?_ _
        refine then_normal ?_
        refine wp_condT (he := he22) rfl ?_
        refine wp_seqR ?_
        refine wl_val he22 rfl rfl (.bool false) (rn_move _ (Or.inr rfl) _ rfl) (fun a23 he23 => ?_)
        clear he22
        refine wl_end ?_
        refine wp_ret ?_
        refine ret_in ?_
        refine ret_then ?_
        refine ret_then ?_
        refine ret_in ?_
        refine ret_then ?_
        exact bodyPost_ret (results_tmp he23 _ Tryd.results9 _ rfl) he23.defers ⟨(by first | rw [eqRus_len (by omega)] | rw [eqRus_no (i := i) (by omega) (by assumption)] | rw [eqRus_yes (by omega) fun j hj => hrel1.2 j (by omega)]), hm3.below⟩
      · refine wh_call (i := 8) (op := ?op1d011_8) (fuel := 1) ?hr1d011_8 ?hi1d011_8 he20 hm2 trivial ?hd1d011_8 ?hw1d011_8 _ #[.agg (Ru.arr (f i)), .agg (Ru.arr (g i))] ?en1d011_8 (.bool true) (callsV (congrArg Value.bool (hd3)) (c_eqRule _ _ _)) (fun a21 w3 he21 hm3 => ?k1d011_8)
        case hi1d011_8 => rw [List.getElem?_toArray]; rfl
        case hw1d011_8 => exact rfl
        case hr1d011_8 => kernel_rfl
        case hd1d011_8 => rfl
        case en1d011_8 => exact (enter_call _ _ _ rfl 19 #[] #[] rfl #[.agg (Ru.arr (f i)), .agg (Ru.arr (g i))] (map2 (he20.tmp 20 _ rfl) (he20.tmp 24 _ rfl)) #[.agg (Ru.arr (f i)), .agg (Ru.arr (g i))] rfl (fun _ _ => by kernel_rfl))
        clear he20 hm2
        refine wh_take (i := 9) (op := ?op1d011_9) (fuel := 0) (hi := ?hi1d011_9) (hs := ?hs1d011_9) (hf := ?hf1d011_9) (hr := ?hr1d011_9) (hQ2 := ?hq1d011_9) (he := he21) (hm := hm3) (hS := trivial) (hd := ?hd1d011_9) (hw := ?hw1d011_9) (v := .bool false) (hy := ?hy1d011_9) (hQ := ?hp1d011_9) (k := fun a22 he22 => ?k1d011_9)
        case hi1d011_9 => rw [List.getElem?_toArray]; rfl
        case hs1d011_9 | hf1d011_9 | hr1d011_9 => kernel_rfl
        case hq1d011_9 => exact fun _ _ _ _ h => h
        case hd1d011_9 => rfl
        case hw1d011_9 => exact rfl
        case hp1d011_9 => exact fun _ _ _ h => h
        case hy1d011_9 => exact fun wS hmS => rn_un _ _ _ rfl _ (.bool (!true)) _ (he21.tmp 25 _ rfl) rfl rfl
        clear he21
        refine wpAnyH_done (by kernel_rfl) ?_ _
        refine then_normal ?_
        refine wp_condF (he := he22) rfl ?_
        refine wp_skip ?_
        refine in_normal ?_
        refine then_normal ?_
        refine wp_region_lit ?_
        refine wl_val he22 rfl rfl (.int .i64 (((i : Nat) : Int))) (rn_move _ (Or.inl rfl) _ (he22.tmp 5 _ rfl)) (fun a23 he23 => ?_)
        clear he22
        refine wl_val he23 rfl rfl (.int .i64 (((i + 1 : Nat) : Int))) (rn_bin _ _ _ _ _ rfl .i64 _ _ (he23.tmp 15 _ rfl) rfl (.int .i64 (IntKind.wrap .i64 (((i : Nat) : Int) + 1))) _ rfl (addN (i := i) (c := 1) (by omega))) (fun a24 he24 => ?_)
        clear he23
        refine wl_val he24 rfl rfl (.int .i64 (((i + 1 : Nat) : Int))) (rn_move _ (Or.inr rfl) _ (he24.tmp 16 _ rfl)) (fun a25 he25 => ?_)
        clear he24
        refine wpList_nil ?_
        exact ⟨n - (i + 1), by omega, i + 1, rfl, ⟨by omega, fun j hj => by rcases Nat.lt_or_ge j i with hh | hh; exact hrel1.2 j hh; rw [show j = i by omega]; assumption⟩, he25.sub _ ⟨rfl, rfl, rfl, rfl, rfl, rfl, rfl, rfl, trivial⟩, hm3.sub _ trivial⟩
  · have hd1p : ((n : Nat) : Int) ≠ ((m : Nat) : Int) := by simpa using hd1
    refine wl_val he5 rfl rfl (.bool true) (rn_bin _ _ _ _ _ rfl .i64 _ _ (he5.tmp 7 _ rfl) (he5.tmp 9 _ rfl) (.bool ((((n : Nat) : Int) != ((m : Nat) : Int)))) _ rfl (congrArg Value.bool (hd1))) (fun a6 he6 => ?_)
    clear he5
    refine wl_end ?_
    refine wp_condT (he := he6) rfl ?_
    refine wp_seqR ?_
    refine wl_val he6 rfl rfl (.bool false) (rn_move _ (Or.inr rfl) _ rfl) (fun a7 he7 => ?_)
    clear he6
    refine wl_end ?_
    refine wp_ret ?_
    refine ret_then ?_
    exact bodyPost_ret (results_tmp he7 _ Tryd.results9 _ rfl) he7.defers ⟨(by first | rw [eqRus_len (by omega)] | rw [eqRus_no (i := i) (by omega) (by assumption)] | rw [eqRus_yes (by omega) fun j hj => hrel1.2 j (by omega)]), hm0.below⟩
theorem c_toRuleS (f : Nat → Ru) (b p n c : Nat) (w : World) (hR : RowAt w b p n 5 fun i => (f i).arr) (hn : n ≤ 1048576) :
    Calls Tryd.prog 7 #[.slice (some ⟨b, p, none⟩) (n) (c)] w fun e w' => NewRow w (fun (_ : Array Value) b => .slice (some ⟨b, 0, none⟩) n n) 36 (fun cur => cur) (fun cur => RuRow cur f n) e w' := by
  refine calls_begin Tryd.func7 rfl 23 rfl (Nat.le_of_ble_eq_true rfl) [(0, .slice (some ⟨b, p, none⟩) (n) (c))] ⟨rfl, trivial⟩ (fun a0 he0 hm0 => ?_)
  refine wp_seqR ?_
  refine wl_val he0 rfl rfl (.slice none 0 0) (rn_move _ (Or.inr rfl) _ rfl) (fun a1 he1 => ?_)
  clear he0
  refine wl_end ?_
  refine wp_seqR ?_
  refine wl_val he1 rfl rfl (.slice (some ⟨b, p, none⟩) (n) (c)) (rn_move _ (Or.inl rfl) _ (he1.tmp 0 _ rfl)) (fun a2 he2 => ?_)
  clear he1
  refine wl_val he2 rfl rfl (.int .i64 (((n : Nat) : Int))) (rn_builtin _ _ _ rfl #[.slice (some ⟨b, p, none⟩) (n) (c)] (map1 (he2.tmp 5 _ rfl)) (.int .i64 (((n : Nat) : Int))) (by kernel_rfl)) (fun a3 he3 => ?_)
  clear he2
  refine wl_make he3 hm0 1 rfl rfl rfl _ _ _ rfl el36 (n) (he3.tmp 6 _ rfl) (he3.tmp 6 _ rfl) (by omega) (by simp only [maxLen]; omega) (fun a4 w1 b1 he4 hm1 => ?_)
  clear he3 hm0
  refine wl_val he4 rfl rfl (.slice (some ⟨b1, 0, none⟩) (n) (n)) (rn_move _ (Or.inr rfl) _ (he4.tmp 7 _ rfl)) (fun a5 he5 => ?_)
  clear he4
  refine wl_end ?_
  refine wp_seq ?_
  refine wp_seqR ?_
  refine wl_val he5 rfl rfl (.int .i64 (0)) (rn_move _ (Or.inr rfl) _ rfl) (fun a6 he6 => ?_)
  clear he5
  refine wl_end ?_
  refine wp_block ?_
  refine wp_loopN (fun mz az wz => ∃ (i : Nat), ∃ (cur : Array Value), mz = n - (i) ∧ (i ≤ n ∧ (cur).size = n * 5 ∧ RuRow (cur) f (i)) ∧ EV az 23 [] [(0, .slice (some ⟨b, p, none⟩) (n) (c)), (2, .slice none 0 0), (5, .slice (some ⟨b, p, none⟩) (n) (c)), (6, .int .i64 (((n : Nat) : Int))), (7, .slice (some ⟨b1, 0, none⟩) (n) (n)), (3, .slice (some ⟨b1, 0, none⟩) (n) (n)), (4, .int .i64 (((i : Nat) : Int)))] ∧ MM [] w wz [(1, ⟨true, b1, 36, cur⟩)]) ⟨_, 0, madeCells (Value.cells (.agg #[.int .i64 0, .int .i64 0, .int .i64 0, .int .i64 0, .int .i64 0])) (n * 5), rfl, ⟨by omega, size_madeCells _ _, fun i hi => by omega⟩, he6.sub _ ⟨rfl, rfl, rfl, rfl, rfl, rfl, rfl, trivial⟩, hm1.sub _ ⟨rfl, trivial⟩⟩ ?_
  rintro mz1 a7 w2 ⟨i, cur, rfl, hrel1, he7, hm2⟩
  clear he6 hm1
  obtain ⟨hra, hsz, hrow⟩ := hrel1
  refine wp_seq ?_
  refine wp_seqR ?_
  refine wl_val he7 rfl rfl (.int .i64 (((i : Nat) : Int))) (rn_move _ (Or.inl rfl) _ (he7.tmp 4 _ rfl)) (fun a8 he8 => ?_)
  clear he7
  refine wl_val he8 rfl rfl (.slice (some ⟨b, p, none⟩) (n) (c)) (rn_move _ (Or.inl rfl) _ (he8.tmp 0 _ rfl)) (fun a9 he9 => ?_)
  clear he8
  refine wl_val he9 rfl rfl (.int .i64 (((n : Nat) : Int))) (rn_builtin _ _ _ rfl #[.slice (some ⟨b, p, none⟩) (n) (c)] (map1 (he9.tmp 9 _ rfl)) (.int .i64 (((n : Nat) : Int))) (by kernel_rfl)) (fun a10 he10 => ?_)
  clear he9
  cases hd1 : (decide (((i : Nat) : Int) < ((n : Nat) : Int)))
  · have hd1p := of_decide_eq_false hd1
    refine wl_val he10 rfl rfl (.bool false) (rn_bin _ _ _ _ _ rfl .i64 _ _ (he10.tmp 8 _ rfl) (he10.tmp 10 _ rfl) (.bool (decide (((i : Nat) : Int) < ((n : Nat) : Int)))) _ rfl (congrArg Value.bool (hd1))) (fun a11 he11 => ?_)
    clear he10
    refine wl_end ?_
    refine wp_condF (he := he11) rfl ?_
    refine wp_exit ?_
    refine exit_then ?_
    refine exit_then ?_
    refine exit_here ?_
    refine then_normal ?_
    refine wp_seqR ?_
    refine wl_val he11 rfl rfl (.slice (some ⟨b1, 0, none⟩) (n) (n)) (rn_move _ (Or.inl rfl) _ (he11.tmp 3 _ rfl)) (fun a12 he12 => ?_)
    clear he11
    refine wl_val he12 rfl rfl (.slice (some ⟨b1, 0, none⟩) (n) (n)) (rn_move _ (Or.inr rfl) _ (he12.tmp 22 _ rfl)) (fun a13 he13 => ?_)
    clear he12
    refine wl_end ?_
    refine wp_ret ?_
    exact bodyPost_ret (results_tmp he13 _ Tryd.results7 _ rfl) he13.defers ⟨cur, _, rfl, hm2.bx 1 _ _ _ _ rfl, by rw [show n = i by omega]; exact hrow, by have := hm2.own 1 _ rfl rfl; simpa using this, hm2.below⟩
  · have hd1p := of_decide_eq_true hd1
    refine wl_val he10 rfl rfl (.bool true) (rn_bin _ _ _ _ _ rfl .i64 _ _ (he10.tmp 8 _ rfl) (he10.tmp 10 _ rfl) (.bool (decide (((i : Nat) : Int) < ((n : Nat) : Int)))) _ rfl (congrArg Value.bool (hd1))) (fun a11 he11 => ?_)
    clear he10
    refine wl_end ?_
    refine wp_condT (he := he11) rfl ?_
    refine wp_skip ?_
    refine then_normal ?_
    refine wp_seq ?_
    refine wp_block ?_
    refine wp_region_lit ?_
    refine wl_val he11 rfl rfl (.slice (some ⟨b1, 0, none⟩) (n) (n)) (rn_move _ (Or.inl rfl) _ (he11.tmp 3 _ rfl)) (fun a12 he12 => ?_)
    clear he11
    refine wl_val he12 rfl rfl (.int .i64 (((i : Nat) : Int))) (rn_move _ (Or.inl rfl) _ (he12.tmp 4 _ rfl)) (fun a13 he13 => ?_)
    clear he12
    refine wl_val he13 rfl rfl (.slice (some ⟨b, p, none⟩) (n) (c)) (rn_move _ (Or.inl rfl) _ (he13.tmp 0 _ rfl)) (fun a14 he14 => ?_)
    clear he13
    refine wl_val he14 rfl rfl (.int .i64 (((i : Nat) : Int))) (rn_move _ (Or.inl rfl) _ (he14.tmp 4 _ rfl)) (fun a15 he15 => ?_)
    clear he14
    refine wl_val he15 rfl rfl (.pointer (some ⟨b, p + i * 5, none⟩)) (rn_indexA _ _ _ rfl _ _ (.pointer (some ⟨b, p + i * 5, none⟩)) (he15.tmp 16 _ rfl) (he15.tmp 17 _ rfl) (ixS 38 5 (by kernel_rfl) (fun w => by kernel_rfl) (b) (p) (n) (c) (i) (by omega) _)) (fun a16 he16 => ?_)
    clear he15
    refine wl_val he16 rfl rfl (.agg (Ru.arr (f i))) (rn_rowA hm2 hR (by simp) (i) (by omega) _ _ rfl (he16.tmp 18 _ rfl) agg38 (by kernel_rfl)) (fun a17 he17 => ?_)
    clear he16
    refine wl_call he17 hm2 rfl rfl _ #[.agg (Ru.arr (f i))] (enter_call _ _ _ rfl 16 #[] #[] rfl #[.agg (Ru.arr (f i))] (map1 (he17.tmp 19 _ rfl)) #[.agg (Ru.arr (f i))] rfl (fun _ _ => by kernel_rfl)) (.agg (Ru.arr (f i))) (c_toRule _ _) (fun a18 w3 he18 hm3 => ?_)
    clear he17 hm2
    refine wl_val he18 rfl rfl (.pointer (some ⟨b1, 0 + i * 5, none⟩)) (rn_indexA _ _ _ rfl _ _ (.pointer (some ⟨b1, 0 + i * 5, none⟩)) (he18.tmp 14 _ rfl) (he18.tmp 15 _ rfl) (ixS 36 5 (by kernel_rfl) (fun w => by kernel_rfl) (b1) (0) (n) (n) (i) (by omega) _)) (fun a19 he19 => ?_)
    clear he18
    refine wl_store he19 hm3 1 rfl rfl rfl _ _ _ rfl (0 + i * 5) (he19.tmp 21 _ rfl) _ (he19.tmp 20 _ rfl) 5 agg36.size rfl (Ru.one _) (by simp only [ovw_size, hsz]; omega) (ovw (cur) (0 + i * 5) (Ru.arr (f i)).toList) rfl (fun w4 hm4 => ?_)
    clear hm3
    refine wpList_nil ?_
    refine in_normal ?_
    refine then_normal ?_
    refine wp_region_lit ?_
    refine wl_val he19 rfl rfl (.int .i64 (((i : Nat) : Int))) (rn_move _ (Or.inl rfl) _ (he19.tmp 4 _ rfl)) (fun a20 he20 => ?_)
    clear he19
    refine wl_val he20 rfl rfl (.int .i64 (((i + 1 : Nat) : Int))) (rn_bin _ _ _ _ _ rfl .i64 _ _ (he20.tmp 12 _ rfl) rfl (.int .i64 (IntKind.wrap .i64 (((i : Nat) : Int) + 1))) _ rfl (addN (i := i) (c := 1) (by omega))) (fun a21 he21 => ?_)
    clear he20
    refine wl_val he21 rfl rfl (.int .i64 (((i + 1 : Nat) : Int))) (rn_move _ (Or.inr rfl) _ (he21.tmp 13 _ rfl)) (fun a22 he22 => ?_)
    clear he21
    refine wpList_nil ?_
    exact ⟨n - (i + 1), by omega, i + 1, ovw (cur) (0 + i * 5) (Ru.arr (f i)).toList, rfl, ⟨by omega, by rw [ovw_size, hsz], hrow.next hsz (by omega)⟩, he22.sub _ ⟨rfl, rfl, rfl, rfl, rfl, rfl, rfl, trivial⟩, hm4.sub _ ⟨rfl, trivial⟩⟩
end Go.Proofs.YtcopcajleonndaaDoor
