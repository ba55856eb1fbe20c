/- Rules read, by the specification, exactly. -/
import Derived.Test.YtkaekiodjjhjkaaDoorWI
import Derived.Test.YtkaekiodjjhjkaaDoorWC
import Derived.Test.YtkaekiodjjhjkaaDoorWE
import Derived.Test.YtkaekiodjjhjkaaDoorWF
import Derived.Test.YtkaekiodjjhjkaaDoorMX2
import Derived.Test.YtkaekiodjjhjkaaDoorRLW
namespace Go.Proofs.YtkaekiodjjhjkaaDoor
open Go.RowKit
set_option linter.unusedVariables false
set_option linter.unusedSimpArgs false
theorem words_row {w : World} {b : Nat} {T : TypeId} (h : BX w b T wordA) : RowAt w b 0 21 1 fun i => #[.string (wordS i)] :=
  ⟨h.lt, fun i hi j hj => by
    obtain rfl : j = 0 := by omega
    rw [h.cell, show 0 + i * 1 + 0 = 0 + i * 1 by omega, g_word i hi]; exact ⟨rfl, by simp⟩⟩
theorem verbs_row {w : World} {b : Nat} {T : TypeId} (h : BX w b T verbA) : RowAt w b 0 3 1 fun i => #[.string (verbS i)] :=
  ⟨h.lt, fun i hi j hj => by
    obtain rfl : j = 0 := by omega
    rw [h.cell, show 0 + i * 1 + 0 = 0 + i * 1 by omega, g_verb i hi]; exact ⟨rfl, by simp⟩⟩
theorem cutN_sz {s : ByteArray} {c most : Nat} : ∀ (k i fr : Nat) (out : List ByteArray), (∀ y ∈ out, y.size ≤ s.size) → ∀ x ∈ cutN s c most k i fr out, x.size ≤ s.size
  | 0, i, fr, out, h, x, hx => by
    rw [cutN] at hx
    rcases List.mem_append.1 hx with hx | hx
    · exact h x hx
    · rw [List.mem_singleton.1 hx, ByteArray.size_extract]; omega
  | k + 1, i, fr, out, h, x, hx => by
    rw [cutN] at hx
    split at hx
    · split at hx
      · refine cutN_sz k _ _ _ (fun y hy => ?_) x hx
        rcases List.mem_append.1 hy with hy | hy
        · exact h y hy
        · rw [List.mem_singleton.1 hy, ByteArray.size_extract]; omega
      · exact cutN_sz k _ _ _ h x hx
    · rcases List.mem_append.1 hx with hx | hx
      · exact h x hx
      · rw [List.mem_singleton.1 hx, ByteArray.size_extract]; omega
theorem cutM_sz (s : ByteArray) (c most i : Nat) : ((cutM s c most).getD i ⟨#[]⟩).size ≤ s.size := by
  rw [List.getD_eq_getElem?_getD]
  cases h : (cutM s c most)[i]? with
  | none => exact Nat.zero_le _
  | some x => exact cutN_sz _ _ _ _ (fun y hy => by simp at hy) x (List.mem_of_getElem? h)
theorem readM_len {s : ByteArray} (h : (cutM s 32 6).length = 5 ∨ (cutM s 32 6).length = 6) : readM s = (readW (cutM s 32 6), ruOk (readW (cutM s 32 6)) && ((lineRu (readW (cutM s 32 6))).toList == (s ++ NL).toList)) := by
  rw [readM, if_pos h, eqT]
theorem readM_no {s : ByteArray} (h : ¬ ((cutM s 32 6).length = 5 ∨ (cutM s 32 6).length = 6)) : readM s = (⟨0, 0, 0, 0, 0⟩, false) := by
  rw [readM, if_neg h]
theorem size0 (s : ByteArray) : (s.toList == (⟨#[]⟩ : ByteArray).toList) = decide (s.size = 0) := by
  rw [eqT]
  by_cases h : s.size = 0
  · rw [decide_eq_true h, decide_eq_true]
    exact List.eq_nil_of_length_eq_zero (by rw [tl_len]; exact h)
  · rw [decide_eq_false h, decide_eq_false]
    intro e
    have := congrArg List.length e
    rw [tl_len] at this
    exact h this
theorem tl_nil : tl (⟨#[]⟩ : ByteArray) = [] := rfl
theorem getL_step {W : List ByteArray} {i : Nat} {o : List Ru} (h : getL W 0 = (getL (W.drop i) i).map (o ++ ·)) (hi : i < W.length) (h2 : (readM (W.getD i ⟨#[]⟩)).2 = true) (h6 : i < 6) : getL W 0 = (getL (W.drop (i + 1)) (i + 1)).map ((o ++ [(readM (W.getD i ⟨#[]⟩)).1]) ++ ·) := by
  rw [h, List.drop_eq_getElem_cons hi, getL]
  rw [List.getD_eq_getElem?_getD, List.getElem?_eq_getElem hi, Option.getD_some] at h2 ⊢
  rw [h2, decide_eq_true h6]
  simp only [Bool.and_self, if_true, Option.map_map]
  congr 1
  funext l
  simp
theorem getL_fall {W : List ByteArray} {i : Nat} {o : List Ru} (h : getL W 0 = (getL (W.drop i) i).map (o ++ ·)) (hi : i < W.length) (h2 : (readM (W.getD i ⟨#[]⟩)).2 = false ∨ ¬ i < 6) : getL W 0 = none := by
  rw [h, List.drop_eq_getElem_cons hi, getL]
  rw [List.getD_eq_getElem?_getD, List.getElem?_eq_getElem hi, Option.getD_some] at h2
  rcases h2 with h2 | h2
  · rw [h2]; rfl
  · rw [decide_eq_false h2, Bool.and_false]; rfl
theorem getL_end {W : List ByteArray} {i : Nat} {o : List Ru} (h : getL W 0 = (getL (W.drop i) i).map (o ++ ·)) (hi : ¬ i < W.length) : getL W 0 = some o := by
  rw [h, List.drop_eq_nil_of_le (by omega)]; simp [getL]
set_option maxRecDepth 100000 in
set_option maxHeartbeats 4000000 in
theorem c_l9Read (s : ByteArray) (w : World) (hs : s.size ≤ 1048576) :
    Calls Tryd.prog 26 #[.string (s)] w fun e w' => e = .returned (.tuple #[.agg (readM s).1.arr, .bool (readM s).2]) ∧ Below w.heap.size w w' := by
  refine calls_begin Tryd.func26 rfl 54 rfl (Nat.le_of_ble_eq_true rfl) [(0, .string (s))] ⟨rfl, trivial⟩ (fun a0 he0 hm0 => ?_)
  have hs10 : (⟨#[10]⟩ : ByteArray).size = 1 := rfl
  refine wp_seqR ?_
  refine wl_alloc he0 hm0 1 rfl rfl rfl _ rfl (.agg #[.int .i64 0, .int .i64 0, .int .i64 0, .int .i64 0, .int .i64 0]) (fun w => by kernel_rfl) (Ru.arr ((⟨0, 0, 0, 0, 0⟩ : Ru))) rfl (fun a1 w1 b1 he1 hm1 => ?_)
  clear he0 hm0
  refine wl_val he1 rfl rfl (.bool false) (rn_move _ (Or.inr rfl) _ rfl) (fun a2 he2 => ?_)
  clear he1
  refine wl_end ?_
  refine wp_seqR ?_
  refine wl_val he2 rfl rfl (.string (s)) (rn_move _ (Or.inl rfl) _ (he2.tmp 0 _ rfl)) (fun a3 he3 => ?_)
  clear he2
  refine wl_callN he3 hm1 2 rfl rfl rfl _ #[.string (s), .int .u8 (32), .int .i64 (6)] (enter_call _ _ _ rfl 25 #[] #[] rfl #[.string (s), .int .u8 (32), .int .i64 (6)] (map3 (he3.tmp 6 _ rfl) rfl rfl) #[.string (s), .int .u8 (32), .int .i64 (6)] rfl (fun _ _ => by kernel_rfl)) (c_cut (s) 32 6 _ (by omega)) (fun x2 b2 a4 w2 hx2 he4 hm2 => ?_)
  clear he3 hm1
  refine wl_val he4 rfl rfl (.slice (some ⟨b2, 0, none⟩) ((cutM (s) 32 6).length) (x2.1)) (rn_move _ (Or.inr rfl) _ (he4.tmp 7 _ rfl)) (fun a5 he5 => ?_)
  clear he4
  refine wl_end ?_
  refine wp_seq ?_
  refine wp_seqR ?_
  refine wl_val he5 rfl rfl (.slice (some ⟨b2, 0, none⟩) ((cutM (s) 32 6).length) (x2.1)) (rn_move _ (Or.inl rfl) _ (he5.tmp 4 _ rfl)) (fun a6 he6 => ?_)
  clear he5
  refine wl_val he6 rfl rfl (.int .i64 ((((cutM (s) 32 6).length : Nat) : Int))) (rn_builtin _ _ _ rfl #[.slice (some ⟨b2, 0, none⟩) ((cutM (s) 32 6).length) (x2.1)] (map1 (he6.tmp 8 _ rfl)) (.int .i64 ((((cutM (s) 32 6).length : Nat) : Int))) (by kernel_rfl)) (fun a7 he7 => ?_)
  clear he6
  cases hd1 : (decide ((((cutM (s) 32 6).length : Nat) : Int) < 5))
  ·
   have hd1p := of_decide_eq_false hd1
   refine wl_val he7 rfl rfl (.bool false) (rn_bin _ _ _ _ _ rfl .i64 _ _ (he7.tmp 9 _ rfl) rfl (.bool (decide ((((cutM (s) 32 6).length : Nat) : Int) < 5))) _ rfl (congrArg Value.bool (hd1))) (fun a8 he8 => ?_)
   clear he7
   refine wl_val he8 rfl rfl (.bool false) (rn_move _ (Or.inl rfl) _ (he8.tmp 10 _ rfl)) (fun a9 he9 => ?_)
   clear he8
   refine wl_val he9 rfl (wanted_slot he9 3 false rfl 11 rfl false rfl true rfl) (.slice (some ⟨b2, 0, none⟩) ((cutM (s) 32 6).length) (x2.1)) (rn_move _ (Or.inl rfl) _ (he9.tmp 4 _ rfl)) (fun a10 he10 => ?_)
   clear he9
   refine wl_val he10 rfl (wanted_slot he10 3 false rfl 11 rfl false rfl true rfl) (.int .i64 ((((cutM (s) 32 6).length : Nat) : Int))) (rn_builtin _ _ _ rfl #[.slice (some ⟨b2, 0, none⟩) ((cutM (s) 32 6).length) (x2.1)] (map1 (he10.tmp 12 _ rfl)) (.int .i64 ((((cutM (s) 32 6).length : Nat) : Int))) (by kernel_rfl)) (fun a11 he11 => ?_)
   clear he10
   cases hd2 : (decide ((((cutM (s) 32 6).length : Nat) : Int) > 6))
   ·
    have hd2p := of_decide_eq_false hd2
    refine wl_val he11 rfl (wanted_slot he11 3 false rfl 11 rfl false rfl true rfl) (.bool false) (rn_bin _ _ _ _ _ rfl .i64 _ _ (he11.tmp 13 _ rfl) rfl (.bool (decide ((((cutM (s) 32 6).length : Nat) : Int) > 6))) _ rfl (congrArg Value.bool (hd2))) (fun a12 he12 => ?_)
    clear he11
    refine wl_val he12 rfl rfl (.bool false) (rn_pickF _ _ _ rfl (he12.tmp 11 _ rfl) _ (he12.tmp 14 _ rfl)) (fun a13 he13 => ?_)
    clear he12
    refine wl_end ?_
    refine wp_condF (he := he13) rfl ?_
    refine wp_skip ?_
    refine then_normal ?_
    refine wp_seq ?_
    refine rg_cut (fun az wz => ∃ (b3 : Nat), ∃ (b4 : Nat), ∃ (b5 : Nat), EV az 54 [] [(0, .string (s)), (2, .pointer (some ⟨b1, 0, none⟩)), (3, .bool false), (6, .string (s)), (7, .slice (some ⟨b2, 0, none⟩) ((cutM (s) 32 6).length) (x2.1)), (4, .slice (some ⟨b2, 0, none⟩) ((cutM (s) 32 6).length) (x2.1)), (8, .slice (some ⟨b2, 0, none⟩) ((cutM (s) 32 6).length) (x2.1)), (9, .int .i64 ((((cutM (s) 32 6).length : Nat) : Int))), (10, .bool false), (11, .bool false), (12, .slice (some ⟨b2, 0, none⟩) ((cutM (s) 32 6).length) (x2.1)), (13, .int .i64 ((((cutM (s) 32 6).length : Nat) : Int))), (14, .bool false), (15, .bool false), (17, .slice (some ⟨b2, 0, none⟩) ((cutM (s) 32 6).length) (x2.1)), (18, .pointer (some ⟨b2, 0 + 1 * 1, none⟩)), (19, .string ((cutM (s) 32 6).getD 1 ⟨#[]⟩)), (22, .slice (some ⟨b2, 0, none⟩) ((cutM (s) 32 6).length) (x2.1)), (23, .pointer (some ⟨b2, 0 + 2 * 1, none⟩)), (24, .string ((cutM (s) 32 6).getD 2 ⟨#[]⟩)), (26, .slice (some ⟨b2, 0, none⟩) ((cutM (s) 32 6).length) (x2.1)), (27, .pointer (some ⟨b2, 0 + 3 * 1, none⟩)), (28, .string ((cutM (s) 32 6).getD 3 ⟨#[]⟩)), (31, .slice (some ⟨b2, 0, none⟩) ((cutM (s) 32 6).length) (x2.1)), (32, .pointer (some ⟨b2, 0 + 4 * 1, none⟩)), (33, .string ((cutM (s) 32 6).getD 4 ⟨#[]⟩)), (20, .int .i64 (numM ((cutM (s) 32 6).getD 1 ⟨#[]⟩))), (21, .slice (some ⟨b3, 0, none⟩) (21) (21)), (25, .int .i64 (findM wordS 21 ((cutM (s) 32 6).getD 2 ⟨#[]⟩))), (29, .int .i64 (numM ((cutM (s) 32 6).getD 3 ⟨#[]⟩))), (30, .slice (some ⟨b4, 0, none⟩) (3) (3)), (34, .int .i64 (findM verbS 3 ((cutM (s) 32 6).getD 4 ⟨#[]⟩))), (35, .agg (Ru.arr ((⟨numM ((cutM (s) 32 6).getD 1 ⟨#[]⟩), findM wordS 21 ((cutM (s) 32 6).getD 2 ⟨#[]⟩), numM ((cutM (s) 32 6).getD 3 ⟨#[]⟩), findM verbS 3 ((cutM (s) 32 6).getD 4 ⟨#[]⟩), 0⟩ : Ru)))), (5, .pointer (some ⟨b5, 0, none⟩))] ∧ MM [] w wz [(1, ⟨true, b1, 36, Ru.arr ((⟨0, 0, 0, 0, 0⟩ : Ru))⟩), (2, ⟨true, b2, 9, x2.2⟩), (3, ⟨true, b3, 9, wordA⟩), (4, ⟨true, b4, 9, verbA⟩), (5, ⟨true, b5, 36, Ru.arr ((⟨numM ((cutM (s) 32 6).getD 1 ⟨#[]⟩), findM wordS 21 ((cutM (s) 32 6).getD 2 ⟨#[]⟩), numM ((cutM (s) 32 6).getD 3 ⟨#[]⟩), findM verbS 3 ((cutM (s) 32 6).getD 4 ⟨#[]⟩), 0⟩ : Ru))⟩)]) ?tree1_00 ?cont1_00
    case tree1_00 =>
     refine wh_begin (by kernel_rfl) hm2 [(1, ⟨true, b1, 36, Ru.arr ((⟨0, 0, 0, 0, 0⟩ : Ru))⟩), (2, ⟨true, b2, 9, x2.2⟩)] ⟨rfl, rfl, trivial⟩ (fun w3 hm3 => ?_)
     refine tk (fuel := 20) (i := 0) ?_ he13 hm3 ⟨rfl, rfl, trivial⟩ (.slice (some ⟨b2, 0, none⟩) ((cutM (s) 32 6).length) (x2.1)) ?_ ?_ ?_ ?_ fun a14 he14 => ?_
     rotate_left
     rw [List.getElem?_toArray]; rfl
     exact ⟨by kernel_rfl, by kernel_rfl, by kernel_rfl⟩
     exact ⟨fun _ _ _ _ h => h, rfl, rfl⟩
     exact fun wS hmS => rn_move _ (Or.inl rfl) _ (he13.tmp 4 _ rfl)
     refine tk (fuel := 19) (i := 1) ?_ he14 hm3 ⟨rfl, rfl, trivial⟩ (.pointer (some ⟨b2, 0 + 1 * 1, none⟩)) ?_ ?_ ?_ ?_ fun a15 he15 => ?_
     rotate_left
     rw [List.getElem?_toArray]; rfl
     exact ⟨by kernel_rfl, by kernel_rfl, by kernel_rfl⟩
     exact ⟨fun _ _ _ _ h => h, rfl, rfl⟩
     exact fun wS hmS => rn_indexA _ _ _ rfl _ _ (.pointer (some ⟨b2, 0 + 1 * 1, none⟩)) (he14.tmp 17 _ rfl) rfl (ixS 9 1 (by kernel_rfl) (fun w => by kernel_rfl) (b2) (0) ((cutM (s) 32 6).length) (x2.1) (1) (by omega) _)
     refine tk (fuel := 18) (i := 2) ?_ he15 hm3 ⟨rfl, rfl, trivial⟩ (.string ((cutM (s) 32 6).getD 1 ⟨#[]⟩)) ?_ ?_ ?_ ?_ fun a16 he16 => ?_
     rotate_left
     rw [List.getElem?_toArray]; rfl
     exact ⟨by kernel_rfl, by kernel_rfl, by kernel_rfl⟩
     exact ⟨fun _ _ _ _ h => h, rfl, rfl⟩
     exact fun wS hmS => rn_load1 hmS 2 rfl _ _ rfl (0 + 1 * 1) (he15.tmp 18 _ rfl) one9 _ (hx2.str 1 (by omega))
     refine tk (fuel := 17) (i := 5) ?_ he16 hm3 ⟨rfl, rfl, trivial⟩ (.slice (some ⟨b2, 0, none⟩) ((cutM (s) 32 6).length) (x2.1)) ?_ ?_ ?_ ?_ fun a17 he17 => ?_
     rotate_left
     rw [List.getElem?_toArray]; rfl
     exact ⟨by kernel_rfl, by kernel_rfl, by kernel_rfl⟩
     exact ⟨fun _ _ _ _ h => h, rfl, rfl⟩
     exact fun wS hmS => rn_move _ (Or.inl rfl) _ (he16.tmp 4 _ rfl)
     refine tk (fuel := 16) (i := 6) ?_ he17 hm3 ⟨rfl, rfl, trivial⟩ (.pointer (some ⟨b2, 0 + 2 * 1, none⟩)) ?_ ?_ ?_ ?_ fun a18 he18 => ?_
     rotate_left
     rw [List.getElem?_toArray]; rfl
     exact ⟨by kernel_rfl, by kernel_rfl, by kernel_rfl⟩
     exact ⟨fun _ _ _ _ h => h, rfl, rfl⟩
     exact fun wS hmS => rn_indexA _ _ _ rfl _ _ (.pointer (some ⟨b2, 0 + 2 * 1, none⟩)) (he17.tmp 22 _ rfl) rfl (ixS 9 1 (by kernel_rfl) (fun w => by kernel_rfl) (b2) (0) ((cutM (s) 32 6).length) (x2.1) (2) (by omega) _)
     refine tk (fuel := 15) (i := 7) ?_ he18 hm3 ⟨rfl, rfl, trivial⟩ (.string ((cutM (s) 32 6).getD 2 ⟨#[]⟩)) ?_ ?_ ?_ ?_ fun a19 he19 => ?_
     rotate_left
     rw [List.getElem?_toArray]; rfl
     exact ⟨by kernel_rfl, by kernel_rfl, by kernel_rfl⟩
     exact ⟨fun _ _ _ _ h => h, rfl, rfl⟩
     exact fun wS hmS => rn_load1 hmS 2 rfl _ _ rfl (0 + 2 * 1) (he18.tmp 23 _ rfl) one9 _ (hx2.str 2 (by omega))
     refine tk (fuel := 14) (i := 9) ?_ he19 hm3 ⟨rfl, rfl, trivial⟩ (.slice (some ⟨b2, 0, none⟩) ((cutM (s) 32 6).length) (x2.1)) ?_ ?_ ?_ ?_ fun a20 he20 => ?_
     rotate_left
     rw [List.getElem?_toArray]; rfl
     exact ⟨by kernel_rfl, by kernel_rfl, by kernel_rfl⟩
     exact ⟨fun _ _ _ _ h => h, rfl, rfl⟩
     exact fun wS hmS => rn_move _ (Or.inl rfl) _ (he19.tmp 4 _ rfl)
     refine tk (fuel := 13) (i := 10) ?_ he20 hm3 ⟨rfl, rfl, trivial⟩ (.pointer (some ⟨b2, 0 + 3 * 1, none⟩)) ?_ ?_ ?_ ?_ fun a21 he21 => ?_
     rotate_left
     rw [List.getElem?_toArray]; rfl
     exact ⟨by kernel_rfl, by kernel_rfl, by kernel_rfl⟩
     exact ⟨fun _ _ _ _ h => h, rfl, rfl⟩
     exact fun wS hmS => rn_indexA _ _ _ rfl _ _ (.pointer (some ⟨b2, 0 + 3 * 1, none⟩)) (he20.tmp 26 _ rfl) rfl (ixS 9 1 (by kernel_rfl) (fun w => by kernel_rfl) (b2) (0) ((cutM (s) 32 6).length) (x2.1) (3) (by omega) _)
     refine tk (fuel := 12) (i := 11) ?_ he21 hm3 ⟨rfl, rfl, trivial⟩ (.string ((cutM (s) 32 6).getD 3 ⟨#[]⟩)) ?_ ?_ ?_ ?_ fun a22 he22 => ?_
     rotate_left
     rw [List.getElem?_toArray]; rfl
     exact ⟨by kernel_rfl, by kernel_rfl, by kernel_rfl⟩
     exact ⟨fun _ _ _ _ h => h, rfl, rfl⟩
     exact fun wS hmS => rn_load1 hmS 2 rfl _ _ rfl (0 + 3 * 1) (he21.tmp 27 _ rfl) one9 _ (hx2.str 3 (by omega))
     refine tk (fuel := 11) (i := 14) ?_ he22 hm3 ⟨rfl, rfl, trivial⟩ (.slice (some ⟨b2, 0, none⟩) ((cutM (s) 32 6).length) (x2.1)) ?_ ?_ ?_ ?_ fun a23 he23 => ?_
     rotate_left
     rw [List.getElem?_toArray]; rfl
     exact ⟨by kernel_rfl, by kernel_rfl, by kernel_rfl⟩
     exact ⟨fun _ _ _ _ h => h, rfl, rfl⟩
     exact fun wS hmS => rn_move _ (Or.inl rfl) _ (he22.tmp 4 _ rfl)
     refine tk (fuel := 10) (i := 15) ?_ he23 hm3 ⟨rfl, rfl, trivial⟩ (.pointer (some ⟨b2, 0 + 4 * 1, none⟩)) ?_ ?_ ?_ ?_ fun a24 he24 => ?_
     rotate_left
     rw [List.getElem?_toArray]; rfl
     exact ⟨by kernel_rfl, by kernel_rfl, by kernel_rfl⟩
     exact ⟨fun _ _ _ _ h => h, rfl, rfl⟩
     exact fun wS hmS => rn_indexA _ _ _ rfl _ _ (.pointer (some ⟨b2, 0 + 4 * 1, none⟩)) (he23.tmp 31 _ rfl) rfl (ixS 9 1 (by kernel_rfl) (fun w => by kernel_rfl) (b2) (0) ((cutM (s) 32 6).length) (x2.1) (4) (by omega) _)
     refine tk (fuel := 9) (i := 16) ?_ he24 hm3 ⟨rfl, rfl, trivial⟩ (.string ((cutM (s) 32 6).getD 4 ⟨#[]⟩)) ?_ ?_ ?_ ?_ fun a25 he25 => ?_
     rotate_left
     rw [List.getElem?_toArray]; rfl
     exact ⟨by kernel_rfl, by kernel_rfl, by kernel_rfl⟩
     exact ⟨fun _ _ _ _ h => h, rfl, rfl⟩
     exact fun wS hmS => rn_load1 hmS 2 rfl _ _ rfl (0 + 4 * 1) (he24.tmp 32 _ rfl) one9 _ (hx2.str 4 (by omega))
     refine wpAnyH_ready (fuel := 8) (rs := [3, 19]) ?hr1e00_13 (by simp) (AllReadyH.cons (o := ?o1e00_13_0) ?hi1e00_13_0 ?st1e00_13_0 (AllReadyH.cons (o := ?o1e00_13_1) ?hi1e00_13_1 ?st1e00_13_1 AllReadyH.nil))
     case hr1e00_13 => kernel_rfl
     case hi1e00_13_0 => rw [List.getElem?_toArray]; rfl
     case hi1e00_13_1 => rw [List.getElem?_toArray]; rfl
     case st1e00_13_0 =>
      refine st_call he25 hm3 ⟨rfl, rfl, trivial⟩ rfl rfl _ #[.string ((cutM (s) 32 6).getD 1 ⟨#[]⟩)] (enter_call _ _ _ rfl 45 #[] #[] rfl #[.string ((cutM (s) 32 6).getD 1 ⟨#[]⟩)] (map1 (he25.tmp 19 _ rfl)) #[.string ((cutM (s) 32 6).getD 1 ⟨#[]⟩)] rfl (fun _ _ => by kernel_rfl)) (.int .i64 (numM ((cutM (s) 32 6).getD 1 ⟨#[]⟩))) (c_l1Num ((cutM (s) 32 6).getD 1 ⟨#[]⟩) _ (by exact Nat.le_trans (cutM_sz _ _ _ _) hs)) (fun a26 w4 he26 hm4 => ?_)
      refine wpAnyH_ready (fuel := 7) (rs := [4, 19]) ?hr1e00_14 (by simp) (AllReadyH.cons (o := ?o1e00_14_0) ?hi1e00_14_0 ?st1e00_14_0 (AllReadyH.cons (o := ?o1e00_14_1) ?hi1e00_14_1 ?st1e00_14_1 AllReadyH.nil))
      case hr1e00_14 => kernel_rfl
      case hi1e00_14_0 => rw [List.getElem?_toArray]; rfl
      case hi1e00_14_1 => rw [List.getElem?_toArray]; rfl
      case st1e00_14_0 =>
       refine st_callN he26 hm4 3 rfl (fun _ _ => ⟨rfl, rfl, trivial⟩) rfl rfl _ #[] (enter_call _ _ _ rfl 32 #[] #[] rfl #[] (map0 _ ) #[] rfl (fun _ _ => by kernel_rfl)) (c_words _) (fun x3 b3 a27 w5 hx3 he27 hm5 => ?_)
       refine wpAnyH_ready (fuel := 6) (rs := [8, 19]) ?hr1e00_15 (by simp) (AllReadyH.cons (o := ?o1e00_15_0) ?hi1e00_15_0 ?st1e00_15_0 (AllReadyH.cons (o := ?o1e00_15_1) ?hi1e00_15_1 ?st1e00_15_1 AllReadyH.nil))
       case hr1e00_15 => kernel_rfl
       case hi1e00_15_0 => rw [List.getElem?_toArray]; rfl
       case hi1e00_15_1 => rw [List.getElem?_toArray]; rfl
       case st1e00_15_0 =>
        refine st_call he27 hm5 ⟨rfl, rfl, trivial⟩ rfl rfl _ #[.slice (some ⟨b3, 0, none⟩) (21) (21), .string ((cutM (s) 32 6).getD 2 ⟨#[]⟩)] (enter_call _ _ _ rfl 46 #[] #[] rfl #[.slice (some ⟨b3, 0, none⟩) (21) (21), .string ((cutM (s) 32 6).getD 2 ⟨#[]⟩)] (map2 (he27.tmp 21 _ rfl) (he27.tmp 24 _ rfl)) #[.slice (some ⟨b3, 0, none⟩) (21) (21), .string ((cutM (s) 32 6).getD 2 ⟨#[]⟩)] rfl (fun _ _ => by kernel_rfl)) (.int .i64 (findM wordS 21 ((cutM (s) 32 6).getD 2 ⟨#[]⟩))) (c_find wordS b3 0 21 21 ((cutM (s) 32 6).getD 2 ⟨#[]⟩) _ (words_row (hm5.bx 3 _ _ _ _ rfl)) (by omega)) (fun a28 w6 he28 hm6 => ?_)
        refine wpAnyH_ready (fuel := 5) (rs := [12, 19]) ?hr1e00_16 (by simp) (AllReadyH.cons (o := ?o1e00_16_0) ?hi1e00_16_0 ?st1e00_16_0 (AllReadyH.cons (o := ?o1e00_16_1) ?hi1e00_16_1 ?st1e00_16_1 AllReadyH.nil))
        case hr1e00_16 => kernel_rfl
        case hi1e00_16_0 => rw [List.getElem?_toArray]; rfl
        case hi1e00_16_1 => rw [List.getElem?_toArray]; rfl
        case st1e00_16_0 =>
         refine st_call he28 hm6 ⟨rfl, rfl, trivial⟩ rfl rfl _ #[.string ((cutM (s) 32 6).getD 3 ⟨#[]⟩)] (enter_call _ _ _ rfl 45 #[] #[] rfl #[.string ((cutM (s) 32 6).getD 3 ⟨#[]⟩)] (map1 (he28.tmp 28 _ rfl)) #[.string ((cutM (s) 32 6).getD 3 ⟨#[]⟩)] rfl (fun _ _ => by kernel_rfl)) (.int .i64 (numM ((cutM (s) 32 6).getD 3 ⟨#[]⟩))) (c_l1Num ((cutM (s) 32 6).getD 3 ⟨#[]⟩) _ (by exact Nat.le_trans (cutM_sz _ _ _ _) hs)) (fun a29 w7 he29 hm7 => ?_)
         refine wpAnyH_ready (fuel := 4) (rs := [13, 19]) ?hr1e00_17 (by simp) (AllReadyH.cons (o := ?o1e00_17_0) ?hi1e00_17_0 ?st1e00_17_0 (AllReadyH.cons (o := ?o1e00_17_1) ?hi1e00_17_1 ?st1e00_17_1 AllReadyH.nil))
         case hr1e00_17 => kernel_rfl
         case hi1e00_17_0 => rw [List.getElem?_toArray]; rfl
         case hi1e00_17_1 => rw [List.getElem?_toArray]; rfl
         case st1e00_17_0 =>
          refine st_callN he29 hm7 4 rfl (fun _ _ => ⟨rfl, rfl, trivial⟩) rfl rfl _ #[] (enter_call _ _ _ rfl 33 #[] #[] rfl #[] (map0 _ ) #[] rfl (fun _ _ => by kernel_rfl)) (c_verbs _) (fun x4 b4 a30 w8 hx4 he30 hm8 => ?_)
          refine wpAnyH_ready (fuel := 3) (rs := [17, 19]) ?hr1e00_18 (by simp) (AllReadyH.cons (o := ?o1e00_18_0) ?hi1e00_18_0 ?st1e00_18_0 (AllReadyH.cons (o := ?o1e00_18_1) ?hi1e00_18_1 ?st1e00_18_1 AllReadyH.nil))
          case hr1e00_18 => kernel_rfl
          case hi1e00_18_0 => rw [List.getElem?_toArray]; rfl
          case hi1e00_18_1 => rw [List.getElem?_toArray]; rfl
          case st1e00_18_0 =>
           refine st_call he30 hm8 ⟨rfl, rfl, trivial⟩ rfl rfl _ #[.slice (some ⟨b4, 0, none⟩) (3) (3), .string ((cutM (s) 32 6).getD 4 ⟨#[]⟩)] (enter_call _ _ _ rfl 46 #[] #[] rfl #[.slice (some ⟨b4, 0, none⟩) (3) (3), .string ((cutM (s) 32 6).getD 4 ⟨#[]⟩)] (map2 (he30.tmp 30 _ rfl) (he30.tmp 33 _ rfl)) #[.slice (some ⟨b4, 0, none⟩) (3) (3), .string ((cutM (s) 32 6).getD 4 ⟨#[]⟩)] rfl (fun _ _ => by kernel_rfl)) (.int .i64 (findM verbS 3 ((cutM (s) 32 6).getD 4 ⟨#[]⟩))) (c_find verbS b4 0 3 3 ((cutM (s) 32 6).getD 4 ⟨#[]⟩) _ (verbs_row (hm8.bx 4 _ _ _ _ rfl)) (by omega)) (fun a31 w9 he31 hm9 => ?_)
           refine tk (fuel := 2) (i := 18) ?_ he31 hm9 ⟨rfl, rfl, trivial⟩ (.agg (Ru.arr ((⟨numM ((cutM (s) 32 6).getD 1 ⟨#[]⟩), findM wordS 21 ((cutM (s) 32 6).getD 2 ⟨#[]⟩), numM ((cutM (s) 32 6).getD 3 ⟨#[]⟩), findM verbS 3 ((cutM (s) 32 6).getD 4 ⟨#[]⟩), 0⟩ : Ru)))) ?_ ?_ ?_ ?_ fun a32 he32 => ?_
           rotate_left
           rw [List.getElem?_toArray]; rfl
           exact ⟨by kernel_rfl, by kernel_rfl, by kernel_rfl⟩
           exact ⟨fun _ _ _ _ h => h, rfl, rfl⟩
           exact fun wS hmS => rn_build _ _ rfl #[(0, .int .i64 (numM ((cutM (s) 32 6).getD 1 ⟨#[]⟩))), (1, .int .i64 (findM wordS 21 ((cutM (s) 32 6).getD 2 ⟨#[]⟩))), (2, .int .i64 (numM ((cutM (s) 32 6).getD 3 ⟨#[]⟩))), (3, .int .i64 (findM verbS 3 ((cutM (s) 32 6).getD 4 ⟨#[]⟩)))] (pmap4 (he31.tmp 20 _ rfl) (he31.tmp 25 _ rfl) (he31.tmp 29 _ rfl) (he31.tmp 34 _ rfl)) _ (by kernel_rfl)
           refine wpAnyH_ready (fuel := 1) (rs := [19]) ?hr1e00_20 (by simp) (AllReadyH.cons (o := ?o1e00_20_0) ?hi1e00_20_0 ?st1e00_20_0 AllReadyH.nil)
           case hr1e00_20 => kernel_rfl
           case hi1e00_20_0 => rw [List.getElem?_toArray]; rfl
           case st1e00_20_0 =>
            refine st_alloc he32 hm9 5 rfl ⟨rfl, rfl, trivial⟩ rfl rfl _ rfl (.agg #[.int .i64 0, .int .i64 0, .int .i64 0, .int .i64 0, .int .i64 0]) (fun w => by kernel_rfl) (Ru.arr ((⟨0, 0, 0, 0, 0⟩ : Ru))) rfl (fun _ => ⟨rfl, rfl, trivial⟩) (fun a33 w10 b5 he33 hm10 => ?_)
            refine wh_store (i := 20) (op := ?op1e00_21) (fuel := 0) ?hr1e00_21 ?hi1e00_21 he33 hm10 5 rfl ?hd1e00_21 ?hw1e00_21 36 (.tmp 5) (.tmp 35) ?ho1e00_21 (0) (he33.tmp 5 _ rfl) _ (he33.tmp 35 _ rfl) 5 agg36.size rfl (Ru.one _) (by decide) (Ru.arr ((⟨numM ((cutM (s) 32 6).getD 1 ⟨#[]⟩), findM wordS 21 ((cutM (s) 32 6).getD 2 ⟨#[]⟩), numM ((cutM (s) 32 6).getD 3 ⟨#[]⟩), findM verbS 3 ((cutM (s) 32 6).getD 4 ⟨#[]⟩), 0⟩ : Ru))) (by kernel_rfl) ⟨rfl, rfl, trivial⟩ (fun w11 hm11 => ?k1e00_21)
            case hi1e00_21 => rw [List.getElem?_toArray]; rfl
            case hw1e00_21 => exact rfl
            case hr1e00_21 => kernel_rfl
            case hd1e00_21 | ho1e00_21 => rfl
            refine wpAnyH_done (by kernel_rfl) ?_ _
            exact ⟨b3, b4, b5, he33.sub _ ⟨rfl, rfl, rfl, rfl, rfl, rfl, rfl, rfl, rfl, rfl, rfl, rfl, rfl, rfl, rfl, rfl, rfl, rfl, rfl, rfl, rfl, rfl, rfl, rfl, rfl, rfl, rfl, rfl, rfl, rfl, rfl, rfl, rfl, rfl, trivial⟩, hm11.sub _ ⟨rfl, rfl, rfl, rfl, rfl, trivial⟩⟩
          case st1e00_18_1 =>
           refine st_alloc he30 hm8 5 rfl ⟨rfl, rfl, trivial⟩ rfl rfl _ rfl (.agg #[.int .i64 0, .int .i64 0, .int .i64 0, .int .i64 0, .int .i64 0]) (fun w => by kernel_rfl) (Ru.arr ((⟨0, 0, 0, 0, 0⟩ : Ru))) rfl (fun _ => ⟨rfl, rfl, trivial⟩) (fun a31 w9 b5 he31 hm9 => ?_)
           refine wpAnyH_ready (fuel := 2) (rs := [17]) ?hr1e00_22 (by simp) (AllReadyH.cons (o := ?o1e00_22_0) ?hi1e00_22_0 ?st1e00_22_0 AllReadyH.nil)
           case hr1e00_22 => kernel_rfl
           case hi1e00_22_0 => rw [List.getElem?_toArray]; rfl
           case st1e00_22_0 =>
            refine st_call he31 hm9 ⟨rfl, rfl, trivial⟩ rfl rfl _ #[.slice (some ⟨b4, 0, none⟩) (3) (3), .string ((cutM (s) 32 6).getD 4 ⟨#[]⟩)] (enter_call _ _ _ rfl 46 #[] #[] rfl #[.slice (some ⟨b4, 0, none⟩) (3) (3), .string ((cutM (s) 32 6).getD 4 ⟨#[]⟩)] (map2 (he31.tmp 30 _ rfl) (he31.tmp 33 _ rfl)) #[.slice (some ⟨b4, 0, none⟩) (3) (3), .string ((cutM (s) 32 6).getD 4 ⟨#[]⟩)] rfl (fun _ _ => by kernel_rfl)) (.int .i64 (findM verbS 3 ((cutM (s) 32 6).getD 4 ⟨#[]⟩))) (c_find verbS b4 0 3 3 ((cutM (s) 32 6).getD 4 ⟨#[]⟩) _ (verbs_row (hm9.bx 4 _ _ _ _ rfl)) (by omega)) (fun a32 w10 he32 hm10 => ?_)
            refine tk (fuel := 1) (i := 18) ?_ he32 hm10 ⟨rfl, rfl, trivial⟩ (.agg (Ru.arr ((⟨numM ((cutM (s) 32 6).getD 1 ⟨#[]⟩), findM wordS 21 ((cutM (s) 32 6).getD 2 ⟨#[]⟩), numM ((cutM (s) 32 6).getD 3 ⟨#[]⟩), findM verbS 3 ((cutM (s) 32 6).getD 4 ⟨#[]⟩), 0⟩ : Ru)))) ?_ ?_ ?_ ?_ fun a33 he33 => ?_
            rotate_left
            rw [List.getElem?_toArray]; rfl
            exact ⟨by kernel_rfl, by kernel_rfl, by kernel_rfl⟩
            exact ⟨fun _ _ _ _ h => h, rfl, rfl⟩
            exact fun wS hmS => rn_build _ _ rfl #[(0, .int .i64 (numM ((cutM (s) 32 6).getD 1 ⟨#[]⟩))), (1, .int .i64 (findM wordS 21 ((cutM (s) 32 6).getD 2 ⟨#[]⟩))), (2, .int .i64 (numM ((cutM (s) 32 6).getD 3 ⟨#[]⟩))), (3, .int .i64 (findM verbS 3 ((cutM (s) 32 6).getD 4 ⟨#[]⟩)))] (pmap4 (he32.tmp 20 _ rfl) (he32.tmp 25 _ rfl) (he32.tmp 29 _ rfl) (he32.tmp 34 _ rfl)) _ (by kernel_rfl)
            refine wh_store (i := 20) (op := ?op1e00_24) (fuel := 0) ?hr1e00_24 ?hi1e00_24 he33 hm10 5 rfl ?hd1e00_24 ?hw1e00_24 36 (.tmp 5) (.tmp 35) ?ho1e00_24 (0) (he33.tmp 5 _ rfl) _ (he33.tmp 35 _ rfl) 5 agg36.size rfl (Ru.one _) (by decide) (Ru.arr ((⟨numM ((cutM (s) 32 6).getD 1 ⟨#[]⟩), findM wordS 21 ((cutM (s) 32 6).getD 2 ⟨#[]⟩), numM ((cutM (s) 32 6).getD 3 ⟨#[]⟩), findM verbS 3 ((cutM (s) 32 6).getD 4 ⟨#[]⟩), 0⟩ : Ru))) (by kernel_rfl) ⟨rfl, rfl, trivial⟩ (fun w11 hm11 => ?k1e00_24)
            case hi1e00_24 => rw [List.getElem?_toArray]; rfl
            case hw1e00_24 => exact rfl
            case hr1e00_24 => kernel_rfl
            case hd1e00_24 | ho1e00_24 => rfl
            refine wpAnyH_done (by kernel_rfl) ?_ _
            exact ⟨b3, b4, b5, he33.sub _ ⟨rfl, rfl, rfl, rfl, rfl, rfl, rfl, rfl, rfl, rfl, rfl, rfl, rfl, rfl, rfl, rfl, rfl, rfl, rfl, rfl, rfl, rfl, rfl, rfl, rfl, rfl, rfl, rfl, rfl, rfl, rfl, rfl, rfl, rfl, trivial⟩, hm11.sub _ ⟨rfl, rfl, rfl, rfl, rfl, trivial⟩⟩
         case st1e00_17_1 =>
          refine st_alloc he29 hm7 5 rfl ⟨rfl, rfl, trivial⟩ rfl rfl _ rfl (.agg #[.int .i64 0, .int .i64 0, .int .i64 0, .int .i64 0, .int .i64 0]) (fun w => by kernel_rfl) (Ru.arr ((⟨0, 0, 0, 0, 0⟩ : Ru))) rfl (fun _ => ⟨rfl, rfl, trivial⟩) (fun a30 w8 b5 he30 hm8 => ?_)
          refine wpAnyH_ready (fuel := 3) (rs := [13]) ?hr1e00_25 (by simp) (AllReadyH.cons (o := ?o1e00_25_0) ?hi1e00_25_0 ?st1e00_25_0 AllReadyH.nil)
          case hr1e00_25 => kernel_rfl
          case hi1e00_25_0 => rw [List.getElem?_toArray]; rfl
          case st1e00_25_0 =>
           refine st_callN he30 hm8 4 rfl (fun _ _ => ⟨rfl, rfl, trivial⟩) rfl rfl _ #[] (enter_call _ _ _ rfl 33 #[] #[] rfl #[] (map0 _ ) #[] rfl (fun _ _ => by kernel_rfl)) (c_verbs _) (fun x4 b4 a31 w9 hx4 he31 hm9 => ?_)
           refine wpAnyH_ready (fuel := 2) (rs := [17]) ?hr1e00_26 (by simp) (AllReadyH.cons (o := ?o1e00_26_0) ?hi1e00_26_0 ?st1e00_26_0 AllReadyH.nil)
           case hr1e00_26 => kernel_rfl
           case hi1e00_26_0 => rw [List.getElem?_toArray]; rfl
           case st1e00_26_0 =>
            refine st_call he31 hm9 ⟨rfl, rfl, trivial⟩ rfl rfl _ #[.slice (some ⟨b4, 0, none⟩) (3) (3), .string ((cutM (s) 32 6).getD 4 ⟨#[]⟩)] (enter_call _ _ _ rfl 46 #[] #[] rfl #[.slice (some ⟨b4, 0, none⟩) (3) (3), .string ((cutM (s) 32 6).getD 4 ⟨#[]⟩)] (map2 (he31.tmp 30 _ rfl) (he31.tmp 33 _ rfl)) #[.slice (some ⟨b4, 0, none⟩) (3) (3), .string ((cutM (s) 32 6).getD 4 ⟨#[]⟩)] rfl (fun _ _ => by kernel_rfl)) (.int .i64 (findM verbS 3 ((cutM (s) 32 6).getD 4 ⟨#[]⟩))) (c_find verbS b4 0 3 3 ((cutM (s) 32 6).getD 4 ⟨#[]⟩) _ (verbs_row (hm9.bx 4 _ _ _ _ rfl)) (by omega)) (fun a32 w10 he32 hm10 => ?_)
            refine tk (fuel := 1) (i := 18) ?_ he32 hm10 ⟨rfl, rfl, trivial⟩ (.agg (Ru.arr ((⟨numM ((cutM (s) 32 6).getD 1 ⟨#[]⟩), findM wordS 21 ((cutM (s) 32 6).getD 2 ⟨#[]⟩), numM ((cutM (s) 32 6).getD 3 ⟨#[]⟩), findM verbS 3 ((cutM (s) 32 6).getD 4 ⟨#[]⟩), 0⟩ : Ru)))) ?_ ?_ ?_ ?_ fun a33 he33 => ?_
            rotate_left
            rw [List.getElem?_toArray]; rfl
            exact ⟨by kernel_rfl, by kernel_rfl, by kernel_rfl⟩
            exact ⟨fun _ _ _ _ h => h, rfl, rfl⟩
            exact fun wS hmS => rn_build _ _ rfl #[(0, .int .i64 (numM ((cutM (s) 32 6).getD 1 ⟨#[]⟩))), (1, .int .i64 (findM wordS 21 ((cutM (s) 32 6).getD 2 ⟨#[]⟩))), (2, .int .i64 (numM ((cutM (s) 32 6).getD 3 ⟨#[]⟩))), (3, .int .i64 (findM verbS 3 ((cutM (s) 32 6).getD 4 ⟨#[]⟩)))] (pmap4 (he32.tmp 20 _ rfl) (he32.tmp 25 _ rfl) (he32.tmp 29 _ rfl) (he32.tmp 34 _ rfl)) _ (by kernel_rfl)
            refine wh_store (i := 20) (op := ?op1e00_28) (fuel := 0) ?hr1e00_28 ?hi1e00_28 he33 hm10 5 rfl ?hd1e00_28 ?hw1e00_28 36 (.tmp 5) (.tmp 35) ?ho1e00_28 (0) (he33.tmp 5 _ rfl) _ (he33.tmp 35 _ rfl) 5 agg36.size rfl (Ru.one _) (by decide) (Ru.arr ((⟨numM ((cutM (s) 32 6).getD 1 ⟨#[]⟩), findM wordS 21 ((cutM (s) 32 6).getD 2 ⟨#[]⟩), numM ((cutM (s) 32 6).getD 3 ⟨#[]⟩), findM verbS 3 ((cutM (s) 32 6).getD 4 ⟨#[]⟩), 0⟩ : Ru))) (by kernel_rfl) ⟨rfl, rfl, trivial⟩ (fun w11 hm11 => ?k1e00_28)
            case hi1e00_28 => rw [List.getElem?_toArray]; rfl
            case hw1e00_28 => exact rfl
            case hr1e00_28 => kernel_rfl
            case hd1e00_28 | ho1e00_28 => rfl
            refine wpAnyH_done (by kernel_rfl) ?_ _
            exact ⟨b3, b4, b5, he33.sub _ ⟨rfl, rfl, rfl, rfl, rfl, rfl, rfl, rfl, rfl, rfl, rfl, rfl, rfl, rfl, rfl, rfl, rfl, rfl, rfl, rfl, rfl, rfl, rfl, rfl, rfl, rfl, rfl, rfl, rfl, rfl, rfl, rfl, rfl, rfl, trivial⟩, hm11.sub _ ⟨rfl, rfl, rfl, rfl, rfl, trivial⟩⟩
        case st1e00_16_1 =>
         refine st_alloc he28 hm6 5 rfl ⟨rfl, rfl, trivial⟩ rfl rfl _ rfl (.agg #[.int .i64 0, .int .i64 0, .int .i64 0, .int .i64 0, .int .i64 0]) (fun w => by kernel_rfl) (Ru.arr ((⟨0, 0, 0, 0, 0⟩ : Ru))) rfl (fun _ => ⟨rfl, rfl, trivial⟩) (fun a29 w7 b5 he29 hm7 => ?_)
         refine wpAnyH_ready (fuel := 4) (rs := [12]) ?hr1e00_29 (by simp) (AllReadyH.cons (o := ?o1e00_29_0) ?hi1e00_29_0 ?st1e00_29_0 AllReadyH.nil)
         case hr1e00_29 => kernel_rfl
         case hi1e00_29_0 => rw [List.getElem?_toArray]; rfl
         case st1e00_29_0 =>
          refine st_call he29 hm7 ⟨rfl, rfl, trivial⟩ rfl rfl _ #[.string ((cutM (s) 32 6).getD 3 ⟨#[]⟩)] (enter_call _ _ _ rfl 45 #[] #[] rfl #[.string ((cutM (s) 32 6).getD 3 ⟨#[]⟩)] (map1 (he29.tmp 28 _ rfl)) #[.string ((cutM (s) 32 6).getD 3 ⟨#[]⟩)] rfl (fun _ _ => by kernel_rfl)) (.int .i64 (numM ((cutM (s) 32 6).getD 3 ⟨#[]⟩))) (c_l1Num ((cutM (s) 32 6).getD 3 ⟨#[]⟩) _ (by exact Nat.le_trans (cutM_sz _ _ _ _) hs)) (fun a30 w8 he30 hm8 => ?_)
          refine wpAnyH_ready (fuel := 3) (rs := [13]) ?hr1e00_30 (by simp) (AllReadyH.cons (o := ?o1e00_30_0) ?hi1e00_30_0 ?st1e00_30_0 AllReadyH.nil)
          case hr1e00_30 => kernel_rfl
          case hi1e00_30_0 => rw [List.getElem?_toArray]; rfl
          case st1e00_30_0 =>
           refine st_callN he30 hm8 4 rfl (fun _ _ => ⟨rfl, rfl, trivial⟩) rfl rfl _ #[] (enter_call _ _ _ rfl 33 #[] #[] rfl #[] (map0 _ ) #[] rfl (fun _ _ => by kernel_rfl)) (c_verbs _) (fun x4 b4 a31 w9 hx4 he31 hm9 => ?_)
           refine wpAnyH_ready (fuel := 2) (rs := [17]) ?hr1e00_31 (by simp) (AllReadyH.cons (o := ?o1e00_31_0) ?hi1e00_31_0 ?st1e00_31_0 AllReadyH.nil)
           case hr1e00_31 => kernel_rfl
           case hi1e00_31_0 => rw [List.getElem?_toArray]; rfl
           case st1e00_31_0 =>
            refine st_call he31 hm9 ⟨rfl, rfl, trivial⟩ rfl rfl _ #[.slice (some ⟨b4, 0, none⟩) (3) (3), .string ((cutM (s) 32 6).getD 4 ⟨#[]⟩)] (enter_call _ _ _ rfl 46 #[] #[] rfl #[.slice (some ⟨b4, 0, none⟩) (3) (3), .string ((cutM (s) 32 6).getD 4 ⟨#[]⟩)] (map2 (he31.tmp 30 _ rfl) (he31.tmp 33 _ rfl)) #[.slice (some ⟨b4, 0, none⟩) (3) (3), .string ((cutM (s) 32 6).getD 4 ⟨#[]⟩)] rfl (fun _ _ => by kernel_rfl)) (.int .i64 (findM verbS 3 ((cutM (s) 32 6).getD 4 ⟨#[]⟩))) (c_find verbS b4 0 3 3 ((cutM (s) 32 6).getD 4 ⟨#[]⟩) _ (verbs_row (hm9.bx 4 _ _ _ _ rfl)) (by omega)) (fun a32 w10 he32 hm10 => ?_)
            refine tk (fuel := 1) (i := 18) ?_ he32 hm10 ⟨rfl, rfl, trivial⟩ (.agg (Ru.arr ((⟨numM ((cutM (s) 32 6).getD 1 ⟨#[]⟩), findM wordS 21 ((cutM (s) 32 6).getD 2 ⟨#[]⟩), numM ((cutM (s) 32 6).getD 3 ⟨#[]⟩), findM verbS 3 ((cutM (s) 32 6).getD 4 ⟨#[]⟩), 0⟩ : Ru)))) ?_ ?_ ?_ ?_ fun a33 he33 => ?_
            rotate_left
            rw [List.getElem?_toArray]; rfl
            exact ⟨by kernel_rfl, by kernel_rfl, by kernel_rfl⟩
            exact ⟨fun _ _ _ _ h => h, rfl, rfl⟩
            exact fun wS hmS => rn_build _ _ rfl #[(0, .int .i64 (numM ((cutM (s) 32 6).getD 1 ⟨#[]⟩))), (1, .int .i64 (findM wordS 21 ((cutM (s) 32 6).getD 2 ⟨#[]⟩))), (2, .int .i64 (numM ((cutM (s) 32 6).getD 3 ⟨#[]⟩))), (3, .int .i64 (findM verbS 3 ((cutM (s) 32 6).getD 4 ⟨#[]⟩)))] (pmap4 (he32.tmp 20 _ rfl) (he32.tmp 25 _ rfl) (he32.tmp 29 _ rfl) (he32.tmp 34 _ rfl)) _ (by kernel_rfl)
            refine wh_store (i := 20) (op := ?op1e00_33) (fuel := 0) ?hr1e00_33 ?hi1e00_33 he33 hm10 5 rfl ?hd1e00_33 ?hw1e00_33 36 (.tmp 5) (.tmp 35) ?ho1e00_33 (0) (he33.tmp 5 _ rfl) _ (he33.tmp 35 _ rfl) 5 agg36.size rfl (Ru.one _) (by decide) (Ru.arr ((⟨numM ((cutM (s) 32 6).getD 1 ⟨#[]⟩), findM wordS 21 ((cutM (s) 32 6).getD 2 ⟨#[]⟩), numM ((cutM (s) 32 6).getD 3 ⟨#[]⟩), findM verbS 3 ((cutM (s) 32 6).getD 4 ⟨#[]⟩), 0⟩ : Ru))) (by kernel_rfl) ⟨rfl, rfl, trivial⟩ (fun w11 hm11 => ?k1e00_33)
            case hi1e00_33 => rw [List.getElem?_toArray]; rfl
            case hw1e00_33 => exact rfl
            case hr1e00_33 => kernel_rfl
            case hd1e00_33 | ho1e00_33 => rfl
            refine wpAnyH_done (by kernel_rfl) ?_ _
            exact ⟨b3, b4, b5, he33.sub _ ⟨rfl, rfl, rfl, rfl, rfl, rfl, rfl, rfl, rfl, rfl, rfl, rfl, rfl, rfl, rfl, rfl, rfl, rfl, rfl, rfl, rfl, rfl, rfl, rfl, rfl, rfl, rfl, rfl, rfl, rfl, rfl, rfl, rfl, rfl, trivial⟩, hm11.sub _ ⟨rfl, rfl, rfl, rfl, rfl, trivial⟩⟩
       case st1e00_15_1 =>
        refine st_alloc he27 hm5 5 rfl ⟨rfl, rfl, trivial⟩ rfl rfl _ rfl (.agg #[.int .i64 0, .int .i64 0, .int .i64 0, .int .i64 0, .int .i64 0]) (fun w => by kernel_rfl) (Ru.arr ((⟨0, 0, 0, 0, 0⟩ : Ru))) rfl (fun _ => ⟨rfl, rfl, trivial⟩) (fun a28 w6 b5 he28 hm6 => ?_)
        refine wpAnyH_ready (fuel := 5) (rs := [8]) ?hr1e00_34 (by simp) (AllReadyH.cons (o := ?o1e00_34_0) ?hi1e00_34_0 ?st1e00_34_0 AllReadyH.nil)
        case hr1e00_34 => kernel_rfl
        case hi1e00_34_0 => rw [List.getElem?_toArray]; rfl
        case st1e00_34_0 =>
         refine st_call he28 hm6 ⟨rfl, rfl, trivial⟩ rfl rfl _ #[.slice (some ⟨b3, 0, none⟩) (21) (21), .string ((cutM (s) 32 6).getD 2 ⟨#[]⟩)] (enter_call _ _ _ rfl 46 #[] #[] rfl #[.slice (some ⟨b3, 0, none⟩) (21) (21), .string ((cutM (s) 32 6).getD 2 ⟨#[]⟩)] (map2 (he28.tmp 21 _ rfl) (he28.tmp 24 _ rfl)) #[.slice (some ⟨b3, 0, none⟩) (21) (21), .string ((cutM (s) 32 6).getD 2 ⟨#[]⟩)] rfl (fun _ _ => by kernel_rfl)) (.int .i64 (findM wordS 21 ((cutM (s) 32 6).getD 2 ⟨#[]⟩))) (c_find wordS b3 0 21 21 ((cutM (s) 32 6).getD 2 ⟨#[]⟩) _ (words_row (hm6.bx 3 _ _ _ _ rfl)) (by omega)) (fun a29 w7 he29 hm7 => ?_)
         refine wpAnyH_ready (fuel := 4) (rs := [12]) ?hr1e00_35 (by simp) (AllReadyH.cons (o := ?o1e00_35_0) ?hi1e00_35_0 ?st1e00_35_0 AllReadyH.nil)
         case hr1e00_35 => kernel_rfl
         case hi1e00_35_0 => rw [List.getElem?_toArray]; rfl
         case st1e00_35_0 =>
          refine st_call he29 hm7 ⟨rfl, rfl, trivial⟩ rfl rfl _ #[.string ((cutM (s) 32 6).getD 3 ⟨#[]⟩)] (enter_call _ _ _ rfl 45 #[] #[] rfl #[.string ((cutM (s) 32 6).getD 3 ⟨#[]⟩)] (map1 (he29.tmp 28 _ rfl)) #[.string ((cutM (s) 32 6).getD 3 ⟨#[]⟩)] rfl (fun _ _ => by kernel_rfl)) (.int .i64 (numM ((cutM (s) 32 6).getD 3 ⟨#[]⟩))) (c_l1Num ((cutM (s) 32 6).getD 3 ⟨#[]⟩) _ (by exact Nat.le_trans (cutM_sz _ _ _ _) hs)) (fun a30 w8 he30 hm8 => ?_)
          refine wpAnyH_ready (fuel := 3) (rs := [13]) ?hr1e00_36 (by simp) (AllReadyH.cons (o := ?o1e00_36_0) ?hi1e00_36_0 ?st1e00_36_0 AllReadyH.nil)
          case hr1e00_36 => kernel_rfl
          case hi1e00_36_0 => rw [List.getElem?_toArray]; rfl
          case st1e00_36_0 =>
           refine st_callN he30 hm8 4 rfl (fun _ _ => ⟨rfl, rfl, trivial⟩) rfl rfl _ #[] (enter_call _ _ _ rfl 33 #[] #[] rfl #[] (map0 _ ) #[] rfl (fun _ _ => by kernel_rfl)) (c_verbs _) (fun x4 b4 a31 w9 hx4 he31 hm9 => ?_)
           refine wpAnyH_ready (fuel := 2) (rs := [17]) ?hr1e00_37 (by simp) (AllReadyH.cons (o := ?o1e00_37_0) ?hi1e00_37_0 ?st1e00_37_0 AllReadyH.nil)
           case hr1e00_37 => kernel_rfl
           case hi1e00_37_0 => rw [List.getElem?_toArray]; rfl
           case st1e00_37_0 =>
            refine st_call he31 hm9 ⟨rfl, rfl, trivial⟩ rfl rfl _ #[.slice (some ⟨b4, 0, none⟩) (3) (3), .string ((cutM (s) 32 6).getD 4 ⟨#[]⟩)] (enter_call _ _ _ rfl 46 #[] #[] rfl #[.slice (some ⟨b4, 0, none⟩) (3) (3), .string ((cutM (s) 32 6).getD 4 ⟨#[]⟩)] (map2 (he31.tmp 30 _ rfl) (he31.tmp 33 _ rfl)) #[.slice (some ⟨b4, 0, none⟩) (3) (3), .string ((cutM (s) 32 6).getD 4 ⟨#[]⟩)] rfl (fun _ _ => by kernel_rfl)) (.int .i64 (findM verbS 3 ((cutM (s) 32 6).getD 4 ⟨#[]⟩))) (c_find verbS b4 0 3 3 ((cutM (s) 32 6).getD 4 ⟨#[]⟩) _ (verbs_row (hm9.bx 4 _ _ _ _ rfl)) (by omega)) (fun a32 w10 he32 hm10 => ?_)
            refine tk (fuel := 1) (i := 18) ?_ he32 hm10 ⟨rfl, rfl, trivial⟩ (.agg (Ru.arr ((⟨numM ((cutM (s) 32 6).getD 1 ⟨#[]⟩), findM wordS 21 ((cutM (s) 32 6).getD 2 ⟨#[]⟩), numM ((cutM (s) 32 6).getD 3 ⟨#[]⟩), findM verbS 3 ((cutM (s) 32 6).getD 4 ⟨#[]⟩), 0⟩ : Ru)))) ?_ ?_ ?_ ?_ fun a33 he33 => ?_
            rotate_left
            rw [List.getElem?_toArray]; rfl
            exact ⟨by kernel_rfl, by kernel_rfl, by kernel_rfl⟩
            exact ⟨fun _ _ _ _ h => h, rfl, rfl⟩
            exact fun wS hmS => rn_build _ _ rfl #[(0, .int .i64 (numM ((cutM (s) 32 6).getD 1 ⟨#[]⟩))), (1, .int .i64 (findM wordS 21 ((cutM (s) 32 6).getD 2 ⟨#[]⟩))), (2, .int .i64 (numM ((cutM (s) 32 6).getD 3 ⟨#[]⟩))), (3, .int .i64 (findM verbS 3 ((cutM (s) 32 6).getD 4 ⟨#[]⟩)))] (pmap4 (he32.tmp 20 _ rfl) (he32.tmp 25 _ rfl) (he32.tmp 29 _ rfl) (he32.tmp 34 _ rfl)) _ (by kernel_rfl)
            refine wh_store (i := 20) (op := ?op1e00_39) (fuel := 0) ?hr1e00_39 ?hi1e00_39 he33 hm10 5 rfl ?hd1e00_39 ?hw1e00_39 36 (.tmp 5) (.tmp 35) ?ho1e00_39 (0) (he33.tmp 5 _ rfl) _ (he33.tmp 35 _ rfl) 5 agg36.size rfl (Ru.one _) (by decide) (Ru.arr ((⟨numM ((cutM (s) 32 6).getD 1 ⟨#[]⟩), findM wordS 21 ((cutM (s) 32 6).getD 2 ⟨#[]⟩), numM ((cutM (s) 32 6).getD 3 ⟨#[]⟩), findM verbS 3 ((cutM (s) 32 6).getD 4 ⟨#[]⟩), 0⟩ : Ru))) (by kernel_rfl) ⟨rfl, rfl, trivial⟩ (fun w11 hm11 => ?k1e00_39)
            case hi1e00_39 => rw [List.getElem?_toArray]; rfl
            case hw1e00_39 => exact rfl
            case hr1e00_39 => kernel_rfl
            case hd1e00_39 | ho1e00_39 => rfl
            refine wpAnyH_done (by kernel_rfl) ?_ _
            exact ⟨b3, b4, b5, he33.sub _ ⟨rfl, rfl, rfl, rfl, rfl, rfl, rfl, rfl, rfl, rfl, rfl, rfl, rfl, rfl, rfl, rfl, rfl, rfl, rfl, rfl, rfl, rfl, rfl, rfl, rfl, rfl, rfl, rfl, rfl, rfl, rfl, rfl, rfl, rfl, trivial⟩, hm11.sub _ ⟨rfl, rfl, rfl, rfl, rfl, trivial⟩⟩
      case st1e00_14_1 =>
       refine st_alloc he26 hm4 5 rfl ⟨rfl, rfl, trivial⟩ rfl rfl _ rfl (.agg #[.int .i64 0, .int .i64 0, .int .i64 0, .int .i64 0, .int .i64 0]) (fun w => by kernel_rfl) (Ru.arr ((⟨0, 0, 0, 0, 0⟩ : Ru))) rfl (fun _ => ⟨rfl, rfl, trivial⟩) (fun a27 w5 b5 he27 hm5 => ?_)
       refine wpAnyH_ready (fuel := 6) (rs := [4]) ?hr1e00_40 (by simp) (AllReadyH.cons (o := ?o1e00_40_0) ?hi1e00_40_0 ?st1e00_40_0 AllReadyH.nil)
       case hr1e00_40 => kernel_rfl
       case hi1e00_40_0 => rw [List.getElem?_toArray]; rfl
       case st1e00_40_0 =>
        refine st_callN he27 hm5 3 rfl (fun _ _ => ⟨rfl, rfl, trivial⟩) rfl rfl _ #[] (enter_call _ _ _ rfl 32 #[] #[] rfl #[] (map0 _ ) #[] rfl (fun _ _ => by kernel_rfl)) (c_words _) (fun x3 b3 a28 w6 hx3 he28 hm6 => ?_)
        refine wpAnyH_ready (fuel := 5) (rs := [8]) ?hr1e00_41 (by simp) (AllReadyH.cons (o := ?o1e00_41_0) ?hi1e00_41_0 ?st1e00_41_0 AllReadyH.nil)
        case hr1e00_41 => kernel_rfl
        case hi1e00_41_0 => rw [List.getElem?_toArray]; rfl
        case st1e00_41_0 =>
         refine st_call he28 hm6 ⟨rfl, rfl, trivial⟩ rfl rfl _ #[.slice (some ⟨b3, 0, none⟩) (21) (21), .string ((cutM (s) 32 6).getD 2 ⟨#[]⟩)] (enter_call _ _ _ rfl 46 #[] #[] rfl #[.slice (some ⟨b3, 0, none⟩) (21) (21), .string ((cutM (s) 32 6).getD 2 ⟨#[]⟩)] (map2 (he28.tmp 21 _ rfl) (he28.tmp 24 _ rfl)) #[.slice (some ⟨b3, 0, none⟩) (21) (21), .string ((cutM (s) 32 6).getD 2 ⟨#[]⟩)] rfl (fun _ _ => by kernel_rfl)) (.int .i64 (findM wordS 21 ((cutM (s) 32 6).getD 2 ⟨#[]⟩))) (c_find wordS b3 0 21 21 ((cutM (s) 32 6).getD 2 ⟨#[]⟩) _ (words_row (hm6.bx 3 _ _ _ _ rfl)) (by omega)) (fun a29 w7 he29 hm7 => ?_)
         refine wpAnyH_ready (fuel := 4) (rs := [12]) ?hr1e00_42 (by simp) (AllReadyH.cons (o := ?o1e00_42_0) ?hi1e00_42_0 ?st1e00_42_0 AllReadyH.nil)
         case hr1e00_42 => kernel_rfl
         case hi1e00_42_0 => rw [List.getElem?_toArray]; rfl
         case st1e00_42_0 =>
          refine st_call he29 hm7 ⟨rfl, rfl, trivial⟩ rfl rfl _ #[.string ((cutM (s) 32 6).getD 3 ⟨#[]⟩)] (enter_call _ _ _ rfl 45 #[] #[] rfl #[.string ((cutM (s) 32 6).getD 3 ⟨#[]⟩)] (map1 (he29.tmp 28 _ rfl)) #[.string ((cutM (s) 32 6).getD 3 ⟨#[]⟩)] rfl (fun _ _ => by kernel_rfl)) (.int .i64 (numM ((cutM (s) 32 6).getD 3 ⟨#[]⟩))) (c_l1Num ((cutM (s) 32 6).getD 3 ⟨#[]⟩) _ (by exact Nat.le_trans (cutM_sz _ _ _ _) hs)) (fun a30 w8 he30 hm8 => ?_)
          refine wpAnyH_ready (fuel := 3) (rs := [13]) ?hr1e00_43 (by simp) (AllReadyH.cons (o := ?o1e00_43_0) ?hi1e00_43_0 ?st1e00_43_0 AllReadyH.nil)
          case hr1e00_43 => kernel_rfl
          case hi1e00_43_0 => rw [List.getElem?_toArray]; rfl
          case st1e00_43_0 =>
           refine st_callN he30 hm8 4 rfl (fun _ _ => ⟨rfl, rfl, trivial⟩) rfl rfl _ #[] (enter_call _ _ _ rfl 33 #[] #[] rfl #[] (map0 _ ) #[] rfl (fun _ _ => by kernel_rfl)) (c_verbs _) (fun x4 b4 a31 w9 hx4 he31 hm9 => ?_)
           refine wpAnyH_ready (fuel := 2) (rs := [17]) ?hr1e00_44 (by simp) (AllReadyH.cons (o := ?o1e00_44_0) ?hi1e00_44_0 ?st1e00_44_0 AllReadyH.nil)
           case hr1e00_44 => kernel_rfl
           case hi1e00_44_0 => rw [List.getElem?_toArray]; rfl
           case st1e00_44_0 =>
            refine st_call he31 hm9 ⟨rfl, rfl, trivial⟩ rfl rfl _ #[.slice (some ⟨b4, 0, none⟩) (3) (3), .string ((cutM (s) 32 6).getD 4 ⟨#[]⟩)] (enter_call _ _ _ rfl 46 #[] #[] rfl #[.slice (some ⟨b4, 0, none⟩) (3) (3), .string ((cutM (s) 32 6).getD 4 ⟨#[]⟩)] (map2 (he31.tmp 30 _ rfl) (he31.tmp 33 _ rfl)) #[.slice (some ⟨b4, 0, none⟩) (3) (3), .string ((cutM (s) 32 6).getD 4 ⟨#[]⟩)] rfl (fun _ _ => by kernel_rfl)) (.int .i64 (findM verbS 3 ((cutM (s) 32 6).getD 4 ⟨#[]⟩))) (c_find verbS b4 0 3 3 ((cutM (s) 32 6).getD 4 ⟨#[]⟩) _ (verbs_row (hm9.bx 4 _ _ _ _ rfl)) (by omega)) (fun a32 w10 he32 hm10 => ?_)
            refine tk (fuel := 1) (i := 18) ?_ he32 hm10 ⟨rfl, rfl, trivial⟩ (.agg (Ru.arr ((⟨numM ((cutM (s) 32 6).getD 1 ⟨#[]⟩), findM wordS 21 ((cutM (s) 32 6).getD 2 ⟨#[]⟩), numM ((cutM (s) 32 6).getD 3 ⟨#[]⟩), findM verbS 3 ((cutM (s) 32 6).getD 4 ⟨#[]⟩), 0⟩ : Ru)))) ?_ ?_ ?_ ?_ fun a33 he33 => ?_
            rotate_left
            rw [List.getElem?_toArray]; rfl
            exact ⟨by kernel_rfl, by kernel_rfl, by kernel_rfl⟩
            exact ⟨fun _ _ _ _ h => h, rfl, rfl⟩
            exact fun wS hmS => rn_build _ _ rfl #[(0, .int .i64 (numM ((cutM (s) 32 6).getD 1 ⟨#[]⟩))), (1, .int .i64 (findM wordS 21 ((cutM (s) 32 6).getD 2 ⟨#[]⟩))), (2, .int .i64 (numM ((cutM (s) 32 6).getD 3 ⟨#[]⟩))), (3, .int .i64 (findM verbS 3 ((cutM (s) 32 6).getD 4 ⟨#[]⟩)))] (pmap4 (he32.tmp 20 _ rfl) (he32.tmp 25 _ rfl) (he32.tmp 29 _ rfl) (he32.tmp 34 _ rfl)) _ (by kernel_rfl)
            refine wh_store (i := 20) (op := ?op1e00_46) (fuel := 0) ?hr1e00_46 ?hi1e00_46 he33 hm10 5 rfl ?hd1e00_46 ?hw1e00_46 36 (.tmp 5) (.tmp 35) ?ho1e00_46 (0) (he33.tmp 5 _ rfl) _ (he33.tmp 35 _ rfl) 5 agg36.size rfl (Ru.one _) (by decide) (Ru.arr ((⟨numM ((cutM (s) 32 6).getD 1 ⟨#[]⟩), findM wordS 21 ((cutM (s) 32 6).getD 2 ⟨#[]⟩), numM ((cutM (s) 32 6).getD 3 ⟨#[]⟩), findM verbS 3 ((cutM (s) 32 6).getD 4 ⟨#[]⟩), 0⟩ : Ru))) (by kernel_rfl) ⟨rfl, rfl, trivial⟩ (fun w11 hm11 => ?k1e00_46)
            case hi1e00_46 => rw [List.getElem?_toArray]; rfl
            case hw1e00_46 => exact rfl
            case hr1e00_46 => kernel_rfl
            case hd1e00_46 | ho1e00_46 => rfl
            refine wpAnyH_done (by kernel_rfl) ?_ _
            exact ⟨b3, b4, b5, he33.sub _ ⟨rfl, rfl, rfl, rfl, rfl, rfl, rfl, rfl, rfl, rfl, rfl, rfl, rfl, rfl, rfl, rfl, rfl, rfl, rfl, rfl, rfl, rfl, rfl, rfl, rfl, rfl, rfl, rfl, rfl, rfl, rfl, rfl, rfl, rfl, trivial⟩, hm11.sub _ ⟨rfl, rfl, rfl, rfl, rfl, trivial⟩⟩
     case st1e00_13_1 =>
      refine st_alloc he25 hm3 5 rfl ⟨rfl, rfl, trivial⟩ rfl rfl _ rfl (.agg #[.int .i64 0, .int .i64 0, .int .i64 0, .int .i64 0, .int .i64 0]) (fun w => by kernel_rfl) (Ru.arr ((⟨0, 0, 0, 0, 0⟩ : Ru))) rfl (fun _ => ⟨rfl, rfl, trivial⟩) (fun a26 w4 b5 he26 hm4 => ?_)
      refine wpAnyH_ready (fuel := 7) (rs := [3]) ?hr1e00_47 (by simp) (AllReadyH.cons (o := ?o1e00_47_0) ?hi1e00_47_0 ?st1e00_47_0 AllReadyH.nil)
      case hr1e00_47 => kernel_rfl
      case hi1e00_47_0 => rw [List.getElem?_toArray]; rfl
      case st1e00_47_0 =>
       refine st_call he26 hm4 ⟨rfl, rfl, trivial⟩ rfl rfl _ #[.string ((cutM (s) 32 6).getD 1 ⟨#[]⟩)] (enter_call _ _ _ rfl 45 #[] #[] rfl #[.string ((cutM (s) 32 6).getD 1 ⟨#[]⟩)] (map1 (he26.tmp 19 _ rfl)) #[.string ((cutM (s) 32 6).getD 1 ⟨#[]⟩)] rfl (fun _ _ => by kernel_rfl)) (.int .i64 (numM ((cutM (s) 32 6).getD 1 ⟨#[]⟩))) (c_l1Num ((cutM (s) 32 6).getD 1 ⟨#[]⟩) _ (by exact Nat.le_trans (cutM_sz _ _ _ _) hs)) (fun a27 w5 he27 hm5 => ?_)
       refine wpAnyH_ready (fuel := 6) (rs := [4]) ?hr1e00_48 (by simp) (AllReadyH.cons (o := ?o1e00_48_0) ?hi1e00_48_0 ?st1e00_48_0 AllReadyH.nil)
       case hr1e00_48 => kernel_rfl
       case hi1e00_48_0 => rw [List.getElem?_toArray]; rfl
       case st1e00_48_0 =>
        refine st_callN he27 hm5 3 rfl (fun _ _ => ⟨rfl, rfl, trivial⟩) rfl rfl _ #[] (enter_call _ _ _ rfl 32 #[] #[] rfl #[] (map0 _ ) #[] rfl (fun _ _ => by kernel_rfl)) (c_words _) (fun x3 b3 a28 w6 hx3 he28 hm6 => ?_)
        refine wpAnyH_ready (fuel := 5) (rs := [8]) ?hr1e00_49 (by simp) (AllReadyH.cons (o := ?o1e00_49_0) ?hi1e00_49_0 ?st1e00_49_0 AllReadyH.nil)
        case hr1e00_49 => kernel_rfl
        case hi1e00_49_0 => rw [List.getElem?_toArray]; rfl
        case st1e00_49_0 =>
         refine st_call he28 hm6 ⟨rfl, rfl, trivial⟩ rfl rfl _ #[.slice (some ⟨b3, 0, none⟩) (21) (21), .string ((cutM (s) 32 6).getD 2 ⟨#[]⟩)] (enter_call _ _ _ rfl 46 #[] #[] rfl #[.slice (some ⟨b3, 0, none⟩) (21) (21), .string ((cutM (s) 32 6).getD 2 ⟨#[]⟩)] (map2 (he28.tmp 21 _ rfl) (he28.tmp 24 _ rfl)) #[.slice (some ⟨b3, 0, none⟩) (21) (21), .string ((cutM (s) 32 6).getD 2 ⟨#[]⟩)] rfl (fun _ _ => by kernel_rfl)) (.int .i64 (findM wordS 21 ((cutM (s) 32 6).getD 2 ⟨#[]⟩))) (c_find wordS b3 0 21 21 ((cutM (s) 32 6).getD 2 ⟨#[]⟩) _ (words_row (hm6.bx 3 _ _ _ _ rfl)) (by omega)) (fun a29 w7 he29 hm7 => ?_)
         refine wpAnyH_ready (fuel := 4) (rs := [12]) ?hr1e00_50 (by simp) (AllReadyH.cons (o := ?o1e00_50_0) ?hi1e00_50_0 ?st1e00_50_0 AllReadyH.nil)
         case hr1e00_50 => kernel_rfl
         case hi1e00_50_0 => rw [List.getElem?_toArray]; rfl
         case st1e00_50_0 =>
          refine st_call he29 hm7 ⟨rfl, rfl, trivial⟩ rfl rfl _ #[.string ((cutM (s) 32 6).getD 3 ⟨#[]⟩)] (enter_call _ _ _ rfl 45 #[] #[] rfl #[.string ((cutM (s) 32 6).getD 3 ⟨#[]⟩)] (map1 (he29.tmp 28 _ rfl)) #[.string ((cutM (s) 32 6).getD 3 ⟨#[]⟩)] rfl (fun _ _ => by kernel_rfl)) (.int .i64 (numM ((cutM (s) 32 6).getD 3 ⟨#[]⟩))) (c_l1Num ((cutM (s) 32 6).getD 3 ⟨#[]⟩) _ (by exact Nat.le_trans (cutM_sz _ _ _ _) hs)) (fun a30 w8 he30 hm8 => ?_)
          refine wpAnyH_ready (fuel := 3) (rs := [13]) ?hr1e00_51 (by simp) (AllReadyH.cons (o := ?o1e00_51_0) ?hi1e00_51_0 ?st1e00_51_0 AllReadyH.nil)
          case hr1e00_51 => kernel_rfl
          case hi1e00_51_0 => rw [List.getElem?_toArray]; rfl
          case st1e00_51_0 =>
           refine st_callN he30 hm8 4 rfl (fun _ _ => ⟨rfl, rfl, trivial⟩) rfl rfl _ #[] (enter_call _ _ _ rfl 33 #[] #[] rfl #[] (map0 _ ) #[] rfl (fun _ _ => by kernel_rfl)) (c_verbs _) (fun x4 b4 a31 w9 hx4 he31 hm9 => ?_)
           refine wpAnyH_ready (fuel := 2) (rs := [17]) ?hr1e00_52 (by simp) (AllReadyH.cons (o := ?o1e00_52_0) ?hi1e00_52_0 ?st1e00_52_0 AllReadyH.nil)
           case hr1e00_52 => kernel_rfl
           case hi1e00_52_0 => rw [List.getElem?_toArray]; rfl
           case st1e00_52_0 =>
            refine st_call he31 hm9 ⟨rfl, rfl, trivial⟩ rfl rfl _ #[.slice (some ⟨b4, 0, none⟩) (3) (3), .string ((cutM (s) 32 6).getD 4 ⟨#[]⟩)] (enter_call _ _ _ rfl 46 #[] #[] rfl #[.slice (some ⟨b4, 0, none⟩) (3) (3), .string ((cutM (s) 32 6).getD 4 ⟨#[]⟩)] (map2 (he31.tmp 30 _ rfl) (he31.tmp 33 _ rfl)) #[.slice (some ⟨b4, 0, none⟩) (3) (3), .string ((cutM (s) 32 6).getD 4 ⟨#[]⟩)] rfl (fun _ _ => by kernel_rfl)) (.int .i64 (findM verbS 3 ((cutM (s) 32 6).getD 4 ⟨#[]⟩))) (c_find verbS b4 0 3 3 ((cutM (s) 32 6).getD 4 ⟨#[]⟩) _ (verbs_row (hm9.bx 4 _ _ _ _ rfl)) (by omega)) (fun a32 w10 he32 hm10 => ?_)
            refine tk (fuel := 1) (i := 18) ?_ he32 hm10 ⟨rfl, rfl, trivial⟩ (.agg (Ru.arr ((⟨numM ((cutM (s) 32 6).getD 1 ⟨#[]⟩), findM wordS 21 ((cutM (s) 32 6).getD 2 ⟨#[]⟩), numM ((cutM (s) 32 6).getD 3 ⟨#[]⟩), findM verbS 3 ((cutM (s) 32 6).getD 4 ⟨#[]⟩), 0⟩ : Ru)))) ?_ ?_ ?_ ?_ fun a33 he33 => ?_
            rotate_left
            rw [List.getElem?_toArray]; rfl
            exact ⟨by kernel_rfl, by kernel_rfl, by kernel_rfl⟩
            exact ⟨fun _ _ _ _ h => h, rfl, rfl⟩
            exact fun wS hmS => rn_build _ _ rfl #[(0, .int .i64 (numM ((cutM (s) 32 6).getD 1 ⟨#[]⟩))), (1, .int .i64 (findM wordS 21 ((cutM (s) 32 6).getD 2 ⟨#[]⟩))), (2, .int .i64 (numM ((cutM (s) 32 6).getD 3 ⟨#[]⟩))), (3, .int .i64 (findM verbS 3 ((cutM (s) 32 6).getD 4 ⟨#[]⟩)))] (pmap4 (he32.tmp 20 _ rfl) (he32.tmp 25 _ rfl) (he32.tmp 29 _ rfl) (he32.tmp 34 _ rfl)) _ (by kernel_rfl)
            refine wh_store (i := 20) (op := ?op1e00_54) (fuel := 0) ?hr1e00_54 ?hi1e00_54 he33 hm10 5 rfl ?hd1e00_54 ?hw1e00_54 36 (.tmp 5) (.tmp 35) ?ho1e00_54 (0) (he33.tmp 5 _ rfl) _ (he33.tmp 35 _ rfl) 5 agg36.size rfl (Ru.one _) (by decide) (Ru.arr ((⟨numM ((cutM (s) 32 6).getD 1 ⟨#[]⟩), findM wordS 21 ((cutM (s) 32 6).getD 2 ⟨#[]⟩), numM ((cutM (s) 32 6).getD 3 ⟨#[]⟩), findM verbS 3 ((cutM (s) 32 6).getD 4 ⟨#[]⟩), 0⟩ : Ru))) (by kernel_rfl) ⟨rfl, rfl, trivial⟩ (fun w11 hm11 => ?k1e00_54)
            case hi1e00_54 => rw [List.getElem?_toArray]; rfl
            case hw1e00_54 => exact rfl
            case hr1e00_54 => kernel_rfl
            case hd1e00_54 | ho1e00_54 => rfl
            refine wpAnyH_done (by kernel_rfl) ?_ _
            exact ⟨b3, b4, b5, he33.sub _ ⟨rfl, rfl, rfl, rfl, rfl, rfl, rfl, rfl, rfl, rfl, rfl, rfl, rfl, rfl, rfl, rfl, rfl, rfl, rfl, rfl, rfl, rfl, rfl, rfl, rfl, rfl, rfl, rfl, rfl, rfl, rfl, rfl, rfl, rfl, trivial⟩, hm11.sub _ ⟨rfl, rfl, rfl, rfl, rfl, trivial⟩⟩
    rintro a35 w12 ⟨b3, b4, b5, he35, hm12⟩
    refine then_normal ?_
    refine wp_seq ?_
    refine wp_seqR ?_
    refine wl_val he35 rfl rfl (.slice (some ⟨b2, 0, none⟩) ((cutM (s) 32 6).length) (x2.1)) (rn_move _ (Or.inl rfl) _ (he35.tmp 4 _ rfl)) (fun a36 he36 => ?_)
    clear he35
    refine wl_val he36 rfl rfl (.int .i64 ((((cutM (s) 32 6).length : Nat) : Int))) (rn_builtin _ _ _ rfl #[.slice (some ⟨b2, 0, none⟩) ((cutM (s) 32 6).length) (x2.1)] (map1 (he36.tmp 36 _ rfl)) (.int .i64 ((((cutM (s) 32 6).length : Nat) : Int))) (by kernel_rfl)) (fun a37 he37 => ?_)
    clear he36
    cases hd3 : (((((cutM (s) 32 6).length : Nat) : Int) == 6))
    ·
     have hd3p : (((cutM (s) 32 6).length : Nat) : Int) ≠ 6 := by simpa using hd3
     refine wl_val he37 rfl rfl (.bool false) (rn_bin _ _ _ _ _ rfl .i64 _ _ (he37.tmp 37 _ rfl) rfl (.bool (((((cutM (s) 32 6).length : Nat) : Int) == 6))) _ rfl (congrArg Value.bool (hd3))) (fun a38 he38 => ?_)
     clear he37
     refine wl_end ?_
     refine wp_condF (he := he38) rfl ?_
     refine wp_skip ?_
     refine then_normal ?_
     refine wp_seq ?_
     refine wh_begin (by kernel_rfl) hm12 [(2, ⟨true, b2, 9, x2.2⟩), (3, ⟨true, b3, 9, wordA⟩), (4, ⟨true, b4, 9, verbA⟩), (5, ⟨true, b5, 36, Ru.arr ((⟨numM ((cutM (s) 32 6).getD 1 ⟨#[]⟩), findM wordS 21 ((cutM (s) 32 6).getD 2 ⟨#[]⟩), numM ((cutM (s) 32 6).getD 3 ⟨#[]⟩), findM verbS 3 ((cutM (s) 32 6).getD 4 ⟨#[]⟩), 0⟩ : Ru))⟩)] ⟨rfl, rfl, rfl, rfl, trivial⟩ (fun w13 hm13 => ?_)
     clear hm12
     refine tk (fuel := 11) (i := 0) ?_ he38 hm13 ⟨rfl, rfl, rfl, rfl, trivial⟩ (.agg (Ru.arr ((⟨numM ((cutM (s) 32 6).getD 1 ⟨#[]⟩), findM wordS 21 ((cutM (s) 32 6).getD 2 ⟨#[]⟩), numM ((cutM (s) 32 6).getD 3 ⟨#[]⟩), findM verbS 3 ((cutM (s) 32 6).getD 4 ⟨#[]⟩), 0⟩ : Ru)))) ?_ ?_ ?_ ?_ fun a39 he39 => ?_
     rotate_left
     rw [List.getElem?_toArray]; rfl
     exact ⟨by kernel_rfl, by kernel_rfl, by kernel_rfl⟩
     exact ⟨fun _ _ _ _ h => h, rfl, rfl⟩
     exact fun wS hmS => rn_loadA hmS 5 rfl _ _ rfl (0) (he38.tmp 5 _ rfl) 5 agg36 (Ru.arr ((⟨numM ((cutM (s) 32 6).getD 1 ⟨#[]⟩), findM wordS 21 ((cutM (s) 32 6).getD 2 ⟨#[]⟩), numM ((cutM (s) 32 6).getD 3 ⟨#[]⟩), findM verbS 3 ((cutM (s) 32 6).getD 4 ⟨#[]⟩), 0⟩ : Ru))) (by kernel_rfl) rfl
     clear he38
     refine tk (fuel := 10) (i := 1) ?_ he39 hm13 ⟨rfl, rfl, rfl, rfl, trivial⟩ (.agg (Ru.arr ((⟨numM ((cutM (s) 32 6).getD 1 ⟨#[]⟩), findM wordS 21 ((cutM (s) 32 6).getD 2 ⟨#[]⟩), numM ((cutM (s) 32 6).getD 3 ⟨#[]⟩), findM verbS 3 ((cutM (s) 32 6).getD 4 ⟨#[]⟩), 0⟩ : Ru)))) ?_ ?_ ?_ ?_ fun a40 he40 => ?_
     rotate_left
     rw [List.getElem?_toArray]; rfl
     exact ⟨by kernel_rfl, by kernel_rfl, by kernel_rfl⟩
     exact ⟨fun _ _ _ _ h => h, rfl, rfl⟩
     exact fun wS hmS => rn_loadA hmS 5 rfl _ _ rfl (0) (he39.tmp 5 _ rfl) 5 agg36 (Ru.arr ((⟨numM ((cutM (s) 32 6).getD 1 ⟨#[]⟩), findM wordS 21 ((cutM (s) 32 6).getD 2 ⟨#[]⟩), numM ((cutM (s) 32 6).getD 3 ⟨#[]⟩), findM verbS 3 ((cutM (s) 32 6).getD 4 ⟨#[]⟩), 0⟩ : Ru))) (by kernel_rfl) rfl
     clear he39
     cases hd4 : (ruOk ((⟨numM ((cutM (s) 32 6).getD 1 ⟨#[]⟩), findM wordS 21 ((cutM (s) 32 6).getD 2 ⟨#[]⟩), numM ((cutM (s) 32 6).getD 3 ⟨#[]⟩), findM verbS 3 ((cutM (s) 32 6).getD 4 ⟨#[]⟩), 0⟩ : Ru)))
     ·
      refine wh_call (i := 2) (op := ?op2d0000_2) (fuel := 9) ?hr2d0000_2 ?hi2d0000_2 he40 hm13 ⟨rfl, rfl, rfl, rfl, trivial⟩ ?hd2d0000_2 ?hw2d0000_2 _ #[.agg (Ru.arr ((⟨numM ((cutM (s) 32 6).getD 1 ⟨#[]⟩), findM wordS 21 ((cutM (s) 32 6).getD 2 ⟨#[]⟩), numM ((cutM (s) 32 6).getD 3 ⟨#[]⟩), findM verbS 3 ((cutM (s) 32 6).getD 4 ⟨#[]⟩), 0⟩ : Ru)))] ?en2d0000_2 (.bool false) (callsV (congrArg Value.bool (hd4)) (c_rok _ _)) (fun a41 w14 he41 hm14 => ?k2d0000_2)
      case hi2d0000_2 => rw [List.getElem?_toArray]; rfl
      case hw2d0000_2 => exact rfl
      case hr2d0000_2 => kernel_rfl
      case hd2d0000_2 => rfl
      case en2d0000_2 => exact (enter_call _ _ _ rfl 30 #[] #[] rfl #[.agg (Ru.arr ((⟨numM ((cutM (s) 32 6).getD 1 ⟨#[]⟩), findM wordS 21 ((cutM (s) 32 6).getD 2 ⟨#[]⟩), numM ((cutM (s) 32 6).getD 3 ⟨#[]⟩), findM verbS 3 ((cutM (s) 32 6).getD 4 ⟨#[]⟩), 0⟩ : Ru)))] (map1 (he40.tmp 45 _ rfl)) #[.agg (Ru.arr ((⟨numM ((cutM (s) 32 6).getD 1 ⟨#[]⟩), findM wordS 21 ((cutM (s) 32 6).getD 2 ⟨#[]⟩), numM ((cutM (s) 32 6).getD 3 ⟨#[]⟩), findM verbS 3 ((cutM (s) 32 6).getD 4 ⟨#[]⟩), 0⟩ : Ru)))] rfl (fun _ _ => by kernel_rfl))
      clear he40 hm13
      refine tk (fuel := 8) (i := 3) ?_ he41 hm14 ⟨rfl, rfl, rfl, rfl, trivial⟩ (.bool false) ?_ ?_ ?_ ?_ fun a42 he42 => ?_
      rotate_left
      rw [List.getElem?_toArray]; rfl
      exact ⟨by kernel_rfl, by kernel_rfl, by kernel_rfl⟩
      exact ⟨fun _ _ _ _ h => h, rfl, rfl⟩
      exact fun wS hmS => rn_move _ (Or.inl rfl) _ (he41.tmp 46 _ rfl)
      clear he41
      refine tkN (fuel := 7) (i := 4) ?_ he42 hm14 ⟨rfl, rfl, rfl, rfl, trivial⟩ ?_ ?_ ?_ fun a43 he43 => ?_
      rotate_left
      rw [List.getElem?_toArray]; rfl
      exact ⟨by kernel_rfl, by kernel_rfl, by kernel_rfl⟩
      exact ⟨fun _ _ _ _ h => h, rfl, (wanted_slot he42 3 true rfl 47 rfl false rfl false rfl)⟩
      clear he42
      refine tkN (fuel := 6) (i := 6) ?_ he43 hm14 ⟨rfl, rfl, rfl, rfl, trivial⟩ ?_ ?_ ?_ fun a44 he44 => ?_
      rotate_left
      rw [List.getElem?_toArray]; rfl
      exact ⟨by kernel_rfl, by kernel_rfl, by kernel_rfl⟩
      exact ⟨fun _ _ _ _ h => h, rfl, (wanted_slot he43 3 true rfl 47 rfl false rfl false rfl)⟩
      clear he43
      refine tkN (fuel := 5) (i := 7) ?_ he44 hm14 ⟨rfl, rfl, rfl, rfl, trivial⟩ ?_ ?_ ?_ fun a45 he45 => ?_
      rotate_left
      rw [List.getElem?_toArray]; rfl
      exact ⟨by kernel_rfl, by kernel_rfl, by kernel_rfl⟩
      exact ⟨fun _ _ _ _ h => h, rfl, (wanted_slot he44 3 true rfl 47 rfl false rfl false rfl)⟩
      clear he44
      refine wh_pass (i := 5) (op := ?op2d0000_5) (fuel := 4) ?hr2d0000_5 ?hi2d0000_5 he45 hm14 ⟨rfl, rfl, rfl, rfl, trivial⟩ ?hd2d0000_5 ?hw2d0000_5 (fun a46 he46 => ?k2d0000_5)
      case hi2d0000_5 => rw [List.getElem?_toArray]; rfl
      case hw2d0000_5 => exact (wanted_slot he45 3 true rfl 47 rfl false rfl false rfl)
      case hr2d0000_5 => kernel_rfl
      case hd2d0000_5 => rfl
      clear he45
      refine tkN (fuel := 3) (i := 8) ?_ he46 hm14 ⟨rfl, rfl, rfl, rfl, trivial⟩ ?_ ?_ ?_ fun a47 he47 => ?_
      rotate_left
      rw [List.getElem?_toArray]; rfl
      exact ⟨by kernel_rfl, by kernel_rfl, by kernel_rfl⟩
      exact ⟨fun _ _ _ _ h => h, rfl, (wanted_slot he46 3 true rfl 47 rfl false rfl false rfl)⟩
      clear he46
      refine tk (fuel := 2) (i := 9) ?_ he47 hm14 ⟨rfl, rfl, rfl, rfl, trivial⟩ (.bool false) ?_ ?_ ?_ ?_ fun a48 he48 => ?_
      rotate_left
      rw [List.getElem?_toArray]; rfl
      exact ⟨by kernel_rfl, by kernel_rfl, by kernel_rfl⟩
      exact ⟨fun _ _ _ _ h => h, rfl, rfl⟩
      exact fun wS hmS => rn_pickF _ _ _ rfl (he47.tmp 47 _ rfl) _ rfl
      clear he47
      refine wh_store (i := 10) (op := ?op2d0000_10) (fuel := 1) ?hr2d0000_10 ?hi2d0000_10 he48 hm14 1 rfl ?hd2d0000_10 ?hw2d0000_10 36 (.tmp 2) (.tmp 44) ?ho2d0000_10 (0) (he48.tmp 2 _ rfl) _ (he48.tmp 44 _ rfl) 5 agg36.size rfl (Ru.one _) (by decide) (Ru.arr ((⟨numM ((cutM (s) 32 6).getD 1 ⟨#[]⟩), findM wordS 21 ((cutM (s) 32 6).getD 2 ⟨#[]⟩), numM ((cutM (s) 32 6).getD 3 ⟨#[]⟩), findM verbS 3 ((cutM (s) 32 6).getD 4 ⟨#[]⟩), 0⟩ : Ru))) (by kernel_rfl) ⟨rfl, rfl, rfl, rfl, trivial⟩ (fun w15 hm15 => ?k2d0000_10)
      case hi2d0000_10 => rw [List.getElem?_toArray]; rfl
      case hw2d0000_10 => exact rfl
      case hr2d0000_10 => kernel_rfl
      case hd2d0000_10 | ho2d0000_10 => rfl
      clear hm14
      refine tk (fuel := 0) (i := 11) ?_ he48 hm15 ⟨rfl, rfl, rfl, rfl, trivial⟩ (.bool false) ?_ ?_ ?_ ?_ fun a49 he49 => ?_
      rotate_left
      rw [List.getElem?_toArray]; rfl
      exact ⟨by kernel_rfl, by kernel_rfl, by kernel_rfl⟩
      exact ⟨fun _ _ _ _ h => h, rfl, rfl⟩
      exact fun wS hmS => rn_move _ (Or.inr rfl) _ (he48.tmp 53 _ rfl)
      clear he48
      refine wpAnyH_done (by kernel_rfl) ?_ _
      refine then_normal ?_
      refine wp_ret ?_
      have hW : readW (cutM s 32 6) = (⟨numM ((cutM (s) 32 6).getD 1 ⟨#[]⟩), findM wordS 21 ((cutM (s) 32 6).getD 2 ⟨#[]⟩), numM ((cutM (s) 32 6).getD 3 ⟨#[]⟩), findM verbS 3 ((cutM (s) 32 6).getD 4 ⟨#[]⟩), 0⟩ : Ru) := by unfold readW; rw [if_neg (by omega)]
      have hR := readM_len (s := s) (by omega)
      rw [hW] at hR
      rw [hd4] at hR
      exact bodyPost_ret (results_cell_t he49 hm15 _ _ _ Tryd.results26 _ rfl 1 rfl 5 agg36 (by first | rfl | assumption) _ rfl) he49.defers ⟨(by rw [hR]; rfl), hm15.below⟩
     ·
      refine wh_call (i := 2) (op := ?op2d0001_2) (fuel := 9) ?hr2d0001_2 ?hi2d0001_2 he40 hm13 ⟨rfl, rfl, rfl, rfl, trivial⟩ ?hd2d0001_2 ?hw2d0001_2 _ #[.agg (Ru.arr ((⟨numM ((cutM (s) 32 6).getD 1 ⟨#[]⟩), findM wordS 21 ((cutM (s) 32 6).getD 2 ⟨#[]⟩), numM ((cutM (s) 32 6).getD 3 ⟨#[]⟩), findM verbS 3 ((cutM (s) 32 6).getD 4 ⟨#[]⟩), 0⟩ : Ru)))] ?en2d0001_2 (.bool true) (callsV (congrArg Value.bool (hd4)) (c_rok _ _)) (fun a41 w14 he41 hm14 => ?k2d0001_2)
      case hi2d0001_2 => rw [List.getElem?_toArray]; rfl
      case hw2d0001_2 => exact rfl
      case hr2d0001_2 => kernel_rfl
      case hd2d0001_2 => rfl
      case en2d0001_2 => exact (enter_call _ _ _ rfl 30 #[] #[] rfl #[.agg (Ru.arr ((⟨numM ((cutM (s) 32 6).getD 1 ⟨#[]⟩), findM wordS 21 ((cutM (s) 32 6).getD 2 ⟨#[]⟩), numM ((cutM (s) 32 6).getD 3 ⟨#[]⟩), findM verbS 3 ((cutM (s) 32 6).getD 4 ⟨#[]⟩), 0⟩ : Ru)))] (map1 (he40.tmp 45 _ rfl)) #[.agg (Ru.arr ((⟨numM ((cutM (s) 32 6).getD 1 ⟨#[]⟩), findM wordS 21 ((cutM (s) 32 6).getD 2 ⟨#[]⟩), numM ((cutM (s) 32 6).getD 3 ⟨#[]⟩), findM verbS 3 ((cutM (s) 32 6).getD 4 ⟨#[]⟩), 0⟩ : Ru)))] rfl (fun _ _ => by kernel_rfl))
      clear he40 hm13
      refine tk (fuel := 8) (i := 3) ?_ he41 hm14 ⟨rfl, rfl, rfl, rfl, trivial⟩ (.bool true) ?_ ?_ ?_ ?_ fun a42 he42 => ?_
      rotate_left
      rw [List.getElem?_toArray]; rfl
      exact ⟨by kernel_rfl, by kernel_rfl, by kernel_rfl⟩
      exact ⟨fun _ _ _ _ h => h, rfl, rfl⟩
      exact fun wS hmS => rn_move _ (Or.inl rfl) _ (he41.tmp 46 _ rfl)
      clear he41
      refine tk (fuel := 7) (i := 4) ?_ he42 hm14 ⟨rfl, rfl, rfl, rfl, trivial⟩ (.agg (Ru.arr ((⟨numM ((cutM (s) 32 6).getD 1 ⟨#[]⟩), findM wordS 21 ((cutM (s) 32 6).getD 2 ⟨#[]⟩), numM ((cutM (s) 32 6).getD 3 ⟨#[]⟩), findM verbS 3 ((cutM (s) 32 6).getD 4 ⟨#[]⟩), 0⟩ : Ru)))) ?_ ?_ ?_ ?_ fun a43 he43 => ?_
      rotate_left
      rw [List.getElem?_toArray]; rfl
      exact ⟨by kernel_rfl, by kernel_rfl, by kernel_rfl⟩
      exact ⟨fun _ _ _ _ h => h, rfl, (wanted_slot he42 3 true rfl 47 rfl true rfl true rfl)⟩
      exact fun wS hmS => rn_loadA hmS 5 rfl _ _ rfl (0) (he42.tmp 5 _ rfl) 5 agg36 (Ru.arr ((⟨numM ((cutM (s) 32 6).getD 1 ⟨#[]⟩), findM wordS 21 ((cutM (s) 32 6).getD 2 ⟨#[]⟩), numM ((cutM (s) 32 6).getD 3 ⟨#[]⟩), findM verbS 3 ((cutM (s) 32 6).getD 4 ⟨#[]⟩), 0⟩ : Ru))) (by kernel_rfl) rfl
      clear he42
      refine tk (fuel := 6) (i := 6) ?_ he43 hm14 ⟨rfl, rfl, rfl, rfl, trivial⟩ (.string (s)) ?_ ?_ ?_ ?_ fun a44 he44 => ?_
      rotate_left
      rw [List.getElem?_toArray]; rfl
      exact ⟨by kernel_rfl, by kernel_rfl, by kernel_rfl⟩
      exact ⟨fun _ _ _ _ h => h, rfl, (wanted_slot he43 3 true rfl 47 rfl true rfl true rfl)⟩
      exact fun wS hmS => rn_move _ (Or.inl rfl) _ (he43.tmp 0 _ rfl)
      clear he43
      obtain ⟨z1, hz1⟩ : ∃ z : ByteArray, z = (s) ++ (⟨#[10]⟩) := ⟨_, rfl⟩
      have hsz1 : z1.size = (s : ByteArray).size + (⟨#[10]⟩ : ByteArray).size := by rw [hz1, ByteArray.size_append]
      refine tk (fuel := 5) (i := 7) ?_ he44 hm14 ⟨rfl, rfl, rfl, rfl, trivial⟩ (.string (z1)) ?_ ?_ ?_ ?_ fun a45 he45 => ?_
      rotate_left
      rw [List.getElem?_toArray]; rfl
      exact ⟨by kernel_rfl, by kernel_rfl, by kernel_rfl⟩
      exact ⟨fun _ _ _ _ h => h, rfl, (wanted_slot he44 3 true rfl 47 rfl true rfl true rfl)⟩
      exact fun wS hmS => rn_saddZ _ _ _ _ rfl _ _ (he44.tmp 50 _ rfl) rfl (by omega) z1 hz1
      clear he44
      have hll := lineRu_le hd4
      have hs10 : (⟨#[10]⟩ : ByteArray).size = 1 := rfl
      refine wh_call (i := 5) (op := ?op2d0001_5) (fuel := 4) ?hr2d0001_5 ?hi2d0001_5 he45 hm14 ⟨rfl, rfl, rfl, rfl, trivial⟩ ?hd2d0001_5 ?hw2d0001_5 _ #[.agg (Ru.arr ((⟨numM ((cutM (s) 32 6).getD 1 ⟨#[]⟩), findM wordS 21 ((cutM (s) 32 6).getD 2 ⟨#[]⟩), numM ((cutM (s) 32 6).getD 3 ⟨#[]⟩), findM verbS 3 ((cutM (s) 32 6).getD 4 ⟨#[]⟩), 0⟩ : Ru)))] ?en2d0001_5 (.string (lineRu ((⟨numM ((cutM (s) 32 6).getD 1 ⟨#[]⟩), findM wordS 21 ((cutM (s) 32 6).getD 2 ⟨#[]⟩), numM ((cutM (s) 32 6).getD 3 ⟨#[]⟩), findM verbS 3 ((cutM (s) 32 6).getD 4 ⟨#[]⟩), 0⟩ : Ru)))) (c_lineR _ _ hd4) (fun a46 w15 he46 hm15 => ?k2d0001_5)
      case hi2d0001_5 => rw [List.getElem?_toArray]; rfl
      case hw2d0001_5 => exact (wanted_slot he45 3 true rfl 47 rfl true rfl true rfl)
      case hr2d0001_5 => kernel_rfl
      case hd2d0001_5 => rfl
      case en2d0001_5 => exact (enter_call _ _ _ rfl 18 #[] #[] rfl #[.agg (Ru.arr ((⟨numM ((cutM (s) 32 6).getD 1 ⟨#[]⟩), findM wordS 21 ((cutM (s) 32 6).getD 2 ⟨#[]⟩), numM ((cutM (s) 32 6).getD 3 ⟨#[]⟩), findM verbS 3 ((cutM (s) 32 6).getD 4 ⟨#[]⟩), 0⟩ : Ru)))] (map1 (he45.tmp 48 _ rfl)) #[.agg (Ru.arr ((⟨numM ((cutM (s) 32 6).getD 1 ⟨#[]⟩), findM wordS 21 ((cutM (s) 32 6).getD 2 ⟨#[]⟩), numM ((cutM (s) 32 6).getD 3 ⟨#[]⟩), findM verbS 3 ((cutM (s) 32 6).getD 4 ⟨#[]⟩), 0⟩ : Ru)))] rfl (fun _ _ => by kernel_rfl))
      clear he45 hm14
      cases hd5 : (((lineRu ((⟨numM ((cutM (s) 32 6).getD 1 ⟨#[]⟩), findM wordS 21 ((cutM (s) 32 6).getD 2 ⟨#[]⟩), numM ((cutM (s) 32 6).getD 3 ⟨#[]⟩), findM verbS 3 ((cutM (s) 32 6).getD 4 ⟨#[]⟩), 0⟩ : Ru))).toList == (z1).toList))
      ·
       have hd5p : (lineRu ((⟨numM ((cutM (s) 32 6).getD 1 ⟨#[]⟩), findM wordS 21 ((cutM (s) 32 6).getD 2 ⟨#[]⟩), numM ((cutM (s) 32 6).getD 3 ⟨#[]⟩), findM verbS 3 ((cutM (s) 32 6).getD 4 ⟨#[]⟩), 0⟩ : Ru))).toList ≠ (z1).toList := by simpa using hd5
       refine tk (fuel := 3) (i := 8) ?_ he46 hm15 ⟨rfl, rfl, rfl, rfl, trivial⟩ (.bool false) ?_ ?_ ?_ ?_ fun a47 he47 => ?_
       rotate_left
       rw [List.getElem?_toArray]; rfl
       exact ⟨by kernel_rfl, by kernel_rfl, by kernel_rfl⟩
       exact ⟨fun _ _ _ _ h => h, rfl, (wanted_slot he46 3 true rfl 47 rfl true rfl true rfl)⟩
       exact fun wS hmS => rn_seq _ (by simp) _ _ _ _ rfl _ _ (he46.tmp 49 _ rfl) (he46.tmp 51 _ rfl) _ (by first | (simp [hd5]; done) | rw [if_pos rfl, hd5] | rw [if_neg (by decide), hd5])
       clear he46
       refine tk (fuel := 2) (i := 9) ?_ he47 hm15 ⟨rfl, rfl, rfl, rfl, trivial⟩ (.bool false) ?_ ?_ ?_ ?_ fun a48 he48 => ?_
       rotate_left
       rw [List.getElem?_toArray]; rfl
       exact ⟨by kernel_rfl, by kernel_rfl, by kernel_rfl⟩
       exact ⟨fun _ _ _ _ h => h, rfl, rfl⟩
       exact fun wS hmS => rn_pickT _ _ _ rfl (he47.tmp 47 _ rfl) _ (he47.tmp 52 _ rfl)
       clear he47
       refine wh_store (i := 10) (op := ?op2d00010_10) (fuel := 1) ?hr2d00010_10 ?hi2d00010_10 he48 hm15 1 rfl ?hd2d00010_10 ?hw2d00010_10 36 (.tmp 2) (.tmp 44) ?ho2d00010_10 (0) (he48.tmp 2 _ rfl) _ (he48.tmp 44 _ rfl) 5 agg36.size rfl (Ru.one _) (by decide) (Ru.arr ((⟨numM ((cutM (s) 32 6).getD 1 ⟨#[]⟩), findM wordS 21 ((cutM (s) 32 6).getD 2 ⟨#[]⟩), numM ((cutM (s) 32 6).getD 3 ⟨#[]⟩), findM verbS 3 ((cutM (s) 32 6).getD 4 ⟨#[]⟩), 0⟩ : Ru))) (by kernel_rfl) ⟨rfl, rfl, rfl, rfl, trivial⟩ (fun w16 hm16 => ?k2d00010_10)
       case hi2d00010_10 => rw [List.getElem?_toArray]; rfl
       case hw2d00010_10 => exact rfl
       case hr2d00010_10 => kernel_rfl
       case hd2d00010_10 | ho2d00010_10 => rfl
       clear hm15
       refine tk (fuel := 0) (i := 11) ?_ he48 hm16 ⟨rfl, rfl, rfl, rfl, trivial⟩ (.bool false) ?_ ?_ ?_ ?_ fun a49 he49 => ?_
       rotate_left
       rw [List.getElem?_toArray]; rfl
       exact ⟨by kernel_rfl, by kernel_rfl, by kernel_rfl⟩
       exact ⟨fun _ _ _ _ h => h, rfl, rfl⟩
       exact fun wS hmS => rn_move _ (Or.inr rfl) _ (he48.tmp 53 _ rfl)
       clear he48
       refine wpAnyH_done (by kernel_rfl) ?_ _
       refine then_normal ?_
       refine wp_ret ?_
       have hW : readW (cutM s 32 6) = (⟨numM ((cutM (s) 32 6).getD 1 ⟨#[]⟩), findM wordS 21 ((cutM (s) 32 6).getD 2 ⟨#[]⟩), numM ((cutM (s) 32 6).getD 3 ⟨#[]⟩), findM verbS 3 ((cutM (s) 32 6).getD 4 ⟨#[]⟩), 0⟩ : Ru) := by unfold readW; rw [if_neg (by omega)]
       have hR := readM_len (s := s) (by omega)
       rw [hW] at hR
       rw [hd4] at hR
       rw [hz1] at hd5
       rw [show (s ++ NL).toList = ((s) ++ (⟨#[10]⟩)).toList from rfl, hd5] at hR
       exact bodyPost_ret (results_cell_t he49 hm16 _ _ _ Tryd.results26 _ rfl 1 rfl 5 agg36 (by first | rfl | assumption) _ rfl) he49.defers ⟨(by rw [hR]; rfl), hm16.below⟩
      ·
       have hd5p : (lineRu ((⟨numM ((cutM (s) 32 6).getD 1 ⟨#[]⟩), findM wordS 21 ((cutM (s) 32 6).getD 2 ⟨#[]⟩), numM ((cutM (s) 32 6).getD 3 ⟨#[]⟩), findM verbS 3 ((cutM (s) 32 6).getD 4 ⟨#[]⟩), 0⟩ : Ru))).toList = (z1).toList := by simpa using hd5
       refine tk (fuel := 3) (i := 8) ?_ he46 hm15 ⟨rfl, rfl, rfl, rfl, trivial⟩ (.bool true) ?_ ?_ ?_ ?_ fun a47 he47 => ?_
       rotate_left
       rw [List.getElem?_toArray]; rfl
       exact ⟨by kernel_rfl, by kernel_rfl, by kernel_rfl⟩
       exact ⟨fun _ _ _ _ h => h, rfl, (wanted_slot he46 3 true rfl 47 rfl true rfl true rfl)⟩
       exact fun wS hmS => rn_seq _ (by simp) _ _ _ _ rfl _ _ (he46.tmp 49 _ rfl) (he46.tmp 51 _ rfl) _ (by first | (simp [hd5]; done) | rw [if_pos rfl, hd5] | rw [if_neg (by decide), hd5])
       clear he46
       refine tk (fuel := 2) (i := 9) ?_ he47 hm15 ⟨rfl, rfl, rfl, rfl, trivial⟩ (.bool true) ?_ ?_ ?_ ?_ fun a48 he48 => ?_
       rotate_left
       rw [List.getElem?_toArray]; rfl
       exact ⟨by kernel_rfl, by kernel_rfl, by kernel_rfl⟩
       exact ⟨fun _ _ _ _ h => h, rfl, rfl⟩
       exact fun wS hmS => rn_pickT _ _ _ rfl (he47.tmp 47 _ rfl) _ (he47.tmp 52 _ rfl)
       clear he47
       refine wh_store (i := 10) (op := ?op2d00011_10) (fuel := 1) ?hr2d00011_10 ?hi2d00011_10 he48 hm15 1 rfl ?hd2d00011_10 ?hw2d00011_10 36 (.tmp 2) (.tmp 44) ?ho2d00011_10 (0) (he48.tmp 2 _ rfl) _ (he48.tmp 44 _ rfl) 5 agg36.size rfl (Ru.one _) (by decide) (Ru.arr ((⟨numM ((cutM (s) 32 6).getD 1 ⟨#[]⟩), findM wordS 21 ((cutM (s) 32 6).getD 2 ⟨#[]⟩), numM ((cutM (s) 32 6).getD 3 ⟨#[]⟩), findM verbS 3 ((cutM (s) 32 6).getD 4 ⟨#[]⟩), 0⟩ : Ru))) (by kernel_rfl) ⟨rfl, rfl, rfl, rfl, trivial⟩ (fun w16 hm16 => ?k2d00011_10)
       case hi2d00011_10 => rw [List.getElem?_toArray]; rfl
       case hw2d00011_10 => exact rfl
       case hr2d00011_10 => kernel_rfl
       case hd2d00011_10 | ho2d00011_10 => rfl
       clear hm15
       refine tk (fuel := 0) (i := 11) ?_ he48 hm16 ⟨rfl, rfl, rfl, rfl, trivial⟩ (.bool true) ?_ ?_ ?_ ?_ fun a49 he49 => ?_
       rotate_left
       rw [List.getElem?_toArray]; rfl
       exact ⟨by kernel_rfl, by kernel_rfl, by kernel_rfl⟩
       exact ⟨fun _ _ _ _ h => h, rfl, rfl⟩
       exact fun wS hmS => rn_move _ (Or.inr rfl) _ (he48.tmp 53 _ rfl)
       clear he48
       refine wpAnyH_done (by kernel_rfl) ?_ _
       refine then_normal ?_
       refine wp_ret ?_
       have hW : readW (cutM s 32 6) = (⟨numM ((cutM (s) 32 6).getD 1 ⟨#[]⟩), findM wordS 21 ((cutM (s) 32 6).getD 2 ⟨#[]⟩), numM ((cutM (s) 32 6).getD 3 ⟨#[]⟩), findM verbS 3 ((cutM (s) 32 6).getD 4 ⟨#[]⟩), 0⟩ : Ru) := by unfold readW; rw [if_neg (by omega)]
       have hR := readM_len (s := s) (by omega)
       rw [hW] at hR
       rw [hd4] at hR
       rw [hz1] at hd5
       rw [show (s ++ NL).toList = ((s) ++ (⟨#[10]⟩)).toList from rfl, hd5] at hR
       exact bodyPost_ret (results_cell_t he49 hm16 _ _ _ Tryd.results26 _ rfl 1 rfl 5 agg36 (by first | rfl | assumption) _ rfl) he49.defers ⟨(by rw [hR]; rfl), hm16.below⟩
    ·
     have hd3p : (((cutM (s) 32 6).length : Nat) : Int) = 6 := by simpa using hd3
     refine wl_val he37 rfl rfl (.bool true) (rn_bin _ _ _ _ _ rfl .i64 _ _ (he37.tmp 37 _ rfl) rfl (.bool (((((cutM (s) 32 6).length : Nat) : Int) == 6))) _ rfl (congrArg Value.bool (hd3))) (fun a38 he38 => ?_)
     clear he37
     refine wl_end ?_
     refine wp_condT (he := he38) rfl ?_
     refine wp_region_lit ?_
     refine wl_val he38 rfl rfl (.slice (some ⟨b2, 0, none⟩) ((cutM (s) 32 6).length) (x2.1)) (rn_move _ (Or.inl rfl) _ (he38.tmp 4 _ rfl)) (fun a39 he39 => ?_)
     clear he38
     refine wl_val he39 rfl rfl (.pointer (some ⟨b2, 0 + 5 * 1, none⟩)) (rn_indexA _ _ _ rfl _ _ (.pointer (some ⟨b2, 0 + 5 * 1, none⟩)) (he39.tmp 39 _ rfl) rfl (ixS 9 1 (by kernel_rfl) (fun w => by kernel_rfl) (b2) (0) ((cutM (s) 32 6).length) (x2.1) (5) (by omega) _)) (fun a40 he40 => ?_)
     clear he39
     refine wl_val he40 rfl rfl (.string ((cutM (s) 32 6).getD 5 ⟨#[]⟩)) (rn_load1 hm12 2 rfl _ _ rfl (0 + 5 * 1) (he40.tmp 40 _ rfl) one9 _ (hx2.str 5 (by omega))) (fun a41 he41 => ?_)
     clear he40
     refine wl_call he41 hm12 rfl rfl _ #[.string ((cutM (s) 32 6).getD 5 ⟨#[]⟩)] (enter_call _ _ _ rfl 45 #[] #[] rfl #[.string ((cutM (s) 32 6).getD 5 ⟨#[]⟩)] (map1 (he41.tmp 41 _ rfl)) #[.string ((cutM (s) 32 6).getD 5 ⟨#[]⟩)] rfl (fun _ _ => by kernel_rfl)) (.int .i64 (numM ((cutM (s) 32 6).getD 5 ⟨#[]⟩))) (c_l1Num ((cutM (s) 32 6).getD 5 ⟨#[]⟩) _ (by exact Nat.le_trans (cutM_sz _ _ _ _) hs)) (fun a42 w13 he42 hm13 => ?_)
     clear he41 hm12
     refine wl_val he42 rfl rfl (.pointer (some ⟨b5, 4, none⟩)) (rn_field _ _ _ rfl _ (.pointer (some ⟨b5, 4, none⟩)) (he42.tmp 5 _ rfl) (by kernel_rfl)) (fun a43 he43 => ?_)
     clear he42
     refine wl_store he43 hm13 5 rfl rfl rfl _ _ _ rfl (4) (he43.tmp 43 _ rfl) _ (he43.tmp 42 _ rfl) 1 one3.size rfl (by kernel_rfl) (by show 4 + 1 ≤ 5; decide) (Ru.arr ((⟨numM ((cutM (s) 32 6).getD 1 ⟨#[]⟩), findM wordS 21 ((cutM (s) 32 6).getD 2 ⟨#[]⟩), numM ((cutM (s) 32 6).getD 3 ⟨#[]⟩), findM verbS 3 ((cutM (s) 32 6).getD 4 ⟨#[]⟩), numM ((cutM (s) 32 6).getD 5 ⟨#[]⟩)⟩ : Ru))) (by kernel_rfl) (fun w14 hm14 => ?_)
     clear hm13
     refine wpList_nil ?_
     refine then_normal ?_
     refine wp_seq ?_
     refine wh_begin (by kernel_rfl) hm14 [(2, ⟨true, b2, 9, x2.2⟩), (3, ⟨true, b3, 9, wordA⟩), (4, ⟨true, b4, 9, verbA⟩), (5, ⟨true, b5, 36, Ru.arr ((⟨numM ((cutM (s) 32 6).getD 1 ⟨#[]⟩), findM wordS 21 ((cutM (s) 32 6).getD 2 ⟨#[]⟩), numM ((cutM (s) 32 6).getD 3 ⟨#[]⟩), findM verbS 3 ((cutM (s) 32 6).getD 4 ⟨#[]⟩), numM ((cutM (s) 32 6).getD 5 ⟨#[]⟩)⟩ : Ru))⟩)] ⟨rfl, rfl, rfl, rfl, trivial⟩ (fun w15 hm15 => ?_)
     clear hm14
     refine tk (fuel := 11) (i := 0) ?_ he43 hm15 ⟨rfl, rfl, rfl, rfl, trivial⟩ (.agg (Ru.arr ((⟨numM ((cutM (s) 32 6).getD 1 ⟨#[]⟩), findM wordS 21 ((cutM (s) 32 6).getD 2 ⟨#[]⟩), numM ((cutM (s) 32 6).getD 3 ⟨#[]⟩), findM verbS 3 ((cutM (s) 32 6).getD 4 ⟨#[]⟩), numM ((cutM (s) 32 6).getD 5 ⟨#[]⟩)⟩ : Ru)))) ?_ ?_ ?_ ?_ fun a44 he44 => ?_
     rotate_left
     rw [List.getElem?_toArray]; rfl
     exact ⟨by kernel_rfl, by kernel_rfl, by kernel_rfl⟩
     exact ⟨fun _ _ _ _ h => h, rfl, rfl⟩
     exact fun wS hmS => rn_loadA hmS 5 rfl _ _ rfl (0) (he43.tmp 5 _ rfl) 5 agg36 (Ru.arr ((⟨numM ((cutM (s) 32 6).getD 1 ⟨#[]⟩), findM wordS 21 ((cutM (s) 32 6).getD 2 ⟨#[]⟩), numM ((cutM (s) 32 6).getD 3 ⟨#[]⟩), findM verbS 3 ((cutM (s) 32 6).getD 4 ⟨#[]⟩), numM ((cutM (s) 32 6).getD 5 ⟨#[]⟩)⟩ : Ru))) (by kernel_rfl) rfl
     clear he43
     refine tk (fuel := 10) (i := 1) ?_ he44 hm15 ⟨rfl, rfl, rfl, rfl, trivial⟩ (.agg (Ru.arr ((⟨numM ((cutM (s) 32 6).getD 1 ⟨#[]⟩), findM wordS 21 ((cutM (s) 32 6).getD 2 ⟨#[]⟩), numM ((cutM (s) 32 6).getD 3 ⟨#[]⟩), findM verbS 3 ((cutM (s) 32 6).getD 4 ⟨#[]⟩), numM ((cutM (s) 32 6).getD 5 ⟨#[]⟩)⟩ : Ru)))) ?_ ?_ ?_ ?_ fun a45 he45 => ?_
     rotate_left
     rw [List.getElem?_toArray]; rfl
     exact ⟨by kernel_rfl, by kernel_rfl, by kernel_rfl⟩
     exact ⟨fun _ _ _ _ h => h, rfl, rfl⟩
     exact fun wS hmS => rn_loadA hmS 5 rfl _ _ rfl (0) (he44.tmp 5 _ rfl) 5 agg36 (Ru.arr ((⟨numM ((cutM (s) 32 6).getD 1 ⟨#[]⟩), findM wordS 21 ((cutM (s) 32 6).getD 2 ⟨#[]⟩), numM ((cutM (s) 32 6).getD 3 ⟨#[]⟩), findM verbS 3 ((cutM (s) 32 6).getD 4 ⟨#[]⟩), numM ((cutM (s) 32 6).getD 5 ⟨#[]⟩)⟩ : Ru))) (by kernel_rfl) rfl
     clear he44
     cases hd4 : (ruOk ((⟨numM ((cutM (s) 32 6).getD 1 ⟨#[]⟩), findM wordS 21 ((cutM (s) 32 6).getD 2 ⟨#[]⟩), numM ((cutM (s) 32 6).getD 3 ⟨#[]⟩), findM verbS 3 ((cutM (s) 32 6).getD 4 ⟨#[]⟩), numM ((cutM (s) 32 6).getD 5 ⟨#[]⟩)⟩ : Ru)))
     ·
      refine wh_call (i := 2) (op := ?op2d0010_2) (fuel := 9) ?hr2d0010_2 ?hi2d0010_2 he45 hm15 ⟨rfl, rfl, rfl, rfl, trivial⟩ ?hd2d0010_2 ?hw2d0010_2 _ #[.agg (Ru.arr ((⟨numM ((cutM (s) 32 6).getD 1 ⟨#[]⟩), findM wordS 21 ((cutM (s) 32 6).getD 2 ⟨#[]⟩), numM ((cutM (s) 32 6).getD 3 ⟨#[]⟩), findM verbS 3 ((cutM (s) 32 6).getD 4 ⟨#[]⟩), numM ((cutM (s) 32 6).getD 5 ⟨#[]⟩)⟩ : Ru)))] ?en2d0010_2 (.bool false) (callsV (congrArg Value.bool (hd4)) (c_rok _ _)) (fun a46 w16 he46 hm16 => ?k2d0010_2)
      case hi2d0010_2 => rw [List.getElem?_toArray]; rfl
      case hw2d0010_2 => exact rfl
      case hr2d0010_2 => kernel_rfl
      case hd2d0010_2 => rfl
      case en2d0010_2 => exact (enter_call _ _ _ rfl 30 #[] #[] rfl #[.agg (Ru.arr ((⟨numM ((cutM (s) 32 6).getD 1 ⟨#[]⟩), findM wordS 21 ((cutM (s) 32 6).getD 2 ⟨#[]⟩), numM ((cutM (s) 32 6).getD 3 ⟨#[]⟩), findM verbS 3 ((cutM (s) 32 6).getD 4 ⟨#[]⟩), numM ((cutM (s) 32 6).getD 5 ⟨#[]⟩)⟩ : Ru)))] (map1 (he45.tmp 45 _ rfl)) #[.agg (Ru.arr ((⟨numM ((cutM (s) 32 6).getD 1 ⟨#[]⟩), findM wordS 21 ((cutM (s) 32 6).getD 2 ⟨#[]⟩), numM ((cutM (s) 32 6).getD 3 ⟨#[]⟩), findM verbS 3 ((cutM (s) 32 6).getD 4 ⟨#[]⟩), numM ((cutM (s) 32 6).getD 5 ⟨#[]⟩)⟩ : Ru)))] rfl (fun _ _ => by kernel_rfl))
      clear he45 hm15
      refine tk (fuel := 8) (i := 3) ?_ he46 hm16 ⟨rfl, rfl, rfl, rfl, trivial⟩ (.bool false) ?_ ?_ ?_ ?_ fun a47 he47 => ?_
      rotate_left
      rw [List.getElem?_toArray]; rfl
      exact ⟨by kernel_rfl, by kernel_rfl, by kernel_rfl⟩
      exact ⟨fun _ _ _ _ h => h, rfl, rfl⟩
      exact fun wS hmS => rn_move _ (Or.inl rfl) _ (he46.tmp 46 _ rfl)
      clear he46
      refine tkN (fuel := 7) (i := 4) ?_ he47 hm16 ⟨rfl, rfl, rfl, rfl, trivial⟩ ?_ ?_ ?_ fun a48 he48 => ?_
      rotate_left
      rw [List.getElem?_toArray]; rfl
      exact ⟨by kernel_rfl, by kernel_rfl, by kernel_rfl⟩
      exact ⟨fun _ _ _ _ h => h, rfl, (wanted_slot he47 3 true rfl 47 rfl false rfl false rfl)⟩
      clear he47
      refine tkN (fuel := 6) (i := 6) ?_ he48 hm16 ⟨rfl, rfl, rfl, rfl, trivial⟩ ?_ ?_ ?_ fun a49 he49 => ?_
      rotate_left
      rw [List.getElem?_toArray]; rfl
      exact ⟨by kernel_rfl, by kernel_rfl, by kernel_rfl⟩
      exact ⟨fun _ _ _ _ h => h, rfl, (wanted_slot he48 3 true rfl 47 rfl false rfl false rfl)⟩
      clear he48
      refine tkN (fuel := 5) (i := 7) ?_ he49 hm16 ⟨rfl, rfl, rfl, rfl, trivial⟩ ?_ ?_ ?_ fun a50 he50 => ?_
      rotate_left
      rw [List.getElem?_toArray]; rfl
      exact ⟨by kernel_rfl, by kernel_rfl, by kernel_rfl⟩
      exact ⟨fun _ _ _ _ h => h, rfl, (wanted_slot he49 3 true rfl 47 rfl false rfl false rfl)⟩
      clear he49
      refine wh_pass (i := 5) (op := ?op2d0010_5) (fuel := 4) ?hr2d0010_5 ?hi2d0010_5 he50 hm16 ⟨rfl, rfl, rfl, rfl, trivial⟩ ?hd2d0010_5 ?hw2d0010_5 (fun a51 he51 => ?k2d0010_5)
      case hi2d0010_5 => rw [List.getElem?_toArray]; rfl
      case hw2d0010_5 => exact (wanted_slot he50 3 true rfl 47 rfl false rfl false rfl)
      case hr2d0010_5 => kernel_rfl
      case hd2d0010_5 => rfl
      clear he50
      refine tkN (fuel := 3) (i := 8) ?_ he51 hm16 ⟨rfl, rfl, rfl, rfl, trivial⟩ ?_ ?_ ?_ fun a52 he52 => ?_
      rotate_left
      rw [List.getElem?_toArray]; rfl
      exact ⟨by kernel_rfl, by kernel_rfl, by kernel_rfl⟩
      exact ⟨fun _ _ _ _ h => h, rfl, (wanted_slot he51 3 true rfl 47 rfl false rfl false rfl)⟩
      clear he51
      refine tk (fuel := 2) (i := 9) ?_ he52 hm16 ⟨rfl, rfl, rfl, rfl, trivial⟩ (.bool false) ?_ ?_ ?_ ?_ fun a53 he53 => ?_
      rotate_left
      rw [List.getElem?_toArray]; rfl
      exact ⟨by kernel_rfl, by kernel_rfl, by kernel_rfl⟩
      exact ⟨fun _ _ _ _ h => h, rfl, rfl⟩
      exact fun wS hmS => rn_pickF _ _ _ rfl (he52.tmp 47 _ rfl) _ rfl
      clear he52
      refine wh_store (i := 10) (op := ?op2d0010_10) (fuel := 1) ?hr2d0010_10 ?hi2d0010_10 he53 hm16 1 rfl ?hd2d0010_10 ?hw2d0010_10 36 (.tmp 2) (.tmp 44) ?ho2d0010_10 (0) (he53.tmp 2 _ rfl) _ (he53.tmp 44 _ rfl) 5 agg36.size rfl (Ru.one _) (by decide) (Ru.arr ((⟨numM ((cutM (s) 32 6).getD 1 ⟨#[]⟩), findM wordS 21 ((cutM (s) 32 6).getD 2 ⟨#[]⟩), numM ((cutM (s) 32 6).getD 3 ⟨#[]⟩), findM verbS 3 ((cutM (s) 32 6).getD 4 ⟨#[]⟩), numM ((cutM (s) 32 6).getD 5 ⟨#[]⟩)⟩ : Ru))) (by kernel_rfl) ⟨rfl, rfl, rfl, rfl, trivial⟩ (fun w17 hm17 => ?k2d0010_10)
      case hi2d0010_10 => rw [List.getElem?_toArray]; rfl
      case hw2d0010_10 => exact rfl
      case hr2d0010_10 => kernel_rfl
      case hd2d0010_10 | ho2d0010_10 => rfl
      clear hm16
      refine tk (fuel := 0) (i := 11) ?_ he53 hm17 ⟨rfl, rfl, rfl, rfl, trivial⟩ (.bool false) ?_ ?_ ?_ ?_ fun a54 he54 => ?_
      rotate_left
      rw [List.getElem?_toArray]; rfl
      exact ⟨by kernel_rfl, by kernel_rfl, by kernel_rfl⟩
      exact ⟨fun _ _ _ _ h => h, rfl, rfl⟩
      exact fun wS hmS => rn_move _ (Or.inr rfl) _ (he53.tmp 53 _ rfl)
      clear he53
      refine wpAnyH_done (by kernel_rfl) ?_ _
      refine then_normal ?_
      refine wp_ret ?_
      have hW : readW (cutM s 32 6) = (⟨numM ((cutM (s) 32 6).getD 1 ⟨#[]⟩), findM wordS 21 ((cutM (s) 32 6).getD 2 ⟨#[]⟩), numM ((cutM (s) 32 6).getD 3 ⟨#[]⟩), findM verbS 3 ((cutM (s) 32 6).getD 4 ⟨#[]⟩), numM ((cutM (s) 32 6).getD 5 ⟨#[]⟩)⟩ : Ru) := by unfold readW; rw [if_pos (by omega)]
      have hR := readM_len (s := s) (by omega)
      rw [hW] at hR
      rw [hd4] at hR
      exact bodyPost_ret (results_cell_t he54 hm17 _ _ _ Tryd.results26 _ rfl 1 rfl 5 agg36 (by first | rfl | assumption) _ rfl) he54.defers ⟨(by rw [hR]; rfl), hm17.below⟩
     ·
      refine wh_call (i := 2) (op := ?op2d0011_2) (fuel := 9) ?hr2d0011_2 ?hi2d0011_2 he45 hm15 ⟨rfl, rfl, rfl, rfl, trivial⟩ ?hd2d0011_2 ?hw2d0011_2 _ #[.agg (Ru.arr ((⟨numM ((cutM (s) 32 6).getD 1 ⟨#[]⟩), findM wordS 21 ((cutM (s) 32 6).getD 2 ⟨#[]⟩), numM ((cutM (s) 32 6).getD 3 ⟨#[]⟩), findM verbS 3 ((cutM (s) 32 6).getD 4 ⟨#[]⟩), numM ((cutM (s) 32 6).getD 5 ⟨#[]⟩)⟩ : Ru)))] ?en2d0011_2 (.bool true) (callsV (congrArg Value.bool (hd4)) (c_rok _ _)) (fun a46 w16 he46 hm16 => ?k2d0011_2)
      case hi2d0011_2 => rw [List.getElem?_toArray]; rfl
      case hw2d0011_2 => exact rfl
      case hr2d0011_2 => kernel_rfl
      case hd2d0011_2 => rfl
      case en2d0011_2 => exact (enter_call _ _ _ rfl 30 #[] #[] rfl #[.agg (Ru.arr ((⟨numM ((cutM (s) 32 6).getD 1 ⟨#[]⟩), findM wordS 21 ((cutM (s) 32 6).getD 2 ⟨#[]⟩), numM ((cutM (s) 32 6).getD 3 ⟨#[]⟩), findM verbS 3 ((cutM (s) 32 6).getD 4 ⟨#[]⟩), numM ((cutM (s) 32 6).getD 5 ⟨#[]⟩)⟩ : Ru)))] (map1 (he45.tmp 45 _ rfl)) #[.agg (Ru.arr ((⟨numM ((cutM (s) 32 6).getD 1 ⟨#[]⟩), findM wordS 21 ((cutM (s) 32 6).getD 2 ⟨#[]⟩), numM ((cutM (s) 32 6).getD 3 ⟨#[]⟩), findM verbS 3 ((cutM (s) 32 6).getD 4 ⟨#[]⟩), numM ((cutM (s) 32 6).getD 5 ⟨#[]⟩)⟩ : Ru)))] rfl (fun _ _ => by kernel_rfl))
      clear he45 hm15
      refine tk (fuel := 8) (i := 3) ?_ he46 hm16 ⟨rfl, rfl, rfl, rfl, trivial⟩ (.bool true) ?_ ?_ ?_ ?_ fun a47 he47 => ?_
      rotate_left
      rw [List.getElem?_toArray]; rfl
      exact ⟨by kernel_rfl, by kernel_rfl, by kernel_rfl⟩
      exact ⟨fun _ _ _ _ h => h, rfl, rfl⟩
      exact fun wS hmS => rn_move _ (Or.inl rfl) _ (he46.tmp 46 _ rfl)
      clear he46
      refine tk (fuel := 7) (i := 4) ?_ he47 hm16 ⟨rfl, rfl, rfl, rfl, trivial⟩ (.agg (Ru.arr ((⟨numM ((cutM (s) 32 6).getD 1 ⟨#[]⟩), findM wordS 21 ((cutM (s) 32 6).getD 2 ⟨#[]⟩), numM ((cutM (s) 32 6).getD 3 ⟨#[]⟩), findM verbS 3 ((cutM (s) 32 6).getD 4 ⟨#[]⟩), numM ((cutM (s) 32 6).getD 5 ⟨#[]⟩)⟩ : Ru)))) ?_ ?_ ?_ ?_ fun a48 he48 => ?_
      rotate_left
      rw [List.getElem?_toArray]; rfl
      exact ⟨by kernel_rfl, by kernel_rfl, by kernel_rfl⟩
      exact ⟨fun _ _ _ _ h => h, rfl, (wanted_slot he47 3 true rfl 47 rfl true rfl true rfl)⟩
      exact fun wS hmS => rn_loadA hmS 5 rfl _ _ rfl (0) (he47.tmp 5 _ rfl) 5 agg36 (Ru.arr ((⟨numM ((cutM (s) 32 6).getD 1 ⟨#[]⟩), findM wordS 21 ((cutM (s) 32 6).getD 2 ⟨#[]⟩), numM ((cutM (s) 32 6).getD 3 ⟨#[]⟩), findM verbS 3 ((cutM (s) 32 6).getD 4 ⟨#[]⟩), numM ((cutM (s) 32 6).getD 5 ⟨#[]⟩)⟩ : Ru))) (by kernel_rfl) rfl
      clear he47
      refine tk (fuel := 6) (i := 6) ?_ he48 hm16 ⟨rfl, rfl, rfl, rfl, trivial⟩ (.string (s)) ?_ ?_ ?_ ?_ fun a49 he49 => ?_
      rotate_left
      rw [List.getElem?_toArray]; rfl
      exact ⟨by kernel_rfl, by kernel_rfl, by kernel_rfl⟩
      exact ⟨fun _ _ _ _ h => h, rfl, (wanted_slot he48 3 true rfl 47 rfl true rfl true rfl)⟩
      exact fun wS hmS => rn_move _ (Or.inl rfl) _ (he48.tmp 0 _ rfl)
      clear he48
      obtain ⟨z1, hz1⟩ : ∃ z : ByteArray, z = (s) ++ (⟨#[10]⟩) := ⟨_, rfl⟩
      have hsz1 : z1.size = (s : ByteArray).size + (⟨#[10]⟩ : ByteArray).size := by rw [hz1, ByteArray.size_append]
      refine tk (fuel := 5) (i := 7) ?_ he49 hm16 ⟨rfl, rfl, rfl, rfl, trivial⟩ (.string (z1)) ?_ ?_ ?_ ?_ fun a50 he50 => ?_
      rotate_left
      rw [List.getElem?_toArray]; rfl
      exact ⟨by kernel_rfl, by kernel_rfl, by kernel_rfl⟩
      exact ⟨fun _ _ _ _ h => h, rfl, (wanted_slot he49 3 true rfl 47 rfl true rfl true rfl)⟩
      exact fun wS hmS => rn_saddZ _ _ _ _ rfl _ _ (he49.tmp 50 _ rfl) rfl (by omega) z1 hz1
      clear he49
      have hll := lineRu_le hd4
      have hs10 : (⟨#[10]⟩ : ByteArray).size = 1 := rfl
      refine wh_call (i := 5) (op := ?op2d0011_5) (fuel := 4) ?hr2d0011_5 ?hi2d0011_5 he50 hm16 ⟨rfl, rfl, rfl, rfl, trivial⟩ ?hd2d0011_5 ?hw2d0011_5 _ #[.agg (Ru.arr ((⟨numM ((cutM (s) 32 6).getD 1 ⟨#[]⟩), findM wordS 21 ((cutM (s) 32 6).getD 2 ⟨#[]⟩), numM ((cutM (s) 32 6).getD 3 ⟨#[]⟩), findM verbS 3 ((cutM (s) 32 6).getD 4 ⟨#[]⟩), numM ((cutM (s) 32 6).getD 5 ⟨#[]⟩)⟩ : Ru)))] ?en2d0011_5 (.string (lineRu ((⟨numM ((cutM (s) 32 6).getD 1 ⟨#[]⟩), findM wordS 21 ((cutM (s) 32 6).getD 2 ⟨#[]⟩), numM ((cutM (s) 32 6).getD 3 ⟨#[]⟩), findM verbS 3 ((cutM (s) 32 6).getD 4 ⟨#[]⟩), numM ((cutM (s) 32 6).getD 5 ⟨#[]⟩)⟩ : Ru)))) (c_lineR _ _ hd4) (fun a51 w17 he51 hm17 => ?k2d0011_5)
      case hi2d0011_5 => rw [List.getElem?_toArray]; rfl
      case hw2d0011_5 => exact (wanted_slot he50 3 true rfl 47 rfl true rfl true rfl)
      case hr2d0011_5 => kernel_rfl
      case hd2d0011_5 => rfl
      case en2d0011_5 => exact (enter_call _ _ _ rfl 18 #[] #[] rfl #[.agg (Ru.arr ((⟨numM ((cutM (s) 32 6).getD 1 ⟨#[]⟩), findM wordS 21 ((cutM (s) 32 6).getD 2 ⟨#[]⟩), numM ((cutM (s) 32 6).getD 3 ⟨#[]⟩), findM verbS 3 ((cutM (s) 32 6).getD 4 ⟨#[]⟩), numM ((cutM (s) 32 6).getD 5 ⟨#[]⟩)⟩ : Ru)))] (map1 (he50.tmp 48 _ rfl)) #[.agg (Ru.arr ((⟨numM ((cutM (s) 32 6).getD 1 ⟨#[]⟩), findM wordS 21 ((cutM (s) 32 6).getD 2 ⟨#[]⟩), numM ((cutM (s) 32 6).getD 3 ⟨#[]⟩), findM verbS 3 ((cutM (s) 32 6).getD 4 ⟨#[]⟩), numM ((cutM (s) 32 6).getD 5 ⟨#[]⟩)⟩ : Ru)))] rfl (fun _ _ => by kernel_rfl))
      clear he50 hm16
      cases hd5 : (((lineRu ((⟨numM ((cutM (s) 32 6).getD 1 ⟨#[]⟩), findM wordS 21 ((cutM (s) 32 6).getD 2 ⟨#[]⟩), numM ((cutM (s) 32 6).getD 3 ⟨#[]⟩), findM verbS 3 ((cutM (s) 32 6).getD 4 ⟨#[]⟩), numM ((cutM (s) 32 6).getD 5 ⟨#[]⟩)⟩ : Ru))).toList == (z1).toList))
      ·
       have hd5p : (lineRu ((⟨numM ((cutM (s) 32 6).getD 1 ⟨#[]⟩), findM wordS 21 ((cutM (s) 32 6).getD 2 ⟨#[]⟩), numM ((cutM (s) 32 6).getD 3 ⟨#[]⟩), findM verbS 3 ((cutM (s) 32 6).getD 4 ⟨#[]⟩), numM ((cutM (s) 32 6).getD 5 ⟨#[]⟩)⟩ : Ru))).toList ≠ (z1).toList := by simpa using hd5
       refine tk (fuel := 3) (i := 8) ?_ he51 hm17 ⟨rfl, rfl, rfl, rfl, trivial⟩ (.bool false) ?_ ?_ ?_ ?_ fun a52 he52 => ?_
       rotate_left
       rw [List.getElem?_toArray]; rfl
       exact ⟨by kernel_rfl, by kernel_rfl, by kernel_rfl⟩
       exact ⟨fun _ _ _ _ h => h, rfl, (wanted_slot he51 3 true rfl 47 rfl true rfl true rfl)⟩
       exact fun wS hmS => rn_seq _ (by simp) _ _ _ _ rfl _ _ (he51.tmp 49 _ rfl) (he51.tmp 51 _ rfl) _ (by first | (simp [hd5]; done) | rw [if_pos rfl, hd5] | rw [if_neg (by decide), hd5])
       clear he51
       refine tk (fuel := 2) (i := 9) ?_ he52 hm17 ⟨rfl, rfl, rfl, rfl, trivial⟩ (.bool false) ?_ ?_ ?_ ?_ fun a53 he53 => ?_
       rotate_left
       rw [List.getElem?_toArray]; rfl
       exact ⟨by kernel_rfl, by kernel_rfl, by kernel_rfl⟩
       exact ⟨fun _ _ _ _ h => h, rfl, rfl⟩
       exact fun wS hmS => rn_pickT _ _ _ rfl (he52.tmp 47 _ rfl) _ (he52.tmp 52 _ rfl)
       clear he52
       refine wh_store (i := 10) (op := ?op2d00110_10) (fuel := 1) ?hr2d00110_10 ?hi2d00110_10 he53 hm17 1 rfl ?hd2d00110_10 ?hw2d00110_10 36 (.tmp 2) (.tmp 44) ?ho2d00110_10 (0) (he53.tmp 2 _ rfl) _ (he53.tmp 44 _ rfl) 5 agg36.size rfl (Ru.one _) (by decide) (Ru.arr ((⟨numM ((cutM (s) 32 6).getD 1 ⟨#[]⟩), findM wordS 21 ((cutM (s) 32 6).getD 2 ⟨#[]⟩), numM ((cutM (s) 32 6).getD 3 ⟨#[]⟩), findM verbS 3 ((cutM (s) 32 6).getD 4 ⟨#[]⟩), numM ((cutM (s) 32 6).getD 5 ⟨#[]⟩)⟩ : Ru))) (by kernel_rfl) ⟨rfl, rfl, rfl, rfl, trivial⟩ (fun w18 hm18 => ?k2d00110_10)
       case hi2d00110_10 => rw [List.getElem?_toArray]; rfl
       case hw2d00110_10 => exact rfl
       case hr2d00110_10 => kernel_rfl
       case hd2d00110_10 | ho2d00110_10 => rfl
       clear hm17
       refine tk (fuel := 0) (i := 11) ?_ he53 hm18 ⟨rfl, rfl, rfl, rfl, trivial⟩ (.bool false) ?_ ?_ ?_ ?_ fun a54 he54 => ?_
       rotate_left
       rw [List.getElem?_toArray]; rfl
       exact ⟨by kernel_rfl, by kernel_rfl, by kernel_rfl⟩
       exact ⟨fun _ _ _ _ h => h, rfl, rfl⟩
       exact fun wS hmS => rn_move _ (Or.inr rfl) _ (he53.tmp 53 _ rfl)
       clear he53
       refine wpAnyH_done (by kernel_rfl) ?_ _
       refine then_normal ?_
       refine wp_ret ?_
       have hW : readW (cutM s 32 6) = (⟨numM ((cutM (s) 32 6).getD 1 ⟨#[]⟩), findM wordS 21 ((cutM (s) 32 6).getD 2 ⟨#[]⟩), numM ((cutM (s) 32 6).getD 3 ⟨#[]⟩), findM verbS 3 ((cutM (s) 32 6).getD 4 ⟨#[]⟩), numM ((cutM (s) 32 6).getD 5 ⟨#[]⟩)⟩ : Ru) := by unfold readW; rw [if_pos (by omega)]
       have hR := readM_len (s := s) (by omega)
       rw [hW] at hR
       rw [hd4] at hR
       rw [hz1] at hd5
       rw [show (s ++ NL).toList = ((s) ++ (⟨#[10]⟩)).toList from rfl, hd5] at hR
       exact bodyPost_ret (results_cell_t he54 hm18 _ _ _ Tryd.results26 _ rfl 1 rfl 5 agg36 (by first | rfl | assumption) _ rfl) he54.defers ⟨(by rw [hR]; rfl), hm18.below⟩
      ·
       have hd5p : (lineRu ((⟨numM ((cutM (s) 32 6).getD 1 ⟨#[]⟩), findM wordS 21 ((cutM (s) 32 6).getD 2 ⟨#[]⟩), numM ((cutM (s) 32 6).getD 3 ⟨#[]⟩), findM verbS 3 ((cutM (s) 32 6).getD 4 ⟨#[]⟩), numM ((cutM (s) 32 6).getD 5 ⟨#[]⟩)⟩ : Ru))).toList = (z1).toList := by simpa using hd5
       refine tk (fuel := 3) (i := 8) ?_ he51 hm17 ⟨rfl, rfl, rfl, rfl, trivial⟩ (.bool true) ?_ ?_ ?_ ?_ fun a52 he52 => ?_
       rotate_left
       rw [List.getElem?_toArray]; rfl
       exact ⟨by kernel_rfl, by kernel_rfl, by kernel_rfl⟩
       exact ⟨fun _ _ _ _ h => h, rfl, (wanted_slot he51 3 true rfl 47 rfl true rfl true rfl)⟩
       exact fun wS hmS => rn_seq _ (by simp) _ _ _ _ rfl _ _ (he51.tmp 49 _ rfl) (he51.tmp 51 _ rfl) _ (by first | (simp [hd5]; done) | rw [if_pos rfl, hd5] | rw [if_neg (by decide), hd5])
       clear he51
       refine tk (fuel := 2) (i := 9) ?_ he52 hm17 ⟨rfl, rfl, rfl, rfl, trivial⟩ (.bool true) ?_ ?_ ?_ ?_ fun a53 he53 => ?_
       rotate_left
       rw [List.getElem?_toArray]; rfl
       exact ⟨by kernel_rfl, by kernel_rfl, by kernel_rfl⟩
       exact ⟨fun _ _ _ _ h => h, rfl, rfl⟩
       exact fun wS hmS => rn_pickT _ _ _ rfl (he52.tmp 47 _ rfl) _ (he52.tmp 52 _ rfl)
       clear he52
       refine wh_store (i := 10) (op := ?op2d00111_10) (fuel := 1) ?hr2d00111_10 ?hi2d00111_10 he53 hm17 1 rfl ?hd2d00111_10 ?hw2d00111_10 36 (.tmp 2) (.tmp 44) ?ho2d00111_10 (0) (he53.tmp 2 _ rfl) _ (he53.tmp 44 _ rfl) 5 agg36.size rfl (Ru.one _) (by decide) (Ru.arr ((⟨numM ((cutM (s) 32 6).getD 1 ⟨#[]⟩), findM wordS 21 ((cutM (s) 32 6).getD 2 ⟨#[]⟩), numM ((cutM (s) 32 6).getD 3 ⟨#[]⟩), findM verbS 3 ((cutM (s) 32 6).getD 4 ⟨#[]⟩), numM ((cutM (s) 32 6).getD 5 ⟨#[]⟩)⟩ : Ru))) (by kernel_rfl) ⟨rfl, rfl, rfl, rfl, trivial⟩ (fun w18 hm18 => ?k2d00111_10)
       case hi2d00111_10 => rw [List.getElem?_toArray]; rfl
       case hw2d00111_10 => exact rfl
       case hr2d00111_10 => kernel_rfl
       case hd2d00111_10 | ho2d00111_10 => rfl
       clear hm17
       refine tk (fuel := 0) (i := 11) ?_ he53 hm18 ⟨rfl, rfl, rfl, rfl, trivial⟩ (.bool true) ?_ ?_ ?_ ?_ fun a54 he54 => ?_
       rotate_left
       rw [List.getElem?_toArray]; rfl
       exact ⟨by kernel_rfl, by kernel_rfl, by kernel_rfl⟩
       exact ⟨fun _ _ _ _ h => h, rfl, rfl⟩
       exact fun wS hmS => rn_move _ (Or.inr rfl) _ (he53.tmp 53 _ rfl)
       clear he53
       refine wpAnyH_done (by kernel_rfl) ?_ _
       refine then_normal ?_
       refine wp_ret ?_
       have hW : readW (cutM s 32 6) = (⟨numM ((cutM (s) 32 6).getD 1 ⟨#[]⟩), findM wordS 21 ((cutM (s) 32 6).getD 2 ⟨#[]⟩), numM ((cutM (s) 32 6).getD 3 ⟨#[]⟩), findM verbS 3 ((cutM (s) 32 6).getD 4 ⟨#[]⟩), numM ((cutM (s) 32 6).getD 5 ⟨#[]⟩)⟩ : Ru) := by unfold readW; rw [if_pos (by omega)]
       have hR := readM_len (s := s) (by omega)
       rw [hW] at hR
       rw [hd4] at hR
       rw [hz1] at hd5
       rw [show (s ++ NL).toList = ((s) ++ (⟨#[10]⟩)).toList from rfl, hd5] at hR
       exact bodyPost_ret (results_cell_t he54 hm18 _ _ _ Tryd.results26 _ rfl 1 rfl 5 agg36 (by first | rfl | assumption) _ rfl) he54.defers ⟨(by rw [hR]; rfl), hm18.below⟩
   ·
    have hd2p := of_decide_eq_true hd2
    refine wl_val he11 rfl (wanted_slot he11 3 false rfl 11 rfl false rfl true rfl) (.bool true) (rn_bin _ _ _ _ _ rfl .i64 _ _ (he11.tmp 13 _ rfl) rfl (.bool (decide ((((cutM (s) 32 6).length : Nat) : Int) > 6))) _ rfl (congrArg Value.bool (hd2))) (fun a12 he12 => ?_)
    clear he11
    refine wl_val he12 rfl rfl (.bool true) (rn_pickF _ _ _ rfl (he12.tmp 11 _ rfl) _ (he12.tmp 14 _ rfl)) (fun a13 he13 => ?_)
    clear he12
    refine wl_end ?_
    refine wp_condT (he := he13) rfl ?_
    refine wp_seqR ?_
    refine wl_val he13 rfl rfl (.agg (Ru.arr ((⟨0, 0, 0, 0, 0⟩ : Ru)))) (rn_build _ _ rfl #[] (pmap0 _) _ (by kernel_rfl)) (fun a14 he14 => ?_)
    clear he13
    refine wl_store he14 hm2 1 rfl rfl rfl _ _ _ rfl (0) (he14.tmp 2 _ rfl) _ (he14.tmp 16 _ rfl) 5 agg36.size rfl (Ru.one _) (by decide) (Ru.arr ((⟨0, 0, 0, 0, 0⟩ : Ru))) (by kernel_rfl) (fun w3 hm3 => ?_)
    clear hm2
    refine wl_val he14 rfl rfl (.bool false) (rn_move _ (Or.inr rfl) _ rfl) (fun a15 he15 => ?_)
    clear he14
    refine wl_end ?_
    refine wp_ret ?_
    refine ret_then ?_
    exact bodyPost_ret (results_cell_t he15 hm3 _ _ _ Tryd.results26 _ rfl 1 rfl 5 agg36 (by first | rfl | assumption) _ rfl) he15.defers ⟨(by rw [readM_no (by omega)]), hm3.below⟩
  ·
   have hd1p := of_decide_eq_true hd1
   refine wl_val he7 rfl rfl (.bool true) (rn_bin _ _ _ _ _ rfl .i64 _ _ (he7.tmp 9 _ rfl) rfl (.bool (decide ((((cutM (s) 32 6).length : Nat) : Int) < 5))) _ rfl (congrArg Value.bool (hd1))) (fun a8 he8 => ?_)
   clear he7
   refine wl_val he8 rfl rfl (.bool true) (rn_move _ (Or.inl rfl) _ (he8.tmp 10 _ rfl)) (fun a9 he9 => ?_)
   clear he8
   refine wl_not he9 rfl (wanted_slot he9 3 false rfl 11 rfl true rfl false rfl) (fun a10 he10 => ?_)
   clear he9
   refine wl_not he10 rfl (wanted_slot he10 3 false rfl 11 rfl true rfl false rfl) (fun a11 he11 => ?_)
   clear he10
   refine wl_not he11 rfl (wanted_slot he11 3 false rfl 11 rfl true rfl false rfl) (fun a12 he12 => ?_)
   clear he11
   refine wl_val he12 rfl rfl (.bool true) (rn_pickT _ _ _ rfl (he12.tmp 11 _ rfl) _ rfl) (fun a13 he13 => ?_)
   clear he12
   refine wl_end ?_
   refine wp_condT (he := he13) rfl ?_
   refine wp_seqR ?_
   refine wl_val he13 rfl rfl (.agg (Ru.arr ((⟨0, 0, 0, 0, 0⟩ : Ru)))) (rn_build _ _ rfl #[] (pmap0 _) _ (by kernel_rfl)) (fun a14 he14 => ?_)
   clear he13
   refine wl_store he14 hm2 1 rfl rfl rfl _ _ _ rfl (0) (he14.tmp 2 _ rfl) _ (he14.tmp 16 _ rfl) 5 agg36.size rfl (Ru.one _) (by decide) (Ru.arr ((⟨0, 0, 0, 0, 0⟩ : Ru))) (by kernel_rfl) (fun w3 hm3 => ?_)
   clear hm2
   refine wl_val he14 rfl rfl (.bool false) (rn_move _ (Or.inr rfl) _ rfl) (fun a15 he15 => ?_)
   clear he14
   refine wl_end ?_
   refine wp_ret ?_
   refine ret_then ?_
   exact bodyPost_ret (results_cell_t he15 hm3 _ _ _ Tryd.results26 _ rfl 1 rfl 5 agg36 (by first | rfl | assumption) _ rfl) he15.defers ⟨(by rw [readM_no (by omega)]), hm3.below⟩
end Go.Proofs.YtkaekiodjjhjkaaDoor
