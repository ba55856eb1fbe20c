/- Rules read by the program: first words, verdicts, words of a line. -/
import Derived.Test.YtkaekiodjjhjkaaDoorNU
import Derived.Test.YtkaekiodjjhjkaaDoorWI
import Derived.Shelf.Strings.SplitCore
namespace Go.Proofs.YtkaekiodjjhjkaaDoor
open Go.RowKit
set_option linter.unusedVariables false
set_option linter.unusedSimpArgs false
theorem agg68 : AggT Tryd.prog 68 6 := ⟨fun w => by kernel_rfl, fun w => by kernel_rfl⟩
def SPB : ByteArray := ⟨#[32]⟩
theorem idx_list : ∀ (a r : List UInt8), (32 : UInt8) ∉ a → Lib.indexByte (a ++ 32 :: r) 32 = a.length
  | [], r, _ => by simp [Lib.indexByte]
  | b :: a, r, h => by
    have hb : ¬ b = 32 := fun e => h (by simp [e])
    have := idx_list a r (fun e => h (by simp [e]))
    show Lib.indexByte (b :: (a ++ 32 :: r)) 32 = _
    rw [Lib.indexByte, this]
    simp [hb]
    try omega
theorem idx_none : ∀ (a : List UInt8), (32 : UInt8) ∉ a → Lib.indexByte a 32 = -1
  | [], _ => rfl
  | b :: a, h => by
    have hb : ¬ b = 32 := fun e => h (by simp [e])
    rw [Lib.indexByte, idx_none a (fun e => h (by simp [e]))]
    simp [hb]
theorem idxB_hit (w r : ByteArray) (h : NoB 32 w) : Lib.indexB (w ++ (SPB ++ r)) SPB = (w.size : Int) := by
  show Lib.index (w ++ (SPB ++ r)).data.toList [32] = _
  rw [Lib.index_one]
  have e : (w ++ (SPB ++ r)).data.toList = w.data.toList ++ 32 :: r.data.toList := by
    rw [ByteArray.data_append, ByteArray.data_append, Array.toList_append, Array.toList_append]; rfl
  rw [e, idx_list w.data.toList r.data.toList h]
  exact congrArg _ Array.length_toList
theorem idxB_miss (w : ByteArray) (h : NoB 32 w) : Lib.indexB w SPB = -1 := by
  show Lib.index w.data.toList [32] = _
  rw [Lib.index_one]
  exact idx_none w.data.toList h
theorem ext_head (w r : ByteArray) : (w ++ (SPB ++ r)).extract 0 w.size = w := by
  have e : (w ++ (SPB ++ r)).data.toList = w.data.toList ++ 32 :: r.data.toList := by
    rw [ByteArray.data_append, ByteArray.data_append, Array.toList_append, Array.toList_append]; rfl
  have hl : w.data.toList.length = w.size := Array.length_toList
  apply ByteArray.ext
  apply Array.toList_inj.1
  rw [Lib.extract_data, e]
  simp [hl]
theorem ext_tail (w r : ByteArray) : (w ++ (SPB ++ r)).extract (w.size + 1) (w ++ (SPB ++ r)).size = r := by
  have h := Lib.extract_to_end (w ++ (SPB ++ r)) (w.size + 1)
  have e : (w ++ (SPB ++ r)).data.toList = w.data.toList ++ 32 :: r.data.toList := by
    rw [ByteArray.data_append, ByteArray.data_append, Array.toList_append, Array.toList_append]; rfl
  rw [e] at h
  have e2 : (w.data.toList ++ 32 :: r.data.toList).drop (w.size + 1) = r.data.toList := by
    have : w.size + 1 = w.data.toList.length + 1 := congrArg (· + 1) (Array.length_toList (xs := w.data)).symm
    rw [this, List.drop_append]
    simp
  rw [e2] at h
  apply ByteArray.ext
  exact Array.toList_inj.1 h
theorem split_join : ∀ (W : List ByteArray), W ≠ [] → (∀ w ∈ W, NoB 32 w) → Lib.splitB SPB 0 (W.length - 1) (joinB 32 W) = W ∧ Lib.countB (joinB 32 W) SPB = W.length - 1
  | [], h, _ => absurd rfl h
  | [w], _, h => ⟨rfl, Lib.countB_miss _ _ (idxB_miss w (h w (by simp)))⟩
  | w :: v :: r, _, h => by
    have ih := split_join (v :: r) (by simp) (fun x hx => h x (List.mem_cons_of_mem _ hx))
    have hi := idxB_hit w (joinB 32 (v :: r)) (h w (by simp))
    have hsz : SPB.size = 1 := rfl
    have hj : joinB 32 (w :: v :: r) = w ++ (SPB ++ joinB 32 (v :: r)) := rfl
    rw [hj]
    constructor
    · show Lib.splitB SPB 0 ((v :: r).length - 1 + 1) _ = _
      rw [Lib.splitB, hi, if_neg (by rw [beq_iff_eq]; omega), Int.toNat_natCast, Nat.add_zero, hsz, ext_head, ext_tail, ih.1]
    · rw [Lib.countB_hit _ _ _ (by rw [hsz]; exact Nat.le_refl _) hi, hsz, ext_tail, ih.2]
      show 1 + ((v :: r).length - 1) = (v :: r).length + 1 - 1
      simp only [List.length_cons]
      omega


theorem splitB_size (sep : ByteArray) : ∀ (k : Nat) (s : ByteArray), ∀ y ∈ Lib.splitB sep 0 k s, y.size ≤ s.size
  | 0, s, y, h => by
    rw [Lib.splitB_zero] at h; obtain rfl := List.mem_singleton.1 h; exact Nat.le_refl _
  | k + 1, s, y, h => by
    rw [Lib.splitB] at h
    split at h
    · obtain rfl := List.mem_singleton.1 h; exact Nat.le_refl _
    · rcases List.mem_cons.1 h with rfl | h
      · rw [ByteArray.size_extract]; omega
      · have := splitB_size sep k _ y h
        rw [ByteArray.size_extract] at this; omega
/-- The words of a text, cut at blanks. -/
def cutL (s : ByteArray) : List ByteArray := Lib.splitB SPB 0 (Lib.countB s SPB + 1 - 1) s
theorem cutL_size {s y : ByteArray} (h : y ∈ cutL s) : y.size ≤ s.size := splitB_size _ _ _ _ h
theorem cutL_len (s : ByteArray) : (cutL s).length = Lib.countB s SPB + 1 := Lib.splitB_all SPB (Nat.le_refl 1) 0 _ s rfl
theorem cutL_le (s : ByteArray) : (cutL s).length ≤ s.size + 1 := by
  have := Lib.countB_le SPB (Nat.le_refl 1) _ s (Nat.le_refl _)
  rw [cutL_len]; omega
theorem cutL_body {r : Ru} (h : ruOk r = true) : cutL (bodyRu r) = wordsOf r := by
  have hne : wordsOf r ≠ [] := by unfold wordsOf; simp
  obtain ⟨h1, h2⟩ := split_join (wordsOf r) hne (words_no h 32 (.inl rfl))
  unfold cutL bodyRu
  rw [h2, Nat.add_sub_cancel]
  exact h1
theorem idxS (x : ByteArray) (w : World) : Calls Tryd.prog 65 #[.string x, .string SPB] w fun e w' => e = .returned (.int .i64 (Lib.indexB x SPB)) ∧ w' = w :=
  (Tryd.strings_Index_one x 32 w).mono fun e w' ⟨he, hw⟩ => ⟨by rw [he, ← Lib.index_one]; rfl, hw⟩
theorem cntS (S : ByteArray) (w : World) : Calls Tryd.prog 64 #[.string S, .string SPB] w fun e w' => e = .returned (.int .i64 (Lib.countB S SPB)) ∧ w' = w :=
  (Tryd.strings_Count_one S 32 w).mono fun e w' ⟨he, hw⟩ => ⟨by rw [he]; show _ = Ending.returned (Value.int .i64 ((Lib.count S.data.toList [32] : Nat) : Int)); rw [Lib.count_one]; rfl, hw⟩
theorem genS (S : ByteArray) (w : World) (hsz : S.size ≤ 1048576) : Calls Tryd.prog 54 #[.string S, .string ⟨#[32]⟩, .int .i64 0, .int .i64 (-1)] w fun e w' => e = .returned (.slice (some ⟨w.heap.size, 0, none⟩) (cutL S).length (cutL S).length) ∧ w' = w.alloc (.cells ((cutL S).map Value.string).toArray 9) := by
  have hle := Lib.countB_le SPB (Nat.le_refl 1) _ S (Nat.le_refl _)
  have c := Any.strings_genSplit_core Tryd.lays221 (by kernel_rfl) S SPB 0 (-1) (Lib.countB S SPB + 1) w (by omega) (Nat.le_refl 1) (Nat.zero_le _) (fun x c _ => idxS x _) (cntS S w) (by decide) (by decide) (by rw [if_pos (by decide)]; omega)
  have e2 : Lib.cellsOf (cutL S) (cutL S).length = ((cutL S).map Value.string).toArray := Lib.cellsOf_full _
  have e3 := cutL_len S
  rw [← e2]
  rw [show Lib.countB S SPB + 1 = (cutL S).length from e3.symm] at c
  have e4 : Lib.splitB SPB 0 ((cutL S).length - 1) S = cutL S := by rw [e3]; rfl
  rw [e4] at c
  exact c
def reachN (k : Nat) : Bool := ((k : Int) == 17) || ((k : Int) == 18)
def fitN (k z : Nat) : Bool := if reachN k then ((z : Int) == 1 || ((z : Int) == 2 || (z : Int) == 4)) else (z : Int) == 0
/-- A first word, of an op and a size. -/
def firstN (k z : Nat) : ByteArray := if reachN k then wordS k ++ decS z else wordS k
/-- What is read of a first word: a text that is the word of a question is read as that. -/
def FirstR (s : ByteArray) (o : Int) : Prop := ∀ j : Nat, 12 ≤ j → j ≤ 15 → s = wordS j → o = (j : Int)
theorem seq_iff (a b : ByteArray) : (a.toList == b.toList) = true ↔ a = b := by
  rw [ByteArray.toList_eq, ByteArray.toList_eq, beq_iff_eq]
  constructor
  · intro h
    obtain ⟨⟨x⟩⟩ := a
    obtain ⟨⟨y⟩⟩ := b
    simp only at h
    rw [h]
  · rintro rfl
    rfl
theorem word_one : ∀ k, k < 21 → ∀ j, j < 16 → 12 ≤ j → wordS k = wordS j → k = j := by decide +kernel
theorem reach_is {k : Nat} (h : reachN k = true) : k = 17 ∨ k = 18 := by
  simp [reachN] at h; omega
theorem first_ne {k z j : Nat} (h : reachN k = true) (h1 : 12 ≤ j) (h2 : j ≤ 15) : ¬ wordS k ++ decS z = wordS j := by
  intro e
  have e1 : (tl (wordS k ++ decS z))[1]? = (tl (wordS j))[1]? := by rw [e]
  rw [tl_app] at e1
  rcases reach_is h with rfl | rfl <;> rcases (by omega : j = 12 ∨ j = 13 ∨ j = 14 ∨ j = 15) with rfl | rfl | rfl | rfl
  all_goals
    first
    | (have e2 : some (111 : UInt8) = _ := e1
       revert e2; clear e e1 h; decide)
    | (have e2 : some (116 : UInt8) = _ := e1
       revert e2; clear e e1 h; decide)
    | (have e2 : (tl (wordS 17) ++ tl (decS z))[0]? = (tl (wordS 15))[0]? := by rw [← tl_app, e]
       have e3 : some (108 : UInt8) = _ := e2
       revert e3; clear e e1 e2 h; decide)
    | (have e2 : (tl (wordS 18) ++ tl (decS z))[0]? = (tl (wordS 13))[0]? := by rw [← tl_app, e]
       have e3 : some (115 : UInt8) = _ := e2
       revert e3; clear e e1 e2 h; decide)
theorem first_at {k z : Nat} {s : ByteArray} (h : ((firstN k z).toList == s.toList) = true) (hk : k ≤ 20) : FirstR s (k : Int) := by
  intro j h1 h2 e
  have h := (seq_iff _ _).1 h
  subst e
  unfold firstN at h
  cases hr : reachN k
  · rw [hr] at h
    exact congrArg _ (word_one k (by omega) j (by omega) h1 h)
  · rw [hr] at h
    exact absurd h (first_ne hr h1 h2)
theorem first_no {s : ByteArray} {k : Nat} (h : ∀ j, 12 ≤ j → j ≤ 15 → j < k → ((wordS j).toList == s.toList) = false) (hk : 16 ≤ k) : FirstR s 0 := by
  intro j h1 h2 e
  subst e
  have := h j h1 h2 (by omega)
  simp at this
theorem next_no {k z : Nat} {s : ByteArray} (h : fitN k z = false ∨ ((firstN k z).toList == s.toList) = false) (hr : 1 ≤ z → 12 ≤ k → k ≤ 15 → ((wordS k).toList == s.toList) = false) : 1 ≤ z + 1 → 12 ≤ k → k ≤ 15 → ((wordS k).toList == s.toList) = false := by
  intro _ h1 h2
  have hq : reachN k = false := by
    rcases (by omega : k = 12 ∨ k = 13 ∨ k = 14 ∨ k = 15) with rfl | rfl | rfl | rfl <;> rfl
  rcases Nat.eq_zero_or_pos z with rfl | hz
  · rcases h with h | h
    · rw [fitN, hq] at h; cases h
    · rw [firstN, hq] at h; exact h
  · exact hr hz h1 h2
theorem agg55 : AggT Tryd.prog 55 3 := ⟨fun w => by kernel_rfl, fun w => by kernel_rfl⟩
theorem verbs_rowV {w : World} {b : Nat} (h : RowAt w b 0 3 1 fun k => #[.string (verbS k)]) : RowAt w b 0 1 3 fun _ => #[.string (verbS 0), .string (verbS 1), .string (verbS 2)] :=
  ⟨h.1, fun i hi j hj => by
    obtain rfl : i = 0 := by omega
    have h1 := (h.2 j (by omega) 0 (by omega)).1
    rw [show 0 + j * 1 + 0 = 0 + 0 * 3 + j by omega] at h1
    rw [h1]
    rcases (by omega : j = 0 ∨ j = 1 ∨ j = 2) with rfl | rfl | rfl <;> exact ⟨rfl, by simp⟩⟩
/-- A verdict's word. -/
def verdM (s : ByteArray) : Int × Bool := if ((verbS 0).toList == s.toList) then (0, true) else if ((verbS 1).toList == s.toList) then (1, true) else if ((verbS 2).toList == s.toList) then (2, true) else (0, false)
set_option maxRecDepth 100000 in
set_option maxHeartbeats 4000000 in
theorem c_reach (k : Nat) (w : World)  :
    Calls Tryd.prog 68 #[.int .i64 (((k : Nat) : Int))] w fun e w' => e = .returned (.bool (reachN k)) ∧ Below w.heap.size w w' := by
  refine calls_begin Tryd.func68 rfl 9 rfl (Nat.le_of_ble_eq_true rfl) [(0, .int .i64 (((k : Nat) : Int)))] ⟨rfl, trivial⟩ (fun a0 he0 hm0 => ?_)
  refine wp_seqR ?_
  refine wl_val he0 rfl rfl (.bool false) (rn_move _ (Or.inr rfl) _ rfl) (fun a1 he1 => ?_)
  clear he0
  refine wl_end ?_
  refine wp_seqR ?_
  refine wl_val he1 rfl rfl (.int .i64 (((k : Nat) : Int))) (rn_move _ (Or.inl rfl) _ (he1.tmp 0 _ rfl)) (fun a2 he2 => ?_)
  clear he1
  cases hd1 : ((((k : Nat) : Int) == 17))
  ·
   have hd1p : ((k : Nat) : Int) ≠ 17 := by simpa using hd1
   refine wl_val he2 rfl rfl (.bool false) (rn_bin _ _ _ _ _ rfl .i64 _ _ (he2.tmp 3 _ rfl) rfl (.bool ((((k : Nat) : Int) == 17))) _ rfl (congrArg Value.bool (hd1))) (fun a3 he3 => ?_)
   clear he2
   refine wl_val he3 rfl rfl (.bool false) (rn_move _ (Or.inl rfl) _ (he3.tmp 4 _ rfl)) (fun a4 he4 => ?_)
   clear he3
   refine wl_val he4 rfl (wanted_slot he4 2 false rfl 5 rfl false rfl true rfl) (.int .i64 (((k : Nat) : Int))) (rn_move _ (Or.inl rfl) _ (he4.tmp 0 _ rfl)) (fun a5 he5 => ?_)
   clear he4
   cases hd2 : ((((k : Nat) : Int) == 18))
   ·
    have hd2p : ((k : Nat) : Int) ≠ 18 := by simpa using hd2
    refine wl_val he5 rfl (wanted_slot he5 2 false rfl 5 rfl false rfl true rfl) (.bool false) (rn_bin _ _ _ _ _ rfl .i64 _ _ (he5.tmp 6 _ rfl) rfl (.bool ((((k : Nat) : Int) == 18))) _ rfl (congrArg Value.bool (hd2))) (fun a6 he6 => ?_)
    clear he5
    refine wl_val he6 rfl rfl (.bool false) (rn_pickF _ _ _ rfl (he6.tmp 5 _ rfl) _ (he6.tmp 7 _ rfl)) (fun a7 he7 => ?_)
    clear he6
    refine wl_val he7 rfl rfl (.bool false) (rn_move _ (Or.inr rfl) _ (he7.tmp 8 _ rfl)) (fun a8 he8 => ?_)
    clear he7
    refine wl_end ?_
    refine wp_ret ?_
    exact bodyPost_ret (results_tmp he8 _ Tryd.results68 _ rfl) he8.defers ⟨(by simp [reachN, hd1, hd2]), hm0.below⟩
   ·
    have hd2p : ((k : Nat) : Int) = 18 := by simpa using hd2
    refine wl_val he5 rfl (wanted_slot he5 2 false rfl 5 rfl false rfl true rfl) (.bool true) (rn_bin _ _ _ _ _ rfl .i64 _ _ (he5.tmp 6 _ rfl) rfl (.bool ((((k : Nat) : Int) == 18))) _ rfl (congrArg Value.bool (hd2))) (fun a6 he6 => ?_)
    clear he5
    refine wl_val he6 rfl rfl (.bool true) (rn_pickF _ _ _ rfl (he6.tmp 5 _ rfl) _ (he6.tmp 7 _ rfl)) (fun a7 he7 => ?_)
    clear he6
    refine wl_val he7 rfl rfl (.bool true) (rn_move _ (Or.inr rfl) _ (he7.tmp 8 _ rfl)) (fun a8 he8 => ?_)
    clear he7
    refine wl_end ?_
    refine wp_ret ?_
    exact bodyPost_ret (results_tmp he8 _ Tryd.results68 _ rfl) he8.defers ⟨(by simp [reachN, hd1, hd2]), hm0.below⟩
  ·
   have hd1p : ((k : Nat) : Int) = 17 := by simpa using hd1
   refine wl_val he2 rfl rfl (.bool true) (rn_bin _ _ _ _ _ rfl .i64 _ _ (he2.tmp 3 _ rfl) rfl (.bool ((((k : Nat) : Int) == 17))) _ rfl (congrArg Value.bool (hd1))) (fun a3 he3 => ?_)
   clear he2
   refine wl_val he3 rfl rfl (.bool true) (rn_move _ (Or.inl rfl) _ (he3.tmp 4 _ rfl)) (fun a4 he4 => ?_)
   clear he3
   refine wl_not he4 rfl (wanted_slot he4 2 false rfl 5 rfl true rfl false rfl) (fun a5 he5 => ?_)
   clear he4
   refine wl_not he5 rfl (wanted_slot he5 2 false rfl 5 rfl true rfl false rfl) (fun a6 he6 => ?_)
   clear he5
   refine wl_val he6 rfl rfl (.bool true) (rn_pickT _ _ _ rfl (he6.tmp 5 _ rfl) _ rfl) (fun a7 he7 => ?_)
   clear he6
   refine wl_val he7 rfl rfl (.bool true) (rn_move _ (Or.inr rfl) _ (he7.tmp 8 _ rfl)) (fun a8 he8 => ?_)
   clear he7
   refine wl_end ?_
   refine wp_ret ?_
   exact bodyPost_ret (results_tmp he8 _ Tryd.results68 _ rfl) he8.defers ⟨(by simp [reachN, hd1]), hm0.below⟩
set_option maxRecDepth 100000 in
set_option maxHeartbeats 4000000 in
theorem c_fit (k q : Nat) (w : World)  :
    Calls Tryd.prog 56 #[.int .i64 (((k : Nat) : Int)), .int .i64 (((q : Nat) : Int))] w fun e w' => e = .returned (.bool (fitN k q)) ∧ Below w.heap.size w w' := by
  refine calls_begin Tryd.func56 rfl 19 rfl (Nat.le_of_ble_eq_true rfl) [(0, .int .i64 (((k : Nat) : Int))), (1, .int .i64 (((q : Nat) : Int)))] ⟨rfl, rfl, trivial⟩ (fun a0 he0 hm0 => ?_)
  refine wp_seqR ?_
  refine wl_val he0 rfl rfl (.bool false) (rn_move _ (Or.inr rfl) _ rfl) (fun a1 he1 => ?_)
  clear he0
  refine wl_end ?_
  refine wp_seq ?_
  refine wp_seqR ?_
  refine wl_val he1 rfl rfl (.int .i64 (((k : Nat) : Int))) (rn_move _ (Or.inl rfl) _ (he1.tmp 0 _ rfl)) (fun a2 he2 => ?_)
  clear he1
  cases hd1 : (reachN k)
  ·
   refine wl_call he2 hm0 rfl rfl _ #[.int .i64 (((k : Nat) : Int))] (enter_call _ _ _ rfl 68 #[] #[] rfl #[.int .i64 (((k : Nat) : Int))] (map1 (he2.tmp 5 _ rfl)) #[.int .i64 (((k : Nat) : Int))] rfl (fun _ _ => by kernel_rfl)) (.bool false) (callsV (congrArg Value.bool (hd1)) (c_reach k _)) (fun a3 w1 he3 hm1 => ?_)
   clear he2 hm0
   refine wl_end ?_
   refine wp_condF (he := he3) rfl ?_
   refine wp_skip ?_
   refine then_normal ?_
   refine wp_seqR ?_
   refine wl_val he3 rfl rfl (.int .i64 (((q : Nat) : Int))) (rn_move _ (Or.inl rfl) _ (he3.tmp 1 _ rfl)) (fun a4 he4 => ?_)
   clear he3
   cases hd2 : ((((q : Nat) : Int) == 0))
   ·
    have hd2p : ((q : Nat) : Int) ≠ 0 := by simpa using hd2
    refine wl_val he4 rfl rfl (.bool false) (rn_bin _ _ _ _ _ rfl .i64 _ _ (he4.tmp 17 _ rfl) rfl (.bool ((((q : Nat) : Int) == 0))) _ rfl (congrArg Value.bool (hd2))) (fun a5 he5 => ?_)
    clear he4
    refine wl_val he5 rfl rfl (.bool false) (rn_move _ (Or.inr rfl) _ (he5.tmp 18 _ rfl)) (fun a6 he6 => ?_)
    clear he5
    refine wl_end ?_
    refine wp_ret ?_
    exact bodyPost_ret (results_tmp he6 _ Tryd.results56 _ rfl) he6.defers ⟨(by simp [fitN, firstN, hd1, hd2]), hm1.below⟩
   ·
    have hd2p : ((q : Nat) : Int) = 0 := by simpa using hd2
    refine wl_val he4 rfl rfl (.bool true) (rn_bin _ _ _ _ _ rfl .i64 _ _ (he4.tmp 17 _ rfl) rfl (.bool ((((q : Nat) : Int) == 0))) _ rfl (congrArg Value.bool (hd2))) (fun a5 he5 => ?_)
    clear he4
    refine wl_val he5 rfl rfl (.bool true) (rn_move _ (Or.inr rfl) _ (he5.tmp 18 _ rfl)) (fun a6 he6 => ?_)
    clear he5
    refine wl_end ?_
    refine wp_ret ?_
    exact bodyPost_ret (results_tmp he6 _ Tryd.results56 _ rfl) he6.defers ⟨(by simp [fitN, firstN, hd1, hd2]), hm1.below⟩
  ·
   refine wl_call he2 hm0 rfl rfl _ #[.int .i64 (((k : Nat) : Int))] (enter_call _ _ _ rfl 68 #[] #[] rfl #[.int .i64 (((k : Nat) : Int))] (map1 (he2.tmp 5 _ rfl)) #[.int .i64 (((k : Nat) : Int))] rfl (fun _ _ => by kernel_rfl)) (.bool true) (callsV (congrArg Value.bool (hd1)) (c_reach k _)) (fun a3 w1 he3 hm1 => ?_)
   clear he2 hm0
   refine wl_end ?_
   refine wp_condT (he := he3) rfl ?_
   refine wp_seqR ?_
   refine wl_val he3 rfl rfl (.int .i64 (((q : Nat) : Int))) (rn_move _ (Or.inl rfl) _ (he3.tmp 1 _ rfl)) (fun a4 he4 => ?_)
   clear he3
   cases hd2 : ((((q : Nat) : Int) == 1))
   ·
    have hd2p : ((q : Nat) : Int) ≠ 1 := by simpa using hd2
    refine wl_val he4 rfl rfl (.bool false) (rn_bin _ _ _ _ _ rfl .i64 _ _ (he4.tmp 7 _ rfl) rfl (.bool ((((q : Nat) : Int) == 1))) _ rfl (congrArg Value.bool (hd2))) (fun a5 he5 => ?_)
    clear he4
    refine wl_val he5 rfl rfl (.bool false) (rn_move _ (Or.inl rfl) _ (he5.tmp 8 _ rfl)) (fun a6 he6 => ?_)
    clear he5
    refine wl_val he6 rfl (wanted_slot he6 2 false rfl 9 rfl false rfl true rfl) (.int .i64 (((q : Nat) : Int))) (rn_move _ (Or.inl rfl) _ (he6.tmp 1 _ rfl)) (fun a7 he7 => ?_)
    clear he6
    cases hd3 : ((((q : Nat) : Int) == 2))
    ·
     have hd3p : ((q : Nat) : Int) ≠ 2 := by simpa using hd3
     refine wl_val he7 rfl (wanted_slot he7 2 false rfl 9 rfl false rfl true rfl) (.bool false) (rn_bin _ _ _ _ _ rfl .i64 _ _ (he7.tmp 10 _ rfl) rfl (.bool ((((q : Nat) : Int) == 2))) _ rfl (congrArg Value.bool (hd3))) (fun a8 he8 => ?_)
     clear he7
     refine wl_val he8 rfl rfl (.bool false) (rn_pickF _ _ _ rfl (he8.tmp 9 _ rfl) _ (he8.tmp 11 _ rfl)) (fun a9 he9 => ?_)
     clear he8
     refine wl_val he9 rfl rfl (.bool false) (rn_move _ (Or.inl rfl) _ (he9.tmp 12 _ rfl)) (fun a10 he10 => ?_)
     clear he9
     refine wl_val he10 rfl (wanted_slot he10 6 false rfl 13 rfl false rfl true rfl) (.int .i64 (((q : Nat) : Int))) (rn_move _ (Or.inl rfl) _ (he10.tmp 1 _ rfl)) (fun a11 he11 => ?_)
     clear he10
     cases hd4 : ((((q : Nat) : Int) == 4))
     ·
      have hd4p : ((q : Nat) : Int) ≠ 4 := by simpa using hd4
      refine wl_val he11 rfl (wanted_slot he11 6 false rfl 13 rfl false rfl true rfl) (.bool false) (rn_bin _ _ _ _ _ rfl .i64 _ _ (he11.tmp 14 _ rfl) rfl (.bool ((((q : Nat) : Int) == 4))) _ rfl (congrArg Value.bool (hd4))) (fun a12 he12 => ?_)
      clear he11
      refine wl_val he12 rfl rfl (.bool false) (rn_pickF _ _ _ rfl (he12.tmp 13 _ rfl) _ (he12.tmp 15 _ rfl)) (fun a13 he13 => ?_)
      clear he12
      refine wl_val he13 rfl rfl (.bool false) (rn_move _ (Or.inr rfl) _ (he13.tmp 16 _ rfl)) (fun a14 he14 => ?_)
      clear he13
      refine wl_end ?_
      refine wp_ret ?_
      refine ret_then ?_
      exact bodyPost_ret (results_tmp he14 _ Tryd.results56 _ rfl) he14.defers ⟨(by simp [fitN, firstN, hd1, hd2, hd3, hd4]), hm1.below⟩
     ·
      have hd4p : ((q : Nat) : Int) = 4 := by simpa using hd4
      refine wl_val he11 rfl (wanted_slot he11 6 false rfl 13 rfl false rfl true rfl) (.bool true) (rn_bin _ _ _ _ _ rfl .i64 _ _ (he11.tmp 14 _ rfl) rfl (.bool ((((q : Nat) : Int) == 4))) _ rfl (congrArg Value.bool (hd4))) (fun a12 he12 => ?_)
      clear he11
      refine wl_val he12 rfl rfl (.bool true) (rn_pickF _ _ _ rfl (he12.tmp 13 _ rfl) _ (he12.tmp 15 _ rfl)) (fun a13 he13 => ?_)
      clear he12
      refine wl_val he13 rfl rfl (.bool true) (rn_move _ (Or.inr rfl) _ (he13.tmp 16 _ rfl)) (fun a14 he14 => ?_)
      clear he13
      refine wl_end ?_
      refine wp_ret ?_
      refine ret_then ?_
      exact bodyPost_ret (results_tmp he14 _ Tryd.results56 _ rfl) he14.defers ⟨(by simp [fitN, firstN, hd1, hd2, hd3, hd4]), hm1.below⟩
    ·
     have hd3p : ((q : Nat) : Int) = 2 := by simpa using hd3
     refine wl_val he7 rfl (wanted_slot he7 2 false rfl 9 rfl false rfl true rfl) (.bool true) (rn_bin _ _ _ _ _ rfl .i64 _ _ (he7.tmp 10 _ rfl) rfl (.bool ((((q : Nat) : Int) == 2))) _ rfl (congrArg Value.bool (hd3))) (fun a8 he8 => ?_)
     clear he7
     refine wl_val he8 rfl rfl (.bool true) (rn_pickF _ _ _ rfl (he8.tmp 9 _ rfl) _ (he8.tmp 11 _ rfl)) (fun a9 he9 => ?_)
     clear he8
     refine wl_val he9 rfl rfl (.bool true) (rn_move _ (Or.inl rfl) _ (he9.tmp 12 _ rfl)) (fun a10 he10 => ?_)
     clear he9
     refine wl_not he10 rfl (wanted_slot he10 6 false rfl 13 rfl true rfl false rfl) (fun a11 he11 => ?_)
     clear he10
     refine wl_not he11 rfl (wanted_slot he11 6 false rfl 13 rfl true rfl false rfl) (fun a12 he12 => ?_)
     clear he11
     refine wl_val he12 rfl rfl (.bool true) (rn_pickT _ _ _ rfl (he12.tmp 13 _ rfl) _ rfl) (fun a13 he13 => ?_)
     clear he12
     refine wl_val he13 rfl rfl (.bool true) (rn_move _ (Or.inr rfl) _ (he13.tmp 16 _ rfl)) (fun a14 he14 => ?_)
     clear he13
     refine wl_end ?_
     refine wp_ret ?_
     refine ret_then ?_
     exact bodyPost_ret (results_tmp he14 _ Tryd.results56 _ rfl) he14.defers ⟨(by simp [fitN, firstN, hd1, hd2, hd3]), hm1.below⟩
   ·
    have hd2p : ((q : Nat) : Int) = 1 := by simpa using hd2
    refine wl_val he4 rfl rfl (.bool true) (rn_bin _ _ _ _ _ rfl .i64 _ _ (he4.tmp 7 _ rfl) rfl (.bool ((((q : Nat) : Int) == 1))) _ rfl (congrArg Value.bool (hd2))) (fun a5 he5 => ?_)
    clear he4
    refine wl_val he5 rfl rfl (.bool true) (rn_move _ (Or.inl rfl) _ (he5.tmp 8 _ rfl)) (fun a6 he6 => ?_)
    clear he5
    refine wl_not he6 rfl (wanted_slot he6 2 false rfl 9 rfl true rfl false rfl) (fun a7 he7 => ?_)
    clear he6
    refine wl_not he7 rfl (wanted_slot he7 2 false rfl 9 rfl true rfl false rfl) (fun a8 he8 => ?_)
    clear he7
    refine wl_val he8 rfl rfl (.bool true) (rn_pickT _ _ _ rfl (he8.tmp 9 _ rfl) _ rfl) (fun a9 he9 => ?_)
    clear he8
    refine wl_val he9 rfl rfl (.bool true) (rn_move _ (Or.inl rfl) _ (he9.tmp 12 _ rfl)) (fun a10 he10 => ?_)
    clear he9
    refine wl_not he10 rfl (wanted_slot he10 6 false rfl 13 rfl true rfl false rfl) (fun a11 he11 => ?_)
    clear he10
    refine wl_not he11 rfl (wanted_slot he11 6 false rfl 13 rfl true rfl false rfl) (fun a12 he12 => ?_)
    clear he11
    refine wl_val he12 rfl rfl (.bool true) (rn_pickT _ _ _ rfl (he12.tmp 13 _ rfl) _ rfl) (fun a13 he13 => ?_)
    clear he12
    refine wl_val he13 rfl rfl (.bool true) (rn_move _ (Or.inr rfl) _ (he13.tmp 16 _ rfl)) (fun a14 he14 => ?_)
    clear he13
    refine wl_end ?_
    refine wp_ret ?_
    refine ret_then ?_
    exact bodyPost_ret (results_tmp he14 _ Tryd.results56 _ rfl) he14.defers ⟨(by simp [fitN, firstN, hd1, hd2]), hm1.below⟩
set_option maxRecDepth 100000 in
set_option maxHeartbeats 4000000 in
theorem c_first (k q : Nat) (w : World) (hT : TabsR w) (hk : k < 21) (hz : q ≤ 4294967295) :
    Calls Tryd.prog 57 #[.int .i64 (((k : Nat) : Int)), .int .i64 (((q : Nat) : Int))] w fun e w' => e = .returned (.string (firstN k q)) ∧ Below w.heap.size w w' := by
  refine calls_begin Tryd.func57 rfl 16 rfl (Nat.le_of_ble_eq_true rfl) [(0, .int .i64 (((k : Nat) : Int))), (1, .int .i64 (((q : Nat) : Int)))] ⟨rfl, rfl, trivial⟩ (fun a0 he0 hm0 => ?_)
  have hw := word_le k hk
  have hds := decS_size 18 q (by omega)
  refine wp_seqR ?_
  refine wl_val he0 rfl rfl (.string (⟨#[]⟩)) (rn_move _ (Or.inr rfl) _ rfl) (fun a1 he1 => ?_)
  clear he0
  refine wl_end ?_
  refine wp_seq ?_
  refine wp_seqR ?_
  refine wl_val he1 rfl rfl (.int .i64 (((k : Nat) : Int))) (rn_move _ (Or.inl rfl) _ (he1.tmp 0 _ rfl)) (fun a2 he2 => ?_)
  clear he1
  cases hd1 : (reachN k)
  ·
   refine wl_call he2 hm0 rfl rfl _ #[.int .i64 (((k : Nat) : Int))] (enter_call _ _ _ rfl 68 #[] #[] rfl #[.int .i64 (((k : Nat) : Int))] (map1 (he2.tmp 5 _ rfl)) #[.int .i64 (((k : Nat) : Int))] rfl (fun _ _ => by kernel_rfl)) (.bool false) (callsV (congrArg Value.bool (hd1)) (c_reach k _)) (fun a3 w1 he3 hm1 => ?_)
   clear he2 hm0
   refine wl_end ?_
   refine wp_condF (he := he3) rfl ?_
   refine wp_skip ?_
   refine then_normal ?_
   refine wp_seqR ?_
   refine wl_val he3 rfl rfl (.int .i64 (((k : Nat) : Int))) (rn_move _ (Or.inl rfl) _ (he3.tmp 0 _ rfl)) (fun a4 he4 => ?_)
   clear he3
   refine wl_val he4 rfl rfl (.pointer (some ⟨0, 0 + k * 1, none⟩)) (rn_indexA _ _ _ rfl _ _ (.pointer (some ⟨0, 0 + k * 1, none⟩)) rfl (he4.tmp 13 _ rfl) (ixA 21 9 1 (by kernel_rfl) (fun w => by kernel_rfl) 0 0 (k) (by omega) (by decide) _)) (fun a5 he5 => ?_)
   clear he4
   refine wl_val he5 rfl rfl (.string (wordS k)) (rn_row1 hm1 hT.ops (by simp) (k) (by omega) 0 (by omega) _ _ rfl (he5.tmp 14 _ rfl) one9 _ rfl) (fun a6 he6 => ?_)
   clear he5
   refine wl_val he6 rfl rfl (.string (wordS k)) (rn_move _ (Or.inr rfl) _ (he6.tmp 15 _ rfl)) (fun a7 he7 => ?_)
   clear he6
   refine wl_end ?_
   refine wp_ret ?_
   exact bodyPost_ret (results_tmp he7 _ Tryd.results57 _ rfl) he7.defers ⟨(by simp [fitN, firstN, hd1]), hm1.below⟩
  ·
   refine wl_call he2 hm0 rfl rfl _ #[.int .i64 (((k : Nat) : Int))] (enter_call _ _ _ rfl 68 #[] #[] rfl #[.int .i64 (((k : Nat) : Int))] (map1 (he2.tmp 5 _ rfl)) #[.int .i64 (((k : Nat) : Int))] rfl (fun _ _ => by kernel_rfl)) (.bool true) (callsV (congrArg Value.bool (hd1)) (c_reach k _)) (fun a3 w1 he3 hm1 => ?_)
   clear he2 hm0
   refine wl_end ?_
   refine wp_condT (he := he3) rfl ?_
   refine wp_seq ?_
   refine wh_begin (by kernel_rfl) hm1 [] trivial (fun w2 hm2 => ?_)
   clear hm1
   refine tk (fuel := 6) (i := 0) ?_ he3 hm2 trivial (.int .i64 (((k : Nat) : Int))) ?_ ?_ ?_ ?_ fun a4 he4 => ?_
   rotate_left
   rw [List.getElem?_toArray]; rfl
   exact ⟨by kernel_rfl, by kernel_rfl, by kernel_rfl⟩
   exact ⟨fun _ _ _ _ h => h, rfl, rfl⟩
   exact fun wS hmS => rn_move _ (Or.inl rfl) _ (he3.tmp 0 _ rfl)
   clear he3
   refine tk (fuel := 5) (i := 1) ?_ he4 hm2 trivial (.pointer (some ⟨0, 0 + k * 1, none⟩)) ?_ ?_ ?_ ?_ fun a5 he5 => ?_
   rotate_left
   rw [List.getElem?_toArray]; rfl
   exact ⟨by kernel_rfl, by kernel_rfl, by kernel_rfl⟩
   exact ⟨fun _ _ _ _ h => h, rfl, rfl⟩
   exact fun wS hmS => rn_indexA _ _ _ rfl _ _ (.pointer (some ⟨0, 0 + k * 1, none⟩)) rfl (he4.tmp 7 _ rfl) (ixA 21 9 1 (by kernel_rfl) (fun w => by kernel_rfl) 0 0 (k) (by omega) (by decide) _)
   clear he4
   refine tk (fuel := 4) (i := 2) ?_ he5 hm2 trivial (.string (wordS k)) ?_ ?_ ?_ ?_ fun a6 he6 => ?_
   rotate_left
   rw [List.getElem?_toArray]; rfl
   exact ⟨by kernel_rfl, by kernel_rfl, by kernel_rfl⟩
   exact ⟨fun _ _ _ _ h => h, rfl, rfl⟩
   exact fun wS hmS => rn_row1 hmS hT.ops (by simp) (k) (by omega) 0 (by omega) _ _ rfl (he5.tmp 8 _ rfl) one9 _ rfl
   clear he5
   refine tk (fuel := 3) (i := 3) ?_ he6 hm2 trivial (.int .i64 (((q : Nat) : Int))) ?_ ?_ ?_ ?_ fun a7 he7 => ?_
   rotate_left
   rw [List.getElem?_toArray]; rfl
   exact ⟨by kernel_rfl, by kernel_rfl, by kernel_rfl⟩
   exact ⟨fun _ _ _ _ h => h, rfl, rfl⟩
   exact fun wS hmS => rn_move _ (Or.inl rfl) _ (he6.tmp 1 _ rfl)
   clear he6
   refine wh_call (i := 4) (op := ?op1d1_4) (fuel := 2) ?hr1d1_4 ?hi1d1_4 he7 hm2 trivial ?hd1d1_4 ?hw1d1_4 _ #[.int .i64 (((q : Nat) : Int))] ?en1d1_4 (.string (decS q)) (c_itoa q _ (hT.kb hm2.keep rfl) (by omega)) (fun a8 w3 he8 hm3 => ?k1d1_4)
   case hi1d1_4 => rw [List.getElem?_toArray]; rfl
   case hw1d1_4 => exact rfl
   case hr1d1_4 => kernel_rfl
   case hd1d1_4 => rfl
   case en1d1_4 => exact (enter_call _ _ _ rfl 28 #[] #[] rfl #[.int .i64 (((q : Nat) : Int))] (map1 (he7.tmp 10 _ rfl)) #[.int .i64 (((q : Nat) : Int))] rfl (fun _ _ => by kernel_rfl))
   clear he7 hm2
   obtain ⟨z1, hz1⟩ : ∃ z : ByteArray, z = (wordS k) ++ (decS q) := ⟨_, rfl⟩
   have hsz1 : z1.size = (wordS k : ByteArray).size + (decS q : ByteArray).size := by rw [hz1, ByteArray.size_append]
   refine tk (fuel := 1) (i := 5) ?_ he8 hm3 trivial (.string (z1)) ?_ ?_ ?_ ?_ fun a9 he9 => ?_
   rotate_left
   rw [List.getElem?_toArray]; rfl
   exact ⟨by kernel_rfl, by kernel_rfl, by kernel_rfl⟩
   exact ⟨fun _ _ _ _ h => h, rfl, rfl⟩
   exact fun wS hmS => rn_saddZ _ _ _ _ rfl _ _ (he8.tmp 9 _ rfl) (he8.tmp 11 _ rfl) (by omega) z1 hz1
   clear he8
   refine tk (fuel := 0) (i := 6) ?_ he9 hm3 trivial (.string (z1)) ?_ ?_ ?_ ?_ fun a10 he10 => ?_
   rotate_left
   rw [List.getElem?_toArray]; rfl
   exact ⟨by kernel_rfl, by kernel_rfl, by kernel_rfl⟩
   exact ⟨fun _ _ _ _ h => h, rfl, rfl⟩
   exact fun wS hmS => rn_move _ (Or.inr rfl) _ (he9.tmp 12 _ rfl)
   clear he9
   refine wpAnyH_done (by kernel_rfl) ?_ _
   refine then_normal ?_
   refine wp_ret ?_
   refine ret_then ?_
   exact bodyPost_ret (results_tmp he10 _ Tryd.results57 _ rfl) he10.defers ⟨(by simp [fitN, firstN, hd1, hz1]), hm3.below⟩
set_option maxRecDepth 100000 in
set_option maxHeartbeats 4000000 in
theorem c_firstGet (s : ByteArray) (w : World) (hT : TabsR w) :
    Calls Tryd.prog 42 #[.string (s)] w fun e w' => ∃ o m z : Int, e = .returned (.agg #[.int .i64 o, .int .i64 0, .int .i64 m, .int .i64 0, .int .i64 0, .int .i64 z]) ∧ FirstR s o ∧ Below w.heap.size w w' := by
  refine calls_begin Tryd.func42 rfl 27 rfl (Nat.le_of_ble_eq_true rfl) [(0, .string (s))] ⟨rfl, trivial⟩ (fun a0 he0 hm0 => ?_)
  refine wp_seqR ?_
  refine wl_alloc he0 hm0 1 rfl rfl rfl _ rfl (.agg #[.int .i64 0, .int .i64 0, .int .i64 0, .int .i64 0, .int .i64 0, .int .i64 0]) (fun w => by kernel_rfl) (#[.int .i64 (0), .int .i64 (0), .int .i64 (0), .int .i64 (0), .int .i64 (0), .int .i64 (0)]) rfl (fun a1 w1 b1 he1 hm1 => ?_)
  clear he0 hm0
  refine wl_end ?_
  refine wp_seq ?_
  refine wp_seqR ?_
  refine wl_val he1 rfl rfl (.int .i64 (1)) (rn_move _ (Or.inr rfl) _ rfl) (fun a2 he2 => ?_)
  clear he1
  refine wl_end ?_
  refine wp_block ?_
  refine wp_loopN (fun mz az wz => ∃ (k : Nat), mz = 21 - (k) ∧ (1 ≤ k ∧ k ≤ 21 ∧ ∀ j, 12 ≤ j → j ≤ 15 → j < k → ((wordS j).toList == s.toList) = false) ∧ EV az 27 [] [(0, .string (s)), (2, .pointer (some ⟨b1, 0, none⟩)), (3, .int .i64 (((k : Nat) : Int)))] ∧ MM [] w wz [(1, ⟨true, b1, 68, #[.int .i64 (0), .int .i64 (0), .int .i64 (0), .int .i64 (0), .int .i64 (0), .int .i64 (0)]⟩)]) ⟨_, 1, rfl, ⟨by omega, by omega, fun j h1 h2 h3 => by omega⟩, he2.sub _ ⟨rfl, rfl, rfl, trivial⟩, hm1.sub _ ⟨rfl, trivial⟩⟩ ?_
  rintro mz1 a3 w2 ⟨k, rfl, hrel1, he3, hm2⟩
  clear he2 hm1
  have hrel1a := hrel1.1
  have hrel1b := hrel1.2.1
  refine wp_seq ?_
  refine wp_seqR ?_
  refine wl_val he3 rfl rfl (.int .i64 (((k : Nat) : Int))) (rn_move _ (Or.inl rfl) _ (he3.tmp 3 _ rfl)) (fun a4 he4 => ?_)
  clear he3
  cases hd1 : (decide (((k : Nat) : Int) ≤ 20))
  ·
   have hd1p := of_decide_eq_false hd1
   refine wl_val he4 rfl rfl (.bool false) (rn_bin _ _ _ _ _ rfl .i64 _ _ (he4.tmp 5 _ rfl) rfl (.bool (decide (((k : Nat) : Int) ≤ 20))) _ rfl (congrArg Value.bool (hd1))) (fun a5 he5 => ?_)
   clear he4
   refine wl_end ?_
   refine wp_condF (he := he5) rfl ?_
   refine wp_exit ?_
   refine exit_then ?_
   refine exit_then ?_
   refine exit_here ?_
   refine then_normal ?_
   refine wp_seqR ?_
   refine wl_val he5 rfl rfl (.agg (#[.int .i64 (0), .int .i64 (0), .int .i64 (0), .int .i64 (0), .int .i64 (0), .int .i64 (0)])) (rn_build _ _ rfl #[] (pmap0 _) _ (by kernel_rfl)) (fun a6 he6 => ?_)
   clear he5
   refine wl_store he6 hm2 1 rfl rfl rfl _ _ _ rfl (0) (he6.tmp 2 _ rfl) _ (he6.tmp 26 _ rfl) 6 agg68.size rfl (by kernel_rfl) (by simp) (#[.int .i64 (0), .int .i64 (0), .int .i64 (0), .int .i64 (0), .int .i64 (0), .int .i64 (0)]) (by kernel_rfl) (fun w3 hm3 => ?_)
   clear hm2
   refine wl_end ?_
   refine wp_ret ?_
   exact bodyPost_ret (results_cell he6 hm3 _ _ Tryd.results42 _ rfl 1 rfl 6 agg68 (by first | rfl | assumption)) he6.defers ⟨0, 0, 0, rfl, first_no hrel1.2.2 (by omega), hm3.below⟩
  ·
   have hd1p := of_decide_eq_true hd1
   refine wl_val he4 rfl rfl (.bool true) (rn_bin _ _ _ _ _ rfl .i64 _ _ (he4.tmp 5 _ rfl) rfl (.bool (decide (((k : Nat) : Int) ≤ 20))) _ rfl (congrArg Value.bool (hd1))) (fun a5 he5 => ?_)
   clear he4
   refine wl_end ?_
   refine wp_condT (he := he5) rfl ?_
   refine wp_skip ?_
   refine then_normal ?_
   refine wp_seq ?_
   refine wp_block ?_
   refine wp_seqR ?_
   refine wl_val he5 rfl rfl (.int .i64 (0)) (rn_move _ (Or.inr rfl) _ rfl) (fun a6 he6 => ?_)
   clear he5
   refine wl_end ?_
   refine wp_block ?_
   refine wp_loopN (fun mz az wz => ∃ (q : Nat), mz = 5 - (q) ∧ (q ≤ 5 ∧ (1 ≤ q → 12 ≤ k → k ≤ 15 → ((wordS k).toList == s.toList) = false)) ∧ EV az 27 [] [(0, .string (s)), (2, .pointer (some ⟨b1, 0, none⟩)), (3, .int .i64 (((k : Nat) : Int))), (5, .int .i64 (((k : Nat) : Int))), (6, .bool true), (4, .int .i64 (((q : Nat) : Int)))] ∧ MM [] w wz [(1, ⟨true, b1, 68, #[.int .i64 (0), .int .i64 (0), .int .i64 (0), .int .i64 (0), .int .i64 (0), .int .i64 (0)]⟩)]) ⟨_, 0, rfl, ⟨by omega, fun h => by omega⟩, he6.sub _ ⟨rfl, rfl, rfl, rfl, rfl, rfl, trivial⟩, hm2.sub _ ⟨rfl, trivial⟩⟩ ?_
   rintro mz2 a7 w3 ⟨q, rfl, hrel2, he7, hm3⟩
   clear he6 hm2
   have hrel2a := hrel2.1
   refine wp_seq ?_
   refine wp_seqR ?_
   refine wl_val he7 rfl rfl (.int .i64 (((q : Nat) : Int))) (rn_move _ (Or.inl rfl) _ (he7.tmp 4 _ rfl)) (fun a8 he8 => ?_)
   clear he7
   cases hd2 : (decide (((q : Nat) : Int) ≤ 4))
   ·
    have hd2p := of_decide_eq_false hd2
    refine wl_val he8 rfl rfl (.bool false) (rn_bin _ _ _ _ _ rfl .i64 _ _ (he8.tmp 9 _ rfl) rfl (.bool (decide (((q : Nat) : Int) ≤ 4))) _ rfl (congrArg Value.bool (hd2))) (fun a9 he9 => ?_)
    clear he8
    refine wl_end ?_
    refine wp_condF (he := he9) rfl ?_
    refine wp_exit ?_
    refine exit_then ?_
    refine exit_then ?_
    refine exit_here ?_
    refine in_normal ?_
    refine then_normal ?_
    refine wp_region_lit ?_
    refine wl_val he9 rfl rfl (.int .i64 (((k : Nat) : Int))) (rn_move _ (Or.inl rfl) _ (he9.tmp 3 _ rfl)) (fun a10 he10 => ?_)
    clear he9
    refine wl_val he10 rfl rfl (.int .i64 (((k + 1 : Nat) : Int))) (rn_bin _ _ _ _ _ rfl .i64 _ _ (he10.tmp 7 _ rfl) rfl (.int .i64 (IntKind.wrap .i64 (((k : Nat) : Int) + 1))) _ rfl (addN (i := k) (c := 1) (by omega))) (fun a11 he11 => ?_)
    clear he10
    refine wl_val he11 rfl rfl (.int .i64 (((k + 1 : Nat) : Int))) (rn_move _ (Or.inr rfl) _ (he11.tmp 8 _ rfl)) (fun a12 he12 => ?_)
    clear he11
    refine wpList_nil ?_
    exact ⟨21 - (k + 1), by omega, k + 1, rfl, ⟨by omega, by omega, fun j h1 h2 h3 => by rcases Nat.lt_or_ge j k with hh | hh; exact hrel1.2.2 j h1 h2 hh; obtain rfl : j = k := (by omega); exact hrel2.2 (by omega) h1 h2⟩, he12.sub _ ⟨rfl, rfl, rfl, trivial⟩, hm3.sub _ ⟨rfl, trivial⟩⟩
   ·
    have hd2p := of_decide_eq_true hd2
    refine wl_val he8 rfl rfl (.bool true) (rn_bin _ _ _ _ _ rfl .i64 _ _ (he8.tmp 9 _ rfl) rfl (.bool (decide (((q : Nat) : Int) ≤ 4))) _ rfl (congrArg Value.bool (hd2))) (fun a9 he9 => ?_)
    clear he8
    refine wl_end ?_
    refine wp_condT (he := he9) rfl ?_
    refine wp_skip ?_
    refine then_normal ?_
    refine wp_seq ?_
    refine wp_block ?_
    refine wp_seqR ?_
    refine wl_val he9 rfl rfl (.int .i64 (((k : Nat) : Int))) (rn_move _ (Or.inl rfl) _ (he9.tmp 3 _ rfl)) (fun a10 he10 => ?_)
    clear he9
    refine wl_val he10 rfl rfl (.int .i64 (((q : Nat) : Int))) (rn_move _ (Or.inl rfl) _ (he10.tmp 4 _ rfl)) (fun a11 he11 => ?_)
    clear he10
    cases hd3 : (fitN k q)
    ·
     refine wl_call he11 hm3 rfl rfl _ #[.int .i64 (((k : Nat) : Int)), .int .i64 (((q : Nat) : Int))] (enter_call _ _ _ rfl 56 #[] #[] rfl #[.int .i64 (((k : Nat) : Int)), .int .i64 (((q : Nat) : Int))] (map2 (he11.tmp 13 _ rfl) (he11.tmp 14 _ rfl)) #[.int .i64 (((k : Nat) : Int)), .int .i64 (((q : Nat) : Int))] rfl (fun _ _ => by kernel_rfl)) (.bool false) (callsV (congrArg Value.bool (hd3)) (c_fit k q _)) (fun a12 w4 he12 hm4 => ?_)
     clear he11 hm3
     refine wl_val he12 rfl rfl (.bool false) (rn_move _ (Or.inl rfl) _ (he12.tmp 15 _ rfl)) (fun a13 he13 => ?_)
     clear he12
     refine wl_not he13 rfl (wanted_slot he13 3 true rfl 16 rfl false rfl false rfl) (fun a14 he14 => ?_)
     clear he13
     refine wl_not he14 rfl (wanted_slot he14 3 true rfl 16 rfl false rfl false rfl) (fun a15 he15 => ?_)
     clear he14
     refine wl_not he15 rfl (wanted_slot he15 3 true rfl 16 rfl false rfl false rfl) (fun a16 he16 => ?_)
     clear he15
     refine wl_not he16 rfl (wanted_slot he16 3 true rfl 16 rfl false rfl false rfl) (fun a17 he17 => ?_)
     clear he16
     refine wl_not he17 rfl (wanted_slot he17 3 true rfl 16 rfl false rfl false rfl) (fun a18 he18 => ?_)
     clear he17
     refine wl_val he18 rfl rfl (.bool false) (rn_pickF _ _ _ rfl (he18.tmp 16 _ rfl) _ rfl) (fun a19 he19 => ?_)
     clear he18
     refine wl_end ?_
     refine wp_condF (he := he19) rfl ?_
     refine wp_skip ?_
     refine in_normal ?_
     refine then_normal ?_
     refine wp_region_lit ?_
     refine wl_val he19 rfl rfl (.int .i64 (((q : Nat) : Int))) (rn_move _ (Or.inl rfl) _ (he19.tmp 4 _ rfl)) (fun a20 he20 => ?_)
     clear he19
     refine wl_val he20 rfl rfl (.int .i64 (((q + 1 : Nat) : Int))) (rn_bin _ _ _ _ _ rfl .i64 _ _ (he20.tmp 11 _ rfl) rfl (.int .i64 (IntKind.wrap .i64 (((q : Nat) : Int) + 1))) _ rfl (addN (i := q) (c := 1) (by omega))) (fun a21 he21 => ?_)
     clear he20
     refine wl_val he21 rfl rfl (.int .i64 (((q + 1 : Nat) : Int))) (rn_move _ (Or.inr rfl) _ (he21.tmp 12 _ rfl)) (fun a22 he22 => ?_)
     clear he21
     refine wpList_nil ?_
     exact ⟨5 - (q + 1), by omega, q + 1, rfl, ⟨by omega, next_no (by first | exact .inl (by assumption) | exact .inr (by assumption)) hrel2.2⟩, he22.sub _ ⟨rfl, rfl, rfl, rfl, rfl, rfl, trivial⟩, hm4.sub _ ⟨rfl, trivial⟩⟩
    ·
     refine wl_call he11 hm3 rfl rfl _ #[.int .i64 (((k : Nat) : Int)), .int .i64 (((q : Nat) : Int))] (enter_call _ _ _ rfl 56 #[] #[] rfl #[.int .i64 (((k : Nat) : Int)), .int .i64 (((q : Nat) : Int))] (map2 (he11.tmp 13 _ rfl) (he11.tmp 14 _ rfl)) #[.int .i64 (((k : Nat) : Int)), .int .i64 (((q : Nat) : Int))] rfl (fun _ _ => by kernel_rfl)) (.bool true) (callsV (congrArg Value.bool (hd3)) (c_fit k q _)) (fun a12 w4 he12 hm4 => ?_)
     clear he11 hm3
     refine wl_val he12 rfl rfl (.bool true) (rn_move _ (Or.inl rfl) _ (he12.tmp 15 _ rfl)) (fun a13 he13 => ?_)
     clear he12
     refine wl_val he13 rfl (wanted_slot he13 3 true rfl 16 rfl true rfl true rfl) (.int .i64 (((k : Nat) : Int))) (rn_move _ (Or.inl rfl) _ (he13.tmp 3 _ rfl)) (fun a14 he14 => ?_)
     clear he13
     refine wl_val he14 rfl (wanted_slot he14 3 true rfl 16 rfl true rfl true rfl) (.int .i64 (((q : Nat) : Int))) (rn_move _ (Or.inl rfl) _ (he14.tmp 4 _ rfl)) (fun a15 he15 => ?_)
     clear he14
     refine wl_call he15 hm4 rfl (wanted_slot he15 3 true rfl 16 rfl true rfl true rfl) _ #[.int .i64 (((k : Nat) : Int)), .int .i64 (((q : Nat) : Int))] (enter_call _ _ _ rfl 57 #[] #[] rfl #[.int .i64 (((k : Nat) : Int)), .int .i64 (((q : Nat) : Int))] (map2 (he15.tmp 17 _ rfl) (he15.tmp 18 _ rfl)) #[.int .i64 (((k : Nat) : Int)), .int .i64 (((q : Nat) : Int))] rfl (fun _ _ => by kernel_rfl)) (.string (firstN k q)) (c_first k q _ (hT.kb hm4.keep rfl) (by omega) (by omega)) (fun a16 w5 he16 hm5 => ?_)
     clear he15 hm4
     refine wl_val he16 rfl (wanted_slot he16 3 true rfl 16 rfl true rfl true rfl) (.string (s)) (rn_move _ (Or.inl rfl) _ (he16.tmp 0 _ rfl)) (fun a17 he17 => ?_)
     clear he16
     cases hd4 : (((firstN k q).toList == (s).toList))
     ·
      have hd4p : (firstN k q).toList ≠ (s).toList := by simpa using hd4
      refine wl_val he17 rfl (wanted_slot he17 3 true rfl 16 rfl true rfl true rfl) (.bool false) (rn_seq _ (by simp) _ _ _ _ rfl _ _ (he17.tmp 19 _ rfl) (he17.tmp 20 _ rfl) _ (by first | (simp [hd4]; done) | rw [if_pos rfl, hd4] | rw [if_neg (by decide), hd4])) (fun a18 he18 => ?_)
      clear he17
      refine wl_val he18 rfl rfl (.bool false) (rn_pickT _ _ _ rfl (he18.tmp 16 _ rfl) _ (he18.tmp 21 _ rfl)) (fun a19 he19 => ?_)
      clear he18
      refine wl_end ?_
      refine wp_condF (he := he19) rfl ?_
      refine wp_skip ?_
      refine in_normal ?_
      refine then_normal ?_
      refine wp_region_lit ?_
      refine wl_val he19 rfl rfl (.int .i64 (((q : Nat) : Int))) (rn_move _ (Or.inl rfl) _ (he19.tmp 4 _ rfl)) (fun a20 he20 => ?_)
      clear he19
      refine wl_val he20 rfl rfl (.int .i64 (((q + 1 : Nat) : Int))) (rn_bin _ _ _ _ _ rfl .i64 _ _ (he20.tmp 11 _ rfl) rfl (.int .i64 (IntKind.wrap .i64 (((q : Nat) : Int) + 1))) _ rfl (addN (i := q) (c := 1) (by omega))) (fun a21 he21 => ?_)
      clear he20
      refine wl_val he21 rfl rfl (.int .i64 (((q + 1 : Nat) : Int))) (rn_move _ (Or.inr rfl) _ (he21.tmp 12 _ rfl)) (fun a22 he22 => ?_)
      clear he21
      refine wpList_nil ?_
      exact ⟨5 - (q + 1), by omega, q + 1, rfl, ⟨by omega, next_no (by first | exact .inl (by assumption) | exact .inr (by assumption)) hrel2.2⟩, he22.sub _ ⟨rfl, rfl, rfl, rfl, rfl, rfl, trivial⟩, hm5.sub _ ⟨rfl, trivial⟩⟩
     ·
      have hd4p : (firstN k q).toList = (s).toList := by simpa using hd4
      refine wl_val he17 rfl (wanted_slot he17 3 true rfl 16 rfl true rfl true rfl) (.bool true) (rn_seq _ (by simp) _ _ _ _ rfl _ _ (he17.tmp 19 _ rfl) (he17.tmp 20 _ rfl) _ (by first | (simp [hd4]; done) | rw [if_pos rfl, hd4] | rw [if_neg (by decide), hd4])) (fun a18 he18 => ?_)
      clear he17
      refine wl_val he18 rfl rfl (.bool true) (rn_pickT _ _ _ rfl (he18.tmp 16 _ rfl) _ (he18.tmp 21 _ rfl)) (fun a19 he19 => ?_)
      clear he18
      refine wl_end ?_
      refine wp_condT (he := he19) rfl ?_
      refine wp_seqR ?_
      refine wl_val he19 rfl rfl (.int .i64 (((k : Nat) : Int))) (rn_move _ (Or.inl rfl) _ (he19.tmp 3 _ rfl)) (fun a20 he20 => ?_)
      clear he19
      refine wl_val he20 rfl rfl (.int .i64 (((q : Nat) : Int))) (rn_move _ (Or.inl rfl) _ (he20.tmp 4 _ rfl)) (fun a21 he21 => ?_)
      clear he20
      refine wl_val he21 rfl rfl (.agg (#[.int .i64 (((k : Nat) : Int)), .int .i64 (0), .int .i64 ((-1)), .int .i64 (0), .int .i64 (0), .int .i64 (((q : Nat) : Int))])) (rn_build _ _ rfl #[(0, .int .i64 (((k : Nat) : Int))), (2, .int .i64 ((-1))), (5, .int .i64 (((q : Nat) : Int)))] (pmap3 (he21.tmp 23 _ rfl) rfl (he21.tmp 24 _ rfl)) _ (by kernel_rfl)) (fun a22 he22 => ?_)
      clear he21
      refine wl_store he22 hm5 1 rfl rfl rfl _ _ _ rfl (0) (he22.tmp 2 _ rfl) _ (he22.tmp 25 _ rfl) 6 agg68.size rfl (by kernel_rfl) (by simp) (#[.int .i64 (((k : Nat) : Int)), .int .i64 (0), .int .i64 ((-1)), .int .i64 (0), .int .i64 (0), .int .i64 (((q : Nat) : Int))]) (by kernel_rfl) (fun w6 hm6 => ?_)
      clear hm5
      refine wl_end ?_
      refine wp_ret ?_
      refine ret_in ?_
      refine ret_then ?_
      refine ret_then ?_
      refine ret_in ?_
      refine ret_in ?_
      refine ret_then ?_
      refine ret_then ?_
      refine ret_in ?_
      refine ret_then ?_
      exact bodyPost_ret (results_cell he22 hm6 _ _ Tryd.results42 _ rfl 1 rfl 6 agg68 (by first | rfl | assumption)) he22.defers ⟨((k : Nat) : Int), (-1), ((q : Nat) : Int), rfl, first_at (by assumption) (by omega), hm6.below⟩
set_option maxRecDepth 100000 in
set_option maxHeartbeats 4000000 in
theorem c_verdGet (s : ByteArray) (w : World) (hT : TabsR w) :
    Calls Tryd.prog 41 #[.string (s)] w fun e w' => e = .returned (.tuple #[.int .i64 (verdM s).1, .bool (verdM s).2]) ∧ Below w.heap.size w w' := by
  refine calls_begin Tryd.func41 rfl 16 rfl (Nat.le_of_ble_eq_true rfl) [(0, .string (s))] ⟨rfl, trivial⟩ (fun a0 he0 hm0 => ?_)
  refine wp_seqR ?_
  refine wl_val he0 rfl rfl (.int .i64 (0)) (rn_move _ (Or.inr rfl) _ rfl) (fun a1 he1 => ?_)
  clear he0
  refine wl_val he1 rfl rfl (.bool false) (rn_move _ (Or.inr rfl) _ rfl) (fun a2 he2 => ?_)
  clear he1
  refine wl_end ?_
  refine wp_seq ?_
  refine wp_seqR ?_
  refine wl_val he2 rfl rfl (.agg (#[.string (verbS 0), .string (verbS 1), .string (verbS 2)])) (rn_rowA hm0 (verbs_rowV hT.verbs) (by simp) 0 (by omega) _ _ rfl rfl agg55 (by kernel_rfl)) (fun a3 he3 => ?_)
  clear he2
  refine wl_val he3 rfl rfl (.int .i64 (0)) (rn_move _ (Or.inl rfl) _ rfl) (fun a4 he4 => ?_)
  clear he3
  refine wl_end ?_
  refine wp_block ?_
  refine wp_loop_rounds 4 ?_
  rw [rounds_succ]
  refine wp_seqR ?_
  refine wl_val he4 rfl rfl (.bool true) (rn_bin _ _ _ _ _ rfl .i64 _ _ (he4.tmp 7 _ rfl) rfl (.bool (decide (0 < 3))) _ rfl (congrArg Value.bool (rfl))) (fun a5 he5 => ?_)
  clear he4
  refine wl_end ?_
  refine wp_seq ?_
  refine wp_condT (he := he5) rfl ?_
  refine wp_skip ?_
  refine then_normal ?_
  refine wp_seq ?_
  refine wp_block ?_
  refine wp_seqR ?_
  refine wl_val he5 rfl rfl (.int .i64 (0)) (rn_move _ (Or.inl rfl) _ (he5.tmp 7 _ rfl)) (fun a6 he6 => ?_)
  clear he5
  refine wl_val he6 rfl rfl (.string (verbS 0)) (rn_index _ _ _ rfl _ _ (.string (verbS 0)) (he6.tmp 6 _ rfl) (he6.tmp 7 _ rfl) (by kernel_rfl)) (fun a7 he7 => ?_)
  clear he6
  refine wl_val he7 rfl rfl (.int .i64 (0)) (rn_move _ (Or.inr rfl) _ (he7.tmp 9 _ rfl)) (fun a8 he8 => ?_)
  clear he7
  refine wl_val he8 rfl rfl (.string (verbS 0)) (rn_move _ (Or.inr rfl) _ (he8.tmp 10 _ rfl)) (fun a9 he9 => ?_)
  clear he8
  refine wl_end ?_
  refine wp_seqR ?_
  refine wl_val he9 rfl rfl (.string (verbS 0)) (rn_move _ (Or.inl rfl) _ (he9.tmp 5 _ rfl)) (fun a10 he10 => ?_)
  clear he9
  refine wl_val he10 rfl rfl (.string (s)) (rn_move _ (Or.inl rfl) _ (he10.tmp 0 _ rfl)) (fun a11 he11 => ?_)
  clear he10
  cases hd1 : (((verbS 0).toList == (s).toList))
  ·
   have hd1p : (verbS 0).toList ≠ (s).toList := by simpa using hd1
   refine wl_val he11 rfl rfl (.bool false) (rn_seq _ (by simp) _ _ _ _ rfl _ _ (he11.tmp 11 _ rfl) (he11.tmp 12 _ rfl) _ (by first | (simp [hd1]; done) | rw [if_pos rfl, hd1] | rw [if_neg (by decide), hd1])) (fun a12 he12 => ?_)
   clear he11
   refine wl_end ?_
   refine wp_condF (he := he12) rfl ?_
   refine wp_skip ?_
   refine in_normal ?_
   refine then_normal ?_
   refine wp_region_lit ?_
   refine wl_val he12 rfl rfl (.int .i64 (1)) (rn_bin _ _ _ _ _ rfl .i64 _ _ (he12.tmp 7 _ rfl) rfl (.int .i64 (IntKind.wrap .i64 (0 + 1))) _ rfl (by kernel_rfl)) (fun a13 he13 => ?_)
   clear he12
   refine wl_val he13 rfl rfl (.int .i64 (1)) (rn_move _ (Or.inl rfl) _ (he13.tmp 15 _ rfl)) (fun a14 he14 => ?_)
   clear he13
   refine wpList_nil ?_
   refine rounds_normal ?_
   rw [rounds_succ]
   refine wp_seqR ?_
   refine wl_val he14 rfl rfl (.bool true) (rn_bin _ _ _ _ _ rfl .i64 _ _ (he14.tmp 7 _ rfl) rfl (.bool (decide (1 < 3))) _ rfl (congrArg Value.bool (rfl))) (fun a15 he15 => ?_)
   clear he14
   refine wl_end ?_
   refine wp_seq ?_
   refine wp_condT (he := he15) rfl ?_
   refine wp_skip ?_
   refine then_normal ?_
   refine wp_seq ?_
   refine wp_block ?_
   refine wp_seqR ?_
   refine wl_val he15 rfl rfl (.int .i64 (1)) (rn_move _ (Or.inl rfl) _ (he15.tmp 7 _ rfl)) (fun a16 he16 => ?_)
   clear he15
   refine wl_val he16 rfl rfl (.string (verbS 1)) (rn_index _ _ _ rfl _ _ (.string (verbS 1)) (he16.tmp 6 _ rfl) (he16.tmp 7 _ rfl) (by kernel_rfl)) (fun a17 he17 => ?_)
   clear he16
   refine wl_val he17 rfl rfl (.int .i64 (1)) (rn_move _ (Or.inr rfl) _ (he17.tmp 9 _ rfl)) (fun a18 he18 => ?_)
   clear he17
   refine wl_val he18 rfl rfl (.string (verbS 1)) (rn_move _ (Or.inr rfl) _ (he18.tmp 10 _ rfl)) (fun a19 he19 => ?_)
   clear he18
   refine wl_end ?_
   refine wp_seqR ?_
   refine wl_val he19 rfl rfl (.string (verbS 1)) (rn_move _ (Or.inl rfl) _ (he19.tmp 5 _ rfl)) (fun a20 he20 => ?_)
   clear he19
   refine wl_val he20 rfl rfl (.string (s)) (rn_move _ (Or.inl rfl) _ (he20.tmp 0 _ rfl)) (fun a21 he21 => ?_)
   clear he20
   cases hd2 : (((verbS 1).toList == (s).toList))
   ·
    have hd2p : (verbS 1).toList ≠ (s).toList := by simpa using hd2
    refine wl_val he21 rfl rfl (.bool false) (rn_seq _ (by simp) _ _ _ _ rfl _ _ (he21.tmp 11 _ rfl) (he21.tmp 12 _ rfl) _ (by first | (simp [hd2]; done) | rw [if_pos rfl, hd2] | rw [if_neg (by decide), hd2])) (fun a22 he22 => ?_)
    clear he21
    refine wl_end ?_
    refine wp_condF (he := he22) rfl ?_
    refine wp_skip ?_
    refine in_normal ?_
    refine then_normal ?_
    refine wp_region_lit ?_
    refine wl_val he22 rfl rfl (.int .i64 (2)) (rn_bin _ _ _ _ _ rfl .i64 _ _ (he22.tmp 7 _ rfl) rfl (.int .i64 (IntKind.wrap .i64 (1 + 1))) _ rfl (by kernel_rfl)) (fun a23 he23 => ?_)
    clear he22
    refine wl_val he23 rfl rfl (.int .i64 (2)) (rn_move _ (Or.inl rfl) _ (he23.tmp 15 _ rfl)) (fun a24 he24 => ?_)
    clear he23
    refine wpList_nil ?_
    refine rounds_normal ?_
    rw [rounds_succ]
    refine wp_seqR ?_
    refine wl_val he24 rfl rfl (.bool true) (rn_bin _ _ _ _ _ rfl .i64 _ _ (he24.tmp 7 _ rfl) rfl (.bool (decide (2 < 3))) _ rfl (congrArg Value.bool (rfl))) (fun a25 he25 => ?_)
    clear he24
    refine wl_end ?_
    refine wp_seq ?_
    refine wp_condT (he := he25) rfl ?_
    refine wp_skip ?_
    refine then_normal ?_
    refine wp_seq ?_
    refine wp_block ?_
    refine wp_seqR ?_
    refine wl_val he25 rfl rfl (.int .i64 (2)) (rn_move _ (Or.inl rfl) _ (he25.tmp 7 _ rfl)) (fun a26 he26 => ?_)
    clear he25
    refine wl_val he26 rfl rfl (.string (verbS 2)) (rn_index _ _ _ rfl _ _ (.string (verbS 2)) (he26.tmp 6 _ rfl) (he26.tmp 7 _ rfl) (by kernel_rfl)) (fun a27 he27 => ?_)
    clear he26
    refine wl_val he27 rfl rfl (.int .i64 (2)) (rn_move _ (Or.inr rfl) _ (he27.tmp 9 _ rfl)) (fun a28 he28 => ?_)
    clear he27
    refine wl_val he28 rfl rfl (.string (verbS 2)) (rn_move _ (Or.inr rfl) _ (he28.tmp 10 _ rfl)) (fun a29 he29 => ?_)
    clear he28
    refine wl_end ?_
    refine wp_seqR ?_
    refine wl_val he29 rfl rfl (.string (verbS 2)) (rn_move _ (Or.inl rfl) _ (he29.tmp 5 _ rfl)) (fun a30 he30 => ?_)
    clear he29
    refine wl_val he30 rfl rfl (.string (s)) (rn_move _ (Or.inl rfl) _ (he30.tmp 0 _ rfl)) (fun a31 he31 => ?_)
    clear he30
    cases hd3 : (((verbS 2).toList == (s).toList))
    ·
     have hd3p : (verbS 2).toList ≠ (s).toList := by simpa using hd3
     refine wl_val he31 rfl rfl (.bool false) (rn_seq _ (by simp) _ _ _ _ rfl _ _ (he31.tmp 11 _ rfl) (he31.tmp 12 _ rfl) _ (by first | (simp [hd3]; done) | rw [if_pos rfl, hd3] | rw [if_neg (by decide), hd3])) (fun a32 he32 => ?_)
     clear he31
     refine wl_end ?_
     refine wp_condF (he := he32) rfl ?_
     refine wp_skip ?_
     refine in_normal ?_
     refine then_normal ?_
     refine wp_region_lit ?_
     refine wl_val he32 rfl rfl (.int .i64 (3)) (rn_bin _ _ _ _ _ rfl .i64 _ _ (he32.tmp 7 _ rfl) rfl (.int .i64 (IntKind.wrap .i64 (2 + 1))) _ rfl (by kernel_rfl)) (fun a33 he33 => ?_)
     clear he32
     refine wl_val he33 rfl rfl (.int .i64 (3)) (rn_move _ (Or.inl rfl) _ (he33.tmp 15 _ rfl)) (fun a34 he34 => ?_)
     clear he33
     refine wpList_nil ?_
     refine rounds_normal ?_
     rw [rounds_succ]
     refine wp_seqR ?_
     refine wl_val he34 rfl rfl (.bool false) (rn_bin _ _ _ _ _ rfl .i64 _ _ (he34.tmp 7 _ rfl) rfl (.bool (decide (3 < 3))) _ rfl (congrArg Value.bool (rfl))) (fun a35 he35 => ?_)
     clear he34
     refine wl_end ?_
     refine wp_seq ?_
     refine wp_condF (he := he35) rfl ?_
     refine wp_exit ?_
     refine exit_then ?_
     refine exit_then ?_
     refine exit_here ?_
     refine then_normal ?_
     refine wp_seqR ?_
     refine wl_val he35 rfl rfl (.int .i64 (0)) (rn_move _ (Or.inr rfl) _ rfl) (fun a36 he36 => ?_)
     clear he35
     refine wl_val he36 rfl rfl (.bool false) (rn_move _ (Or.inr rfl) _ rfl) (fun a37 he37 => ?_)
     clear he36
     refine wl_end ?_
     refine wp_ret ?_
     exact bodyPost_ret (results_tmp2 he37 _ _ Tryd.results41 _ _ rfl rfl) he37.defers ⟨(by simp only [verdM, hd1, hd2, hd3]; rfl), hm0.below⟩
    ·
     have hd3p : (verbS 2).toList = (s).toList := by simpa using hd3
     refine wl_val he31 rfl rfl (.bool true) (rn_seq _ (by simp) _ _ _ _ rfl _ _ (he31.tmp 11 _ rfl) (he31.tmp 12 _ rfl) _ (by first | (simp [hd3]; done) | rw [if_pos rfl, hd3] | rw [if_neg (by decide), hd3])) (fun a32 he32 => ?_)
     clear he31
     refine wl_end ?_
     refine wp_condT (he := he32) rfl ?_
     refine wp_seqR ?_
     refine wl_val he32 rfl rfl (.int .i64 (2)) (rn_move _ (Or.inl rfl) _ (he32.tmp 4 _ rfl)) (fun a33 he33 => ?_)
     clear he32
     refine wl_val he33 rfl rfl (.int .i64 (2)) (rn_move _ (Or.inr rfl) _ (he33.tmp 14 _ rfl)) (fun a34 he34 => ?_)
     clear he33
     refine wl_val he34 rfl rfl (.bool true) (rn_move _ (Or.inr rfl) _ rfl) (fun a35 he35 => ?_)
     clear he34
     refine wl_end ?_
     refine wp_ret ?_
     refine ret_in ?_
     refine ret_then ?_
     refine ret_then ?_
     refine ret_in ?_
     refine ret_then ?_
     exact bodyPost_ret (results_tmp2 he35 _ _ Tryd.results41 _ _ rfl rfl) he35.defers ⟨(by simp only [verdM, hd1, hd2, hd3]; rfl), hm0.below⟩
   ·
    have hd2p : (verbS 1).toList = (s).toList := by simpa using hd2
    refine wl_val he21 rfl rfl (.bool true) (rn_seq _ (by simp) _ _ _ _ rfl _ _ (he21.tmp 11 _ rfl) (he21.tmp 12 _ rfl) _ (by first | (simp [hd2]; done) | rw [if_pos rfl, hd2] | rw [if_neg (by decide), hd2])) (fun a22 he22 => ?_)
    clear he21
    refine wl_end ?_
    refine wp_condT (he := he22) rfl ?_
    refine wp_seqR ?_
    refine wl_val he22 rfl rfl (.int .i64 (1)) (rn_move _ (Or.inl rfl) _ (he22.tmp 4 _ rfl)) (fun a23 he23 => ?_)
    clear he22
    refine wl_val he23 rfl rfl (.int .i64 (1)) (rn_move _ (Or.inr rfl) _ (he23.tmp 14 _ rfl)) (fun a24 he24 => ?_)
    clear he23
    refine wl_val he24 rfl rfl (.bool true) (rn_move _ (Or.inr rfl) _ rfl) (fun a25 he25 => ?_)
    clear he24
    refine wl_end ?_
    refine wp_ret ?_
    refine ret_in ?_
    refine ret_then ?_
    refine ret_then ?_
    refine ret_in ?_
    refine ret_then ?_
    exact bodyPost_ret (results_tmp2 he25 _ _ Tryd.results41 _ _ rfl rfl) he25.defers ⟨(by simp only [verdM, hd1, hd2]; rfl), hm0.below⟩
  ·
   have hd1p : (verbS 0).toList = (s).toList := by simpa using hd1
   refine wl_val he11 rfl rfl (.bool true) (rn_seq _ (by simp) _ _ _ _ rfl _ _ (he11.tmp 11 _ rfl) (he11.tmp 12 _ rfl) _ (by first | (simp [hd1]; done) | rw [if_pos rfl, hd1] | rw [if_neg (by decide), hd1])) (fun a12 he12 => ?_)
   clear he11
   refine wl_end ?_
   refine wp_condT (he := he12) rfl ?_
   refine wp_seqR ?_
   refine wl_val he12 rfl rfl (.int .i64 (0)) (rn_move _ (Or.inl rfl) _ (he12.tmp 4 _ rfl)) (fun a13 he13 => ?_)
   clear he12
   refine wl_val he13 rfl rfl (.int .i64 (0)) (rn_move _ (Or.inr rfl) _ (he13.tmp 14 _ rfl)) (fun a14 he14 => ?_)
   clear he13
   refine wl_val he14 rfl rfl (.bool true) (rn_move _ (Or.inr rfl) _ rfl) (fun a15 he15 => ?_)
   clear he14
   refine wl_end ?_
   refine wp_ret ?_
   refine ret_in ?_
   refine ret_then ?_
   refine ret_then ?_
   refine ret_in ?_
   refine ret_then ?_
   exact bodyPost_ret (results_tmp2 he15 _ _ Tryd.results41 _ _ rfl rfl) he15.defers ⟨(by simp only [verdM, hd1]; rfl), hm0.below⟩
end Go.Proofs.YtkaekiodjjhjkaaDoor
