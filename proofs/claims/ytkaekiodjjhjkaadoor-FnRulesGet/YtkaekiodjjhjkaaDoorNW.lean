/- A rule read by the program. -/
import Derived.Test.YtkaekiodjjhjkaaDoorNV
namespace Go.Proofs.YtkaekiodjjhjkaaDoor
open Go.RowKit
set_option linter.unusedVariables false
set_option linter.unusedSimpArgs false
theorem dig_range : ∀ n : Nat, ∀ b ∈ Lib.decDigits n, 48 ≤ b.toNat ∧ b.toNat ≤ 57 := by
  intro n
  induction n using Nat.strongRecOn with
  | ind n ih =>
    intro b hb
    rw [Lib.decDigits] at hb
    split at hb
    · rename_i h
      simp at hb
      subst hb
      simp [UInt8.toNat_ofNat']
      omega
    · rename_i h
      rcases List.mem_append.1 hb with hb | hb
      · exact ih _ (by omega) b hb
      · simp only [List.mem_singleton] at hb
        subst hb
        rw [UInt8.toNat_ofNat']
        omega
theorem dig_ne (n : Nat) : Lib.decDigits n ≠ [] := by
  rw [Lib.decDigits]
  split <;> simp
theorem par_dec : ∀ n : Nat, n ≤ 1000000000000000000 → ∀ r, Lib.parseUint10 0 (Lib.decDigits n ++ r) = Lib.parseUint10 n r := by
  intro n
  induction n using Nat.strongRecOn with
  | ind n ih =>
    intro hn r
    rw [Lib.decDigits]
    split
    · rename_i h
      have e : (UInt8.ofNat (48 + n)).toNat = 48 + n := by rw [UInt8.toNat_ofNat']; omega
      show Lib.parseUint10 0 (UInt8.ofNat (48 + n) :: r) = _
      rw [Lib.parseUint10, e, if_pos (by omega), if_neg (by omega), if_neg (by omega)]
      congr 1
      omega
    · rename_i h
      rw [List.append_assoc, ih (n / 10) (by omega) (by omega)]
      have e : (UInt8.ofNat (48 + n % 10)).toNat = 48 + n % 10 := by rw [UInt8.toNat_ofNat']; omega
      show Lib.parseUint10 (n / 10) (UInt8.ofNat (48 + n % 10) :: r) = _
      rw [Lib.parseUint10, e, if_pos (by omega), if_neg (by omega), if_neg (by omega)]
      congr 1
      omega
theorem decS_list (n : Nat) : (decS n).data.toList = Lib.decDigits n := by rw [decDigits_eq]
theorem mag_dec (n : Nat) (hn : n ≤ 1000000000000000000) : Lib.parseMag (Lib.decDigits n) = .ok n := by
  unfold Lib.parseMag
  rw [if_neg (dig_ne n)]
  have := par_dec n hn []
  rw [List.append_nil] at this
  rw [this]
  rfl

theorem atoi_decS (n : Nat) (h1 : n ≤ 4294967295) : atoiP (decS n) = ((n : Int), true) := by
  unfold atoiP
  have e : Lib.atoiAll (decS n).data.toList = .ok (n : Int) := by
    rw [decS_list]
    have hr := dig_range n
    have hm := mag_dec n (by omega)
    cases hl : Lib.decDigits n with
    | nil => exact absurd hl (dig_ne _)
    | cons c r =>
      rw [hl] at hr hm
      have hc := hr c (by simp)
      unfold Lib.atoiAll
      simp only []
      rw [if_neg (by omega), hm]
      simp only []
      rw [if_neg (by omega), if_neg (by omega), if_neg (by omega)]
  rw [e]
theorem c_num (s : ByteArray) (hs : s.size ≤ 281474976710656) (w : World) (hT : TabsRG w) (b : Bool) (hb : (atoiP s).2 = b) : Calls Tryd.prog 40 #[.string s] w fun e w' => e = .returned (.tuple #[.int .i64 (atoiP s).1, .bool b]) ∧ Below w.heap.size w w' := by
  subst hb
  refine (num_w s hs w hT).mono ?_
  rintro e w' ⟨⟨a, q, h1, h2, rfl⟩, hb⟩
  exact ⟨by rw [h1.out, h2.out], hb⟩
theorem c_verdB (s : ByteArray) (w : World) (hT : TabsR w) (b : Bool) (hb : (verdM s).2 = b) : Calls Tryd.prog 41 #[.string s] w fun e w' => e = .returned (.tuple #[.int .i64 (verdM s).1, .bool b]) ∧ Below w.heap.size w w' := by
  subst hb
  exact c_verdGet s w hT
theorem bx_alloc (w : World) (A : Array Value) (T : TypeId) : BX (w.alloc (.cells A T)) w.heap.size T A := by
  unfold BX World.alloc; simp
theorem c_gen (S : ByteArray) (w : World) (hsz : S.size ≤ 1048576) : Calls Tryd.prog 54 #[.string S, .string ⟨#[32]⟩, .int .i64 0, .int .i64 (-1)] w fun e w' => NewRow w (fun (x : List ByteArray) b => .slice (some ⟨b, 0, none⟩) x.length x.length) 9 (fun x => (x.map Value.string).toArray) (fun x => x = cutL S) e w' := by
  refine (genS S w hsz).mono ?_
  rintro e w' ⟨rfl, rfl⟩
  exact ⟨cutL S, w.heap.size, rfl, bx_alloc _ _ _, rfl, Nat.le_refl _, Below.alloc (Below.refl _ _) (Nat.le_refl _) _⟩
theorem cut_get {L : List ByteArray} {j : Nat} (h : j < L.length) : ((L.map Value.string).toArray)[j]? = some (.string (L.getD j ⟨#[]⟩)) := by
  rw [List.getElem?_toArray, List.getElem?_map, List.getD_eq_getElem?_getD, List.getElem?_eq_getElem h]; rfl
theorem cut_size {L : List ByteArray} {S : ByteArray} (h : L = cutL S) (hs : S.size ≤ 1048576) (j : Nat) : (L.getD j ⟨#[]⟩).size ≤ 281474976710656 := by
  subst h
  rw [List.getD_eq_getElem?_getD]
  cases e : (cutL S)[j]? with
  | none => show (⟨#[]⟩ : ByteArray).size ≤ _; decide
  | some y =>
    have := cutL_size (List.mem_of_getElem? e)
    rw [Option.getD_some]; omega
/-- What the words of a rule's line read as. -/
structure RuleW (x : List ByteArray) (o : Int) (p : Ru) : Prop where
  a1 : atoiP (x.getD 1 ⟨#[]⟩) = (p.at_, true)
  a3 : atoiP (x.getD 3 ⟨#[]⟩) = (p.num, true)
  a4 : verdM (x.getD 4 ⟨#[]⟩) = (p.ver, true)
  op : o = p.op
  al : 5 ≤ x.length
  k2 : p.ver = 2 → x.length = 6 ∧ atoiP (x.getD 5 ⟨#[]⟩) = (p.key, true)
  k0 : ¬ p.ver = 2 → p.key = 0
theorem verd_is : ∀ v, v < 3 → verdM (verbS v) = ((v : Int), true) := by decide +kernel
theorem rule_of {s : ByteArray} {x : List ByteArray} {o : Int} {p : Ru} (hx : x = cutL s) (hp : ruOk p = true) (e : s = bodyRu p) (hO : FirstR (x.getD 2 ⟨#[]⟩) o) : RuleW x o p := by
  have h := ruOk_is hp
  have g1 := h.at0; have g2 := h.at1; have g3 := h.op0; have g4 := h.op1; have g5 := h.num0; have g6 := h.num1; have g7 := h.ver0; have g8 := h.ver1; have g9 := h.key0; have g10 := h.key1; have g11 := h.none
  rw [e, cutL_body hp] at hx
  subst hx
  have w1 : (wordsOf p).getD 1 ⟨#[]⟩ = decS p.at_.toNat := rfl
  have w2 : (wordsOf p).getD 2 ⟨#[]⟩ = wordS p.op.toNat := rfl
  have w3 : (wordsOf p).getD 3 ⟨#[]⟩ = decS p.num.toNat := rfl
  have w4 : (wordsOf p).getD 4 ⟨#[]⟩ = verbS p.ver.toNat := rfl
  rw [w2] at hO
  refine ⟨?_, ?_, ?_, ?_, ?_, ?_, ?_⟩
  · rw [w1, atoi_decS _ (by omega), Int.toNat_of_nonneg (by omega)]
  · rw [w3, atoi_decS _ (by omega), Int.toNat_of_nonneg (by omega)]
  · rw [w4, verd_is _ (by omega), Int.toNat_of_nonneg (by omega)]
  · have := hO p.op.toNat (by omega) (by omega) rfl; omega
  · unfold wordsOf; simp
  · intro h2
    have w5 : wordsOf p = [⟨#[98, 121, 116, 101]⟩, decS p.at_.toNat, wordS p.op.toNat, decS p.num.toNat, verbS p.ver.toNat, decS p.key.toNat] := by unfold wordsOf; rw [if_pos h2]; rfl
    rw [w5]
    refine ⟨rfl, ?_⟩
    show atoiP (decS p.key.toNat) = _
    rw [atoi_decS _ (by omega), Int.toNat_of_nonneg (by omega)]
  · intro h2; omega
/-- What a line that is a rule's must be read as. -/
def RuleR (s : ByteArray) (r : Ru) (q : Bool) : Prop := ∀ p : Ru, ruOk p = true → s = bodyRu p → r = p ∧ q = true
theorem ru_ext {r p : Ru} (h1 : r.at_ = p.at_) (h2 : r.op = p.op) (h3 : r.num = p.num) (h4 : r.ver = p.ver) (h5 : r.key = p.key) : r = p := by
  cases r; cases p; simp_all
theorem rule_short {s : ByteArray} {x : List ByteArray} {r : Ru} {q : Bool} (hx : x = cutL s) (h : x.length < 5) : RuleR s r q := by
  intro p hp e
  rw [e, cutL_body hp] at hx
  subst hx
  unfold wordsOf at h; simp at h; omega
def insA (o m z : Int) : Array Value := #[.int .i64 o, .int .i64 0, .int .i64 m, .int .i64 0, .int .i64 0, .int .i64 z]
set_option maxRecDepth 100000 in
set_option maxHeartbeats 4000000 in
theorem c_firstNew (s : ByteArray) (w : World) (hT : TabsR w) :
    Calls Tryd.prog 42 #[.string (s)] w fun e w' => NewRow w (fun (x : Int × Int × Int) b => .agg #[.int .i64 x.1, .int .i64 0, .int .i64 x.2.1, .int .i64 0, .int .i64 0, .int .i64 x.2.2]) 68 (fun x => insA x.1 x.2.1 x.2.2) (fun x => FirstR s x.1) e w' := by
  refine calls_begin Tryd.func42 rfl 27 rfl (Nat.le_of_ble_eq_true rfl) [(0, .string (s))] ⟨rfl, trivial⟩ (fun a0 he0 hm0 => ?_)
  refine wp_seqR ?_
  refine wl_alloc he0 hm0 1 rfl rfl rfl _ rfl (.agg #[.int .i64 0, .int .i64 0, .int .i64 0, .int .i64 0, .int .i64 0, .int .i64 0]) (fun w => by kernel_rfl) (#[.int .i64 (0), .int .i64 (0), .int .i64 (0), .int .i64 (0), .int .i64 (0), .int .i64 (0)]) rfl (fun a1 w1 b1 he1 hm1 => ?_)
  clear he0 hm0
  refine wl_end ?_
  refine wp_seq ?_
  refine wp_seqR ?_
  refine wl_val he1 rfl rfl (.int .i64 (1)) (rn_move _ (Or.inr rfl) _ rfl) (fun a2 he2 => ?_)
  clear he1
  refine wl_end ?_
  refine wp_block ?_
  refine wp_loopN (fun mz az wz => ∃ (k : Nat), mz = 21 - (k) ∧ (1 ≤ k ∧ k ≤ 21 ∧ ∀ j, 12 ≤ j → j ≤ 15 → j < k → ((wordS j).toList == s.toList) = false) ∧ EV az 27 [] [(0, .string (s)), (2, .pointer (some ⟨b1, 0, none⟩)), (3, .int .i64 (((k : Nat) : Int)))] ∧ MM [] w wz [(1, ⟨true, b1, 68, #[.int .i64 (0), .int .i64 (0), .int .i64 (0), .int .i64 (0), .int .i64 (0), .int .i64 (0)]⟩)]) ⟨_, 1, rfl, ⟨by omega, by omega, fun j h1 h2 h3 => by omega⟩, he2.sub _ ⟨rfl, rfl, rfl, trivial⟩, hm1.sub _ ⟨rfl, trivial⟩⟩ ?_
  rintro mz1 a3 w2 ⟨k, rfl, hrel1, he3, hm2⟩
  clear he2 hm1
  have hrel1a := hrel1.1
  have hrel1b := hrel1.2.1
  refine wp_seq ?_
  refine wp_seqR ?_
  refine wl_val he3 rfl rfl (.int .i64 (((k : Nat) : Int))) (rn_move _ (Or.inl rfl) _ (he3.tmp 3 _ rfl)) (fun a4 he4 => ?_)
  clear he3
  cases hd1 : (decide (((k : Nat) : Int) ≤ 20))
  ·
   have hd1p := of_decide_eq_false hd1
   refine wl_val he4 rfl rfl (.bool false) (rn_bin _ _ _ _ _ rfl .i64 _ _ (he4.tmp 5 _ rfl) rfl (.bool (decide (((k : Nat) : Int) ≤ 20))) _ rfl (congrArg Value.bool (hd1))) (fun a5 he5 => ?_)
   clear he4
   refine wl_end ?_
   refine wp_condF (he := he5) rfl ?_
   refine wp_exit ?_
   refine exit_then ?_
   refine exit_then ?_
   refine exit_here ?_
   refine then_normal ?_
   refine wp_seqR ?_
   refine wl_val he5 rfl rfl (.agg (#[.int .i64 (0), .int .i64 (0), .int .i64 (0), .int .i64 (0), .int .i64 (0), .int .i64 (0)])) (rn_build _ _ rfl #[] (pmap0 _) _ (by kernel_rfl)) (fun a6 he6 => ?_)
   clear he5
   refine wl_store he6 hm2 1 rfl rfl rfl _ _ _ rfl (0) (he6.tmp 2 _ rfl) _ (he6.tmp 26 _ rfl) 6 agg68.size rfl (by kernel_rfl) (by simp) (#[.int .i64 (0), .int .i64 (0), .int .i64 (0), .int .i64 (0), .int .i64 (0), .int .i64 (0)]) (by kernel_rfl) (fun w3 hm3 => ?_)
   clear hm2
   refine wl_end ?_
   refine wp_ret ?_
   exact bodyPost_ret (results_cell he6 hm3 _ _ Tryd.results42 _ rfl 1 rfl 6 agg68 (by first | rfl | assumption)) he6.defers ⟨(0, 0, 0), _, rfl, hm3.bx 1 _ _ _ _ rfl, first_no hrel1.2.2 (by omega), (hm3.own 1 _ rfl rfl).resolve_right (by simp), hm3.below⟩
  ·
   have hd1p := of_decide_eq_true hd1
   refine wl_val he4 rfl rfl (.bool true) (rn_bin _ _ _ _ _ rfl .i64 _ _ (he4.tmp 5 _ rfl) rfl (.bool (decide (((k : Nat) : Int) ≤ 20))) _ rfl (congrArg Value.bool (hd1))) (fun a5 he5 => ?_)
   clear he4
   refine wl_end ?_
   refine wp_condT (he := he5) rfl ?_
   refine wp_skip ?_
   refine then_normal ?_
   refine wp_seq ?_
   refine wp_block ?_
   refine wp_seqR ?_
   refine wl_val he5 rfl rfl (.int .i64 (0)) (rn_move _ (Or.inr rfl) _ rfl) (fun a6 he6 => ?_)
   clear he5
   refine wl_end ?_
   refine wp_block ?_
   refine wp_loopN (fun mz az wz => ∃ (q : Nat), mz = 5 - (q) ∧ (q ≤ 5 ∧ (1 ≤ q → 12 ≤ k → k ≤ 15 → ((wordS k).toList == s.toList) = false)) ∧ EV az 27 [] [(0, .string (s)), (2, .pointer (some ⟨b1, 0, none⟩)), (3, .int .i64 (((k : Nat) : Int))), (5, .int .i64 (((k : Nat) : Int))), (6, .bool true), (4, .int .i64 (((q : Nat) : Int)))] ∧ MM [] w wz [(1, ⟨true, b1, 68, #[.int .i64 (0), .int .i64 (0), .int .i64 (0), .int .i64 (0), .int .i64 (0), .int .i64 (0)]⟩)]) ⟨_, 0, rfl, ⟨by omega, fun h => by omega⟩, he6.sub _ ⟨rfl, rfl, rfl, rfl, rfl, rfl, trivial⟩, hm2.sub _ ⟨rfl, trivial⟩⟩ ?_
   rintro mz2 a7 w3 ⟨q, rfl, hrel2, he7, hm3⟩
   clear he6 hm2
   have hrel2a := hrel2.1
   refine wp_seq ?_
   refine wp_seqR ?_
   refine wl_val he7 rfl rfl (.int .i64 (((q : Nat) : Int))) (rn_move _ (Or.inl rfl) _ (he7.tmp 4 _ rfl)) (fun a8 he8 => ?_)
   clear he7
   cases hd2 : (decide (((q : Nat) : Int) ≤ 4))
   ·
    have hd2p := of_decide_eq_false hd2
    refine wl_val he8 rfl rfl (.bool false) (rn_bin _ _ _ _ _ rfl .i64 _ _ (he8.tmp 9 _ rfl) rfl (.bool (decide (((q : Nat) : Int) ≤ 4))) _ rfl (congrArg Value.bool (hd2))) (fun a9 he9 => ?_)
    clear he8
    refine wl_end ?_
    refine wp_condF (he := he9) rfl ?_
    refine wp_exit ?_
    refine exit_then ?_
    refine exit_then ?_
    refine exit_here ?_
    refine in_normal ?_
    refine then_normal ?_
    refine wp_region_lit ?_
    refine wl_val he9 rfl rfl (.int .i64 (((k : Nat) : Int))) (rn_move _ (Or.inl rfl) _ (he9.tmp 3 _ rfl)) (fun a10 he10 => ?_)
    clear he9
    refine wl_val he10 rfl rfl (.int .i64 (((k + 1 : Nat) : Int))) (rn_bin _ _ _ _ _ rfl .i64 _ _ (he10.tmp 7 _ rfl) rfl (.int .i64 (IntKind.wrap .i64 (((k : Nat) : Int) + 1))) _ rfl (addN (i := k) (c := 1) (by omega))) (fun a11 he11 => ?_)
    clear he10
    refine wl_val he11 rfl rfl (.int .i64 (((k + 1 : Nat) : Int))) (rn_move _ (Or.inr rfl) _ (he11.tmp 8 _ rfl)) (fun a12 he12 => ?_)
    clear he11
    refine wpList_nil ?_
    exact ⟨21 - (k + 1), by omega, k + 1, rfl, ⟨by omega, by omega, fun j h1 h2 h3 => by rcases Nat.lt_or_ge j k with hh | hh; exact hrel1.2.2 j h1 h2 hh; obtain rfl : j = k := (by omega); exact hrel2.2 (by omega) h1 h2⟩, he12.sub _ ⟨rfl, rfl, rfl, trivial⟩, hm3.sub _ ⟨rfl, trivial⟩⟩
   ·
    have hd2p := of_decide_eq_true hd2
    refine wl_val he8 rfl rfl (.bool true) (rn_bin _ _ _ _ _ rfl .i64 _ _ (he8.tmp 9 _ rfl) rfl (.bool (decide (((q : Nat) : Int) ≤ 4))) _ rfl (congrArg Value.bool (hd2))) (fun a9 he9 => ?_)
    clear he8
    refine wl_end ?_
    refine wp_condT (he := he9) rfl ?_
    refine wp_skip ?_
    refine then_normal ?_
    refine wp_seq ?_
    refine wp_block ?_
    refine wp_seqR ?_
    refine wl_val he9 rfl rfl (.int .i64 (((k : Nat) : Int))) (rn_move _ (Or.inl rfl) _ (he9.tmp 3 _ rfl)) (fun a10 he10 => ?_)
    clear he9
    refine wl_val he10 rfl rfl (.int .i64 (((q : Nat) : Int))) (rn_move _ (Or.inl rfl) _ (he10.tmp 4 _ rfl)) (fun a11 he11 => ?_)
    clear he10
    cases hd3 : (fitN k q)
    ·
     refine wl_call he11 hm3 rfl rfl _ #[.int .i64 (((k : Nat) : Int)), .int .i64 (((q : Nat) : Int))] (enter_call _ _ _ rfl 56 #[] #[] rfl #[.int .i64 (((k : Nat) : Int)), .int .i64 (((q : Nat) : Int))] (map2 (he11.tmp 13 _ rfl) (he11.tmp 14 _ rfl)) #[.int .i64 (((k : Nat) : Int)), .int .i64 (((q : Nat) : Int))] rfl (fun _ _ => by kernel_rfl)) (.bool false) (callsV (congrArg Value.bool (hd3)) (c_fit k q _)) (fun a12 w4 he12 hm4 => ?_)
     clear he11 hm3
     refine wl_val he12 rfl rfl (.bool false) (rn_move _ (Or.inl rfl) _ (he12.tmp 15 _ rfl)) (fun a13 he13 => ?_)
     clear he12
     refine wl_not he13 rfl (wanted_slot he13 3 true rfl 16 rfl false rfl false rfl) (fun a14 he14 => ?_)
     clear he13
     refine wl_not he14 rfl (wanted_slot he14 3 true rfl 16 rfl false rfl false rfl) (fun a15 he15 => ?_)
     clear he14
     refine wl_not he15 rfl (wanted_slot he15 3 true rfl 16 rfl false rfl false rfl) (fun a16 he16 => ?_)
     clear he15
     refine wl_not he16 rfl (wanted_slot he16 3 true rfl 16 rfl false rfl false rfl) (fun a17 he17 => ?_)
     clear he16
     refine wl_not he17 rfl (wanted_slot he17 3 true rfl 16 rfl false rfl false rfl) (fun a18 he18 => ?_)
     clear he17
     refine wl_val he18 rfl rfl (.bool false) (rn_pickF _ _ _ rfl (he18.tmp 16 _ rfl) _ rfl) (fun a19 he19 => ?_)
     clear he18
     refine wl_end ?_
     refine wp_condF (he := he19) rfl ?_
     refine wp_skip ?_
     refine in_normal ?_
     refine then_normal ?_
     refine wp_region_lit ?_
     refine wl_val he19 rfl rfl (.int .i64 (((q : Nat) : Int))) (rn_move _ (Or.inl rfl) _ (he19.tmp 4 _ rfl)) (fun a20 he20 => ?_)
     clear he19
     refine wl_val he20 rfl rfl (.int .i64 (((q + 1 : Nat) : Int))) (rn_bin _ _ _ _ _ rfl .i64 _ _ (he20.tmp 11 _ rfl) rfl (.int .i64 (IntKind.wrap .i64 (((q : Nat) : Int) + 1))) _ rfl (addN (i := q) (c := 1) (by omega))) (fun a21 he21 => ?_)
     clear he20
     refine wl_val he21 rfl rfl (.int .i64 (((q + 1 : Nat) : Int))) (rn_move _ (Or.inr rfl) _ (he21.tmp 12 _ rfl)) (fun a22 he22 => ?_)
     clear he21
     refine wpList_nil ?_
     exact ⟨5 - (q + 1), by omega, q + 1, rfl, ⟨by omega, next_no (by first | exact .inl (by assumption) | exact .inr (by assumption)) hrel2.2⟩, he22.sub _ ⟨rfl, rfl, rfl, rfl, rfl, rfl, trivial⟩, hm4.sub _ ⟨rfl, trivial⟩⟩
    ·
     refine wl_call he11 hm3 rfl rfl _ #[.int .i64 (((k : Nat) : Int)), .int .i64 (((q : Nat) : Int))] (enter_call _ _ _ rfl 56 #[] #[] rfl #[.int .i64 (((k : Nat) : Int)), .int .i64 (((q : Nat) : Int))] (map2 (he11.tmp 13 _ rfl) (he11.tmp 14 _ rfl)) #[.int .i64 (((k : Nat) : Int)), .int .i64 (((q : Nat) : Int))] rfl (fun _ _ => by kernel_rfl)) (.bool true) (callsV (congrArg Value.bool (hd3)) (c_fit k q _)) (fun a12 w4 he12 hm4 => ?_)
     clear he11 hm3
     refine wl_val he12 rfl rfl (.bool true) (rn_move _ (Or.inl rfl) _ (he12.tmp 15 _ rfl)) (fun a13 he13 => ?_)
     clear he12
     refine wl_val he13 rfl (wanted_slot he13 3 true rfl 16 rfl true rfl true rfl) (.int .i64 (((k : Nat) : Int))) (rn_move _ (Or.inl rfl) _ (he13.tmp 3 _ rfl)) (fun a14 he14 => ?_)
     clear he13
     refine wl_val he14 rfl (wanted_slot he14 3 true rfl 16 rfl true rfl true rfl) (.int .i64 (((q : Nat) : Int))) (rn_move _ (Or.inl rfl) _ (he14.tmp 4 _ rfl)) (fun a15 he15 => ?_)
     clear he14
     refine wl_call he15 hm4 rfl (wanted_slot he15 3 true rfl 16 rfl true rfl true rfl) _ #[.int .i64 (((k : Nat) : Int)), .int .i64 (((q : Nat) : Int))] (enter_call _ _ _ rfl 57 #[] #[] rfl #[.int .i64 (((k : Nat) : Int)), .int .i64 (((q : Nat) : Int))] (map2 (he15.tmp 17 _ rfl) (he15.tmp 18 _ rfl)) #[.int .i64 (((k : Nat) : Int)), .int .i64 (((q : Nat) : Int))] rfl (fun _ _ => by kernel_rfl)) (.string (firstN k q)) (c_first k q _ (hT.kb hm4.keep rfl) (by omega) (by omega)) (fun a16 w5 he16 hm5 => ?_)
     clear he15 hm4
     refine wl_val he16 rfl (wanted_slot he16 3 true rfl 16 rfl true rfl true rfl) (.string (s)) (rn_move _ (Or.inl rfl) _ (he16.tmp 0 _ rfl)) (fun a17 he17 => ?_)
     clear he16
     cases hd4 : (((firstN k q).toList == (s).toList))
     ·
      have hd4p : (firstN k q).toList ≠ (s).toList := by simpa using hd4
      refine wl_val he17 rfl (wanted_slot he17 3 true rfl 16 rfl true rfl true rfl) (.bool false) (rn_seq _ (by simp) _ _ _ _ rfl _ _ (he17.tmp 19 _ rfl) (he17.tmp 20 _ rfl) _ (by first | (simp [hd4]; done) | rw [if_pos rfl, hd4] | rw [if_neg (by decide), hd4])) (fun a18 he18 => ?_)
      clear he17
      refine wl_val he18 rfl rfl (.bool false) (rn_pickT _ _ _ rfl (he18.tmp 16 _ rfl) _ (he18.tmp 21 _ rfl)) (fun a19 he19 => ?_)
      clear he18
      refine wl_end ?_
      refine wp_condF (he := he19) rfl ?_
      refine wp_skip ?_
      refine in_normal ?_
      refine then_normal ?_
      refine wp_region_lit ?_
      refine wl_val he19 rfl rfl (.int .i64 (((q : Nat) : Int))) (rn_move _ (Or.inl rfl) _ (he19.tmp 4 _ rfl)) (fun a20 he20 => ?_)
      clear he19
      refine wl_val he20 rfl rfl (.int .i64 (((q + 1 : Nat) : Int))) (rn_bin _ _ _ _ _ rfl .i64 _ _ (he20.tmp 11 _ rfl) rfl (.int .i64 (IntKind.wrap .i64 (((q : Nat) : Int) + 1))) _ rfl (addN (i := q) (c := 1) (by omega))) (fun a21 he21 => ?_)
      clear he20
      refine wl_val he21 rfl rfl (.int .i64 (((q + 1 : Nat) : Int))) (rn_move _ (Or.inr rfl) _ (he21.tmp 12 _ rfl)) (fun a22 he22 => ?_)
      clear he21
      refine wpList_nil ?_
      exact ⟨5 - (q + 1), by omega, q + 1, rfl, ⟨by omega, next_no (by first | exact .inl (by assumption) | exact .inr (by assumption)) hrel2.2⟩, he22.sub _ ⟨rfl, rfl, rfl, rfl, rfl, rfl, trivial⟩, hm5.sub _ ⟨rfl, trivial⟩⟩
     ·
      have hd4p : (firstN k q).toList = (s).toList := by simpa using hd4
      refine wl_val he17 rfl (wanted_slot he17 3 true rfl 16 rfl true rfl true rfl) (.bool true) (rn_seq _ (by simp) _ _ _ _ rfl _ _ (he17.tmp 19 _ rfl) (he17.tmp 20 _ rfl) _ (by first | (simp [hd4]; done) | rw [if_pos rfl, hd4] | rw [if_neg (by decide), hd4])) (fun a18 he18 => ?_)
      clear he17
      refine wl_val he18 rfl rfl (.bool true) (rn_pickT _ _ _ rfl (he18.tmp 16 _ rfl) _ (he18.tmp 21 _ rfl)) (fun a19 he19 => ?_)
      clear he18
      refine wl_end ?_
      refine wp_condT (he := he19) rfl ?_
      refine wp_seqR ?_
      refine wl_val he19 rfl rfl (.int .i64 (((k : Nat) : Int))) (rn_move _ (Or.inl rfl) _ (he19.tmp 3 _ rfl)) (fun a20 he20 => ?_)
      clear he19
      refine wl_val he20 rfl rfl (.int .i64 (((q : Nat) : Int))) (rn_move _ (Or.inl rfl) _ (he20.tmp 4 _ rfl)) (fun a21 he21 => ?_)
      clear he20
      refine wl_val he21 rfl rfl (.agg (#[.int .i64 (((k : Nat) : Int)), .int .i64 (0), .int .i64 ((-1)), .int .i64 (0), .int .i64 (0), .int .i64 (((q : Nat) : Int))])) (rn_build _ _ rfl #[(0, .int .i64 (((k : Nat) : Int))), (2, .int .i64 ((-1))), (5, .int .i64 (((q : Nat) : Int)))] (pmap3 (he21.tmp 23 _ rfl) rfl (he21.tmp 24 _ rfl)) _ (by kernel_rfl)) (fun a22 he22 => ?_)
      clear he21
      refine wl_store he22 hm5 1 rfl rfl rfl _ _ _ rfl (0) (he22.tmp 2 _ rfl) _ (he22.tmp 25 _ rfl) 6 agg68.size rfl (by kernel_rfl) (by simp) (#[.int .i64 (((k : Nat) : Int)), .int .i64 (0), .int .i64 ((-1)), .int .i64 (0), .int .i64 (0), .int .i64 (((q : Nat) : Int))]) (by kernel_rfl) (fun w6 hm6 => ?_)
      clear hm5
      refine wl_end ?_
      refine wp_ret ?_
      refine ret_in ?_
      refine ret_then ?_
      refine ret_then ?_
      refine ret_in ?_
      refine ret_in ?_
      refine ret_then ?_
      refine ret_then ?_
      refine ret_in ?_
      refine ret_then ?_
      exact bodyPost_ret (results_cell he22 hm6 _ _ Tryd.results42 _ rfl 1 rfl 6 agg68 (by first | rfl | assumption)) he22.defers ⟨(((k : Nat) : Int), (-1), ((q : Nat) : Int)), _, rfl, hm6.bx 1 _ _ _ _ rfl, first_at (by assumption) (by omega), (hm6.own 1 _ rfl rfl).resolve_right (by simp), hm6.below⟩
set_option maxRecDepth 100000 in
set_option maxHeartbeats 4000000 in
theorem c_split (s : ByteArray) (w : World) (hl : s.size ≤ 1048576) :
    Calls Tryd.prog 39 #[.string (s), .string (⟨#[32]⟩)] w fun e w' => NewRow w (fun (x : List ByteArray) b => .slice (some ⟨b, 0, none⟩) x.length x.length) 9 (fun x => (x.map Value.string).toArray) (fun x => x = cutL s) e w' := by
  refine calls_begin Tryd.func39 rfl 8 rfl (Nat.le_of_ble_eq_true rfl) [(0, .string (s)), (1, .string (⟨#[32]⟩))] ⟨rfl, rfl, trivial⟩ (fun a0 he0 hm0 => ?_)
  refine wp_seqR ?_
  refine wl_val he0 rfl rfl (.slice none 0 0) (rn_move _ (Or.inr rfl) _ rfl) (fun a1 he1 => ?_)
  clear he0
  refine wl_end ?_
  refine wp_seqR ?_
  refine wl_val he1 rfl rfl (.string (s)) (rn_move _ (Or.inl rfl) _ (he1.tmp 0 _ rfl)) (fun a2 he2 => ?_)
  clear he1
  refine wl_val he2 rfl rfl (.string (⟨#[32]⟩)) (rn_move _ (Or.inl rfl) _ (he2.tmp 1 _ rfl)) (fun a3 he3 => ?_)
  clear he2
  refine wl_callN he3 hm0 1 rfl rfl rfl _ #[.string (s), .string (⟨#[32]⟩), .int .i64 (0), .int .i64 ((-1))] (enter_call _ _ _ rfl 54 #[] #[] rfl #[.string (s), .string (⟨#[32]⟩), .int .i64 (0), .int .i64 ((-1))] (map4 (he3.tmp 5 _ rfl) (he3.tmp 6 _ rfl) rfl rfl) #[.string (s), .string (⟨#[32]⟩), .int .i64 (0), .int .i64 ((-1))] rfl (fun _ _ => by kernel_rfl)) (c_gen s _ hl) (fun x1 b1 a4 w1 hx1 he4 hm1 => ?_)
  clear he3 hm0
  refine wl_val he4 rfl rfl (.slice (some ⟨b1, 0, none⟩) (x1.length) (x1.length)) (rn_move _ (Or.inr rfl) _ (he4.tmp 7 _ rfl)) (fun a5 he5 => ?_)
  clear he4
  refine wl_end ?_
  refine wp_ret ?_
  exact bodyPost_ret (results_tmp he5 _ Tryd.results39 _ rfl) he5.defers ⟨x1, _, rfl, hm1.bx 1 _ _ _ _ rfl, hx1, (hm1.own 1 _ rfl rfl).resolve_right (by simp), hm1.below⟩
set_option maxRecDepth 100000 in
set_option maxHeartbeats 4000000 in
theorem c_ruleGet (s : ByteArray) (w : World) (hT : TabsRG w) (hl : s.size ≤ 1048576) :
    Calls Tryd.prog 21 #[.string (s)] w fun e w' => ∃ (r : Ru) (q : Bool), e = .returned (.tuple #[.agg r.arr, .bool q]) ∧ RuleR s r q ∧ Below w.heap.size w w' := by
  refine calls_begin Tryd.func21 rfl 76 rfl (Nat.le_of_ble_eq_true rfl) [(0, .string (s))] ⟨rfl, trivial⟩ (fun a0 he0 hm0 => ?_)
  refine wp_seqR ?_
  refine wl_alloc he0 hm0 1 rfl rfl rfl _ rfl (.agg #[.int .i64 0, .int .i64 0, .int .i64 0, .int .i64 0, .int .i64 0]) (fun w => by kernel_rfl) (#[.int .i64 (0), .int .i64 (0), .int .i64 (0), .int .i64 (0), .int .i64 (0)]) rfl (fun a1 w1 b1 he1 hm1 => ?_)
  clear he0 hm0
  refine wl_val he1 rfl rfl (.bool false) (rn_move _ (Or.inr rfl) _ rfl) (fun a2 he2 => ?_)
  clear he1
  refine wl_end ?_
  refine wp_seqR ?_
  refine wl_val he2 rfl rfl (.string (s)) (rn_move _ (Or.inl rfl) _ (he2.tmp 0 _ rfl)) (fun a3 he3 => ?_)
  clear he2
  refine wl_callN he3 hm1 2 rfl rfl rfl _ #[.string (s), .string (⟨#[32]⟩)] (enter_call _ _ _ rfl 39 #[] #[] rfl #[.string (s), .string (⟨#[32]⟩)] (map2 (he3.tmp 13 _ rfl) rfl) #[.string (s), .string (⟨#[32]⟩)] rfl (fun _ _ => by kernel_rfl)) (c_split s _ hl) (fun x2 b2 a4 w2 hx2 he4 hm2 => ?_)
  clear he3 hm1
  have hlx := cutL_le s
  rw [← hx2] at hlx
  refine wl_val he4 rfl rfl (.slice (some ⟨b2, 0, none⟩) (x2.length) (x2.length)) (rn_move _ (Or.inr rfl) _ (he4.tmp 14 _ rfl)) (fun a5 he5 => ?_)
  clear he4
  refine wl_end ?_
  refine wp_seq ?_
  refine wp_seqR ?_
  refine wl_val he5 rfl rfl (.slice (some ⟨b2, 0, none⟩) (x2.length) (x2.length)) (rn_move _ (Or.inl rfl) _ (he5.tmp 4 _ rfl)) (fun a6 he6 => ?_)
  clear he5
  refine wl_val he6 rfl rfl (.int .i64 (((x2.length : Nat) : Int))) (rn_builtin _ _ _ rfl #[.slice (some ⟨b2, 0, none⟩) (x2.length) (x2.length)] (map1 (he6.tmp 15 _ rfl)) (.int .i64 (((x2.length : Nat) : Int))) (by kernel_rfl)) (fun a7 he7 => ?_)
  clear he6
  cases hd1 : (decide (((x2.length : Nat) : Int) < 5))
  ·
   have hd1p := of_decide_eq_false hd1
   refine wl_val he7 rfl rfl (.bool false) (rn_bin _ _ _ _ _ rfl .i64 _ _ (he7.tmp 16 _ rfl) rfl (.bool (decide (((x2.length : Nat) : Int) < 5))) _ rfl (congrArg Value.bool (hd1))) (fun a8 he8 => ?_)
   clear he7
   refine wl_end ?_
   refine wp_condF (he := he8) rfl ?_
   refine wp_skip ?_
   refine then_normal ?_
   refine wp_seqR ?_
   refine wl_val he8 rfl rfl (.slice (some ⟨b2, 0, none⟩) (x2.length) (x2.length)) (rn_move _ (Or.inl rfl) _ (he8.tmp 4 _ rfl)) (fun a9 he9 => ?_)
   clear he8
   refine wl_val he9 rfl rfl (.pointer (some ⟨b2, 0 + 1 * 1, none⟩)) (rn_indexA _ _ _ rfl _ _ (.pointer (some ⟨b2, 0 + 1 * 1, none⟩)) (he9.tmp 20 _ rfl) rfl (ixS 9 1 (by kernel_rfl) (fun w => by kernel_rfl) (b2) (0) (x2.length) (x2.length) (1) (by omega) _)) (fun a10 he10 => ?_)
   clear he9
   refine wl_val he10 rfl rfl (.string (x2.getD 1 ⟨#[]⟩)) (rn_load1 hm2 2 rfl _ _ rfl (0 + 1 * 1) (he10.tmp 21 _ rfl) one9 _ (cut_get (by omega))) (fun a11 he11 => ?_)
   clear he10
   cases hd2 : ((atoiP (x2.getD 1 ⟨#[]⟩)).2)
   ·
    refine wl_call he11 hm2 rfl rfl _ #[.string (x2.getD 1 ⟨#[]⟩)] (enter_call _ _ _ rfl 40 #[] #[] rfl #[.string (x2.getD 1 ⟨#[]⟩)] (map1 (he11.tmp 22 _ rfl)) #[.string (x2.getD 1 ⟨#[]⟩)] rfl (fun _ _ => by kernel_rfl)) (.tuple #[.int .i64 ((atoiP (x2.getD 1 ⟨#[]⟩)).1), .bool false]) (c_num (x2.getD 1 ⟨#[]⟩) (cut_size hx2 hl _) _ (hT.kb hm2.keep rfl) _ hd2) (fun a12 w3 he12 hm3 => ?_)
    clear he11 hm2
    refine wl_val he12 rfl rfl (.tuple #[.int .i64 ((atoiP (x2.getD 1 ⟨#[]⟩)).1), .bool false]) (rn_move _ (Or.inl rfl) _ (he12.tmp 23 _ rfl)) (fun a13 he13 => ?_)
    clear he12
    refine wl_val he13 rfl rfl (.int .i64 ((atoiP (x2.getD 1 ⟨#[]⟩)).1)) (rn_extract _ _ rfl _ (he13.tmp 19 _ rfl) _ rfl) (fun a14 he14 => ?_)
    clear he13
    refine wl_val he14 rfl rfl (.bool false) (rn_extract _ _ rfl _ (he14.tmp 19 _ rfl) _ rfl) (fun a15 he15 => ?_)
    clear he14
    refine wl_val he15 rfl rfl (.int .i64 ((atoiP (x2.getD 1 ⟨#[]⟩)).1)) (rn_move _ (Or.inr rfl) _ (he15.tmp 24 _ rfl)) (fun a16 he16 => ?_)
    clear he15
    refine wl_val he16 rfl rfl (.bool false) (rn_move _ (Or.inr rfl) _ (he16.tmp 25 _ rfl)) (fun a17 he17 => ?_)
    clear he16
    refine wl_end ?_
    refine wp_seqR ?_
    refine wl_val he17 rfl rfl (.slice (some ⟨b2, 0, none⟩) (x2.length) (x2.length)) (rn_move _ (Or.inl rfl) _ (he17.tmp 4 _ rfl)) (fun a18 he18 => ?_)
    clear he17
    refine wl_val he18 rfl rfl (.pointer (some ⟨b2, 0 + 3 * 1, none⟩)) (rn_indexA _ _ _ rfl _ _ (.pointer (some ⟨b2, 0 + 3 * 1, none⟩)) (he18.tmp 27 _ rfl) rfl (ixS 9 1 (by kernel_rfl) (fun w => by kernel_rfl) (b2) (0) (x2.length) (x2.length) (3) (by omega) _)) (fun a19 he19 => ?_)
    clear he18
    refine wl_val he19 rfl rfl (.string (x2.getD 3 ⟨#[]⟩)) (rn_load1 hm3 2 rfl _ _ rfl (0 + 3 * 1) (he19.tmp 28 _ rfl) one9 _ (cut_get (by omega))) (fun a20 he20 => ?_)
    clear he19
    cases hd3 : ((atoiP (x2.getD 3 ⟨#[]⟩)).2)
    ·
     refine wl_call he20 hm3 rfl rfl _ #[.string (x2.getD 3 ⟨#[]⟩)] (enter_call _ _ _ rfl 40 #[] #[] rfl #[.string (x2.getD 3 ⟨#[]⟩)] (map1 (he20.tmp 29 _ rfl)) #[.string (x2.getD 3 ⟨#[]⟩)] rfl (fun _ _ => by kernel_rfl)) (.tuple #[.int .i64 ((atoiP (x2.getD 3 ⟨#[]⟩)).1), .bool false]) (c_num (x2.getD 3 ⟨#[]⟩) (cut_size hx2 hl _) _ (hT.kb hm3.keep rfl) _ hd3) (fun a21 w4 he21 hm4 => ?_)
     clear he20 hm3
     refine wl_val he21 rfl rfl (.tuple #[.int .i64 ((atoiP (x2.getD 3 ⟨#[]⟩)).1), .bool false]) (rn_move _ (Or.inl rfl) _ (he21.tmp 30 _ rfl)) (fun a22 he22 => ?_)
     clear he21
     refine wl_val he22 rfl rfl (.int .i64 ((atoiP (x2.getD 3 ⟨#[]⟩)).1)) (rn_extract _ _ rfl _ (he22.tmp 26 _ rfl) _ rfl) (fun a23 he23 => ?_)
     clear he22
     refine wl_val he23 rfl rfl (.bool false) (rn_extract _ _ rfl _ (he23.tmp 26 _ rfl) _ rfl) (fun a24 he24 => ?_)
     clear he23
     refine wl_val he24 rfl rfl (.int .i64 ((atoiP (x2.getD 3 ⟨#[]⟩)).1)) (rn_move _ (Or.inr rfl) _ (he24.tmp 31 _ rfl)) (fun a25 he25 => ?_)
     clear he24
     refine wl_val he25 rfl rfl (.bool false) (rn_move _ (Or.inr rfl) _ (he25.tmp 32 _ rfl)) (fun a26 he26 => ?_)
     clear he25
     refine wl_end ?_
     refine wp_seqR ?_
     refine wl_val he26 rfl rfl (.slice (some ⟨b2, 0, none⟩) (x2.length) (x2.length)) (rn_move _ (Or.inl rfl) _ (he26.tmp 4 _ rfl)) (fun a27 he27 => ?_)
     clear he26
     refine wl_val he27 rfl rfl (.pointer (some ⟨b2, 0 + 4 * 1, none⟩)) (rn_indexA _ _ _ rfl _ _ (.pointer (some ⟨b2, 0 + 4 * 1, none⟩)) (he27.tmp 34 _ rfl) rfl (ixS 9 1 (by kernel_rfl) (fun w => by kernel_rfl) (b2) (0) (x2.length) (x2.length) (4) (by omega) _)) (fun a28 he28 => ?_)
     clear he27
     refine wl_val he28 rfl rfl (.string (x2.getD 4 ⟨#[]⟩)) (rn_load1 hm4 2 rfl _ _ rfl (0 + 4 * 1) (he28.tmp 35 _ rfl) one9 _ (cut_get (by omega))) (fun a29 he29 => ?_)
     clear he28
     cases hd4 : ((verdM (x2.getD 4 ⟨#[]⟩)).2)
     ·
      refine wl_call he29 hm4 rfl rfl _ #[.string (x2.getD 4 ⟨#[]⟩)] (enter_call _ _ _ rfl 41 #[] #[] rfl #[.string (x2.getD 4 ⟨#[]⟩)] (map1 (he29.tmp 36 _ rfl)) #[.string (x2.getD 4 ⟨#[]⟩)] rfl (fun _ _ => by kernel_rfl)) (.tuple #[.int .i64 ((verdM (x2.getD 4 ⟨#[]⟩)).1), .bool false]) (c_verdB (x2.getD 4 ⟨#[]⟩) _ (hT.t.kb hm4.keep rfl) _ hd4) (fun a30 w5 he30 hm5 => ?_)
      clear he29 hm4
      refine wl_val he30 rfl rfl (.tuple #[.int .i64 ((verdM (x2.getD 4 ⟨#[]⟩)).1), .bool false]) (rn_move _ (Or.inl rfl) _ (he30.tmp 37 _ rfl)) (fun a31 he31 => ?_)
      clear he30
      refine wl_val he31 rfl rfl (.int .i64 ((verdM (x2.getD 4 ⟨#[]⟩)).1)) (rn_extract _ _ rfl _ (he31.tmp 33 _ rfl) _ rfl) (fun a32 he32 => ?_)
      clear he31
      refine wl_val he32 rfl rfl (.bool false) (rn_extract _ _ rfl _ (he32.tmp 33 _ rfl) _ rfl) (fun a33 he33 => ?_)
      clear he32
      refine wl_val he33 rfl rfl (.int .i64 ((verdM (x2.getD 4 ⟨#[]⟩)).1)) (rn_move _ (Or.inr rfl) _ (he33.tmp 38 _ rfl)) (fun a34 he34 => ?_)
      clear he33
      refine wl_val he34 rfl rfl (.bool false) (rn_move _ (Or.inr rfl) _ (he34.tmp 39 _ rfl)) (fun a35 he35 => ?_)
      clear he34
      refine wl_end ?_
      refine wp_seqR ?_
      refine wl_val he35 rfl rfl (.int .i64 ((atoiP (x2.getD 1 ⟨#[]⟩)).1)) (rn_move _ (Or.inl rfl) _ (he35.tmp 5 _ rfl)) (fun a36 he36 => ?_)
      clear he35
      refine wl_val he36 rfl rfl (.slice (some ⟨b2, 0, none⟩) (x2.length) (x2.length)) (rn_move _ (Or.inl rfl) _ (he36.tmp 4 _ rfl)) (fun a37 he37 => ?_)
      clear he36
      refine wl_val he37 rfl rfl (.pointer (some ⟨b2, 0 + 2 * 1, none⟩)) (rn_indexA _ _ _ rfl _ _ (.pointer (some ⟨b2, 0 + 2 * 1, none⟩)) (he37.tmp 41 _ rfl) rfl (ixS 9 1 (by kernel_rfl) (fun w => by kernel_rfl) (b2) (0) (x2.length) (x2.length) (2) (by omega) _)) (fun a38 he38 => ?_)
      clear he37
      refine wl_val he38 rfl rfl (.string (x2.getD 2 ⟨#[]⟩)) (rn_load1 hm5 2 rfl _ _ rfl (0 + 2 * 1) (he38.tmp 42 _ rfl) one9 _ (cut_get (by omega))) (fun a39 he39 => ?_)
      clear he38
      refine wl_callN he39 hm5 3 rfl rfl rfl _ #[.string (x2.getD 2 ⟨#[]⟩)] (enter_call _ _ _ rfl 42 #[] #[] rfl #[.string (x2.getD 2 ⟨#[]⟩)] (map1 (he39.tmp 43 _ rfl)) #[.string (x2.getD 2 ⟨#[]⟩)] rfl (fun _ _ => by kernel_rfl)) (c_firstNew (x2.getD 2 ⟨#[]⟩) _ (hT.t.kb hm5.keep rfl)) (fun x3 b3 a40 w6 hx3 he40 hm6 => ?_)
      clear he39 hm5
      refine wl_val he40 rfl rfl (.int .i64 (x3.1)) (rn_fieldV _ _ _ rfl _ (.int .i64 (x3.1)) (he40.tmp 44 _ rfl) (by kernel_rfl)) (fun a41 he41 => ?_)
      clear he40
      refine wl_val he41 rfl rfl (.int .i64 ((atoiP (x2.getD 3 ⟨#[]⟩)).1)) (rn_move _ (Or.inl rfl) _ (he41.tmp 7 _ rfl)) (fun a42 he42 => ?_)
      clear he41
      refine wl_val he42 rfl rfl (.int .i64 ((verdM (x2.getD 4 ⟨#[]⟩)).1)) (rn_move _ (Or.inl rfl) _ (he42.tmp 9 _ rfl)) (fun a43 he43 => ?_)
      clear he42
      refine wl_val he43 rfl rfl (.agg (#[.int .i64 ((atoiP (x2.getD 1 ⟨#[]⟩)).1), .int .i64 (x3.1), .int .i64 ((atoiP (x2.getD 3 ⟨#[]⟩)).1), .int .i64 ((verdM (x2.getD 4 ⟨#[]⟩)).1), .int .i64 (0)])) (rn_build _ _ rfl #[(0, .int .i64 ((atoiP (x2.getD 1 ⟨#[]⟩)).1)), (1, .int .i64 (x3.1)), (2, .int .i64 ((atoiP (x2.getD 3 ⟨#[]⟩)).1)), (3, .int .i64 ((verdM (x2.getD 4 ⟨#[]⟩)).1))] (pmap4 (he43.tmp 40 _ rfl) (he43.tmp 45 _ rfl) (he43.tmp 46 _ rfl) (he43.tmp 47 _ rfl)) _ (by kernel_rfl)) (fun a44 he44 => ?_)
      clear he43
      refine wl_alloc he44 hm6 4 rfl rfl rfl _ rfl (.agg #[.int .i64 0, .int .i64 0, .int .i64 0, .int .i64 0, .int .i64 0]) (fun w => by kernel_rfl) (#[.int .i64 (0), .int .i64 (0), .int .i64 (0), .int .i64 (0), .int .i64 (0)]) rfl (fun a45 w7 b4 he45 hm7 => ?_)
      clear he44 hm6
      refine wl_store he45 hm7 4 rfl rfl rfl _ _ _ rfl (0) (he45.tmp 11 _ rfl) _ (he45.tmp 48 _ rfl) 5 agg36.size rfl (by kernel_rfl) (by simp) (#[.int .i64 ((atoiP (x2.getD 1 ⟨#[]⟩)).1), .int .i64 (x3.1), .int .i64 ((atoiP (x2.getD 3 ⟨#[]⟩)).1), .int .i64 ((verdM (x2.getD 4 ⟨#[]⟩)).1), .int .i64 (0)]) (by kernel_rfl) (fun w8 hm8 => ?_)
      clear hm7
      refine wl_end ?_
      refine wp_seqR ?_
      refine wl_val he45 rfl rfl (.bool false) (rn_move _ (Or.inl rfl) _ (he45.tmp 6 _ rfl)) (fun a46 he46 => ?_)
      clear he45
      refine wl_val he46 rfl rfl (.bool false) (rn_move _ (Or.inl rfl) _ (he46.tmp 49 _ rfl)) (fun a47 he47 => ?_)
      clear he46
      refine wl_not he47 rfl (wanted_slot he47 1 true rfl 50 rfl false rfl false rfl) (fun a48 he48 => ?_)
      clear he47
      refine wl_val he48 rfl rfl (.bool false) (rn_pickF _ _ _ rfl (he48.tmp 50 _ rfl) _ rfl) (fun a49 he49 => ?_)
      clear he48
      refine wl_val he49 rfl rfl (.bool false) (rn_move _ (Or.inl rfl) _ (he49.tmp 52 _ rfl)) (fun a50 he50 => ?_)
      clear he49
      refine wl_not he50 rfl (wanted_slot he50 4 true rfl 53 rfl false rfl false rfl) (fun a51 he51 => ?_)
      clear he50
      refine wl_val he51 rfl rfl (.bool false) (rn_pickF _ _ _ rfl (he51.tmp 53 _ rfl) _ rfl) (fun a52 he52 => ?_)
      clear he51
      refine wl_val he52 rfl rfl (.bool false) (rn_move _ (Or.inr rfl) _ (he52.tmp 55 _ rfl)) (fun a53 he53 => ?_)
      clear he52
      refine wl_end ?_
      refine wp_seq ?_
      refine wp_seqR ?_
      refine wl_val he53 rfl rfl (.bool false) (rn_move _ (Or.inl rfl) _ (he53.tmp 12 _ rfl)) (fun a54 he54 => ?_)
      clear he53
      refine wl_val he54 rfl rfl (.bool false) (rn_move _ (Or.inl rfl) _ (he54.tmp 56 _ rfl)) (fun a55 he55 => ?_)
      clear he54
      refine wl_not he55 rfl (wanted_slot he55 1 true rfl 57 rfl false rfl false rfl) (fun a56 he56 => ?_)
      clear he55
      refine wl_not he56 rfl (wanted_slot he56 1 true rfl 57 rfl false rfl false rfl) (fun a57 he57 => ?_)
      clear he56
      refine wl_val he57 rfl rfl (.bool false) (rn_pickF _ _ _ rfl (he57.tmp 57 _ rfl) _ rfl) (fun a58 he58 => ?_)
      clear he57
      refine wl_val he58 rfl rfl (.bool false) (rn_move _ (Or.inl rfl) _ (he58.tmp 60 _ rfl)) (fun a59 he59 => ?_)
      clear he58
      refine wl_not he59 rfl (wanted_slot he59 5 true rfl 61 rfl false rfl false rfl) (fun a60 he60 => ?_)
      clear he59
      refine wl_not he60 rfl (wanted_slot he60 5 true rfl 61 rfl false rfl false rfl) (fun a61 he61 => ?_)
      clear he60
      refine wl_not he61 rfl (wanted_slot he61 5 true rfl 61 rfl false rfl false rfl) (fun a62 he62 => ?_)
      clear he61
      refine wl_val he62 rfl rfl (.bool false) (rn_pickF _ _ _ rfl (he62.tmp 61 _ rfl) _ rfl) (fun a63 he63 => ?_)
      clear he62
      refine wl_end ?_
      refine wp_condF (he := he63) rfl ?_
      refine wp_skip ?_
      refine then_normal ?_
      refine wp_seqR ?_
      refine wl_val he63 rfl rfl (.agg (#[.int .i64 ((atoiP (x2.getD 1 ⟨#[]⟩)).1), .int .i64 (x3.1), .int .i64 ((atoiP (x2.getD 3 ⟨#[]⟩)).1), .int .i64 ((verdM (x2.getD 4 ⟨#[]⟩)).1), .int .i64 (0)])) (rn_loadA hm8 4 rfl _ _ rfl (0) (he63.tmp 11 _ rfl) 5 agg36 (#[.int .i64 ((atoiP (x2.getD 1 ⟨#[]⟩)).1), .int .i64 (x3.1), .int .i64 ((atoiP (x2.getD 3 ⟨#[]⟩)).1), .int .i64 ((verdM (x2.getD 4 ⟨#[]⟩)).1), .int .i64 (0)]) rfl rfl) (fun a64 he64 => ?_)
      clear he63
      refine wl_val he64 rfl rfl (.bool false) (rn_move _ (Or.inl rfl) _ (he64.tmp 12 _ rfl)) (fun a65 he65 => ?_)
      clear he64
      refine wl_store he65 hm8 1 rfl rfl rfl _ _ _ rfl (0) (he65.tmp 2 _ rfl) _ (he65.tmp 74 _ rfl) 5 agg36.size rfl (by kernel_rfl) (by simp) (#[.int .i64 ((atoiP (x2.getD 1 ⟨#[]⟩)).1), .int .i64 (x3.1), .int .i64 ((atoiP (x2.getD 3 ⟨#[]⟩)).1), .int .i64 ((verdM (x2.getD 4 ⟨#[]⟩)).1), .int .i64 (0)]) (by kernel_rfl) (fun w9 hm9 => ?_)
      clear hm8
      refine wl_val he65 rfl rfl (.bool false) (rn_move _ (Or.inr rfl) _ (he65.tmp 75 _ rfl)) (fun a66 he66 => ?_)
      clear he65
      refine wl_end ?_
      refine wp_ret ?_
      refine bodyPost_ret (results_cell_t he66 hm9 _ _ _ Tryd.results21 _ rfl 1 rfl 5 agg36 (by first | rfl | assumption) _ rfl) he66.defers ⟨⟨(atoiP (x2.getD 1 ⟨#[]⟩)).1, x3.1, (atoiP (x2.getD 3 ⟨#[]⟩)).1, (verdM (x2.getD 4 ⟨#[]⟩)).1, 0⟩, false, rfl, fun p hp e => ?_, hm9.below⟩
      have W := rule_of hx2 hp e hx3
      by_cases h2 : p.ver = 2
      · obtain ⟨l6, a5⟩ := W.k2 h2; exact Bool.noConfusion (show false = true from hd2.symm.trans (congrArg Prod.snd W.a1))
      · have k0 := W.k0 h2; exact Bool.noConfusion (show false = true from hd2.symm.trans (congrArg Prod.snd W.a1))
     ·
      refine wl_call he29 hm4 rfl rfl _ #[.string (x2.getD 4 ⟨#[]⟩)] (enter_call _ _ _ rfl 41 #[] #[] rfl #[.string (x2.getD 4 ⟨#[]⟩)] (map1 (he29.tmp 36 _ rfl)) #[.string (x2.getD 4 ⟨#[]⟩)] rfl (fun _ _ => by kernel_rfl)) (.tuple #[.int .i64 ((verdM (x2.getD 4 ⟨#[]⟩)).1), .bool true]) (c_verdB (x2.getD 4 ⟨#[]⟩) _ (hT.t.kb hm4.keep rfl) _ hd4) (fun a30 w5 he30 hm5 => ?_)
      clear he29 hm4
      refine wl_val he30 rfl rfl (.tuple #[.int .i64 ((verdM (x2.getD 4 ⟨#[]⟩)).1), .bool true]) (rn_move _ (Or.inl rfl) _ (he30.tmp 37 _ rfl)) (fun a31 he31 => ?_)
      clear he30
      refine wl_val he31 rfl rfl (.int .i64 ((verdM (x2.getD 4 ⟨#[]⟩)).1)) (rn_extract _ _ rfl _ (he31.tmp 33 _ rfl) _ rfl) (fun a32 he32 => ?_)
      clear he31
      refine wl_val he32 rfl rfl (.bool true) (rn_extract _ _ rfl _ (he32.tmp 33 _ rfl) _ rfl) (fun a33 he33 => ?_)
      clear he32
      refine wl_val he33 rfl rfl (.int .i64 ((verdM (x2.getD 4 ⟨#[]⟩)).1)) (rn_move _ (Or.inr rfl) _ (he33.tmp 38 _ rfl)) (fun a34 he34 => ?_)
      clear he33
      refine wl_val he34 rfl rfl (.bool true) (rn_move _ (Or.inr rfl) _ (he34.tmp 39 _ rfl)) (fun a35 he35 => ?_)
      clear he34
      refine wl_end ?_
      refine wp_seqR ?_
      refine wl_val he35 rfl rfl (.int .i64 ((atoiP (x2.getD 1 ⟨#[]⟩)).1)) (rn_move _ (Or.inl rfl) _ (he35.tmp 5 _ rfl)) (fun a36 he36 => ?_)
      clear he35
      refine wl_val he36 rfl rfl (.slice (some ⟨b2, 0, none⟩) (x2.length) (x2.length)) (rn_move _ (Or.inl rfl) _ (he36.tmp 4 _ rfl)) (fun a37 he37 => ?_)
      clear he36
      refine wl_val he37 rfl rfl (.pointer (some ⟨b2, 0 + 2 * 1, none⟩)) (rn_indexA _ _ _ rfl _ _ (.pointer (some ⟨b2, 0 + 2 * 1, none⟩)) (he37.tmp 41 _ rfl) rfl (ixS 9 1 (by kernel_rfl) (fun w => by kernel_rfl) (b2) (0) (x2.length) (x2.length) (2) (by omega) _)) (fun a38 he38 => ?_)
      clear he37
      refine wl_val he38 rfl rfl (.string (x2.getD 2 ⟨#[]⟩)) (rn_load1 hm5 2 rfl _ _ rfl (0 + 2 * 1) (he38.tmp 42 _ rfl) one9 _ (cut_get (by omega))) (fun a39 he39 => ?_)
      clear he38
      refine wl_callN he39 hm5 3 rfl rfl rfl _ #[.string (x2.getD 2 ⟨#[]⟩)] (enter_call _ _ _ rfl 42 #[] #[] rfl #[.string (x2.getD 2 ⟨#[]⟩)] (map1 (he39.tmp 43 _ rfl)) #[.string (x2.getD 2 ⟨#[]⟩)] rfl (fun _ _ => by kernel_rfl)) (c_firstNew (x2.getD 2 ⟨#[]⟩) _ (hT.t.kb hm5.keep rfl)) (fun x3 b3 a40 w6 hx3 he40 hm6 => ?_)
      clear he39 hm5
      refine wl_val he40 rfl rfl (.int .i64 (x3.1)) (rn_fieldV _ _ _ rfl _ (.int .i64 (x3.1)) (he40.tmp 44 _ rfl) (by kernel_rfl)) (fun a41 he41 => ?_)
      clear he40
      refine wl_val he41 rfl rfl (.int .i64 ((atoiP (x2.getD 3 ⟨#[]⟩)).1)) (rn_move _ (Or.inl rfl) _ (he41.tmp 7 _ rfl)) (fun a42 he42 => ?_)
      clear he41
      refine wl_val he42 rfl rfl (.int .i64 ((verdM (x2.getD 4 ⟨#[]⟩)).1)) (rn_move _ (Or.inl rfl) _ (he42.tmp 9 _ rfl)) (fun a43 he43 => ?_)
      clear he42
      refine wl_val he43 rfl rfl (.agg (#[.int .i64 ((atoiP (x2.getD 1 ⟨#[]⟩)).1), .int .i64 (x3.1), .int .i64 ((atoiP (x2.getD 3 ⟨#[]⟩)).1), .int .i64 ((verdM (x2.getD 4 ⟨#[]⟩)).1), .int .i64 (0)])) (rn_build _ _ rfl #[(0, .int .i64 ((atoiP (x2.getD 1 ⟨#[]⟩)).1)), (1, .int .i64 (x3.1)), (2, .int .i64 ((atoiP (x2.getD 3 ⟨#[]⟩)).1)), (3, .int .i64 ((verdM (x2.getD 4 ⟨#[]⟩)).1))] (pmap4 (he43.tmp 40 _ rfl) (he43.tmp 45 _ rfl) (he43.tmp 46 _ rfl) (he43.tmp 47 _ rfl)) _ (by kernel_rfl)) (fun a44 he44 => ?_)
      clear he43
      refine wl_alloc he44 hm6 4 rfl rfl rfl _ rfl (.agg #[.int .i64 0, .int .i64 0, .int .i64 0, .int .i64 0, .int .i64 0]) (fun w => by kernel_rfl) (#[.int .i64 (0), .int .i64 (0), .int .i64 (0), .int .i64 (0), .int .i64 (0)]) rfl (fun a45 w7 b4 he45 hm7 => ?_)
      clear he44 hm6
      refine wl_store he45 hm7 4 rfl rfl rfl _ _ _ rfl (0) (he45.tmp 11 _ rfl) _ (he45.tmp 48 _ rfl) 5 agg36.size rfl (by kernel_rfl) (by simp) (#[.int .i64 ((atoiP (x2.getD 1 ⟨#[]⟩)).1), .int .i64 (x3.1), .int .i64 ((atoiP (x2.getD 3 ⟨#[]⟩)).1), .int .i64 ((verdM (x2.getD 4 ⟨#[]⟩)).1), .int .i64 (0)]) (by kernel_rfl) (fun w8 hm8 => ?_)
      clear hm7
      refine wl_end ?_
      refine wp_seqR ?_
      refine wl_val he45 rfl rfl (.bool false) (rn_move _ (Or.inl rfl) _ (he45.tmp 6 _ rfl)) (fun a46 he46 => ?_)
      clear he45
      refine wl_val he46 rfl rfl (.bool false) (rn_move _ (Or.inl rfl) _ (he46.tmp 49 _ rfl)) (fun a47 he47 => ?_)
      clear he46
      refine wl_not he47 rfl (wanted_slot he47 1 true rfl 50 rfl false rfl false rfl) (fun a48 he48 => ?_)
      clear he47
      refine wl_val he48 rfl rfl (.bool false) (rn_pickF _ _ _ rfl (he48.tmp 50 _ rfl) _ rfl) (fun a49 he49 => ?_)
      clear he48
      refine wl_val he49 rfl rfl (.bool false) (rn_move _ (Or.inl rfl) _ (he49.tmp 52 _ rfl)) (fun a50 he50 => ?_)
      clear he49
      refine wl_not he50 rfl (wanted_slot he50 4 true rfl 53 rfl false rfl false rfl) (fun a51 he51 => ?_)
      clear he50
      refine wl_val he51 rfl rfl (.bool false) (rn_pickF _ _ _ rfl (he51.tmp 53 _ rfl) _ rfl) (fun a52 he52 => ?_)
      clear he51
      refine wl_val he52 rfl rfl (.bool false) (rn_move _ (Or.inr rfl) _ (he52.tmp 55 _ rfl)) (fun a53 he53 => ?_)
      clear he52
      refine wl_end ?_
      refine wp_seq ?_
      refine wp_seqR ?_
      refine wl_val he53 rfl rfl (.bool false) (rn_move _ (Or.inl rfl) _ (he53.tmp 12 _ rfl)) (fun a54 he54 => ?_)
      clear he53
      refine wl_val he54 rfl rfl (.bool false) (rn_move _ (Or.inl rfl) _ (he54.tmp 56 _ rfl)) (fun a55 he55 => ?_)
      clear he54
      refine wl_not he55 rfl (wanted_slot he55 1 true rfl 57 rfl false rfl false rfl) (fun a56 he56 => ?_)
      clear he55
      refine wl_not he56 rfl (wanted_slot he56 1 true rfl 57 rfl false rfl false rfl) (fun a57 he57 => ?_)
      clear he56
      refine wl_val he57 rfl rfl (.bool false) (rn_pickF _ _ _ rfl (he57.tmp 57 _ rfl) _ rfl) (fun a58 he58 => ?_)
      clear he57
      refine wl_val he58 rfl rfl (.bool false) (rn_move _ (Or.inl rfl) _ (he58.tmp 60 _ rfl)) (fun a59 he59 => ?_)
      clear he58
      refine wl_not he59 rfl (wanted_slot he59 5 true rfl 61 rfl false rfl false rfl) (fun a60 he60 => ?_)
      clear he59
      refine wl_not he60 rfl (wanted_slot he60 5 true rfl 61 rfl false rfl false rfl) (fun a61 he61 => ?_)
      clear he60
      refine wl_not he61 rfl (wanted_slot he61 5 true rfl 61 rfl false rfl false rfl) (fun a62 he62 => ?_)
      clear he61
      refine wl_val he62 rfl rfl (.bool false) (rn_pickF _ _ _ rfl (he62.tmp 61 _ rfl) _ rfl) (fun a63 he63 => ?_)
      clear he62
      refine wl_end ?_
      refine wp_condF (he := he63) rfl ?_
      refine wp_skip ?_
      refine then_normal ?_
      refine wp_seqR ?_
      refine wl_val he63 rfl rfl (.agg (#[.int .i64 ((atoiP (x2.getD 1 ⟨#[]⟩)).1), .int .i64 (x3.1), .int .i64 ((atoiP (x2.getD 3 ⟨#[]⟩)).1), .int .i64 ((verdM (x2.getD 4 ⟨#[]⟩)).1), .int .i64 (0)])) (rn_loadA hm8 4 rfl _ _ rfl (0) (he63.tmp 11 _ rfl) 5 agg36 (#[.int .i64 ((atoiP (x2.getD 1 ⟨#[]⟩)).1), .int .i64 (x3.1), .int .i64 ((atoiP (x2.getD 3 ⟨#[]⟩)).1), .int .i64 ((verdM (x2.getD 4 ⟨#[]⟩)).1), .int .i64 (0)]) rfl rfl) (fun a64 he64 => ?_)
      clear he63
      refine wl_val he64 rfl rfl (.bool false) (rn_move _ (Or.inl rfl) _ (he64.tmp 12 _ rfl)) (fun a65 he65 => ?_)
      clear he64
      refine wl_store he65 hm8 1 rfl rfl rfl _ _ _ rfl (0) (he65.tmp 2 _ rfl) _ (he65.tmp 74 _ rfl) 5 agg36.size rfl (by kernel_rfl) (by simp) (#[.int .i64 ((atoiP (x2.getD 1 ⟨#[]⟩)).1), .int .i64 (x3.1), .int .i64 ((atoiP (x2.getD 3 ⟨#[]⟩)).1), .int .i64 ((verdM (x2.getD 4 ⟨#[]⟩)).1), .int .i64 (0)]) (by kernel_rfl) (fun w9 hm9 => ?_)
      clear hm8
      refine wl_val he65 rfl rfl (.bool false) (rn_move _ (Or.inr rfl) _ (he65.tmp 75 _ rfl)) (fun a66 he66 => ?_)
      clear he65
      refine wl_end ?_
      refine wp_ret ?_
      refine bodyPost_ret (results_cell_t he66 hm9 _ _ _ Tryd.results21 _ rfl 1 rfl 5 agg36 (by first | rfl | assumption) _ rfl) he66.defers ⟨⟨(atoiP (x2.getD 1 ⟨#[]⟩)).1, x3.1, (atoiP (x2.getD 3 ⟨#[]⟩)).1, (verdM (x2.getD 4 ⟨#[]⟩)).1, 0⟩, false, rfl, fun p hp e => ?_, hm9.below⟩
      have W := rule_of hx2 hp e hx3
      by_cases h2 : p.ver = 2
      · obtain ⟨l6, a5⟩ := W.k2 h2; exact Bool.noConfusion (show false = true from hd2.symm.trans (congrArg Prod.snd W.a1))
      · have k0 := W.k0 h2; exact Bool.noConfusion (show false = true from hd2.symm.trans (congrArg Prod.snd W.a1))
    ·
     refine wl_call he20 hm3 rfl rfl _ #[.string (x2.getD 3 ⟨#[]⟩)] (enter_call _ _ _ rfl 40 #[] #[] rfl #[.string (x2.getD 3 ⟨#[]⟩)] (map1 (he20.tmp 29 _ rfl)) #[.string (x2.getD 3 ⟨#[]⟩)] rfl (fun _ _ => by kernel_rfl)) (.tuple #[.int .i64 ((atoiP (x2.getD 3 ⟨#[]⟩)).1), .bool true]) (c_num (x2.getD 3 ⟨#[]⟩) (cut_size hx2 hl _) _ (hT.kb hm3.keep rfl) _ hd3) (fun a21 w4 he21 hm4 => ?_)
     clear he20 hm3
     refine wl_val he21 rfl rfl (.tuple #[.int .i64 ((atoiP (x2.getD 3 ⟨#[]⟩)).1), .bool true]) (rn_move _ (Or.inl rfl) _ (he21.tmp 30 _ rfl)) (fun a22 he22 => ?_)
     clear he21
     refine wl_val he22 rfl rfl (.int .i64 ((atoiP (x2.getD 3 ⟨#[]⟩)).1)) (rn_extract _ _ rfl _ (he22.tmp 26 _ rfl) _ rfl) (fun a23 he23 => ?_)
     clear he22
     refine wl_val he23 rfl rfl (.bool true) (rn_extract _ _ rfl _ (he23.tmp 26 _ rfl) _ rfl) (fun a24 he24 => ?_)
     clear he23
     refine wl_val he24 rfl rfl (.int .i64 ((atoiP (x2.getD 3 ⟨#[]⟩)).1)) (rn_move _ (Or.inr rfl) _ (he24.tmp 31 _ rfl)) (fun a25 he25 => ?_)
     clear he24
     refine wl_val he25 rfl rfl (.bool true) (rn_move _ (Or.inr rfl) _ (he25.tmp 32 _ rfl)) (fun a26 he26 => ?_)
     clear he25
     refine wl_end ?_
     refine wp_seqR ?_
     refine wl_val he26 rfl rfl (.slice (some ⟨b2, 0, none⟩) (x2.length) (x2.length)) (rn_move _ (Or.inl rfl) _ (he26.tmp 4 _ rfl)) (fun a27 he27 => ?_)
     clear he26
     refine wl_val he27 rfl rfl (.pointer (some ⟨b2, 0 + 4 * 1, none⟩)) (rn_indexA _ _ _ rfl _ _ (.pointer (some ⟨b2, 0 + 4 * 1, none⟩)) (he27.tmp 34 _ rfl) rfl (ixS 9 1 (by kernel_rfl) (fun w => by kernel_rfl) (b2) (0) (x2.length) (x2.length) (4) (by omega) _)) (fun a28 he28 => ?_)
     clear he27
     refine wl_val he28 rfl rfl (.string (x2.getD 4 ⟨#[]⟩)) (rn_load1 hm4 2 rfl _ _ rfl (0 + 4 * 1) (he28.tmp 35 _ rfl) one9 _ (cut_get (by omega))) (fun a29 he29 => ?_)
     clear he28
     cases hd4 : ((verdM (x2.getD 4 ⟨#[]⟩)).2)
     ·
      refine wl_call he29 hm4 rfl rfl _ #[.string (x2.getD 4 ⟨#[]⟩)] (enter_call _ _ _ rfl 41 #[] #[] rfl #[.string (x2.getD 4 ⟨#[]⟩)] (map1 (he29.tmp 36 _ rfl)) #[.string (x2.getD 4 ⟨#[]⟩)] rfl (fun _ _ => by kernel_rfl)) (.tuple #[.int .i64 ((verdM (x2.getD 4 ⟨#[]⟩)).1), .bool false]) (c_verdB (x2.getD 4 ⟨#[]⟩) _ (hT.t.kb hm4.keep rfl) _ hd4) (fun a30 w5 he30 hm5 => ?_)
      clear he29 hm4
      refine wl_val he30 rfl rfl (.tuple #[.int .i64 ((verdM (x2.getD 4 ⟨#[]⟩)).1), .bool false]) (rn_move _ (Or.inl rfl) _ (he30.tmp 37 _ rfl)) (fun a31 he31 => ?_)
      clear he30
      refine wl_val he31 rfl rfl (.int .i64 ((verdM (x2.getD 4 ⟨#[]⟩)).1)) (rn_extract _ _ rfl _ (he31.tmp 33 _ rfl) _ rfl) (fun a32 he32 => ?_)
      clear he31
      refine wl_val he32 rfl rfl (.bool false) (rn_extract _ _ rfl _ (he32.tmp 33 _ rfl) _ rfl) (fun a33 he33 => ?_)
      clear he32
      refine wl_val he33 rfl rfl (.int .i64 ((verdM (x2.getD 4 ⟨#[]⟩)).1)) (rn_move _ (Or.inr rfl) _ (he33.tmp 38 _ rfl)) (fun a34 he34 => ?_)
      clear he33
      refine wl_val he34 rfl rfl (.bool false) (rn_move _ (Or.inr rfl) _ (he34.tmp 39 _ rfl)) (fun a35 he35 => ?_)
      clear he34
      refine wl_end ?_
      refine wp_seqR ?_
      refine wl_val he35 rfl rfl (.int .i64 ((atoiP (x2.getD 1 ⟨#[]⟩)).1)) (rn_move _ (Or.inl rfl) _ (he35.tmp 5 _ rfl)) (fun a36 he36 => ?_)
      clear he35
      refine wl_val he36 rfl rfl (.slice (some ⟨b2, 0, none⟩) (x2.length) (x2.length)) (rn_move _ (Or.inl rfl) _ (he36.tmp 4 _ rfl)) (fun a37 he37 => ?_)
      clear he36
      refine wl_val he37 rfl rfl (.pointer (some ⟨b2, 0 + 2 * 1, none⟩)) (rn_indexA _ _ _ rfl _ _ (.pointer (some ⟨b2, 0 + 2 * 1, none⟩)) (he37.tmp 41 _ rfl) rfl (ixS 9 1 (by kernel_rfl) (fun w => by kernel_rfl) (b2) (0) (x2.length) (x2.length) (2) (by omega) _)) (fun a38 he38 => ?_)
      clear he37
      refine wl_val he38 rfl rfl (.string (x2.getD 2 ⟨#[]⟩)) (rn_load1 hm5 2 rfl _ _ rfl (0 + 2 * 1) (he38.tmp 42 _ rfl) one9 _ (cut_get (by omega))) (fun a39 he39 => ?_)
      clear he38
      refine wl_callN he39 hm5 3 rfl rfl rfl _ #[.string (x2.getD 2 ⟨#[]⟩)] (enter_call _ _ _ rfl 42 #[] #[] rfl #[.string (x2.getD 2 ⟨#[]⟩)] (map1 (he39.tmp 43 _ rfl)) #[.string (x2.getD 2 ⟨#[]⟩)] rfl (fun _ _ => by kernel_rfl)) (c_firstNew (x2.getD 2 ⟨#[]⟩) _ (hT.t.kb hm5.keep rfl)) (fun x3 b3 a40 w6 hx3 he40 hm6 => ?_)
      clear he39 hm5
      refine wl_val he40 rfl rfl (.int .i64 (x3.1)) (rn_fieldV _ _ _ rfl _ (.int .i64 (x3.1)) (he40.tmp 44 _ rfl) (by kernel_rfl)) (fun a41 he41 => ?_)
      clear he40
      refine wl_val he41 rfl rfl (.int .i64 ((atoiP (x2.getD 3 ⟨#[]⟩)).1)) (rn_move _ (Or.inl rfl) _ (he41.tmp 7 _ rfl)) (fun a42 he42 => ?_)
      clear he41
      refine wl_val he42 rfl rfl (.int .i64 ((verdM (x2.getD 4 ⟨#[]⟩)).1)) (rn_move _ (Or.inl rfl) _ (he42.tmp 9 _ rfl)) (fun a43 he43 => ?_)
      clear he42
      refine wl_val he43 rfl rfl (.agg (#[.int .i64 ((atoiP (x2.getD 1 ⟨#[]⟩)).1), .int .i64 (x3.1), .int .i64 ((atoiP (x2.getD 3 ⟨#[]⟩)).1), .int .i64 ((verdM (x2.getD 4 ⟨#[]⟩)).1), .int .i64 (0)])) (rn_build _ _ rfl #[(0, .int .i64 ((atoiP (x2.getD 1 ⟨#[]⟩)).1)), (1, .int .i64 (x3.1)), (2, .int .i64 ((atoiP (x2.getD 3 ⟨#[]⟩)).1)), (3, .int .i64 ((verdM (x2.getD 4 ⟨#[]⟩)).1))] (pmap4 (he43.tmp 40 _ rfl) (he43.tmp 45 _ rfl) (he43.tmp 46 _ rfl) (he43.tmp 47 _ rfl)) _ (by kernel_rfl)) (fun a44 he44 => ?_)
      clear he43
      refine wl_alloc he44 hm6 4 rfl rfl rfl _ rfl (.agg #[.int .i64 0, .int .i64 0, .int .i64 0, .int .i64 0, .int .i64 0]) (fun w => by kernel_rfl) (#[.int .i64 (0), .int .i64 (0), .int .i64 (0), .int .i64 (0), .int .i64 (0)]) rfl (fun a45 w7 b4 he45 hm7 => ?_)
      clear he44 hm6
      refine wl_store he45 hm7 4 rfl rfl rfl _ _ _ rfl (0) (he45.tmp 11 _ rfl) _ (he45.tmp 48 _ rfl) 5 agg36.size rfl (by kernel_rfl) (by simp) (#[.int .i64 ((atoiP (x2.getD 1 ⟨#[]⟩)).1), .int .i64 (x3.1), .int .i64 ((atoiP (x2.getD 3 ⟨#[]⟩)).1), .int .i64 ((verdM (x2.getD 4 ⟨#[]⟩)).1), .int .i64 (0)]) (by kernel_rfl) (fun w8 hm8 => ?_)
      clear hm7
      refine wl_end ?_
      refine wp_seqR ?_
      refine wl_val he45 rfl rfl (.bool false) (rn_move _ (Or.inl rfl) _ (he45.tmp 6 _ rfl)) (fun a46 he46 => ?_)
      clear he45
      refine wl_val he46 rfl rfl (.bool false) (rn_move _ (Or.inl rfl) _ (he46.tmp 49 _ rfl)) (fun a47 he47 => ?_)
      clear he46
      refine wl_not he47 rfl (wanted_slot he47 1 true rfl 50 rfl false rfl false rfl) (fun a48 he48 => ?_)
      clear he47
      refine wl_val he48 rfl rfl (.bool false) (rn_pickF _ _ _ rfl (he48.tmp 50 _ rfl) _ rfl) (fun a49 he49 => ?_)
      clear he48
      refine wl_val he49 rfl rfl (.bool false) (rn_move _ (Or.inl rfl) _ (he49.tmp 52 _ rfl)) (fun a50 he50 => ?_)
      clear he49
      refine wl_not he50 rfl (wanted_slot he50 4 true rfl 53 rfl false rfl false rfl) (fun a51 he51 => ?_)
      clear he50
      refine wl_val he51 rfl rfl (.bool false) (rn_pickF _ _ _ rfl (he51.tmp 53 _ rfl) _ rfl) (fun a52 he52 => ?_)
      clear he51
      refine wl_val he52 rfl rfl (.bool false) (rn_move _ (Or.inr rfl) _ (he52.tmp 55 _ rfl)) (fun a53 he53 => ?_)
      clear he52
      refine wl_end ?_
      refine wp_seq ?_
      refine wp_seqR ?_
      refine wl_val he53 rfl rfl (.bool false) (rn_move _ (Or.inl rfl) _ (he53.tmp 12 _ rfl)) (fun a54 he54 => ?_)
      clear he53
      refine wl_val he54 rfl rfl (.bool false) (rn_move _ (Or.inl rfl) _ (he54.tmp 56 _ rfl)) (fun a55 he55 => ?_)
      clear he54
      refine wl_not he55 rfl (wanted_slot he55 1 true rfl 57 rfl false rfl false rfl) (fun a56 he56 => ?_)
      clear he55
      refine wl_not he56 rfl (wanted_slot he56 1 true rfl 57 rfl false rfl false rfl) (fun a57 he57 => ?_)
      clear he56
      refine wl_val he57 rfl rfl (.bool false) (rn_pickF _ _ _ rfl (he57.tmp 57 _ rfl) _ rfl) (fun a58 he58 => ?_)
      clear he57
      refine wl_val he58 rfl rfl (.bool false) (rn_move _ (Or.inl rfl) _ (he58.tmp 60 _ rfl)) (fun a59 he59 => ?_)
      clear he58
      refine wl_not he59 rfl (wanted_slot he59 5 true rfl 61 rfl false rfl false rfl) (fun a60 he60 => ?_)
      clear he59
      refine wl_not he60 rfl (wanted_slot he60 5 true rfl 61 rfl false rfl false rfl) (fun a61 he61 => ?_)
      clear he60
      refine wl_not he61 rfl (wanted_slot he61 5 true rfl 61 rfl false rfl false rfl) (fun a62 he62 => ?_)
      clear he61
      refine wl_val he62 rfl rfl (.bool false) (rn_pickF _ _ _ rfl (he62.tmp 61 _ rfl) _ rfl) (fun a63 he63 => ?_)
      clear he62
      refine wl_end ?_
      refine wp_condF (he := he63) rfl ?_
      refine wp_skip ?_
      refine then_normal ?_
      refine wp_seqR ?_
      refine wl_val he63 rfl rfl (.agg (#[.int .i64 ((atoiP (x2.getD 1 ⟨#[]⟩)).1), .int .i64 (x3.1), .int .i64 ((atoiP (x2.getD 3 ⟨#[]⟩)).1), .int .i64 ((verdM (x2.getD 4 ⟨#[]⟩)).1), .int .i64 (0)])) (rn_loadA hm8 4 rfl _ _ rfl (0) (he63.tmp 11 _ rfl) 5 agg36 (#[.int .i64 ((atoiP (x2.getD 1 ⟨#[]⟩)).1), .int .i64 (x3.1), .int .i64 ((atoiP (x2.getD 3 ⟨#[]⟩)).1), .int .i64 ((verdM (x2.getD 4 ⟨#[]⟩)).1), .int .i64 (0)]) rfl rfl) (fun a64 he64 => ?_)
      clear he63
      refine wl_val he64 rfl rfl (.bool false) (rn_move _ (Or.inl rfl) _ (he64.tmp 12 _ rfl)) (fun a65 he65 => ?_)
      clear he64
      refine wl_store he65 hm8 1 rfl rfl rfl _ _ _ rfl (0) (he65.tmp 2 _ rfl) _ (he65.tmp 74 _ rfl) 5 agg36.size rfl (by kernel_rfl) (by simp) (#[.int .i64 ((atoiP (x2.getD 1 ⟨#[]⟩)).1), .int .i64 (x3.1), .int .i64 ((atoiP (x2.getD 3 ⟨#[]⟩)).1), .int .i64 ((verdM (x2.getD 4 ⟨#[]⟩)).1), .int .i64 (0)]) (by kernel_rfl) (fun w9 hm9 => ?_)
      clear hm8
      refine wl_val he65 rfl rfl (.bool false) (rn_move _ (Or.inr rfl) _ (he65.tmp 75 _ rfl)) (fun a66 he66 => ?_)
      clear he65
      refine wl_end ?_
      refine wp_ret ?_
      refine bodyPost_ret (results_cell_t he66 hm9 _ _ _ Tryd.results21 _ rfl 1 rfl 5 agg36 (by first | rfl | assumption) _ rfl) he66.defers ⟨⟨(atoiP (x2.getD 1 ⟨#[]⟩)).1, x3.1, (atoiP (x2.getD 3 ⟨#[]⟩)).1, (verdM (x2.getD 4 ⟨#[]⟩)).1, 0⟩, false, rfl, fun p hp e => ?_, hm9.below⟩
      have W := rule_of hx2 hp e hx3
      by_cases h2 : p.ver = 2
      · obtain ⟨l6, a5⟩ := W.k2 h2; exact Bool.noConfusion (show false = true from hd2.symm.trans (congrArg Prod.snd W.a1))
      · have k0 := W.k0 h2; exact Bool.noConfusion (show false = true from hd2.symm.trans (congrArg Prod.snd W.a1))
     ·
      refine wl_call he29 hm4 rfl rfl _ #[.string (x2.getD 4 ⟨#[]⟩)] (enter_call _ _ _ rfl 41 #[] #[] rfl #[.string (x2.getD 4 ⟨#[]⟩)] (map1 (he29.tmp 36 _ rfl)) #[.string (x2.getD 4 ⟨#[]⟩)] rfl (fun _ _ => by kernel_rfl)) (.tuple #[.int .i64 ((verdM (x2.getD 4 ⟨#[]⟩)).1), .bool true]) (c_verdB (x2.getD 4 ⟨#[]⟩) _ (hT.t.kb hm4.keep rfl) _ hd4) (fun a30 w5 he30 hm5 => ?_)
      clear he29 hm4
      refine wl_val he30 rfl rfl (.tuple #[.int .i64 ((verdM (x2.getD 4 ⟨#[]⟩)).1), .bool true]) (rn_move _ (Or.inl rfl) _ (he30.tmp 37 _ rfl)) (fun a31 he31 => ?_)
      clear he30
      refine wl_val he31 rfl rfl (.int .i64 ((verdM (x2.getD 4 ⟨#[]⟩)).1)) (rn_extract _ _ rfl _ (he31.tmp 33 _ rfl) _ rfl) (fun a32 he32 => ?_)
      clear he31
      refine wl_val he32 rfl rfl (.bool true) (rn_extract _ _ rfl _ (he32.tmp 33 _ rfl) _ rfl) (fun a33 he33 => ?_)
      clear he32
      refine wl_val he33 rfl rfl (.int .i64 ((verdM (x2.getD 4 ⟨#[]⟩)).1)) (rn_move _ (Or.inr rfl) _ (he33.tmp 38 _ rfl)) (fun a34 he34 => ?_)
      clear he33
      refine wl_val he34 rfl rfl (.bool true) (rn_move _ (Or.inr rfl) _ (he34.tmp 39 _ rfl)) (fun a35 he35 => ?_)
      clear he34
      refine wl_end ?_
      refine wp_seqR ?_
      refine wl_val he35 rfl rfl (.int .i64 ((atoiP (x2.getD 1 ⟨#[]⟩)).1)) (rn_move _ (Or.inl rfl) _ (he35.tmp 5 _ rfl)) (fun a36 he36 => ?_)
      clear he35
      refine wl_val he36 rfl rfl (.slice (some ⟨b2, 0, none⟩) (x2.length) (x2.length)) (rn_move _ (Or.inl rfl) _ (he36.tmp 4 _ rfl)) (fun a37 he37 => ?_)
      clear he36
      refine wl_val he37 rfl rfl (.pointer (some ⟨b2, 0 + 2 * 1, none⟩)) (rn_indexA _ _ _ rfl _ _ (.pointer (some ⟨b2, 0 + 2 * 1, none⟩)) (he37.tmp 41 _ rfl) rfl (ixS 9 1 (by kernel_rfl) (fun w => by kernel_rfl) (b2) (0) (x2.length) (x2.length) (2) (by omega) _)) (fun a38 he38 => ?_)
      clear he37
      refine wl_val he38 rfl rfl (.string (x2.getD 2 ⟨#[]⟩)) (rn_load1 hm5 2 rfl _ _ rfl (0 + 2 * 1) (he38.tmp 42 _ rfl) one9 _ (cut_get (by omega))) (fun a39 he39 => ?_)
      clear he38
      refine wl_callN he39 hm5 3 rfl rfl rfl _ #[.string (x2.getD 2 ⟨#[]⟩)] (enter_call _ _ _ rfl 42 #[] #[] rfl #[.string (x2.getD 2 ⟨#[]⟩)] (map1 (he39.tmp 43 _ rfl)) #[.string (x2.getD 2 ⟨#[]⟩)] rfl (fun _ _ => by kernel_rfl)) (c_firstNew (x2.getD 2 ⟨#[]⟩) _ (hT.t.kb hm5.keep rfl)) (fun x3 b3 a40 w6 hx3 he40 hm6 => ?_)
      clear he39 hm5
      refine wl_val he40 rfl rfl (.int .i64 (x3.1)) (rn_fieldV _ _ _ rfl _ (.int .i64 (x3.1)) (he40.tmp 44 _ rfl) (by kernel_rfl)) (fun a41 he41 => ?_)
      clear he40
      refine wl_val he41 rfl rfl (.int .i64 ((atoiP (x2.getD 3 ⟨#[]⟩)).1)) (rn_move _ (Or.inl rfl) _ (he41.tmp 7 _ rfl)) (fun a42 he42 => ?_)
      clear he41
      refine wl_val he42 rfl rfl (.int .i64 ((verdM (x2.getD 4 ⟨#[]⟩)).1)) (rn_move _ (Or.inl rfl) _ (he42.tmp 9 _ rfl)) (fun a43 he43 => ?_)
      clear he42
      refine wl_val he43 rfl rfl (.agg (#[.int .i64 ((atoiP (x2.getD 1 ⟨#[]⟩)).1), .int .i64 (x3.1), .int .i64 ((atoiP (x2.getD 3 ⟨#[]⟩)).1), .int .i64 ((verdM (x2.getD 4 ⟨#[]⟩)).1), .int .i64 (0)])) (rn_build _ _ rfl #[(0, .int .i64 ((atoiP (x2.getD 1 ⟨#[]⟩)).1)), (1, .int .i64 (x3.1)), (2, .int .i64 ((atoiP (x2.getD 3 ⟨#[]⟩)).1)), (3, .int .i64 ((verdM (x2.getD 4 ⟨#[]⟩)).1))] (pmap4 (he43.tmp 40 _ rfl) (he43.tmp 45 _ rfl) (he43.tmp 46 _ rfl) (he43.tmp 47 _ rfl)) _ (by kernel_rfl)) (fun a44 he44 => ?_)
      clear he43
      refine wl_alloc he44 hm6 4 rfl rfl rfl _ rfl (.agg #[.int .i64 0, .int .i64 0, .int .i64 0, .int .i64 0, .int .i64 0]) (fun w => by kernel_rfl) (#[.int .i64 (0), .int .i64 (0), .int .i64 (0), .int .i64 (0), .int .i64 (0)]) rfl (fun a45 w7 b4 he45 hm7 => ?_)
      clear he44 hm6
      refine wl_store he45 hm7 4 rfl rfl rfl _ _ _ rfl (0) (he45.tmp 11 _ rfl) _ (he45.tmp 48 _ rfl) 5 agg36.size rfl (by kernel_rfl) (by simp) (#[.int .i64 ((atoiP (x2.getD 1 ⟨#[]⟩)).1), .int .i64 (x3.1), .int .i64 ((atoiP (x2.getD 3 ⟨#[]⟩)).1), .int .i64 ((verdM (x2.getD 4 ⟨#[]⟩)).1), .int .i64 (0)]) (by kernel_rfl) (fun w8 hm8 => ?_)
      clear hm7
      refine wl_end ?_
      refine wp_seqR ?_
      refine wl_val he45 rfl rfl (.bool false) (rn_move _ (Or.inl rfl) _ (he45.tmp 6 _ rfl)) (fun a46 he46 => ?_)
      clear he45
      refine wl_val he46 rfl rfl (.bool false) (rn_move _ (Or.inl rfl) _ (he46.tmp 49 _ rfl)) (fun a47 he47 => ?_)
      clear he46
      refine wl_not he47 rfl (wanted_slot he47 1 true rfl 50 rfl false rfl false rfl) (fun a48 he48 => ?_)
      clear he47
      refine wl_val he48 rfl rfl (.bool false) (rn_pickF _ _ _ rfl (he48.tmp 50 _ rfl) _ rfl) (fun a49 he49 => ?_)
      clear he48
      refine wl_val he49 rfl rfl (.bool false) (rn_move _ (Or.inl rfl) _ (he49.tmp 52 _ rfl)) (fun a50 he50 => ?_)
      clear he49
      refine wl_not he50 rfl (wanted_slot he50 4 true rfl 53 rfl false rfl false rfl) (fun a51 he51 => ?_)
      clear he50
      refine wl_val he51 rfl rfl (.bool false) (rn_pickF _ _ _ rfl (he51.tmp 53 _ rfl) _ rfl) (fun a52 he52 => ?_)
      clear he51
      refine wl_val he52 rfl rfl (.bool false) (rn_move _ (Or.inr rfl) _ (he52.tmp 55 _ rfl)) (fun a53 he53 => ?_)
      clear he52
      refine wl_end ?_
      refine wp_seq ?_
      refine wp_seqR ?_
      refine wl_val he53 rfl rfl (.bool false) (rn_move _ (Or.inl rfl) _ (he53.tmp 12 _ rfl)) (fun a54 he54 => ?_)
      clear he53
      refine wl_val he54 rfl rfl (.bool false) (rn_move _ (Or.inl rfl) _ (he54.tmp 56 _ rfl)) (fun a55 he55 => ?_)
      clear he54
      refine wl_not he55 rfl (wanted_slot he55 1 true rfl 57 rfl false rfl false rfl) (fun a56 he56 => ?_)
      clear he55
      refine wl_not he56 rfl (wanted_slot he56 1 true rfl 57 rfl false rfl false rfl) (fun a57 he57 => ?_)
      clear he56
      refine wl_val he57 rfl rfl (.bool false) (rn_pickF _ _ _ rfl (he57.tmp 57 _ rfl) _ rfl) (fun a58 he58 => ?_)
      clear he57
      refine wl_val he58 rfl rfl (.bool false) (rn_move _ (Or.inl rfl) _ (he58.tmp 60 _ rfl)) (fun a59 he59 => ?_)
      clear he58
      refine wl_not he59 rfl (wanted_slot he59 5 true rfl 61 rfl false rfl false rfl) (fun a60 he60 => ?_)
      clear he59
      refine wl_not he60 rfl (wanted_slot he60 5 true rfl 61 rfl false rfl false rfl) (fun a61 he61 => ?_)
      clear he60
      refine wl_not he61 rfl (wanted_slot he61 5 true rfl 61 rfl false rfl false rfl) (fun a62 he62 => ?_)
      clear he61
      refine wl_val he62 rfl rfl (.bool false) (rn_pickF _ _ _ rfl (he62.tmp 61 _ rfl) _ rfl) (fun a63 he63 => ?_)
      clear he62
      refine wl_end ?_
      refine wp_condF (he := he63) rfl ?_
      refine wp_skip ?_
      refine then_normal ?_
      refine wp_seqR ?_
      refine wl_val he63 rfl rfl (.agg (#[.int .i64 ((atoiP (x2.getD 1 ⟨#[]⟩)).1), .int .i64 (x3.1), .int .i64 ((atoiP (x2.getD 3 ⟨#[]⟩)).1), .int .i64 ((verdM (x2.getD 4 ⟨#[]⟩)).1), .int .i64 (0)])) (rn_loadA hm8 4 rfl _ _ rfl (0) (he63.tmp 11 _ rfl) 5 agg36 (#[.int .i64 ((atoiP (x2.getD 1 ⟨#[]⟩)).1), .int .i64 (x3.1), .int .i64 ((atoiP (x2.getD 3 ⟨#[]⟩)).1), .int .i64 ((verdM (x2.getD 4 ⟨#[]⟩)).1), .int .i64 (0)]) rfl rfl) (fun a64 he64 => ?_)
      clear he63
      refine wl_val he64 rfl rfl (.bool false) (rn_move _ (Or.inl rfl) _ (he64.tmp 12 _ rfl)) (fun a65 he65 => ?_)
      clear he64
      refine wl_store he65 hm8 1 rfl rfl rfl _ _ _ rfl (0) (he65.tmp 2 _ rfl) _ (he65.tmp 74 _ rfl) 5 agg36.size rfl (by kernel_rfl) (by simp) (#[.int .i64 ((atoiP (x2.getD 1 ⟨#[]⟩)).1), .int .i64 (x3.1), .int .i64 ((atoiP (x2.getD 3 ⟨#[]⟩)).1), .int .i64 ((verdM (x2.getD 4 ⟨#[]⟩)).1), .int .i64 (0)]) (by kernel_rfl) (fun w9 hm9 => ?_)
      clear hm8
      refine wl_val he65 rfl rfl (.bool false) (rn_move _ (Or.inr rfl) _ (he65.tmp 75 _ rfl)) (fun a66 he66 => ?_)
      clear he65
      refine wl_end ?_
      refine wp_ret ?_
      refine bodyPost_ret (results_cell_t he66 hm9 _ _ _ Tryd.results21 _ rfl 1 rfl 5 agg36 (by first | rfl | assumption) _ rfl) he66.defers ⟨⟨(atoiP (x2.getD 1 ⟨#[]⟩)).1, x3.1, (atoiP (x2.getD 3 ⟨#[]⟩)).1, (verdM (x2.getD 4 ⟨#[]⟩)).1, 0⟩, false, rfl, fun p hp e => ?_, hm9.below⟩
      have W := rule_of hx2 hp e hx3
      by_cases h2 : p.ver = 2
      · obtain ⟨l6, a5⟩ := W.k2 h2; exact Bool.noConfusion (show false = true from hd2.symm.trans (congrArg Prod.snd W.a1))
      · have k0 := W.k0 h2; exact Bool.noConfusion (show false = true from hd2.symm.trans (congrArg Prod.snd W.a1))
   ·
    refine wl_call he11 hm2 rfl rfl _ #[.string (x2.getD 1 ⟨#[]⟩)] (enter_call _ _ _ rfl 40 #[] #[] rfl #[.string (x2.getD 1 ⟨#[]⟩)] (map1 (he11.tmp 22 _ rfl)) #[.string (x2.getD 1 ⟨#[]⟩)] rfl (fun _ _ => by kernel_rfl)) (.tuple #[.int .i64 ((atoiP (x2.getD 1 ⟨#[]⟩)).1), .bool true]) (c_num (x2.getD 1 ⟨#[]⟩) (cut_size hx2 hl _) _ (hT.kb hm2.keep rfl) _ hd2) (fun a12 w3 he12 hm3 => ?_)
    clear he11 hm2
    refine wl_val he12 rfl rfl (.tuple #[.int .i64 ((atoiP (x2.getD 1 ⟨#[]⟩)).1), .bool true]) (rn_move _ (Or.inl rfl) _ (he12.tmp 23 _ rfl)) (fun a13 he13 => ?_)
    clear he12
    refine wl_val he13 rfl rfl (.int .i64 ((atoiP (x2.getD 1 ⟨#[]⟩)).1)) (rn_extract _ _ rfl _ (he13.tmp 19 _ rfl) _ rfl) (fun a14 he14 => ?_)
    clear he13
    refine wl_val he14 rfl rfl (.bool true) (rn_extract _ _ rfl _ (he14.tmp 19 _ rfl) _ rfl) (fun a15 he15 => ?_)
    clear he14
    refine wl_val he15 rfl rfl (.int .i64 ((atoiP (x2.getD 1 ⟨#[]⟩)).1)) (rn_move _ (Or.inr rfl) _ (he15.tmp 24 _ rfl)) (fun a16 he16 => ?_)
    clear he15
    refine wl_val he16 rfl rfl (.bool true) (rn_move _ (Or.inr rfl) _ (he16.tmp 25 _ rfl)) (fun a17 he17 => ?_)
    clear he16
    refine wl_end ?_
    refine wp_seqR ?_
    refine wl_val he17 rfl rfl (.slice (some ⟨b2, 0, none⟩) (x2.length) (x2.length)) (rn_move _ (Or.inl rfl) _ (he17.tmp 4 _ rfl)) (fun a18 he18 => ?_)
    clear he17
    refine wl_val he18 rfl rfl (.pointer (some ⟨b2, 0 + 3 * 1, none⟩)) (rn_indexA _ _ _ rfl _ _ (.pointer (some ⟨b2, 0 + 3 * 1, none⟩)) (he18.tmp 27 _ rfl) rfl (ixS 9 1 (by kernel_rfl) (fun w => by kernel_rfl) (b2) (0) (x2.length) (x2.length) (3) (by omega) _)) (fun a19 he19 => ?_)
    clear he18
    refine wl_val he19 rfl rfl (.string (x2.getD 3 ⟨#[]⟩)) (rn_load1 hm3 2 rfl _ _ rfl (0 + 3 * 1) (he19.tmp 28 _ rfl) one9 _ (cut_get (by omega))) (fun a20 he20 => ?_)
    clear he19
    cases hd3 : ((atoiP (x2.getD 3 ⟨#[]⟩)).2)
    ·
     refine wl_call he20 hm3 rfl rfl _ #[.string (x2.getD 3 ⟨#[]⟩)] (enter_call _ _ _ rfl 40 #[] #[] rfl #[.string (x2.getD 3 ⟨#[]⟩)] (map1 (he20.tmp 29 _ rfl)) #[.string (x2.getD 3 ⟨#[]⟩)] rfl (fun _ _ => by kernel_rfl)) (.tuple #[.int .i64 ((atoiP (x2.getD 3 ⟨#[]⟩)).1), .bool false]) (c_num (x2.getD 3 ⟨#[]⟩) (cut_size hx2 hl _) _ (hT.kb hm3.keep rfl) _ hd3) (fun a21 w4 he21 hm4 => ?_)
     clear he20 hm3
     refine wl_val he21 rfl rfl (.tuple #[.int .i64 ((atoiP (x2.getD 3 ⟨#[]⟩)).1), .bool false]) (rn_move _ (Or.inl rfl) _ (he21.tmp 30 _ rfl)) (fun a22 he22 => ?_)
     clear he21
     refine wl_val he22 rfl rfl (.int .i64 ((atoiP (x2.getD 3 ⟨#[]⟩)).1)) (rn_extract _ _ rfl _ (he22.tmp 26 _ rfl) _ rfl) (fun a23 he23 => ?_)
     clear he22
     refine wl_val he23 rfl rfl (.bool false) (rn_extract _ _ rfl _ (he23.tmp 26 _ rfl) _ rfl) (fun a24 he24 => ?_)
     clear he23
     refine wl_val he24 rfl rfl (.int .i64 ((atoiP (x2.getD 3 ⟨#[]⟩)).1)) (rn_move _ (Or.inr rfl) _ (he24.tmp 31 _ rfl)) (fun a25 he25 => ?_)
     clear he24
     refine wl_val he25 rfl rfl (.bool false) (rn_move _ (Or.inr rfl) _ (he25.tmp 32 _ rfl)) (fun a26 he26 => ?_)
     clear he25
     refine wl_end ?_
     refine wp_seqR ?_
     refine wl_val he26 rfl rfl (.slice (some ⟨b2, 0, none⟩) (x2.length) (x2.length)) (rn_move _ (Or.inl rfl) _ (he26.tmp 4 _ rfl)) (fun a27 he27 => ?_)
     clear he26
     refine wl_val he27 rfl rfl (.pointer (some ⟨b2, 0 + 4 * 1, none⟩)) (rn_indexA _ _ _ rfl _ _ (.pointer (some ⟨b2, 0 + 4 * 1, none⟩)) (he27.tmp 34 _ rfl) rfl (ixS 9 1 (by kernel_rfl) (fun w => by kernel_rfl) (b2) (0) (x2.length) (x2.length) (4) (by omega) _)) (fun a28 he28 => ?_)
     clear he27
     refine wl_val he28 rfl rfl (.string (x2.getD 4 ⟨#[]⟩)) (rn_load1 hm4 2 rfl _ _ rfl (0 + 4 * 1) (he28.tmp 35 _ rfl) one9 _ (cut_get (by omega))) (fun a29 he29 => ?_)
     clear he28
     cases hd4 : ((verdM (x2.getD 4 ⟨#[]⟩)).2)
     ·
      refine wl_call he29 hm4 rfl rfl _ #[.string (x2.getD 4 ⟨#[]⟩)] (enter_call _ _ _ rfl 41 #[] #[] rfl #[.string (x2.getD 4 ⟨#[]⟩)] (map1 (he29.tmp 36 _ rfl)) #[.string (x2.getD 4 ⟨#[]⟩)] rfl (fun _ _ => by kernel_rfl)) (.tuple #[.int .i64 ((verdM (x2.getD 4 ⟨#[]⟩)).1), .bool false]) (c_verdB (x2.getD 4 ⟨#[]⟩) _ (hT.t.kb hm4.keep rfl) _ hd4) (fun a30 w5 he30 hm5 => ?_)
      clear he29 hm4
      refine wl_val he30 rfl rfl (.tuple #[.int .i64 ((verdM (x2.getD 4 ⟨#[]⟩)).1), .bool false]) (rn_move _ (Or.inl rfl) _ (he30.tmp 37 _ rfl)) (fun a31 he31 => ?_)
      clear he30
      refine wl_val he31 rfl rfl (.int .i64 ((verdM (x2.getD 4 ⟨#[]⟩)).1)) (rn_extract _ _ rfl _ (he31.tmp 33 _ rfl) _ rfl) (fun a32 he32 => ?_)
      clear he31
      refine wl_val he32 rfl rfl (.bool false) (rn_extract _ _ rfl _ (he32.tmp 33 _ rfl) _ rfl) (fun a33 he33 => ?_)
      clear he32
      refine wl_val he33 rfl rfl (.int .i64 ((verdM (x2.getD 4 ⟨#[]⟩)).1)) (rn_move _ (Or.inr rfl) _ (he33.tmp 38 _ rfl)) (fun a34 he34 => ?_)
      clear he33
      refine wl_val he34 rfl rfl (.bool false) (rn_move _ (Or.inr rfl) _ (he34.tmp 39 _ rfl)) (fun a35 he35 => ?_)
      clear he34
      refine wl_end ?_
      refine wp_seqR ?_
      refine wl_val he35 rfl rfl (.int .i64 ((atoiP (x2.getD 1 ⟨#[]⟩)).1)) (rn_move _ (Or.inl rfl) _ (he35.tmp 5 _ rfl)) (fun a36 he36 => ?_)
      clear he35
      refine wl_val he36 rfl rfl (.slice (some ⟨b2, 0, none⟩) (x2.length) (x2.length)) (rn_move _ (Or.inl rfl) _ (he36.tmp 4 _ rfl)) (fun a37 he37 => ?_)
      clear he36
      refine wl_val he37 rfl rfl (.pointer (some ⟨b2, 0 + 2 * 1, none⟩)) (rn_indexA _ _ _ rfl _ _ (.pointer (some ⟨b2, 0 + 2 * 1, none⟩)) (he37.tmp 41 _ rfl) rfl (ixS 9 1 (by kernel_rfl) (fun w => by kernel_rfl) (b2) (0) (x2.length) (x2.length) (2) (by omega) _)) (fun a38 he38 => ?_)
      clear he37
      refine wl_val he38 rfl rfl (.string (x2.getD 2 ⟨#[]⟩)) (rn_load1 hm5 2 rfl _ _ rfl (0 + 2 * 1) (he38.tmp 42 _ rfl) one9 _ (cut_get (by omega))) (fun a39 he39 => ?_)
      clear he38
      refine wl_callN he39 hm5 3 rfl rfl rfl _ #[.string (x2.getD 2 ⟨#[]⟩)] (enter_call _ _ _ rfl 42 #[] #[] rfl #[.string (x2.getD 2 ⟨#[]⟩)] (map1 (he39.tmp 43 _ rfl)) #[.string (x2.getD 2 ⟨#[]⟩)] rfl (fun _ _ => by kernel_rfl)) (c_firstNew (x2.getD 2 ⟨#[]⟩) _ (hT.t.kb hm5.keep rfl)) (fun x3 b3 a40 w6 hx3 he40 hm6 => ?_)
      clear he39 hm5
      refine wl_val he40 rfl rfl (.int .i64 (x3.1)) (rn_fieldV _ _ _ rfl _ (.int .i64 (x3.1)) (he40.tmp 44 _ rfl) (by kernel_rfl)) (fun a41 he41 => ?_)
      clear he40
      refine wl_val he41 rfl rfl (.int .i64 ((atoiP (x2.getD 3 ⟨#[]⟩)).1)) (rn_move _ (Or.inl rfl) _ (he41.tmp 7 _ rfl)) (fun a42 he42 => ?_)
      clear he41
      refine wl_val he42 rfl rfl (.int .i64 ((verdM (x2.getD 4 ⟨#[]⟩)).1)) (rn_move _ (Or.inl rfl) _ (he42.tmp 9 _ rfl)) (fun a43 he43 => ?_)
      clear he42
      refine wl_val he43 rfl rfl (.agg (#[.int .i64 ((atoiP (x2.getD 1 ⟨#[]⟩)).1), .int .i64 (x3.1), .int .i64 ((atoiP (x2.getD 3 ⟨#[]⟩)).1), .int .i64 ((verdM (x2.getD 4 ⟨#[]⟩)).1), .int .i64 (0)])) (rn_build _ _ rfl #[(0, .int .i64 ((atoiP (x2.getD 1 ⟨#[]⟩)).1)), (1, .int .i64 (x3.1)), (2, .int .i64 ((atoiP (x2.getD 3 ⟨#[]⟩)).1)), (3, .int .i64 ((verdM (x2.getD 4 ⟨#[]⟩)).1))] (pmap4 (he43.tmp 40 _ rfl) (he43.tmp 45 _ rfl) (he43.tmp 46 _ rfl) (he43.tmp 47 _ rfl)) _ (by kernel_rfl)) (fun a44 he44 => ?_)
      clear he43
      refine wl_alloc he44 hm6 4 rfl rfl rfl _ rfl (.agg #[.int .i64 0, .int .i64 0, .int .i64 0, .int .i64 0, .int .i64 0]) (fun w => by kernel_rfl) (#[.int .i64 (0), .int .i64 (0), .int .i64 (0), .int .i64 (0), .int .i64 (0)]) rfl (fun a45 w7 b4 he45 hm7 => ?_)
      clear he44 hm6
      refine wl_store he45 hm7 4 rfl rfl rfl _ _ _ rfl (0) (he45.tmp 11 _ rfl) _ (he45.tmp 48 _ rfl) 5 agg36.size rfl (by kernel_rfl) (by simp) (#[.int .i64 ((atoiP (x2.getD 1 ⟨#[]⟩)).1), .int .i64 (x3.1), .int .i64 ((atoiP (x2.getD 3 ⟨#[]⟩)).1), .int .i64 ((verdM (x2.getD 4 ⟨#[]⟩)).1), .int .i64 (0)]) (by kernel_rfl) (fun w8 hm8 => ?_)
      clear hm7
      refine wl_end ?_
      refine wp_seqR ?_
      refine wl_val he45 rfl rfl (.bool true) (rn_move _ (Or.inl rfl) _ (he45.tmp 6 _ rfl)) (fun a46 he46 => ?_)
      clear he45
      refine wl_val he46 rfl rfl (.bool true) (rn_move _ (Or.inl rfl) _ (he46.tmp 49 _ rfl)) (fun a47 he47 => ?_)
      clear he46
      refine wl_val he47 rfl (wanted_slot he47 1 true rfl 50 rfl true rfl true rfl) (.bool false) (rn_move _ (Or.inl rfl) _ (he47.tmp 8 _ rfl)) (fun a48 he48 => ?_)
      clear he47
      refine wl_val he48 rfl rfl (.bool false) (rn_pickT _ _ _ rfl (he48.tmp 50 _ rfl) _ (he48.tmp 51 _ rfl)) (fun a49 he49 => ?_)
      clear he48
      refine wl_val he49 rfl rfl (.bool false) (rn_move _ (Or.inl rfl) _ (he49.tmp 52 _ rfl)) (fun a50 he50 => ?_)
      clear he49
      refine wl_not he50 rfl (wanted_slot he50 4 true rfl 53 rfl false rfl false rfl) (fun a51 he51 => ?_)
      clear he50
      refine wl_val he51 rfl rfl (.bool false) (rn_pickF _ _ _ rfl (he51.tmp 53 _ rfl) _ rfl) (fun a52 he52 => ?_)
      clear he51
      refine wl_val he52 rfl rfl (.bool false) (rn_move _ (Or.inr rfl) _ (he52.tmp 55 _ rfl)) (fun a53 he53 => ?_)
      clear he52
      refine wl_end ?_
      refine wp_seq ?_
      refine wp_seqR ?_
      refine wl_val he53 rfl rfl (.bool false) (rn_move _ (Or.inl rfl) _ (he53.tmp 12 _ rfl)) (fun a54 he54 => ?_)
      clear he53
      refine wl_val he54 rfl rfl (.bool false) (rn_move _ (Or.inl rfl) _ (he54.tmp 56 _ rfl)) (fun a55 he55 => ?_)
      clear he54
      refine wl_not he55 rfl (wanted_slot he55 1 true rfl 57 rfl false rfl false rfl) (fun a56 he56 => ?_)
      clear he55
      refine wl_not he56 rfl (wanted_slot he56 1 true rfl 57 rfl false rfl false rfl) (fun a57 he57 => ?_)
      clear he56
      refine wl_val he57 rfl rfl (.bool false) (rn_pickF _ _ _ rfl (he57.tmp 57 _ rfl) _ rfl) (fun a58 he58 => ?_)
      clear he57
      refine wl_val he58 rfl rfl (.bool false) (rn_move _ (Or.inl rfl) _ (he58.tmp 60 _ rfl)) (fun a59 he59 => ?_)
      clear he58
      refine wl_not he59 rfl (wanted_slot he59 5 true rfl 61 rfl false rfl false rfl) (fun a60 he60 => ?_)
      clear he59
      refine wl_not he60 rfl (wanted_slot he60 5 true rfl 61 rfl false rfl false rfl) (fun a61 he61 => ?_)
      clear he60
      refine wl_not he61 rfl (wanted_slot he61 5 true rfl 61 rfl false rfl false rfl) (fun a62 he62 => ?_)
      clear he61
      refine wl_val he62 rfl rfl (.bool false) (rn_pickF _ _ _ rfl (he62.tmp 61 _ rfl) _ rfl) (fun a63 he63 => ?_)
      clear he62
      refine wl_end ?_
      refine wp_condF (he := he63) rfl ?_
      refine wp_skip ?_
      refine then_normal ?_
      refine wp_seqR ?_
      refine wl_val he63 rfl rfl (.agg (#[.int .i64 ((atoiP (x2.getD 1 ⟨#[]⟩)).1), .int .i64 (x3.1), .int .i64 ((atoiP (x2.getD 3 ⟨#[]⟩)).1), .int .i64 ((verdM (x2.getD 4 ⟨#[]⟩)).1), .int .i64 (0)])) (rn_loadA hm8 4 rfl _ _ rfl (0) (he63.tmp 11 _ rfl) 5 agg36 (#[.int .i64 ((atoiP (x2.getD 1 ⟨#[]⟩)).1), .int .i64 (x3.1), .int .i64 ((atoiP (x2.getD 3 ⟨#[]⟩)).1), .int .i64 ((verdM (x2.getD 4 ⟨#[]⟩)).1), .int .i64 (0)]) rfl rfl) (fun a64 he64 => ?_)
      clear he63
      refine wl_val he64 rfl rfl (.bool false) (rn_move _ (Or.inl rfl) _ (he64.tmp 12 _ rfl)) (fun a65 he65 => ?_)
      clear he64
      refine wl_store he65 hm8 1 rfl rfl rfl _ _ _ rfl (0) (he65.tmp 2 _ rfl) _ (he65.tmp 74 _ rfl) 5 agg36.size rfl (by kernel_rfl) (by simp) (#[.int .i64 ((atoiP (x2.getD 1 ⟨#[]⟩)).1), .int .i64 (x3.1), .int .i64 ((atoiP (x2.getD 3 ⟨#[]⟩)).1), .int .i64 ((verdM (x2.getD 4 ⟨#[]⟩)).1), .int .i64 (0)]) (by kernel_rfl) (fun w9 hm9 => ?_)
      clear hm8
      refine wl_val he65 rfl rfl (.bool false) (rn_move _ (Or.inr rfl) _ (he65.tmp 75 _ rfl)) (fun a66 he66 => ?_)
      clear he65
      refine wl_end ?_
      refine wp_ret ?_
      refine bodyPost_ret (results_cell_t he66 hm9 _ _ _ Tryd.results21 _ rfl 1 rfl 5 agg36 (by first | rfl | assumption) _ rfl) he66.defers ⟨⟨(atoiP (x2.getD 1 ⟨#[]⟩)).1, x3.1, (atoiP (x2.getD 3 ⟨#[]⟩)).1, (verdM (x2.getD 4 ⟨#[]⟩)).1, 0⟩, false, rfl, fun p hp e => ?_, hm9.below⟩
      have W := rule_of hx2 hp e hx3
      by_cases h2 : p.ver = 2
      · obtain ⟨l6, a5⟩ := W.k2 h2; exact Bool.noConfusion (show false = true from hd3.symm.trans (congrArg Prod.snd W.a3))
      · have k0 := W.k0 h2; exact Bool.noConfusion (show false = true from hd3.symm.trans (congrArg Prod.snd W.a3))
     ·
      refine wl_call he29 hm4 rfl rfl _ #[.string (x2.getD 4 ⟨#[]⟩)] (enter_call _ _ _ rfl 41 #[] #[] rfl #[.string (x2.getD 4 ⟨#[]⟩)] (map1 (he29.tmp 36 _ rfl)) #[.string (x2.getD 4 ⟨#[]⟩)] rfl (fun _ _ => by kernel_rfl)) (.tuple #[.int .i64 ((verdM (x2.getD 4 ⟨#[]⟩)).1), .bool true]) (c_verdB (x2.getD 4 ⟨#[]⟩) _ (hT.t.kb hm4.keep rfl) _ hd4) (fun a30 w5 he30 hm5 => ?_)
      clear he29 hm4
      refine wl_val he30 rfl rfl (.tuple #[.int .i64 ((verdM (x2.getD 4 ⟨#[]⟩)).1), .bool true]) (rn_move _ (Or.inl rfl) _ (he30.tmp 37 _ rfl)) (fun a31 he31 => ?_)
      clear he30
      refine wl_val he31 rfl rfl (.int .i64 ((verdM (x2.getD 4 ⟨#[]⟩)).1)) (rn_extract _ _ rfl _ (he31.tmp 33 _ rfl) _ rfl) (fun a32 he32 => ?_)
      clear he31
      refine wl_val he32 rfl rfl (.bool true) (rn_extract _ _ rfl _ (he32.tmp 33 _ rfl) _ rfl) (fun a33 he33 => ?_)
      clear he32
      refine wl_val he33 rfl rfl (.int .i64 ((verdM (x2.getD 4 ⟨#[]⟩)).1)) (rn_move _ (Or.inr rfl) _ (he33.tmp 38 _ rfl)) (fun a34 he34 => ?_)
      clear he33
      refine wl_val he34 rfl rfl (.bool true) (rn_move _ (Or.inr rfl) _ (he34.tmp 39 _ rfl)) (fun a35 he35 => ?_)
      clear he34
      refine wl_end ?_
      refine wp_seqR ?_
      refine wl_val he35 rfl rfl (.int .i64 ((atoiP (x2.getD 1 ⟨#[]⟩)).1)) (rn_move _ (Or.inl rfl) _ (he35.tmp 5 _ rfl)) (fun a36 he36 => ?_)
      clear he35
      refine wl_val he36 rfl rfl (.slice (some ⟨b2, 0, none⟩) (x2.length) (x2.length)) (rn_move _ (Or.inl rfl) _ (he36.tmp 4 _ rfl)) (fun a37 he37 => ?_)
      clear he36
      refine wl_val he37 rfl rfl (.pointer (some ⟨b2, 0 + 2 * 1, none⟩)) (rn_indexA _ _ _ rfl _ _ (.pointer (some ⟨b2, 0 + 2 * 1, none⟩)) (he37.tmp 41 _ rfl) rfl (ixS 9 1 (by kernel_rfl) (fun w => by kernel_rfl) (b2) (0) (x2.length) (x2.length) (2) (by omega) _)) (fun a38 he38 => ?_)
      clear he37
      refine wl_val he38 rfl rfl (.string (x2.getD 2 ⟨#[]⟩)) (rn_load1 hm5 2 rfl _ _ rfl (0 + 2 * 1) (he38.tmp 42 _ rfl) one9 _ (cut_get (by omega))) (fun a39 he39 => ?_)
      clear he38
      refine wl_callN he39 hm5 3 rfl rfl rfl _ #[.string (x2.getD 2 ⟨#[]⟩)] (enter_call _ _ _ rfl 42 #[] #[] rfl #[.string (x2.getD 2 ⟨#[]⟩)] (map1 (he39.tmp 43 _ rfl)) #[.string (x2.getD 2 ⟨#[]⟩)] rfl (fun _ _ => by kernel_rfl)) (c_firstNew (x2.getD 2 ⟨#[]⟩) _ (hT.t.kb hm5.keep rfl)) (fun x3 b3 a40 w6 hx3 he40 hm6 => ?_)
      clear he39 hm5
      refine wl_val he40 rfl rfl (.int .i64 (x3.1)) (rn_fieldV _ _ _ rfl _ (.int .i64 (x3.1)) (he40.tmp 44 _ rfl) (by kernel_rfl)) (fun a41 he41 => ?_)
      clear he40
      refine wl_val he41 rfl rfl (.int .i64 ((atoiP (x2.getD 3 ⟨#[]⟩)).1)) (rn_move _ (Or.inl rfl) _ (he41.tmp 7 _ rfl)) (fun a42 he42 => ?_)
      clear he41
      refine wl_val he42 rfl rfl (.int .i64 ((verdM (x2.getD 4 ⟨#[]⟩)).1)) (rn_move _ (Or.inl rfl) _ (he42.tmp 9 _ rfl)) (fun a43 he43 => ?_)
      clear he42
      refine wl_val he43 rfl rfl (.agg (#[.int .i64 ((atoiP (x2.getD 1 ⟨#[]⟩)).1), .int .i64 (x3.1), .int .i64 ((atoiP (x2.getD 3 ⟨#[]⟩)).1), .int .i64 ((verdM (x2.getD 4 ⟨#[]⟩)).1), .int .i64 (0)])) (rn_build _ _ rfl #[(0, .int .i64 ((atoiP (x2.getD 1 ⟨#[]⟩)).1)), (1, .int .i64 (x3.1)), (2, .int .i64 ((atoiP (x2.getD 3 ⟨#[]⟩)).1)), (3, .int .i64 ((verdM (x2.getD 4 ⟨#[]⟩)).1))] (pmap4 (he43.tmp 40 _ rfl) (he43.tmp 45 _ rfl) (he43.tmp 46 _ rfl) (he43.tmp 47 _ rfl)) _ (by kernel_rfl)) (fun a44 he44 => ?_)
      clear he43
      refine wl_alloc he44 hm6 4 rfl rfl rfl _ rfl (.agg #[.int .i64 0, .int .i64 0, .int .i64 0, .int .i64 0, .int .i64 0]) (fun w => by kernel_rfl) (#[.int .i64 (0), .int .i64 (0), .int .i64 (0), .int .i64 (0), .int .i64 (0)]) rfl (fun a45 w7 b4 he45 hm7 => ?_)
      clear he44 hm6
      refine wl_store he45 hm7 4 rfl rfl rfl _ _ _ rfl (0) (he45.tmp 11 _ rfl) _ (he45.tmp 48 _ rfl) 5 agg36.size rfl (by kernel_rfl) (by simp) (#[.int .i64 ((atoiP (x2.getD 1 ⟨#[]⟩)).1), .int .i64 (x3.1), .int .i64 ((atoiP (x2.getD 3 ⟨#[]⟩)).1), .int .i64 ((verdM (x2.getD 4 ⟨#[]⟩)).1), .int .i64 (0)]) (by kernel_rfl) (fun w8 hm8 => ?_)
      clear hm7
      refine wl_end ?_
      refine wp_seqR ?_
      refine wl_val he45 rfl rfl (.bool true) (rn_move _ (Or.inl rfl) _ (he45.tmp 6 _ rfl)) (fun a46 he46 => ?_)
      clear he45
      refine wl_val he46 rfl rfl (.bool true) (rn_move _ (Or.inl rfl) _ (he46.tmp 49 _ rfl)) (fun a47 he47 => ?_)
      clear he46
      refine wl_val he47 rfl (wanted_slot he47 1 true rfl 50 rfl true rfl true rfl) (.bool false) (rn_move _ (Or.inl rfl) _ (he47.tmp 8 _ rfl)) (fun a48 he48 => ?_)
      clear he47
      refine wl_val he48 rfl rfl (.bool false) (rn_pickT _ _ _ rfl (he48.tmp 50 _ rfl) _ (he48.tmp 51 _ rfl)) (fun a49 he49 => ?_)
      clear he48
      refine wl_val he49 rfl rfl (.bool false) (rn_move _ (Or.inl rfl) _ (he49.tmp 52 _ rfl)) (fun a50 he50 => ?_)
      clear he49
      refine wl_not he50 rfl (wanted_slot he50 4 true rfl 53 rfl false rfl false rfl) (fun a51 he51 => ?_)
      clear he50
      refine wl_val he51 rfl rfl (.bool false) (rn_pickF _ _ _ rfl (he51.tmp 53 _ rfl) _ rfl) (fun a52 he52 => ?_)
      clear he51
      refine wl_val he52 rfl rfl (.bool false) (rn_move _ (Or.inr rfl) _ (he52.tmp 55 _ rfl)) (fun a53 he53 => ?_)
      clear he52
      refine wl_end ?_
      refine wp_seq ?_
      refine wp_seqR ?_
      refine wl_val he53 rfl rfl (.bool false) (rn_move _ (Or.inl rfl) _ (he53.tmp 12 _ rfl)) (fun a54 he54 => ?_)
      clear he53
      refine wl_val he54 rfl rfl (.bool false) (rn_move _ (Or.inl rfl) _ (he54.tmp 56 _ rfl)) (fun a55 he55 => ?_)
      clear he54
      refine wl_not he55 rfl (wanted_slot he55 1 true rfl 57 rfl false rfl false rfl) (fun a56 he56 => ?_)
      clear he55
      refine wl_not he56 rfl (wanted_slot he56 1 true rfl 57 rfl false rfl false rfl) (fun a57 he57 => ?_)
      clear he56
      refine wl_val he57 rfl rfl (.bool false) (rn_pickF _ _ _ rfl (he57.tmp 57 _ rfl) _ rfl) (fun a58 he58 => ?_)
      clear he57
      refine wl_val he58 rfl rfl (.bool false) (rn_move _ (Or.inl rfl) _ (he58.tmp 60 _ rfl)) (fun a59 he59 => ?_)
      clear he58
      refine wl_not he59 rfl (wanted_slot he59 5 true rfl 61 rfl false rfl false rfl) (fun a60 he60 => ?_)
      clear he59
      refine wl_not he60 rfl (wanted_slot he60 5 true rfl 61 rfl false rfl false rfl) (fun a61 he61 => ?_)
      clear he60
      refine wl_not he61 rfl (wanted_slot he61 5 true rfl 61 rfl false rfl false rfl) (fun a62 he62 => ?_)
      clear he61
      refine wl_val he62 rfl rfl (.bool false) (rn_pickF _ _ _ rfl (he62.tmp 61 _ rfl) _ rfl) (fun a63 he63 => ?_)
      clear he62
      refine wl_end ?_
      refine wp_condF (he := he63) rfl ?_
      refine wp_skip ?_
      refine then_normal ?_
      refine wp_seqR ?_
      refine wl_val he63 rfl rfl (.agg (#[.int .i64 ((atoiP (x2.getD 1 ⟨#[]⟩)).1), .int .i64 (x3.1), .int .i64 ((atoiP (x2.getD 3 ⟨#[]⟩)).1), .int .i64 ((verdM (x2.getD 4 ⟨#[]⟩)).1), .int .i64 (0)])) (rn_loadA hm8 4 rfl _ _ rfl (0) (he63.tmp 11 _ rfl) 5 agg36 (#[.int .i64 ((atoiP (x2.getD 1 ⟨#[]⟩)).1), .int .i64 (x3.1), .int .i64 ((atoiP (x2.getD 3 ⟨#[]⟩)).1), .int .i64 ((verdM (x2.getD 4 ⟨#[]⟩)).1), .int .i64 (0)]) rfl rfl) (fun a64 he64 => ?_)
      clear he63
      refine wl_val he64 rfl rfl (.bool false) (rn_move _ (Or.inl rfl) _ (he64.tmp 12 _ rfl)) (fun a65 he65 => ?_)
      clear he64
      refine wl_store he65 hm8 1 rfl rfl rfl _ _ _ rfl (0) (he65.tmp 2 _ rfl) _ (he65.tmp 74 _ rfl) 5 agg36.size rfl (by kernel_rfl) (by simp) (#[.int .i64 ((atoiP (x2.getD 1 ⟨#[]⟩)).1), .int .i64 (x3.1), .int .i64 ((atoiP (x2.getD 3 ⟨#[]⟩)).1), .int .i64 ((verdM (x2.getD 4 ⟨#[]⟩)).1), .int .i64 (0)]) (by kernel_rfl) (fun w9 hm9 => ?_)
      clear hm8
      refine wl_val he65 rfl rfl (.bool false) (rn_move _ (Or.inr rfl) _ (he65.tmp 75 _ rfl)) (fun a66 he66 => ?_)
      clear he65
      refine wl_end ?_
      refine wp_ret ?_
      refine bodyPost_ret (results_cell_t he66 hm9 _ _ _ Tryd.results21 _ rfl 1 rfl 5 agg36 (by first | rfl | assumption) _ rfl) he66.defers ⟨⟨(atoiP (x2.getD 1 ⟨#[]⟩)).1, x3.1, (atoiP (x2.getD 3 ⟨#[]⟩)).1, (verdM (x2.getD 4 ⟨#[]⟩)).1, 0⟩, false, rfl, fun p hp e => ?_, hm9.below⟩
      have W := rule_of hx2 hp e hx3
      by_cases h2 : p.ver = 2
      · obtain ⟨l6, a5⟩ := W.k2 h2; exact Bool.noConfusion (show false = true from hd3.symm.trans (congrArg Prod.snd W.a3))
      · have k0 := W.k0 h2; exact Bool.noConfusion (show false = true from hd3.symm.trans (congrArg Prod.snd W.a3))
    ·
     refine wl_call he20 hm3 rfl rfl _ #[.string (x2.getD 3 ⟨#[]⟩)] (enter_call _ _ _ rfl 40 #[] #[] rfl #[.string (x2.getD 3 ⟨#[]⟩)] (map1 (he20.tmp 29 _ rfl)) #[.string (x2.getD 3 ⟨#[]⟩)] rfl (fun _ _ => by kernel_rfl)) (.tuple #[.int .i64 ((atoiP (x2.getD 3 ⟨#[]⟩)).1), .bool true]) (c_num (x2.getD 3 ⟨#[]⟩) (cut_size hx2 hl _) _ (hT.kb hm3.keep rfl) _ hd3) (fun a21 w4 he21 hm4 => ?_)
     clear he20 hm3
     refine wl_val he21 rfl rfl (.tuple #[.int .i64 ((atoiP (x2.getD 3 ⟨#[]⟩)).1), .bool true]) (rn_move _ (Or.inl rfl) _ (he21.tmp 30 _ rfl)) (fun a22 he22 => ?_)
     clear he21
     refine wl_val he22 rfl rfl (.int .i64 ((atoiP (x2.getD 3 ⟨#[]⟩)).1)) (rn_extract _ _ rfl _ (he22.tmp 26 _ rfl) _ rfl) (fun a23 he23 => ?_)
     clear he22
     refine wl_val he23 rfl rfl (.bool true) (rn_extract _ _ rfl _ (he23.tmp 26 _ rfl) _ rfl) (fun a24 he24 => ?_)
     clear he23
     refine wl_val he24 rfl rfl (.int .i64 ((atoiP (x2.getD 3 ⟨#[]⟩)).1)) (rn_move _ (Or.inr rfl) _ (he24.tmp 31 _ rfl)) (fun a25 he25 => ?_)
     clear he24
     refine wl_val he25 rfl rfl (.bool true) (rn_move _ (Or.inr rfl) _ (he25.tmp 32 _ rfl)) (fun a26 he26 => ?_)
     clear he25
     refine wl_end ?_
     refine wp_seqR ?_
     refine wl_val he26 rfl rfl (.slice (some ⟨b2, 0, none⟩) (x2.length) (x2.length)) (rn_move _ (Or.inl rfl) _ (he26.tmp 4 _ rfl)) (fun a27 he27 => ?_)
     clear he26
     refine wl_val he27 rfl rfl (.pointer (some ⟨b2, 0 + 4 * 1, none⟩)) (rn_indexA _ _ _ rfl _ _ (.pointer (some ⟨b2, 0 + 4 * 1, none⟩)) (he27.tmp 34 _ rfl) rfl (ixS 9 1 (by kernel_rfl) (fun w => by kernel_rfl) (b2) (0) (x2.length) (x2.length) (4) (by omega) _)) (fun a28 he28 => ?_)
     clear he27
     refine wl_val he28 rfl rfl (.string (x2.getD 4 ⟨#[]⟩)) (rn_load1 hm4 2 rfl _ _ rfl (0 + 4 * 1) (he28.tmp 35 _ rfl) one9 _ (cut_get (by omega))) (fun a29 he29 => ?_)
     clear he28
     cases hd4 : ((verdM (x2.getD 4 ⟨#[]⟩)).2)
     ·
      refine wl_call he29 hm4 rfl rfl _ #[.string (x2.getD 4 ⟨#[]⟩)] (enter_call _ _ _ rfl 41 #[] #[] rfl #[.string (x2.getD 4 ⟨#[]⟩)] (map1 (he29.tmp 36 _ rfl)) #[.string (x2.getD 4 ⟨#[]⟩)] rfl (fun _ _ => by kernel_rfl)) (.tuple #[.int .i64 ((verdM (x2.getD 4 ⟨#[]⟩)).1), .bool false]) (c_verdB (x2.getD 4 ⟨#[]⟩) _ (hT.t.kb hm4.keep rfl) _ hd4) (fun a30 w5 he30 hm5 => ?_)
      clear he29 hm4
      refine wl_val he30 rfl rfl (.tuple #[.int .i64 ((verdM (x2.getD 4 ⟨#[]⟩)).1), .bool false]) (rn_move _ (Or.inl rfl) _ (he30.tmp 37 _ rfl)) (fun a31 he31 => ?_)
      clear he30
      refine wl_val he31 rfl rfl (.int .i64 ((verdM (x2.getD 4 ⟨#[]⟩)).1)) (rn_extract _ _ rfl _ (he31.tmp 33 _ rfl) _ rfl) (fun a32 he32 => ?_)
      clear he31
      refine wl_val he32 rfl rfl (.bool false) (rn_extract _ _ rfl _ (he32.tmp 33 _ rfl) _ rfl) (fun a33 he33 => ?_)
      clear he32
      refine wl_val he33 rfl rfl (.int .i64 ((verdM (x2.getD 4 ⟨#[]⟩)).1)) (rn_move _ (Or.inr rfl) _ (he33.tmp 38 _ rfl)) (fun a34 he34 => ?_)
      clear he33
      refine wl_val he34 rfl rfl (.bool false) (rn_move _ (Or.inr rfl) _ (he34.tmp 39 _ rfl)) (fun a35 he35 => ?_)
      clear he34
      refine wl_end ?_
      refine wp_seqR ?_
      refine wl_val he35 rfl rfl (.int .i64 ((atoiP (x2.getD 1 ⟨#[]⟩)).1)) (rn_move _ (Or.inl rfl) _ (he35.tmp 5 _ rfl)) (fun a36 he36 => ?_)
      clear he35
      refine wl_val he36 rfl rfl (.slice (some ⟨b2, 0, none⟩) (x2.length) (x2.length)) (rn_move _ (Or.inl rfl) _ (he36.tmp 4 _ rfl)) (fun a37 he37 => ?_)
      clear he36
      refine wl_val he37 rfl rfl (.pointer (some ⟨b2, 0 + 2 * 1, none⟩)) (rn_indexA _ _ _ rfl _ _ (.pointer (some ⟨b2, 0 + 2 * 1, none⟩)) (he37.tmp 41 _ rfl) rfl (ixS 9 1 (by kernel_rfl) (fun w => by kernel_rfl) (b2) (0) (x2.length) (x2.length) (2) (by omega) _)) (fun a38 he38 => ?_)
      clear he37
      refine wl_val he38 rfl rfl (.string (x2.getD 2 ⟨#[]⟩)) (rn_load1 hm5 2 rfl _ _ rfl (0 + 2 * 1) (he38.tmp 42 _ rfl) one9 _ (cut_get (by omega))) (fun a39 he39 => ?_)
      clear he38
      refine wl_callN he39 hm5 3 rfl rfl rfl _ #[.string (x2.getD 2 ⟨#[]⟩)] (enter_call _ _ _ rfl 42 #[] #[] rfl #[.string (x2.getD 2 ⟨#[]⟩)] (map1 (he39.tmp 43 _ rfl)) #[.string (x2.getD 2 ⟨#[]⟩)] rfl (fun _ _ => by kernel_rfl)) (c_firstNew (x2.getD 2 ⟨#[]⟩) _ (hT.t.kb hm5.keep rfl)) (fun x3 b3 a40 w6 hx3 he40 hm6 => ?_)
      clear he39 hm5
      refine wl_val he40 rfl rfl (.int .i64 (x3.1)) (rn_fieldV _ _ _ rfl _ (.int .i64 (x3.1)) (he40.tmp 44 _ rfl) (by kernel_rfl)) (fun a41 he41 => ?_)
      clear he40
      refine wl_val he41 rfl rfl (.int .i64 ((atoiP (x2.getD 3 ⟨#[]⟩)).1)) (rn_move _ (Or.inl rfl) _ (he41.tmp 7 _ rfl)) (fun a42 he42 => ?_)
      clear he41
      refine wl_val he42 rfl rfl (.int .i64 ((verdM (x2.getD 4 ⟨#[]⟩)).1)) (rn_move _ (Or.inl rfl) _ (he42.tmp 9 _ rfl)) (fun a43 he43 => ?_)
      clear he42
      refine wl_val he43 rfl rfl (.agg (#[.int .i64 ((atoiP (x2.getD 1 ⟨#[]⟩)).1), .int .i64 (x3.1), .int .i64 ((atoiP (x2.getD 3 ⟨#[]⟩)).1), .int .i64 ((verdM (x2.getD 4 ⟨#[]⟩)).1), .int .i64 (0)])) (rn_build _ _ rfl #[(0, .int .i64 ((atoiP (x2.getD 1 ⟨#[]⟩)).1)), (1, .int .i64 (x3.1)), (2, .int .i64 ((atoiP (x2.getD 3 ⟨#[]⟩)).1)), (3, .int .i64 ((verdM (x2.getD 4 ⟨#[]⟩)).1))] (pmap4 (he43.tmp 40 _ rfl) (he43.tmp 45 _ rfl) (he43.tmp 46 _ rfl) (he43.tmp 47 _ rfl)) _ (by kernel_rfl)) (fun a44 he44 => ?_)
      clear he43
      refine wl_alloc he44 hm6 4 rfl rfl rfl _ rfl (.agg #[.int .i64 0, .int .i64 0, .int .i64 0, .int .i64 0, .int .i64 0]) (fun w => by kernel_rfl) (#[.int .i64 (0), .int .i64 (0), .int .i64 (0), .int .i64 (0), .int .i64 (0)]) rfl (fun a45 w7 b4 he45 hm7 => ?_)
      clear he44 hm6
      refine wl_store he45 hm7 4 rfl rfl rfl _ _ _ rfl (0) (he45.tmp 11 _ rfl) _ (he45.tmp 48 _ rfl) 5 agg36.size rfl (by kernel_rfl) (by simp) (#[.int .i64 ((atoiP (x2.getD 1 ⟨#[]⟩)).1), .int .i64 (x3.1), .int .i64 ((atoiP (x2.getD 3 ⟨#[]⟩)).1), .int .i64 ((verdM (x2.getD 4 ⟨#[]⟩)).1), .int .i64 (0)]) (by kernel_rfl) (fun w8 hm8 => ?_)
      clear hm7
      refine wl_end ?_
      refine wp_seqR ?_
      refine wl_val he45 rfl rfl (.bool true) (rn_move _ (Or.inl rfl) _ (he45.tmp 6 _ rfl)) (fun a46 he46 => ?_)
      clear he45
      refine wl_val he46 rfl rfl (.bool true) (rn_move _ (Or.inl rfl) _ (he46.tmp 49 _ rfl)) (fun a47 he47 => ?_)
      clear he46
      refine wl_val he47 rfl (wanted_slot he47 1 true rfl 50 rfl true rfl true rfl) (.bool true) (rn_move _ (Or.inl rfl) _ (he47.tmp 8 _ rfl)) (fun a48 he48 => ?_)
      clear he47
      refine wl_val he48 rfl rfl (.bool true) (rn_pickT _ _ _ rfl (he48.tmp 50 _ rfl) _ (he48.tmp 51 _ rfl)) (fun a49 he49 => ?_)
      clear he48
      refine wl_val he49 rfl rfl (.bool true) (rn_move _ (Or.inl rfl) _ (he49.tmp 52 _ rfl)) (fun a50 he50 => ?_)
      clear he49
      refine wl_val he50 rfl (wanted_slot he50 4 true rfl 53 rfl true rfl true rfl) (.bool false) (rn_move _ (Or.inl rfl) _ (he50.tmp 10 _ rfl)) (fun a51 he51 => ?_)
      clear he50
      refine wl_val he51 rfl rfl (.bool false) (rn_pickT _ _ _ rfl (he51.tmp 53 _ rfl) _ (he51.tmp 54 _ rfl)) (fun a52 he52 => ?_)
      clear he51
      refine wl_val he52 rfl rfl (.bool false) (rn_move _ (Or.inr rfl) _ (he52.tmp 55 _ rfl)) (fun a53 he53 => ?_)
      clear he52
      refine wl_end ?_
      refine wp_seq ?_
      refine wp_seqR ?_
      refine wl_val he53 rfl rfl (.bool false) (rn_move _ (Or.inl rfl) _ (he53.tmp 12 _ rfl)) (fun a54 he54 => ?_)
      clear he53
      refine wl_val he54 rfl rfl (.bool false) (rn_move _ (Or.inl rfl) _ (he54.tmp 56 _ rfl)) (fun a55 he55 => ?_)
      clear he54
      refine wl_not he55 rfl (wanted_slot he55 1 true rfl 57 rfl false rfl false rfl) (fun a56 he56 => ?_)
      clear he55
      refine wl_not he56 rfl (wanted_slot he56 1 true rfl 57 rfl false rfl false rfl) (fun a57 he57 => ?_)
      clear he56
      refine wl_val he57 rfl rfl (.bool false) (rn_pickF _ _ _ rfl (he57.tmp 57 _ rfl) _ rfl) (fun a58 he58 => ?_)
      clear he57
      refine wl_val he58 rfl rfl (.bool false) (rn_move _ (Or.inl rfl) _ (he58.tmp 60 _ rfl)) (fun a59 he59 => ?_)
      clear he58
      refine wl_not he59 rfl (wanted_slot he59 5 true rfl 61 rfl false rfl false rfl) (fun a60 he60 => ?_)
      clear he59
      refine wl_not he60 rfl (wanted_slot he60 5 true rfl 61 rfl false rfl false rfl) (fun a61 he61 => ?_)
      clear he60
      refine wl_not he61 rfl (wanted_slot he61 5 true rfl 61 rfl false rfl false rfl) (fun a62 he62 => ?_)
      clear he61
      refine wl_val he62 rfl rfl (.bool false) (rn_pickF _ _ _ rfl (he62.tmp 61 _ rfl) _ rfl) (fun a63 he63 => ?_)
      clear he62
      refine wl_end ?_
      refine wp_condF (he := he63) rfl ?_
      refine wp_skip ?_
      refine then_normal ?_
      refine wp_seqR ?_
      refine wl_val he63 rfl rfl (.agg (#[.int .i64 ((atoiP (x2.getD 1 ⟨#[]⟩)).1), .int .i64 (x3.1), .int .i64 ((atoiP (x2.getD 3 ⟨#[]⟩)).1), .int .i64 ((verdM (x2.getD 4 ⟨#[]⟩)).1), .int .i64 (0)])) (rn_loadA hm8 4 rfl _ _ rfl (0) (he63.tmp 11 _ rfl) 5 agg36 (#[.int .i64 ((atoiP (x2.getD 1 ⟨#[]⟩)).1), .int .i64 (x3.1), .int .i64 ((atoiP (x2.getD 3 ⟨#[]⟩)).1), .int .i64 ((verdM (x2.getD 4 ⟨#[]⟩)).1), .int .i64 (0)]) rfl rfl) (fun a64 he64 => ?_)
      clear he63
      refine wl_val he64 rfl rfl (.bool false) (rn_move _ (Or.inl rfl) _ (he64.tmp 12 _ rfl)) (fun a65 he65 => ?_)
      clear he64
      refine wl_store he65 hm8 1 rfl rfl rfl _ _ _ rfl (0) (he65.tmp 2 _ rfl) _ (he65.tmp 74 _ rfl) 5 agg36.size rfl (by kernel_rfl) (by simp) (#[.int .i64 ((atoiP (x2.getD 1 ⟨#[]⟩)).1), .int .i64 (x3.1), .int .i64 ((atoiP (x2.getD 3 ⟨#[]⟩)).1), .int .i64 ((verdM (x2.getD 4 ⟨#[]⟩)).1), .int .i64 (0)]) (by kernel_rfl) (fun w9 hm9 => ?_)
      clear hm8
      refine wl_val he65 rfl rfl (.bool false) (rn_move _ (Or.inr rfl) _ (he65.tmp 75 _ rfl)) (fun a66 he66 => ?_)
      clear he65
      refine wl_end ?_
      refine wp_ret ?_
      refine bodyPost_ret (results_cell_t he66 hm9 _ _ _ Tryd.results21 _ rfl 1 rfl 5 agg36 (by first | rfl | assumption) _ rfl) he66.defers ⟨⟨(atoiP (x2.getD 1 ⟨#[]⟩)).1, x3.1, (atoiP (x2.getD 3 ⟨#[]⟩)).1, (verdM (x2.getD 4 ⟨#[]⟩)).1, 0⟩, false, rfl, fun p hp e => ?_, hm9.below⟩
      have W := rule_of hx2 hp e hx3
      by_cases h2 : p.ver = 2
      · obtain ⟨l6, a5⟩ := W.k2 h2; exact Bool.noConfusion (show false = true from hd4.symm.trans (congrArg Prod.snd W.a4))
      · have k0 := W.k0 h2; exact Bool.noConfusion (show false = true from hd4.symm.trans (congrArg Prod.snd W.a4))
     ·
      refine wl_call he29 hm4 rfl rfl _ #[.string (x2.getD 4 ⟨#[]⟩)] (enter_call _ _ _ rfl 41 #[] #[] rfl #[.string (x2.getD 4 ⟨#[]⟩)] (map1 (he29.tmp 36 _ rfl)) #[.string (x2.getD 4 ⟨#[]⟩)] rfl (fun _ _ => by kernel_rfl)) (.tuple #[.int .i64 ((verdM (x2.getD 4 ⟨#[]⟩)).1), .bool true]) (c_verdB (x2.getD 4 ⟨#[]⟩) _ (hT.t.kb hm4.keep rfl) _ hd4) (fun a30 w5 he30 hm5 => ?_)
      clear he29 hm4
      refine wl_val he30 rfl rfl (.tuple #[.int .i64 ((verdM (x2.getD 4 ⟨#[]⟩)).1), .bool true]) (rn_move _ (Or.inl rfl) _ (he30.tmp 37 _ rfl)) (fun a31 he31 => ?_)
      clear he30
      refine wl_val he31 rfl rfl (.int .i64 ((verdM (x2.getD 4 ⟨#[]⟩)).1)) (rn_extract _ _ rfl _ (he31.tmp 33 _ rfl) _ rfl) (fun a32 he32 => ?_)
      clear he31
      refine wl_val he32 rfl rfl (.bool true) (rn_extract _ _ rfl _ (he32.tmp 33 _ rfl) _ rfl) (fun a33 he33 => ?_)
      clear he32
      refine wl_val he33 rfl rfl (.int .i64 ((verdM (x2.getD 4 ⟨#[]⟩)).1)) (rn_move _ (Or.inr rfl) _ (he33.tmp 38 _ rfl)) (fun a34 he34 => ?_)
      clear he33
      refine wl_val he34 rfl rfl (.bool true) (rn_move _ (Or.inr rfl) _ (he34.tmp 39 _ rfl)) (fun a35 he35 => ?_)
      clear he34
      refine wl_end ?_
      refine wp_seqR ?_
      refine wl_val he35 rfl rfl (.int .i64 ((atoiP (x2.getD 1 ⟨#[]⟩)).1)) (rn_move _ (Or.inl rfl) _ (he35.tmp 5 _ rfl)) (fun a36 he36 => ?_)
      clear he35
      refine wl_val he36 rfl rfl (.slice (some ⟨b2, 0, none⟩) (x2.length) (x2.length)) (rn_move _ (Or.inl rfl) _ (he36.tmp 4 _ rfl)) (fun a37 he37 => ?_)
      clear he36
      refine wl_val he37 rfl rfl (.pointer (some ⟨b2, 0 + 2 * 1, none⟩)) (rn_indexA _ _ _ rfl _ _ (.pointer (some ⟨b2, 0 + 2 * 1, none⟩)) (he37.tmp 41 _ rfl) rfl (ixS 9 1 (by kernel_rfl) (fun w => by kernel_rfl) (b2) (0) (x2.length) (x2.length) (2) (by omega) _)) (fun a38 he38 => ?_)
      clear he37
      refine wl_val he38 rfl rfl (.string (x2.getD 2 ⟨#[]⟩)) (rn_load1 hm5 2 rfl _ _ rfl (0 + 2 * 1) (he38.tmp 42 _ rfl) one9 _ (cut_get (by omega))) (fun a39 he39 => ?_)
      clear he38
      refine wl_callN he39 hm5 3 rfl rfl rfl _ #[.string (x2.getD 2 ⟨#[]⟩)] (enter_call _ _ _ rfl 42 #[] #[] rfl #[.string (x2.getD 2 ⟨#[]⟩)] (map1 (he39.tmp 43 _ rfl)) #[.string (x2.getD 2 ⟨#[]⟩)] rfl (fun _ _ => by kernel_rfl)) (c_firstNew (x2.getD 2 ⟨#[]⟩) _ (hT.t.kb hm5.keep rfl)) (fun x3 b3 a40 w6 hx3 he40 hm6 => ?_)
      clear he39 hm5
      refine wl_val he40 rfl rfl (.int .i64 (x3.1)) (rn_fieldV _ _ _ rfl _ (.int .i64 (x3.1)) (he40.tmp 44 _ rfl) (by kernel_rfl)) (fun a41 he41 => ?_)
      clear he40
      refine wl_val he41 rfl rfl (.int .i64 ((atoiP (x2.getD 3 ⟨#[]⟩)).1)) (rn_move _ (Or.inl rfl) _ (he41.tmp 7 _ rfl)) (fun a42 he42 => ?_)
      clear he41
      refine wl_val he42 rfl rfl (.int .i64 ((verdM (x2.getD 4 ⟨#[]⟩)).1)) (rn_move _ (Or.inl rfl) _ (he42.tmp 9 _ rfl)) (fun a43 he43 => ?_)
      clear he42
      refine wl_val he43 rfl rfl (.agg (#[.int .i64 ((atoiP (x2.getD 1 ⟨#[]⟩)).1), .int .i64 (x3.1), .int .i64 ((atoiP (x2.getD 3 ⟨#[]⟩)).1), .int .i64 ((verdM (x2.getD 4 ⟨#[]⟩)).1), .int .i64 (0)])) (rn_build _ _ rfl #[(0, .int .i64 ((atoiP (x2.getD 1 ⟨#[]⟩)).1)), (1, .int .i64 (x3.1)), (2, .int .i64 ((atoiP (x2.getD 3 ⟨#[]⟩)).1)), (3, .int .i64 ((verdM (x2.getD 4 ⟨#[]⟩)).1))] (pmap4 (he43.tmp 40 _ rfl) (he43.tmp 45 _ rfl) (he43.tmp 46 _ rfl) (he43.tmp 47 _ rfl)) _ (by kernel_rfl)) (fun a44 he44 => ?_)
      clear he43
      refine wl_alloc he44 hm6 4 rfl rfl rfl _ rfl (.agg #[.int .i64 0, .int .i64 0, .int .i64 0, .int .i64 0, .int .i64 0]) (fun w => by kernel_rfl) (#[.int .i64 (0), .int .i64 (0), .int .i64 (0), .int .i64 (0), .int .i64 (0)]) rfl (fun a45 w7 b4 he45 hm7 => ?_)
      clear he44 hm6
      refine wl_store he45 hm7 4 rfl rfl rfl _ _ _ rfl (0) (he45.tmp 11 _ rfl) _ (he45.tmp 48 _ rfl) 5 agg36.size rfl (by kernel_rfl) (by simp) (#[.int .i64 ((atoiP (x2.getD 1 ⟨#[]⟩)).1), .int .i64 (x3.1), .int .i64 ((atoiP (x2.getD 3 ⟨#[]⟩)).1), .int .i64 ((verdM (x2.getD 4 ⟨#[]⟩)).1), .int .i64 (0)]) (by kernel_rfl) (fun w8 hm8 => ?_)
      clear hm7
      refine wl_end ?_
      refine wp_seqR ?_
      refine wl_val he45 rfl rfl (.bool true) (rn_move _ (Or.inl rfl) _ (he45.tmp 6 _ rfl)) (fun a46 he46 => ?_)
      clear he45
      refine wl_val he46 rfl rfl (.bool true) (rn_move _ (Or.inl rfl) _ (he46.tmp 49 _ rfl)) (fun a47 he47 => ?_)
      clear he46
      refine wl_val he47 rfl (wanted_slot he47 1 true rfl 50 rfl true rfl true rfl) (.bool true) (rn_move _ (Or.inl rfl) _ (he47.tmp 8 _ rfl)) (fun a48 he48 => ?_)
      clear he47
      refine wl_val he48 rfl rfl (.bool true) (rn_pickT _ _ _ rfl (he48.tmp 50 _ rfl) _ (he48.tmp 51 _ rfl)) (fun a49 he49 => ?_)
      clear he48
      refine wl_val he49 rfl rfl (.bool true) (rn_move _ (Or.inl rfl) _ (he49.tmp 52 _ rfl)) (fun a50 he50 => ?_)
      clear he49
      refine wl_val he50 rfl (wanted_slot he50 4 true rfl 53 rfl true rfl true rfl) (.bool true) (rn_move _ (Or.inl rfl) _ (he50.tmp 10 _ rfl)) (fun a51 he51 => ?_)
      clear he50
      refine wl_val he51 rfl rfl (.bool true) (rn_pickT _ _ _ rfl (he51.tmp 53 _ rfl) _ (he51.tmp 54 _ rfl)) (fun a52 he52 => ?_)
      clear he51
      refine wl_val he52 rfl rfl (.bool true) (rn_move _ (Or.inr rfl) _ (he52.tmp 55 _ rfl)) (fun a53 he53 => ?_)
      clear he52
      refine wl_end ?_
      refine wp_seq ?_
      refine wp_seqR ?_
      refine wl_val he53 rfl rfl (.bool true) (rn_move _ (Or.inl rfl) _ (he53.tmp 12 _ rfl)) (fun a54 he54 => ?_)
      clear he53
      refine wl_val he54 rfl rfl (.bool true) (rn_move _ (Or.inl rfl) _ (he54.tmp 56 _ rfl)) (fun a55 he55 => ?_)
      clear he54
      refine wl_val he55 rfl (wanted_slot he55 1 true rfl 57 rfl true rfl true rfl) (.int .i64 ((verdM (x2.getD 4 ⟨#[]⟩)).1)) (rn_move _ (Or.inl rfl) _ (he55.tmp 9 _ rfl)) (fun a56 he56 => ?_)
      clear he55
      cases hd5 : (((verdM (x2.getD 4 ⟨#[]⟩)).1 == 2))
      ·
       have hd5p : (verdM (x2.getD 4 ⟨#[]⟩)).1 ≠ 2 := by simpa using hd5
       refine wl_val he56 rfl (wanted_slot he56 1 true rfl 57 rfl true rfl true rfl) (.bool false) (rn_bin _ _ _ _ _ rfl .i64 _ _ (he56.tmp 58 _ rfl) rfl (.bool (((verdM (x2.getD 4 ⟨#[]⟩)).1 == 2))) _ rfl (congrArg Value.bool (hd5))) (fun a57 he57 => ?_)
       clear he56
       refine wl_val he57 rfl rfl (.bool false) (rn_pickT _ _ _ rfl (he57.tmp 57 _ rfl) _ (he57.tmp 59 _ rfl)) (fun a58 he58 => ?_)
       clear he57
       refine wl_val he58 rfl rfl (.bool false) (rn_move _ (Or.inl rfl) _ (he58.tmp 60 _ rfl)) (fun a59 he59 => ?_)
       clear he58
       refine wl_not he59 rfl (wanted_slot he59 5 true rfl 61 rfl false rfl false rfl) (fun a60 he60 => ?_)
       clear he59
       refine wl_not he60 rfl (wanted_slot he60 5 true rfl 61 rfl false rfl false rfl) (fun a61 he61 => ?_)
       clear he60
       refine wl_not he61 rfl (wanted_slot he61 5 true rfl 61 rfl false rfl false rfl) (fun a62 he62 => ?_)
       clear he61
       refine wl_val he62 rfl rfl (.bool false) (rn_pickF _ _ _ rfl (he62.tmp 61 _ rfl) _ rfl) (fun a63 he63 => ?_)
       clear he62
       refine wl_end ?_
       refine wp_condF (he := he63) rfl ?_
       refine wp_skip ?_
       refine then_normal ?_
       refine wp_seqR ?_
       refine wl_val he63 rfl rfl (.agg (#[.int .i64 ((atoiP (x2.getD 1 ⟨#[]⟩)).1), .int .i64 (x3.1), .int .i64 ((atoiP (x2.getD 3 ⟨#[]⟩)).1), .int .i64 ((verdM (x2.getD 4 ⟨#[]⟩)).1), .int .i64 (0)])) (rn_loadA hm8 4 rfl _ _ rfl (0) (he63.tmp 11 _ rfl) 5 agg36 (#[.int .i64 ((atoiP (x2.getD 1 ⟨#[]⟩)).1), .int .i64 (x3.1), .int .i64 ((atoiP (x2.getD 3 ⟨#[]⟩)).1), .int .i64 ((verdM (x2.getD 4 ⟨#[]⟩)).1), .int .i64 (0)]) rfl rfl) (fun a64 he64 => ?_)
       clear he63
       refine wl_val he64 rfl rfl (.bool true) (rn_move _ (Or.inl rfl) _ (he64.tmp 12 _ rfl)) (fun a65 he65 => ?_)
       clear he64
       refine wl_store he65 hm8 1 rfl rfl rfl _ _ _ rfl (0) (he65.tmp 2 _ rfl) _ (he65.tmp 74 _ rfl) 5 agg36.size rfl (by kernel_rfl) (by simp) (#[.int .i64 ((atoiP (x2.getD 1 ⟨#[]⟩)).1), .int .i64 (x3.1), .int .i64 ((atoiP (x2.getD 3 ⟨#[]⟩)).1), .int .i64 ((verdM (x2.getD 4 ⟨#[]⟩)).1), .int .i64 (0)]) (by kernel_rfl) (fun w9 hm9 => ?_)
       clear hm8
       refine wl_val he65 rfl rfl (.bool true) (rn_move _ (Or.inr rfl) _ (he65.tmp 75 _ rfl)) (fun a66 he66 => ?_)
       clear he65
       refine wl_end ?_
       refine wp_ret ?_
       refine bodyPost_ret (results_cell_t he66 hm9 _ _ _ Tryd.results21 _ rfl 1 rfl 5 agg36 (by first | rfl | assumption) _ rfl) he66.defers ⟨⟨(atoiP (x2.getD 1 ⟨#[]⟩)).1, x3.1, (atoiP (x2.getD 3 ⟨#[]⟩)).1, (verdM (x2.getD 4 ⟨#[]⟩)).1, 0⟩, true, rfl, fun p hp e => ?_, hm9.below⟩
       have W := rule_of hx2 hp e hx3
       by_cases h2 : p.ver = 2
       · obtain ⟨l6, a5⟩ := W.k2 h2; exact absurd hd5 (by rw [W.a4]; simp [h2])
       · have k0 := W.k0 h2; exact ⟨ru_ext (congrArg Prod.fst W.a1) W.op (congrArg Prod.fst W.a3) (congrArg Prod.fst W.a4) k0.symm, rfl⟩
      ·
       have hd5p : (verdM (x2.getD 4 ⟨#[]⟩)).1 = 2 := by simpa using hd5
       refine wl_val he56 rfl (wanted_slot he56 1 true rfl 57 rfl true rfl true rfl) (.bool true) (rn_bin _ _ _ _ _ rfl .i64 _ _ (he56.tmp 58 _ rfl) rfl (.bool (((verdM (x2.getD 4 ⟨#[]⟩)).1 == 2))) _ rfl (congrArg Value.bool (hd5))) (fun a57 he57 => ?_)
       clear he56
       refine wl_val he57 rfl rfl (.bool true) (rn_pickT _ _ _ rfl (he57.tmp 57 _ rfl) _ (he57.tmp 59 _ rfl)) (fun a58 he58 => ?_)
       clear he57
       refine wl_val he58 rfl rfl (.bool true) (rn_move _ (Or.inl rfl) _ (he58.tmp 60 _ rfl)) (fun a59 he59 => ?_)
       clear he58
       refine wl_val he59 rfl (wanted_slot he59 5 true rfl 61 rfl true rfl true rfl) (.slice (some ⟨b2, 0, none⟩) (x2.length) (x2.length)) (rn_move _ (Or.inl rfl) _ (he59.tmp 4 _ rfl)) (fun a60 he60 => ?_)
       clear he59
       refine wl_val he60 rfl (wanted_slot he60 5 true rfl 61 rfl true rfl true rfl) (.int .i64 (((x2.length : Nat) : Int))) (rn_builtin _ _ _ rfl #[.slice (some ⟨b2, 0, none⟩) (x2.length) (x2.length)] (map1 (he60.tmp 62 _ rfl)) (.int .i64 (((x2.length : Nat) : Int))) (by kernel_rfl)) (fun a61 he61 => ?_)
       clear he60
       cases hd6 : (decide (((x2.length : Nat) : Int) > 5))
       ·
        have hd6p := of_decide_eq_false hd6
        refine wl_val he61 rfl (wanted_slot he61 5 true rfl 61 rfl true rfl true rfl) (.bool false) (rn_bin _ _ _ _ _ rfl .i64 _ _ (he61.tmp 63 _ rfl) rfl (.bool (decide (((x2.length : Nat) : Int) > 5))) _ rfl (congrArg Value.bool (hd6))) (fun a62 he62 => ?_)
        clear he61
        refine wl_val he62 rfl rfl (.bool false) (rn_pickT _ _ _ rfl (he62.tmp 61 _ rfl) _ (he62.tmp 64 _ rfl)) (fun a63 he63 => ?_)
        clear he62
        refine wl_end ?_
        refine wp_condF (he := he63) rfl ?_
        refine wp_skip ?_
        refine then_normal ?_
        refine wp_seqR ?_
        refine wl_val he63 rfl rfl (.agg (#[.int .i64 ((atoiP (x2.getD 1 ⟨#[]⟩)).1), .int .i64 (x3.1), .int .i64 ((atoiP (x2.getD 3 ⟨#[]⟩)).1), .int .i64 ((verdM (x2.getD 4 ⟨#[]⟩)).1), .int .i64 (0)])) (rn_loadA hm8 4 rfl _ _ rfl (0) (he63.tmp 11 _ rfl) 5 agg36 (#[.int .i64 ((atoiP (x2.getD 1 ⟨#[]⟩)).1), .int .i64 (x3.1), .int .i64 ((atoiP (x2.getD 3 ⟨#[]⟩)).1), .int .i64 ((verdM (x2.getD 4 ⟨#[]⟩)).1), .int .i64 (0)]) rfl rfl) (fun a64 he64 => ?_)
        clear he63
        refine wl_val he64 rfl rfl (.bool true) (rn_move _ (Or.inl rfl) _ (he64.tmp 12 _ rfl)) (fun a65 he65 => ?_)
        clear he64
        refine wl_store he65 hm8 1 rfl rfl rfl _ _ _ rfl (0) (he65.tmp 2 _ rfl) _ (he65.tmp 74 _ rfl) 5 agg36.size rfl (by kernel_rfl) (by simp) (#[.int .i64 ((atoiP (x2.getD 1 ⟨#[]⟩)).1), .int .i64 (x3.1), .int .i64 ((atoiP (x2.getD 3 ⟨#[]⟩)).1), .int .i64 ((verdM (x2.getD 4 ⟨#[]⟩)).1), .int .i64 (0)]) (by kernel_rfl) (fun w9 hm9 => ?_)
        clear hm8
        refine wl_val he65 rfl rfl (.bool true) (rn_move _ (Or.inr rfl) _ (he65.tmp 75 _ rfl)) (fun a66 he66 => ?_)
        clear he65
        refine wl_end ?_
        refine wp_ret ?_
        refine bodyPost_ret (results_cell_t he66 hm9 _ _ _ Tryd.results21 _ rfl 1 rfl 5 agg36 (by first | rfl | assumption) _ rfl) he66.defers ⟨⟨(atoiP (x2.getD 1 ⟨#[]⟩)).1, x3.1, (atoiP (x2.getD 3 ⟨#[]⟩)).1, (verdM (x2.getD 4 ⟨#[]⟩)).1, 0⟩, true, rfl, fun p hp e => ?_, hm9.below⟩
        have W := rule_of hx2 hp e hx3
        by_cases h2 : p.ver = 2
        · obtain ⟨l6, a5⟩ := W.k2 h2; exact absurd hd6 (by simp [l6])
        · have k0 := W.k0 h2; exact absurd hd5 (by rw [W.a4]; simp [h2])
       ·
        have hd6p := of_decide_eq_true hd6
        refine wl_val he61 rfl (wanted_slot he61 5 true rfl 61 rfl true rfl true rfl) (.bool true) (rn_bin _ _ _ _ _ rfl .i64 _ _ (he61.tmp 63 _ rfl) rfl (.bool (decide (((x2.length : Nat) : Int) > 5))) _ rfl (congrArg Value.bool (hd6))) (fun a62 he62 => ?_)
        clear he61
        refine wl_val he62 rfl rfl (.bool true) (rn_pickT _ _ _ rfl (he62.tmp 61 _ rfl) _ (he62.tmp 64 _ rfl)) (fun a63 he63 => ?_)
        clear he62
        refine wl_end ?_
        refine wp_condT (he := he63) rfl ?_
        refine wp_region_lit ?_
        refine wl_val he63 rfl rfl (.slice (some ⟨b2, 0, none⟩) (x2.length) (x2.length)) (rn_move _ (Or.inl rfl) _ (he63.tmp 4 _ rfl)) (fun a64 he64 => ?_)
        clear he63
        refine wl_val he64 rfl rfl (.pointer (some ⟨b2, 0 + 5 * 1, none⟩)) (rn_indexA _ _ _ rfl _ _ (.pointer (some ⟨b2, 0 + 5 * 1, none⟩)) (he64.tmp 67 _ rfl) rfl (ixS 9 1 (by kernel_rfl) (fun w => by kernel_rfl) (b2) (0) (x2.length) (x2.length) (5) (by omega) _)) (fun a65 he65 => ?_)
        clear he64
        refine wl_val he65 rfl rfl (.string (x2.getD 5 ⟨#[]⟩)) (rn_load1 hm8 2 rfl _ _ rfl (0 + 5 * 1) (he65.tmp 68 _ rfl) one9 _ (cut_get (by omega))) (fun a66 he66 => ?_)
        clear he65
        cases hd7 : ((atoiP (x2.getD 5 ⟨#[]⟩)).2)
        ·
         refine wl_call he66 hm8 rfl rfl _ #[.string (x2.getD 5 ⟨#[]⟩)] (enter_call _ _ _ rfl 40 #[] #[] rfl #[.string (x2.getD 5 ⟨#[]⟩)] (map1 (he66.tmp 69 _ rfl)) #[.string (x2.getD 5 ⟨#[]⟩)] rfl (fun _ _ => by kernel_rfl)) (.tuple #[.int .i64 ((atoiP (x2.getD 5 ⟨#[]⟩)).1), .bool false]) (c_num (x2.getD 5 ⟨#[]⟩) (cut_size hx2 hl _) _ (hT.kb hm8.keep rfl) _ hd7) (fun a67 w9 he67 hm9 => ?_)
         clear he66 hm8
         refine wl_val he67 rfl rfl (.tuple #[.int .i64 ((atoiP (x2.getD 5 ⟨#[]⟩)).1), .bool false]) (rn_move _ (Or.inl rfl) _ (he67.tmp 70 _ rfl)) (fun a68 he68 => ?_)
         clear he67
         refine wl_val he68 rfl rfl (.int .i64 ((atoiP (x2.getD 5 ⟨#[]⟩)).1)) (rn_extract _ _ rfl _ (he68.tmp 66 _ rfl) _ rfl) (fun a69 he69 => ?_)
         clear he68
         refine wl_val he69 rfl rfl (.bool false) (rn_extract _ _ rfl _ (he69.tmp 66 _ rfl) _ rfl) (fun a70 he70 => ?_)
         clear he69
         refine wl_val he70 rfl rfl (.pointer (some ⟨b4, 4, none⟩)) (rn_field _ _ _ rfl _ (.pointer (some ⟨b4, 4, none⟩)) (he70.tmp 11 _ rfl) (by kernel_rfl)) (fun a71 he71 => ?_)
         clear he70
         refine wl_store he71 hm9 4 rfl rfl rfl _ _ _ rfl (4) (he71.tmp 73 _ rfl) _ (he71.tmp 71 _ rfl) 1 one3.size rfl (by kernel_rfl) (by simp) (#[.int .i64 ((atoiP (x2.getD 1 ⟨#[]⟩)).1), .int .i64 (x3.1), .int .i64 ((atoiP (x2.getD 3 ⟨#[]⟩)).1), .int .i64 ((verdM (x2.getD 4 ⟨#[]⟩)).1), .int .i64 ((atoiP (x2.getD 5 ⟨#[]⟩)).1)]) (by kernel_rfl) (fun w10 hm10 => ?_)
         clear hm9
         refine wl_val he71 rfl rfl (.bool false) (rn_move _ (Or.inr rfl) _ (he71.tmp 72 _ rfl)) (fun a72 he72 => ?_)
         clear he71
         refine wpList_nil ?_
         refine then_normal ?_
         refine wp_seqR ?_
         refine wl_val he72 rfl rfl (.agg (#[.int .i64 ((atoiP (x2.getD 1 ⟨#[]⟩)).1), .int .i64 (x3.1), .int .i64 ((atoiP (x2.getD 3 ⟨#[]⟩)).1), .int .i64 ((verdM (x2.getD 4 ⟨#[]⟩)).1), .int .i64 ((atoiP (x2.getD 5 ⟨#[]⟩)).1)])) (rn_loadA hm10 4 rfl _ _ rfl (0) (he72.tmp 11 _ rfl) 5 agg36 (#[.int .i64 ((atoiP (x2.getD 1 ⟨#[]⟩)).1), .int .i64 (x3.1), .int .i64 ((atoiP (x2.getD 3 ⟨#[]⟩)).1), .int .i64 ((verdM (x2.getD 4 ⟨#[]⟩)).1), .int .i64 ((atoiP (x2.getD 5 ⟨#[]⟩)).1)]) rfl rfl) (fun a73 he73 => ?_)
         clear he72
         refine wl_val he73 rfl rfl (.bool false) (rn_move _ (Or.inl rfl) _ (he73.tmp 12 _ rfl)) (fun a74 he74 => ?_)
         clear he73
         refine wl_store he74 hm10 1 rfl rfl rfl _ _ _ rfl (0) (he74.tmp 2 _ rfl) _ (he74.tmp 74 _ rfl) 5 agg36.size rfl (by kernel_rfl) (by simp) (#[.int .i64 ((atoiP (x2.getD 1 ⟨#[]⟩)).1), .int .i64 (x3.1), .int .i64 ((atoiP (x2.getD 3 ⟨#[]⟩)).1), .int .i64 ((verdM (x2.getD 4 ⟨#[]⟩)).1), .int .i64 ((atoiP (x2.getD 5 ⟨#[]⟩)).1)]) (by kernel_rfl) (fun w11 hm11 => ?_)
         clear hm10
         refine wl_val he74 rfl rfl (.bool false) (rn_move _ (Or.inr rfl) _ (he74.tmp 75 _ rfl)) (fun a75 he75 => ?_)
         clear he74
         refine wl_end ?_
         refine wp_ret ?_
         refine bodyPost_ret (results_cell_t he75 hm11 _ _ _ Tryd.results21 _ rfl 1 rfl 5 agg36 (by first | rfl | assumption) _ rfl) he75.defers ⟨⟨(atoiP (x2.getD 1 ⟨#[]⟩)).1, x3.1, (atoiP (x2.getD 3 ⟨#[]⟩)).1, (verdM (x2.getD 4 ⟨#[]⟩)).1, (atoiP (x2.getD 5 ⟨#[]⟩)).1⟩, false, rfl, fun p hp e => ?_, hm11.below⟩
         have W := rule_of hx2 hp e hx3
         by_cases h2 : p.ver = 2
         · obtain ⟨l6, a5⟩ := W.k2 h2; exact Bool.noConfusion (show false = true from hd7.symm.trans (congrArg Prod.snd a5))
         · have k0 := W.k0 h2; exact absurd hd5 (by rw [W.a4]; simp [h2])
        ·
         refine wl_call he66 hm8 rfl rfl _ #[.string (x2.getD 5 ⟨#[]⟩)] (enter_call _ _ _ rfl 40 #[] #[] rfl #[.string (x2.getD 5 ⟨#[]⟩)] (map1 (he66.tmp 69 _ rfl)) #[.string (x2.getD 5 ⟨#[]⟩)] rfl (fun _ _ => by kernel_rfl)) (.tuple #[.int .i64 ((atoiP (x2.getD 5 ⟨#[]⟩)).1), .bool true]) (c_num (x2.getD 5 ⟨#[]⟩) (cut_size hx2 hl _) _ (hT.kb hm8.keep rfl) _ hd7) (fun a67 w9 he67 hm9 => ?_)
         clear he66 hm8
         refine wl_val he67 rfl rfl (.tuple #[.int .i64 ((atoiP (x2.getD 5 ⟨#[]⟩)).1), .bool true]) (rn_move _ (Or.inl rfl) _ (he67.tmp 70 _ rfl)) (fun a68 he68 => ?_)
         clear he67
         refine wl_val he68 rfl rfl (.int .i64 ((atoiP (x2.getD 5 ⟨#[]⟩)).1)) (rn_extract _ _ rfl _ (he68.tmp 66 _ rfl) _ rfl) (fun a69 he69 => ?_)
         clear he68
         refine wl_val he69 rfl rfl (.bool true) (rn_extract _ _ rfl _ (he69.tmp 66 _ rfl) _ rfl) (fun a70 he70 => ?_)
         clear he69
         refine wl_val he70 rfl rfl (.pointer (some ⟨b4, 4, none⟩)) (rn_field _ _ _ rfl _ (.pointer (some ⟨b4, 4, none⟩)) (he70.tmp 11 _ rfl) (by kernel_rfl)) (fun a71 he71 => ?_)
         clear he70
         refine wl_store he71 hm9 4 rfl rfl rfl _ _ _ rfl (4) (he71.tmp 73 _ rfl) _ (he71.tmp 71 _ rfl) 1 one3.size rfl (by kernel_rfl) (by simp) (#[.int .i64 ((atoiP (x2.getD 1 ⟨#[]⟩)).1), .int .i64 (x3.1), .int .i64 ((atoiP (x2.getD 3 ⟨#[]⟩)).1), .int .i64 ((verdM (x2.getD 4 ⟨#[]⟩)).1), .int .i64 ((atoiP (x2.getD 5 ⟨#[]⟩)).1)]) (by kernel_rfl) (fun w10 hm10 => ?_)
         clear hm9
         refine wl_val he71 rfl rfl (.bool true) (rn_move _ (Or.inr rfl) _ (he71.tmp 72 _ rfl)) (fun a72 he72 => ?_)
         clear he71
         refine wpList_nil ?_
         refine then_normal ?_
         refine wp_seqR ?_
         refine wl_val he72 rfl rfl (.agg (#[.int .i64 ((atoiP (x2.getD 1 ⟨#[]⟩)).1), .int .i64 (x3.1), .int .i64 ((atoiP (x2.getD 3 ⟨#[]⟩)).1), .int .i64 ((verdM (x2.getD 4 ⟨#[]⟩)).1), .int .i64 ((atoiP (x2.getD 5 ⟨#[]⟩)).1)])) (rn_loadA hm10 4 rfl _ _ rfl (0) (he72.tmp 11 _ rfl) 5 agg36 (#[.int .i64 ((atoiP (x2.getD 1 ⟨#[]⟩)).1), .int .i64 (x3.1), .int .i64 ((atoiP (x2.getD 3 ⟨#[]⟩)).1), .int .i64 ((verdM (x2.getD 4 ⟨#[]⟩)).1), .int .i64 ((atoiP (x2.getD 5 ⟨#[]⟩)).1)]) rfl rfl) (fun a73 he73 => ?_)
         clear he72
         refine wl_val he73 rfl rfl (.bool true) (rn_move _ (Or.inl rfl) _ (he73.tmp 12 _ rfl)) (fun a74 he74 => ?_)
         clear he73
         refine wl_store he74 hm10 1 rfl rfl rfl _ _ _ rfl (0) (he74.tmp 2 _ rfl) _ (he74.tmp 74 _ rfl) 5 agg36.size rfl (by kernel_rfl) (by simp) (#[.int .i64 ((atoiP (x2.getD 1 ⟨#[]⟩)).1), .int .i64 (x3.1), .int .i64 ((atoiP (x2.getD 3 ⟨#[]⟩)).1), .int .i64 ((verdM (x2.getD 4 ⟨#[]⟩)).1), .int .i64 ((atoiP (x2.getD 5 ⟨#[]⟩)).1)]) (by kernel_rfl) (fun w11 hm11 => ?_)
         clear hm10
         refine wl_val he74 rfl rfl (.bool true) (rn_move _ (Or.inr rfl) _ (he74.tmp 75 _ rfl)) (fun a75 he75 => ?_)
         clear he74
         refine wl_end ?_
         refine wp_ret ?_
         refine bodyPost_ret (results_cell_t he75 hm11 _ _ _ Tryd.results21 _ rfl 1 rfl 5 agg36 (by first | rfl | assumption) _ rfl) he75.defers ⟨⟨(atoiP (x2.getD 1 ⟨#[]⟩)).1, x3.1, (atoiP (x2.getD 3 ⟨#[]⟩)).1, (verdM (x2.getD 4 ⟨#[]⟩)).1, (atoiP (x2.getD 5 ⟨#[]⟩)).1⟩, true, rfl, fun p hp e => ?_, hm11.below⟩
         have W := rule_of hx2 hp e hx3
         by_cases h2 : p.ver = 2
         · obtain ⟨l6, a5⟩ := W.k2 h2; exact ⟨ru_ext (congrArg Prod.fst W.a1) W.op (congrArg Prod.fst W.a3) (congrArg Prod.fst W.a4) (congrArg Prod.fst a5), rfl⟩
         · have k0 := W.k0 h2; exact absurd hd5 (by rw [W.a4]; simp [h2])
  ·
   have hd1p := of_decide_eq_true hd1
   refine wl_val he7 rfl rfl (.bool true) (rn_bin _ _ _ _ _ rfl .i64 _ _ (he7.tmp 16 _ rfl) rfl (.bool (decide (((x2.length : Nat) : Int) < 5))) _ rfl (congrArg Value.bool (hd1))) (fun a8 he8 => ?_)
   clear he7
   refine wl_end ?_
   refine wp_condT (he := he8) rfl ?_
   refine wp_seqR ?_
   refine wl_val he8 rfl rfl (.agg (#[.int .i64 (0), .int .i64 (0), .int .i64 (0), .int .i64 (0), .int .i64 (0)])) (rn_build _ _ rfl #[] (pmap0 _) _ (by kernel_rfl)) (fun a9 he9 => ?_)
   clear he8
   refine wl_store he9 hm2 1 rfl rfl rfl _ _ _ rfl (0) (he9.tmp 2 _ rfl) _ (he9.tmp 18 _ rfl) 5 agg36.size rfl (by kernel_rfl) (by simp) (#[.int .i64 (0), .int .i64 (0), .int .i64 (0), .int .i64 (0), .int .i64 (0)]) (by kernel_rfl) (fun w3 hm3 => ?_)
   clear hm2
   refine wl_val he9 rfl rfl (.bool false) (rn_move _ (Or.inr rfl) _ rfl) (fun a10 he10 => ?_)
   clear he9
   refine wl_end ?_
   refine wp_ret ?_
   refine ret_then ?_
   exact bodyPost_ret (results_cell_t he10 hm3 _ _ _ Tryd.results21 _ rfl 1 rfl 5 agg36 (by first | rfl | assumption) _ rfl) he10.defers ⟨⟨0, 0, 0, 0, 0⟩, false, rfl, rule_short hx2 (by have := hd1p; omega), hm3.below⟩
end Go.Proofs.YtkaekiodjjhjkaaDoor
