/- Rules tidied, by the specification. -/
import Derived.Test.YtcopcajleonndaaQTDY0
import Derived.Test.YtcopcajleonndaaQIVW
import Derived.Test.YtcopcajleonndaaQRA2
namespace Go.Proofs.Ytcopcajleonndaa
open Go.RowKit
set_option linter.unusedVariables false
set_option linter.unusedSimpArgs false
theorem c_ends255  (w : World)  :
    Calls Try.prog 33 #[.int .i64 (0), .int .i64 (255)] w fun e w' => e = .returned (.agg (ivArr full)) ∧ Below w.heap.size w w' := by
  refine calls_begin Try.func33 rfl 10 rfl (Nat.le_of_ble_eq_true rfl) [(0, .int .i64 (0)), (1, .int .i64 (255))] ⟨rfl, rfl, trivial⟩ (fun a0 he0 hm0 => ?_)
  refine wp_seqR ?_
  refine wl_alloc he0 hm0 1 rfl rfl rfl _ rfl (.agg #[.int .i64 0, .int .i64 0, .int .i64 0, .int .i64 0]) (fun w => by kernel_rfl) (#[.int .i64 (0), .int .i64 (0), .int .i64 (0), .int .i64 (0)]) rfl (fun a1 w1 b1 he1 hm1 => ?_)
  clear he0 hm0
  refine wl_end ?_
  refine wp_seqR ?_
  refine wl_val he1 rfl rfl (.int .i64 (0)) (rn_move _ (Or.inl rfl) _ (he1.tmp 0 _ rfl)) (fun a2 he2 => ?_)
  clear he1
  refine wl_val he2 rfl rfl (.int .i64 (255)) (rn_move _ (Or.inl rfl) _ (he2.tmp 1 _ rfl)) (fun a3 he3 => ?_)
  clear he2
  refine wl_call he3 hm1 rfl rfl _ #[] (enter_call _ _ _ rfl 48 #[] #[] rfl #[] (map0 _ ) #[] rfl (fun _ _ => by kernel_rfl)) (.int .i64 (4294967295)) (c_top _) (fun a4 w2 he4 hm2 => ?_)
  clear he3 hm1
  refine wl_val he4 rfl rfl (.agg (#[.int .i64 (0), .int .i64 (255), .int .i64 (0), .int .i64 (4294967295)])) (rn_build _ _ rfl #[(0, .int .i64 (0)), (1, .int .i64 (255)), (3, .int .i64 (4294967295))] (pmap3 (he4.tmp 5 _ rfl) (he4.tmp 6 _ rfl) (he4.tmp 7 _ rfl)) _ (by kernel_rfl)) (fun a5 he5 => ?_)
  clear he4
  refine wl_call he5 hm2 rfl rfl _ #[.agg (#[.int .i64 (0), .int .i64 (255), .int .i64 (0), .int .i64 (4294967295)])] (enter_call _ _ _ rfl 47 #[] #[] rfl #[.agg (#[.int .i64 (0), .int .i64 (255), .int .i64 (0), .int .i64 (4294967295)])] (map1 (he5.tmp 8 _ rfl)) #[.agg (#[.int .i64 (0), .int .i64 (255), .int .i64 (0), .int .i64 (4294967295)])] rfl (fun _ _ => by kernel_rfl)) (.agg (ivArr (full))) (c_l2tidy255 _) (fun a6 w3 he6 hm3 => ?_)
  clear he5 hm2
  refine wl_store he6 hm3 1 rfl rfl rfl _ _ _ rfl (0) (he6.tmp 4 _ rfl) _ (he6.tmp 9 _ rfl) 4 agg54.size rfl (ivArr.one _) (by decide) (ivArr (full)) (by kernel_rfl) (fun w4 hm4 => ?_)
  clear hm3
  refine wl_end ?_
  refine wp_ret ?_
  exact bodyPost_ret (results_cell he6 hm4 _ _ Try.results33 _ rfl 1 rfl 4 agg54 (by first | rfl | assumption)) he6.defers ⟨rfl, hm4.below⟩
set_option maxHeartbeats 8000000 in
theorem c_spRTidy (f : Nat → Ru) (b p n c : Nat) (w : World) (hR : RowAt w b p n 5 fun i => (f i).arr) (hn : n ≤ 1048576) (hok : ruOks f n = true) :
    Calls Try.prog 20 #[.slice (some ⟨b, p, none⟩) (n) (c)] w fun e w' => NewRu w (tidM f n) e w' := by
  refine calls_begin Try.func20 rfl 78 rfl (Nat.le_of_ble_eq_true rfl) [(0, .slice (some ⟨b, p, none⟩) (n) (c))] ⟨rfl, trivial⟩ (fun a0 he0 hm0 => ?_)
  obtain ⟨hall, hn6⟩ := ruOks_all hok
  refine wp_seqR ?_
  refine wl_val he0 rfl rfl (.slice none 0 0) (rn_move _ (Or.inr rfl) _ rfl) (fun a1 he1 => ?_)
  clear he0
  refine wl_end ?_
  refine wp_seqR ?_
  refine wl_buildSlice he1 hm0 1 rfl rfl rfl _ _ _ rfl #[] (pmap0 _) 39 ((cellsOf Ru.arr []).toArray) (by kernel_rfl) (fun a2 w1 b1 he2 hm1 => ?_)
  clear he1 hm0
  have rw1_0 : Rw ((cellsOf Ru.arr []).toArray) 0 0 5 (cellsOf Ru.arr ([])) := Rw.lits Ru.sz [] (by simp [maxLen])
  refine wl_val he2 rfl rfl (.slice (some ⟨b1, 0, none⟩) (0) (0)) (rn_move _ (Or.inr rfl) _ (he2.tmp 12 _ rfl)) (fun a3 he3 => ?_)
  clear he2
  refine wl_end ?_
  refine wp_seq ?_
  refine wp_seqR ?_
  refine wl_val he3 rfl rfl (.slice (some ⟨b, p, none⟩) (n) (c)) (rn_move _ (Or.inl rfl) _ (he3.tmp 0 _ rfl)) (fun a4 he4 => ?_)
  clear he3
  refine wl_call he4 hm1 rfl rfl _ #[.slice (some ⟨b, p, none⟩) (n) (c)] (enter_call _ _ _ rfl 23 #[] #[] rfl #[.slice (some ⟨b, p, none⟩) (n) (c)] (map1 (he4.tmp 13 _ rfl)) #[.slice (some ⟨b, p, none⟩) (n) (c)] rfl (fun _ _ => by kernel_rfl)) (.bool true) (callsV (congrArg Value.bool (hok)) (c_oks f b p n c _ (hR.kb hm1.keep (by simp)) hn)) (fun a5 w2 he5 hm2 => ?_)
  clear he4 hm1
  refine wl_val he5 rfl rfl (.bool false) (rn_un _ _ _ rfl _ (.bool (!true)) _ (he5.tmp 14 _ rfl) rfl rfl) (fun a6 he6 => ?_)
  clear he5
  refine wl_end ?_
  refine wp_condF (he := he6) rfl ?_
  refine wp_skip ?_
  refine then_normal ?_
  refine wp_seqR ?_
  refine wl_buildSlice he6 hm2 2 rfl rfl rfl _ _ _ rfl #[] (pmap0 _) 54 ((cellsOf ivArr []).toArray) (by kernel_rfl) (fun a7 w3 b2 he7 hm3 => ?_)
  clear he6 hm2
  have rw2_0 : Rw ((cellsOf ivArr []).toArray) 0 0 4 (cellsOf ivArr ([])) := Rw.lits ivArr.sz [] (by simp [maxLen])
  refine wl_val he7 rfl rfl (.slice (some ⟨b2, 0, none⟩) (0) (0)) (rn_move _ (Or.inr rfl) _ (he7.tmp 17 _ rfl)) (fun a8 he8 => ?_)
  clear he7
  refine wl_end ?_
  refine wp_seq ?_
  refine wp_seqR ?_
  refine wl_val he8 rfl rfl (.int .i64 (0)) (rn_move _ (Or.inr rfl) _ rfl) (fun a9 he9 => ?_)
  clear he8
  refine wl_end ?_
  refine wp_block ?_
  refine wp_loopN (fun mz az wz => ∃ (i0 : Nat), ∃ (pb : Nat), ∃ (pc : Nat), ∃ (cur0 : Array Value), mz = 12 - (i0) ∧ (i0 ≤ 12 ∧ Rw (cur0) (i0) (pc) 4 (cellsOf ivArr (List.replicate i0 full))) ∧ EV az 78 [] [(0, .slice (some ⟨b, p, none⟩) (n) (c)), (2, .slice none 0 0), (12, .slice (some ⟨b1, 0, none⟩) (0) (0)), (3, .slice (some ⟨b1, 0, none⟩) (0) (0)), (13, .slice (some ⟨b, p, none⟩) (n) (c)), (14, .bool true), (15, .bool false), (17, .slice (some ⟨b2, 0, none⟩) (0) (0)), (5, .int .i64 (((i0 : Nat) : Int))), (4, .slice (some ⟨pb, 0, none⟩) (i0) (pc))] ∧ MM [] w wz [(1, ⟨true, b1, 39, (cellsOf Ru.arr []).toArray⟩), (2, ⟨true, pb, 54, cur0⟩)]) ⟨_, 0, b2, 0, (cellsOf ivArr []).toArray, rfl, ⟨by omega, rw2_0⟩, he9.sub _ ⟨rfl, rfl, rfl, rfl, rfl, rfl, rfl, rfl, rfl, rfl, trivial⟩, hm3.sub _ ⟨rfl, rfl, trivial⟩⟩ ?_
  rintro mz1 a10 w4 ⟨i0, pb, pc, cur0, rfl, hrel1, he10, hm4⟩
  clear he9 hm3
  obtain ⟨hra, hrw⟩ := hrel1
  refine wp_seq ?_
  refine wp_seqR ?_
  refine wl_val he10 rfl rfl (.int .i64 (((i0 : Nat) : Int))) (rn_move _ (Or.inl rfl) _ (he10.tmp 5 _ rfl)) (fun a11 he11 => ?_)
  clear he10
  cases hd1 : (decide (((i0 : Nat) : Int) < 12))
  ·
   have hd1p := of_decide_eq_false hd1
   refine wl_val he11 rfl rfl (.bool false) (rn_bin _ _ _ _ _ rfl .i64 _ _ (he11.tmp 18 _ rfl) rfl (.bool (decide (((i0 : Nat) : Int) < 12))) _ rfl (congrArg Value.bool (hd1))) (fun a12 he12 => ?_)
   clear he11
   refine wl_end ?_
   refine wp_condF (he := he12) rfl ?_
   refine wp_exit ?_
   refine exit_then ?_
   refine exit_then ?_
   refine exit_here ?_
   refine then_normal ?_
   refine wp_seq ?_
   refine wp_seqR ?_
   refine wl_val he12 rfl rfl (.int .i64 (0)) (rn_move _ (Or.inr rfl) _ rfl) (fun a13 he13 => ?_)
   clear he12
   refine wl_end ?_
   refine wp_block ?_
   refine wp_loopN (fun mz az wz => ∃ (i : Nat), ∃ (S : List (Nat × Nat)), ∃ (cur : Array Value), ∃ (o : List Ru), ∃ (on : Nat), ∃ (ob : Nat), ∃ (oc : Nat), ∃ (oa : Array Value), mz = n - (i) ∧ (i ≤ n ∧ OkS (S) ∧ Rw (cur) 12 pc 4 (cellsOf ivArr (S)) ∧ tidM f n = (o) ++ tidR f (n - (i)) (i) (S) ∧ on = (o).length ∧ on ≤ i ∧ Rw (oa) (on) (oc) 5 (cellsOf Ru.arr (o))) ∧ EV az 78 [] [(0, .slice (some ⟨b, p, none⟩) (n) (c)), (12, .slice (some ⟨b1, 0, none⟩) (0) (0)), (13, .slice (some ⟨b, p, none⟩) (n) (c)), (14, .bool true), (15, .bool false), (17, .slice (some ⟨b2, 0, none⟩) (0) (0)), (5, .int .i64 (((i0 : Nat) : Int))), (4, .slice (some ⟨pb, 0, none⟩) (i0) (pc)), (18, .int .i64 (((i0 : Nat) : Int))), (19, .bool false), (6, .int .i64 (((i : Nat) : Int))), (3, .slice (some ⟨ob, 0, none⟩) (on) (oc))] ∧ MM [] w wz [(1, ⟨true, ob, 39, oa⟩), (2, ⟨true, pb, 54, cur⟩)]) ⟨_, 0, (List.replicate 12 full), cur0, [], 0, b1, 0, (cellsOf Ru.arr []).toArray, rfl, ⟨by omega, OkS.full, by have := hrw; rw [show i0 = 12 by omega] at this; exact this, rfl, rfl, by omega, rw1_0⟩, he13.sub _ ⟨rfl, rfl, rfl, rfl, rfl, rfl, rfl, rfl, rfl, rfl, rfl, rfl, trivial⟩, hm4.sub _ ⟨rfl, rfl, trivial⟩⟩ ?_
   rintro mz2 a14 w5 ⟨i, S, cur, o, on, ob, oc, oa, rfl, hrel2, he14, hm5⟩
   clear he13 hm4
   have hi12 : i0 = 12 := by omega
   obtain ⟨hra, hS, hrw, htd, hon, honi, horw⟩ := hrel2
   refine wp_seq ?_
   refine wp_seqR ?_
   refine wl_val he14 rfl rfl (.int .i64 (((i : Nat) : Int))) (rn_move _ (Or.inl rfl) _ (he14.tmp 6 _ rfl)) (fun a15 he15 => ?_)
   clear he14
   refine wl_val he15 rfl rfl (.slice (some ⟨b, p, none⟩) (n) (c)) (rn_move _ (Or.inl rfl) _ (he15.tmp 0 _ rfl)) (fun a16 he16 => ?_)
   clear he15
   refine wl_val he16 rfl rfl (.int .i64 (((n : Nat) : Int))) (rn_builtin _ _ _ rfl #[.slice (some ⟨b, p, none⟩) (n) (c)] (map1 (he16.tmp 27 _ rfl)) (.int .i64 (((n : Nat) : Int))) (by kernel_rfl)) (fun a17 he17 => ?_)
   clear he16
   cases hd2 : (decide (((i : Nat) : Int) < ((n : Nat) : Int)))
   ·
    have hd2p := of_decide_eq_false hd2
    refine wl_val he17 rfl rfl (.bool false) (rn_bin _ _ _ _ _ rfl .i64 _ _ (he17.tmp 26 _ rfl) (he17.tmp 28 _ rfl) (.bool (decide (((i : Nat) : Int) < ((n : Nat) : Int)))) _ rfl (congrArg Value.bool (hd2))) (fun a18 he18 => ?_)
    clear he17
    refine wl_end ?_
    refine wp_condF (he := he18) rfl ?_
    refine wp_exit ?_
    refine exit_then ?_
    refine exit_then ?_
    refine exit_here ?_
    refine then_normal ?_
    refine wp_seqR ?_
    refine wl_val he18 rfl rfl (.slice (some ⟨ob, 0, none⟩) (on) (oc)) (rn_move _ (Or.inl rfl) _ (he18.tmp 3 _ rfl)) (fun a19 he19 => ?_)
    clear he18
    refine wl_val he19 rfl rfl (.slice (some ⟨ob, 0, none⟩) (on) (oc)) (rn_move _ (Or.inr rfl) _ (he19.tmp 77 _ rfl)) (fun a20 he20 => ?_)
    clear he19
    refine wl_end ?_
    refine wp_ret ?_
    have htm : tidM f n = o := tid_end htd (by omega)
    have hN : on = (tidM f n).length := by rw [htm]; simp [hon]
    have hL : cellsOf Ru.arr (o) = cellsOf Ru.arr (tidM f n) := by rw [htm]
    exact bodyPost_ret (results_tmp he20 _ Try.results20 _ rfl) he20.defers ⟨(oc, oa), _, congrArg (fun k => Ending.returned (.slice (some ⟨ob, 0, none⟩) k (oc))) hN, hm5.bx 1 _ _ _ _ rfl, horw.cast hN hL, by have := hm5.own 1 _ rfl rfl; simpa using this, hm5.below⟩
   ·
    have hd2p := of_decide_eq_true hd2
    have hri := hall i (by omega)
    have hat := at_lt12 hri
    refine wl_val he17 rfl rfl (.bool true) (rn_bin _ _ _ _ _ rfl .i64 _ _ (he17.tmp 26 _ rfl) (he17.tmp 28 _ rfl) (.bool (decide (((i : Nat) : Int) < ((n : Nat) : Int)))) _ rfl (congrArg Value.bool (hd2))) (fun a18 he18 => ?_)
    clear he17
    refine wl_end ?_
    refine wp_condT (he := he18) rfl ?_
    refine wp_skip ?_
    refine then_normal ?_
    refine wp_seq ?_
    refine wp_block ?_
    refine wp_seqR ?_
    refine wl_val he18 rfl rfl (.slice (some ⟨b, p, none⟩) (n) (c)) (rn_move _ (Or.inl rfl) _ (he18.tmp 0 _ rfl)) (fun a19 he19 => ?_)
    clear he18
    refine wl_val he19 rfl rfl (.int .i64 (((i : Nat) : Int))) (rn_move _ (Or.inl rfl) _ (he19.tmp 6 _ rfl)) (fun a20 he20 => ?_)
    clear he19
    refine wl_val he20 rfl rfl (.pointer (some ⟨b, p + i * 5, none⟩)) (rn_indexA _ _ _ rfl _ _ (.pointer (some ⟨b, p + i * 5, none⟩)) (he20.tmp 32 _ rfl) (he20.tmp 33 _ rfl) (ixS 39 5 (by kernel_rfl) (fun w => by kernel_rfl) (b) (p) (n) (c) (i) (by omega) _)) (fun a21 he21 => ?_)
    clear he20
    refine wl_val he21 rfl rfl (.pointer (some ⟨b, p + i * 5, none⟩)) (rn_field _ _ _ rfl _ (.pointer (some ⟨b, p + i * 5, none⟩)) (he21.tmp 34 _ rfl) (by kernel_rfl)) (fun a22 he22 => ?_)
    clear he21
    refine wl_val he22 rfl rfl (.int .i64 ((((f i).at_.toNat : Nat) : Int))) (rn_row1 hm5 hR (by simp) (i) (by omega) 0 (by omega) _ _ rfl (he22.tmp 35 _ rfl) one3 _ (Ru.g_at' _ hri)) (fun a23 he23 => ?_)
    clear he22
    refine wl_val he23 rfl rfl (.int .i64 ((((f i).at_.toNat : Nat) : Int))) (rn_move _ (Or.inr rfl) _ (he23.tmp 36 _ rfl)) (fun a24 he24 => ?_)
    clear he23
    refine wl_end ?_
    refine wp_seq ?_
    refine rg_cut (fun az wz => ∃ (b3 : Nat), EV az 78 [] [(0, .slice (some ⟨b, p, none⟩) (n) (c)), (12, .slice (some ⟨b1, 0, none⟩) (0) (0)), (13, .slice (some ⟨b, p, none⟩) (n) (c)), (14, .bool true), (15, .bool false), (17, .slice (some ⟨b2, 0, none⟩) (0) (0)), (5, .int .i64 (((i0 : Nat) : Int))), (4, .slice (some ⟨pb, 0, none⟩) (i0) (pc)), (18, .int .i64 (((i0 : Nat) : Int))), (19, .bool false), (6, .int .i64 (((i : Nat) : Int))), (3, .slice (some ⟨ob, 0, none⟩) (on) (oc)), (26, .int .i64 (((i : Nat) : Int))), (27, .slice (some ⟨b, p, none⟩) (n) (c)), (28, .int .i64 (((n : Nat) : Int))), (29, .bool true), (32, .slice (some ⟨b, p, none⟩) (n) (c)), (33, .int .i64 (((i : Nat) : Int))), (34, .pointer (some ⟨b, p + i * 5, none⟩)), (35, .pointer (some ⟨b, p + i * 5, none⟩)), (36, .int .i64 ((((f i).at_.toNat : Nat) : Int))), (7, .int .i64 ((((f i).at_.toNat : Nat) : Int))), (38, .slice (some ⟨b, p, none⟩) (n) (c)), (39, .int .i64 (((i : Nat) : Int))), (40, .pointer (some ⟨b, p + i * 5, none⟩)), (41, .agg (Ru.arr (f i))), (42, .slice (some ⟨pb, 0, none⟩) (i0) (pc)), (43, .int .i64 ((((f i).at_.toNat : Nat) : Int))), (44, .pointer (some ⟨pb, 0 + (f i).at_.toNat * 4, none⟩)), (45, .agg (ivArr (atS (S) ((f i).at_.toNat)))), (46, .tuple #[.agg (optA (brR (f i) S true)), .bool ((brR (f i) S true).isSome)]), (37, .tuple #[.agg (optA (brR (f i) S true)), .bool ((brR (f i) S true).isSome)]), (47, .agg (optA (brR (f i) S true))), (48, .bool ((brR (f i) S true).isSome)), (8, .pointer (some ⟨b3, 0, none⟩)), (9, .bool ((brR (f i) S true).isSome))] ∧ MM [] w wz [(1, ⟨true, ob, 39, oa⟩), (2, ⟨true, pb, 54, cur⟩), (3, ⟨true, b3, 54, optA (brR (f i) S true)⟩)]) ?tree1_01 ?cont1_01
    case tree1_01 =>
     refine wh_begin (by kernel_rfl) hm5 [(1, ⟨true, ob, 39, oa⟩), (2, ⟨true, pb, 54, cur⟩)] ⟨rfl, rfl, trivial⟩ (fun w6 hm6 => ?_)
     refine tk (fuel := 14) (i := 0) ?_ he24 hm6 ⟨rfl, rfl, trivial⟩ (.slice (some ⟨b, p, none⟩) (n) (c)) ?_ ?_ ?_ ?_ fun a25 he25 => ?_
     rotate_left
     rw [List.getElem?_toArray]; rfl
     exact ⟨by kernel_rfl, by kernel_rfl, by kernel_rfl⟩
     exact ⟨fun _ _ _ _ h => h, rfl, rfl⟩
     exact fun wS hmS => rn_move _ (Or.inl rfl) _ (he24.tmp 0 _ rfl)
     refine tk (fuel := 13) (i := 1) ?_ he25 hm6 ⟨rfl, rfl, trivial⟩ (.int .i64 (((i : Nat) : Int))) ?_ ?_ ?_ ?_ fun a26 he26 => ?_
     rotate_left
     rw [List.getElem?_toArray]; rfl
     exact ⟨by kernel_rfl, by kernel_rfl, by kernel_rfl⟩
     exact ⟨fun _ _ _ _ h => h, rfl, rfl⟩
     exact fun wS hmS => rn_move _ (Or.inl rfl) _ (he25.tmp 6 _ rfl)
     refine tk (fuel := 12) (i := 2) ?_ he26 hm6 ⟨rfl, rfl, trivial⟩ (.pointer (some ⟨b, p + i * 5, none⟩)) ?_ ?_ ?_ ?_ fun a27 he27 => ?_
     rotate_left
     rw [List.getElem?_toArray]; rfl
     exact ⟨by kernel_rfl, by kernel_rfl, by kernel_rfl⟩
     exact ⟨fun _ _ _ _ h => h, rfl, rfl⟩
     exact fun wS hmS => rn_indexA _ _ _ rfl _ _ (.pointer (some ⟨b, p + i * 5, none⟩)) (he26.tmp 38 _ rfl) (he26.tmp 39 _ rfl) (ixS 39 5 (by kernel_rfl) (fun w => by kernel_rfl) (b) (p) (n) (c) (i) (by omega) _)
     refine tk (fuel := 11) (i := 3) ?_ he27 hm6 ⟨rfl, rfl, trivial⟩ (.agg (Ru.arr (f i))) ?_ ?_ ?_ ?_ fun a28 he28 => ?_
     rotate_left
     rw [List.getElem?_toArray]; rfl
     exact ⟨by kernel_rfl, by kernel_rfl, by kernel_rfl⟩
     exact ⟨fun _ _ _ _ h => h, rfl, rfl⟩
     exact fun wS hmS => rn_rowA hmS hR (by simp) (i) (by omega) _ _ rfl (he27.tmp 40 _ rfl) agg39 (by kernel_rfl)
     refine tk (fuel := 10) (i := 4) ?_ he28 hm6 ⟨rfl, rfl, trivial⟩ (.slice (some ⟨pb, 0, none⟩) (i0) (pc)) ?_ ?_ ?_ ?_ fun a29 he29 => ?_
     rotate_left
     rw [List.getElem?_toArray]; rfl
     exact ⟨by kernel_rfl, by kernel_rfl, by kernel_rfl⟩
     exact ⟨fun _ _ _ _ h => h, rfl, rfl⟩
     exact fun wS hmS => rn_move _ (Or.inl rfl) _ (he28.tmp 4 _ rfl)
     refine tk (fuel := 9) (i := 5) ?_ he29 hm6 ⟨rfl, rfl, trivial⟩ (.int .i64 ((((f i).at_.toNat : Nat) : Int))) ?_ ?_ ?_ ?_ fun a30 he30 => ?_
     rotate_left
     rw [List.getElem?_toArray]; rfl
     exact ⟨by kernel_rfl, by kernel_rfl, by kernel_rfl⟩
     exact ⟨fun _ _ _ _ h => h, rfl, rfl⟩
     exact fun wS hmS => rn_move _ (Or.inl rfl) _ (he29.tmp 7 _ rfl)
     refine tk (fuel := 8) (i := 6) ?_ he30 hm6 ⟨rfl, rfl, trivial⟩ (.pointer (some ⟨pb, 0 + (f i).at_.toNat * 4, none⟩)) ?_ ?_ ?_ ?_ fun a31 he31 => ?_
     rotate_left
     rw [List.getElem?_toArray]; rfl
     exact ⟨by kernel_rfl, by kernel_rfl, by kernel_rfl⟩
     exact ⟨fun _ _ _ _ h => h, rfl, rfl⟩
     exact fun wS hmS => rn_indexA _ _ _ rfl _ _ (.pointer (some ⟨pb, 0 + (f i).at_.toNat * 4, none⟩)) (he30.tmp 42 _ rfl) (he30.tmp 43 _ rfl) (ixS 54 4 (by kernel_rfl) (fun w => by kernel_rfl) (pb) (0) (i0) (pc) ((f i).at_.toNat) (by omega) _)
     refine tk (fuel := 7) (i := 7) ?_ he31 hm6 ⟨rfl, rfl, trivial⟩ (.agg (ivArr (atS (S) ((f i).at_.toNat)))) ?_ ?_ ?_ ?_ fun a32 he32 => ?_
     rotate_left
     rw [List.getElem?_toArray]; rfl
     exact ⟨by kernel_rfl, by kernel_rfl, by kernel_rfl⟩
     exact ⟨fun _ _ _ _ h => h, rfl, rfl⟩
     exact fun wS hmS => rn_loadA hmS 2 rfl _ _ rfl (0 + (f i).at_.toNat * 4) (he31.tmp 44 _ rfl) 4 agg54 (ivArr (atS (S) ((f i).at_.toNat))) (hrw.ext ivArr.sz (hS.get hat) _ (by omega)) rfl
     refine wpAnyH_ready (fuel := 6) (rs := [8, 12]) ?hr1e01_9 (by simp) (AllReadyH.cons (o := ?o1e01_9_0) ?hi1e01_9_0 ?st1e01_9_0 (AllReadyH.cons (o := ?o1e01_9_1) ?hi1e01_9_1 ?st1e01_9_1 AllReadyH.nil))
     case hr1e01_9 => kernel_rfl
     case hi1e01_9_0 => rw [List.getElem?_toArray]; rfl
     case hi1e01_9_1 => rw [List.getElem?_toArray]; rfl
     case st1e01_9_0 =>
      refine st_call he32 hm6 ⟨rfl, rfl, trivial⟩ rfl rfl _ #[.agg (Ru.arr (f i)), .agg (ivArr (atS (S) ((f i).at_.toNat))), .bool true] (enter_call _ _ _ rfl 34 #[] #[] rfl #[.agg (Ru.arr (f i)), .agg (ivArr (atS (S) ((f i).at_.toNat))), .bool true] (map3 (he32.tmp 41 _ rfl) (he32.tmp 45 _ rfl) rfl) #[.agg (Ru.arr (f i)), .agg (ivArr (atS (S) ((f i).at_.toNat))), .bool true] rfl (fun _ _ => by kernel_rfl)) (.tuple #[.agg (optA (brR (f i) S true)), .bool ((brR (f i) S true).isSome)]) (sp_br hri hS true _) (fun a33 w7 he33 hm7 => ?_)
      refine tk (fuel := 5) (i := 9) ?_ he33 hm7 ⟨rfl, rfl, trivial⟩ (.tuple #[.agg (optA (brR (f i) S true)), .bool ((brR (f i) S true).isSome)]) ?_ ?_ ?_ ?_ fun a34 he34 => ?_
      rotate_left
      rw [List.getElem?_toArray]; rfl
      exact ⟨by kernel_rfl, by kernel_rfl, by kernel_rfl⟩
      exact ⟨fun _ _ _ _ h => h, rfl, rfl⟩
      exact fun wS hmS => rn_move _ (Or.inl rfl) _ (he33.tmp 46 _ rfl)
      refine tk (fuel := 4) (i := 10) ?_ he34 hm7 ⟨rfl, rfl, trivial⟩ (.agg (optA (brR (f i) S true))) ?_ ?_ ?_ ?_ fun a35 he35 => ?_
      rotate_left
      rw [List.getElem?_toArray]; rfl
      exact ⟨by kernel_rfl, by kernel_rfl, by kernel_rfl⟩
      exact ⟨fun _ _ _ _ h => h, rfl, rfl⟩
      exact fun wS hmS => rn_extract _ _ rfl _ (he34.tmp 37 _ rfl) _ rfl
      refine tk (fuel := 3) (i := 11) ?_ he35 hm7 ⟨rfl, rfl, trivial⟩ (.bool ((brR (f i) S true).isSome)) ?_ ?_ ?_ ?_ fun a36 he36 => ?_
      rotate_left
      rw [List.getElem?_toArray]; rfl
      exact ⟨by kernel_rfl, by kernel_rfl, by kernel_rfl⟩
      exact ⟨fun _ _ _ _ h => h, rfl, rfl⟩
      exact fun wS hmS => rn_extract _ _ rfl _ (he35.tmp 37 _ rfl) _ rfl
      refine wpAnyH_ready (fuel := 2) (rs := [12]) ?hr1e01_13 (by simp) (AllReadyH.cons (o := ?o1e01_13_0) ?hi1e01_13_0 ?st1e01_13_0 AllReadyH.nil)
      case hr1e01_13 => kernel_rfl
      case hi1e01_13_0 => rw [List.getElem?_toArray]; rfl
      case st1e01_13_0 =>
       refine st_alloc he36 hm7 3 rfl ⟨rfl, rfl, trivial⟩ rfl rfl _ rfl (.agg #[.int .i64 0, .int .i64 0, .int .i64 0, .int .i64 0]) (fun w => by kernel_rfl) (#[.int .i64 (0), .int .i64 (0), .int .i64 (0), .int .i64 (0)]) rfl (fun _ => ⟨rfl, rfl, trivial⟩) (fun a37 w8 b3 he37 hm8 => ?_)
       refine wh_store (i := 13) (op := ?op1e01_14) (fuel := 1) ?hr1e01_14 ?hi1e01_14 he37 hm8 3 rfl ?hd1e01_14 ?hw1e01_14 54 (.tmp 8) (.tmp 47) ?ho1e01_14 (0) (he37.tmp 8 _ rfl) _ (he37.tmp 47 _ rfl) 4 agg54.size (optA.sz _) (optA.one _) (by decide) (optA (brR (f i) S true)) (optA_ovw _ _ _ _ _) ⟨rfl, rfl, trivial⟩ (fun w9 hm9 => ?k1e01_14)
       case hi1e01_14 => rw [List.getElem?_toArray]; rfl
       case hw1e01_14 => exact rfl
       case hr1e01_14 => kernel_rfl
       case hd1e01_14 | ho1e01_14 => rfl
       refine tk (fuel := 0) (i := 14) ?_ he37 hm9 ⟨rfl, rfl, trivial⟩ (.bool ((brR (f i) S true).isSome)) ?_ ?_ ?_ ?_ fun a38 he38 => ?_
       rotate_left
       rw [List.getElem?_toArray]; rfl
       exact ⟨by kernel_rfl, by kernel_rfl, by kernel_rfl⟩
       exact ⟨fun _ _ _ _ h => h, rfl, rfl⟩
       exact fun wS hmS => rn_move _ (Or.inr rfl) _ (he37.tmp 48 _ rfl)
       refine wpAnyH_done (by kernel_rfl) ?_ _
       exact ⟨b3, he38.sub _ ⟨rfl, rfl, rfl, rfl, rfl, rfl, rfl, rfl, rfl, rfl, rfl, rfl, rfl, rfl, rfl, rfl, rfl, rfl, rfl, rfl, rfl, rfl, rfl, rfl, rfl, rfl, rfl, rfl, rfl, rfl, rfl, rfl, rfl, rfl, rfl, rfl, trivial⟩, hm9.sub _ ⟨rfl, rfl, rfl, trivial⟩⟩
     case st1e01_9_1 =>
      refine st_alloc he32 hm6 3 rfl ⟨rfl, rfl, trivial⟩ rfl rfl _ rfl (.agg #[.int .i64 0, .int .i64 0, .int .i64 0, .int .i64 0]) (fun w => by kernel_rfl) (#[.int .i64 (0), .int .i64 (0), .int .i64 (0), .int .i64 (0)]) rfl (fun _ => ⟨rfl, rfl, trivial⟩) (fun a33 w7 b3 he33 hm7 => ?_)
      refine wpAnyH_ready (fuel := 5) (rs := [8]) ?hr1e01_16 (by simp) (AllReadyH.cons (o := ?o1e01_16_0) ?hi1e01_16_0 ?st1e01_16_0 AllReadyH.nil)
      case hr1e01_16 => kernel_rfl
      case hi1e01_16_0 => rw [List.getElem?_toArray]; rfl
      case st1e01_16_0 =>
       refine st_call he33 hm7 ⟨rfl, rfl, trivial⟩ rfl rfl _ #[.agg (Ru.arr (f i)), .agg (ivArr (atS (S) ((f i).at_.toNat))), .bool true] (enter_call _ _ _ rfl 34 #[] #[] rfl #[.agg (Ru.arr (f i)), .agg (ivArr (atS (S) ((f i).at_.toNat))), .bool true] (map3 (he33.tmp 41 _ rfl) (he33.tmp 45 _ rfl) rfl) #[.agg (Ru.arr (f i)), .agg (ivArr (atS (S) ((f i).at_.toNat))), .bool true] rfl (fun _ _ => by kernel_rfl)) (.tuple #[.agg (optA (brR (f i) S true)), .bool ((brR (f i) S true).isSome)]) (sp_br hri hS true _) (fun a34 w8 he34 hm8 => ?_)
       refine tk (fuel := 4) (i := 9) ?_ he34 hm8 ⟨rfl, rfl, trivial⟩ (.tuple #[.agg (optA (brR (f i) S true)), .bool ((brR (f i) S true).isSome)]) ?_ ?_ ?_ ?_ fun a35 he35 => ?_
       rotate_left
       rw [List.getElem?_toArray]; rfl
       exact ⟨by kernel_rfl, by kernel_rfl, by kernel_rfl⟩
       exact ⟨fun _ _ _ _ h => h, rfl, rfl⟩
       exact fun wS hmS => rn_move _ (Or.inl rfl) _ (he34.tmp 46 _ rfl)
       refine tk (fuel := 3) (i := 10) ?_ he35 hm8 ⟨rfl, rfl, trivial⟩ (.agg (optA (brR (f i) S true))) ?_ ?_ ?_ ?_ fun a36 he36 => ?_
       rotate_left
       rw [List.getElem?_toArray]; rfl
       exact ⟨by kernel_rfl, by kernel_rfl, by kernel_rfl⟩
       exact ⟨fun _ _ _ _ h => h, rfl, rfl⟩
       exact fun wS hmS => rn_extract _ _ rfl _ (he35.tmp 37 _ rfl) _ rfl
       refine tk (fuel := 2) (i := 11) ?_ he36 hm8 ⟨rfl, rfl, trivial⟩ (.bool ((brR (f i) S true).isSome)) ?_ ?_ ?_ ?_ fun a37 he37 => ?_
       rotate_left
       rw [List.getElem?_toArray]; rfl
       exact ⟨by kernel_rfl, by kernel_rfl, by kernel_rfl⟩
       exact ⟨fun _ _ _ _ h => h, rfl, rfl⟩
       exact fun wS hmS => rn_extract _ _ rfl _ (he36.tmp 37 _ rfl) _ rfl
       refine wh_store (i := 13) (op := ?op1e01_20) (fuel := 1) ?hr1e01_20 ?hi1e01_20 he37 hm8 3 rfl ?hd1e01_20 ?hw1e01_20 54 (.tmp 8) (.tmp 47) ?ho1e01_20 (0) (he37.tmp 8 _ rfl) _ (he37.tmp 47 _ rfl) 4 agg54.size (optA.sz _) (optA.one _) (by decide) (optA (brR (f i) S true)) (optA_ovw _ _ _ _ _) ⟨rfl, rfl, trivial⟩ (fun w9 hm9 => ?k1e01_20)
       case hi1e01_20 => rw [List.getElem?_toArray]; rfl
       case hw1e01_20 => exact rfl
       case hr1e01_20 => kernel_rfl
       case hd1e01_20 | ho1e01_20 => rfl
       refine tk (fuel := 0) (i := 14) ?_ he37 hm9 ⟨rfl, rfl, trivial⟩ (.bool ((brR (f i) S true).isSome)) ?_ ?_ ?_ ?_ fun a38 he38 => ?_
       rotate_left
       rw [List.getElem?_toArray]; rfl
       exact ⟨by kernel_rfl, by kernel_rfl, by kernel_rfl⟩
       exact ⟨fun _ _ _ _ h => h, rfl, rfl⟩
       exact fun wS hmS => rn_move _ (Or.inr rfl) _ (he37.tmp 48 _ rfl)
       refine wpAnyH_done (by kernel_rfl) ?_ _
       exact ⟨b3, he38.sub _ ⟨rfl, rfl, rfl, rfl, rfl, rfl, rfl, rfl, rfl, rfl, rfl, rfl, rfl, rfl, rfl, rfl, rfl, rfl, rfl, rfl, rfl, rfl, rfl, rfl, rfl, rfl, rfl, rfl, rfl, rfl, rfl, rfl, rfl, rfl, rfl, rfl, trivial⟩, hm9.sub _ ⟨rfl, rfl, rfl, trivial⟩⟩
    rintro a39 w11 ⟨b3, he39, hm11⟩
    refine then_normal ?_
    refine wp_seq ?_
    refine rg_cut (fun az wz => ∃ (b4 : Nat), EV az 78 [] [(0, .slice (some ⟨b, p, none⟩) (n) (c)), (12, .slice (some ⟨b1, 0, none⟩) (0) (0)), (13, .slice (some ⟨b, p, none⟩) (n) (c)), (14, .bool true), (15, .bool false), (17, .slice (some ⟨b2, 0, none⟩) (0) (0)), (5, .int .i64 (((i0 : Nat) : Int))), (4, .slice (some ⟨pb, 0, none⟩) (i0) (pc)), (18, .int .i64 (((i0 : Nat) : Int))), (19, .bool false), (6, .int .i64 (((i : Nat) : Int))), (3, .slice (some ⟨ob, 0, none⟩) (on) (oc)), (26, .int .i64 (((i : Nat) : Int))), (27, .slice (some ⟨b, p, none⟩) (n) (c)), (28, .int .i64 (((n : Nat) : Int))), (29, .bool true), (32, .slice (some ⟨b, p, none⟩) (n) (c)), (33, .int .i64 (((i : Nat) : Int))), (34, .pointer (some ⟨b, p + i * 5, none⟩)), (35, .pointer (some ⟨b, p + i * 5, none⟩)), (36, .int .i64 ((((f i).at_.toNat : Nat) : Int))), (7, .int .i64 ((((f i).at_.toNat : Nat) : Int))), (38, .slice (some ⟨b, p, none⟩) (n) (c)), (39, .int .i64 (((i : Nat) : Int))), (40, .pointer (some ⟨b, p + i * 5, none⟩)), (41, .agg (Ru.arr (f i))), (42, .slice (some ⟨pb, 0, none⟩) (i0) (pc)), (43, .int .i64 ((((f i).at_.toNat : Nat) : Int))), (44, .pointer (some ⟨pb, 0 + (f i).at_.toNat * 4, none⟩)), (45, .agg (ivArr (atS (S) ((f i).at_.toNat)))), (46, .tuple #[.agg (optA (brR (f i) S true)), .bool ((brR (f i) S true).isSome)]), (37, .tuple #[.agg (optA (brR (f i) S true)), .bool ((brR (f i) S true).isSome)]), (47, .agg (optA (brR (f i) S true))), (48, .bool ((brR (f i) S true).isSome)), (8, .pointer (some ⟨b3, 0, none⟩)), (9, .bool ((brR (f i) S true).isSome)), (50, .slice (some ⟨b, p, none⟩) (n) (c)), (51, .int .i64 (((i : Nat) : Int))), (52, .pointer (some ⟨b, p + i * 5, none⟩)), (53, .agg (Ru.arr (f i))), (54, .slice (some ⟨pb, 0, none⟩) (i0) (pc)), (55, .int .i64 ((((f i).at_.toNat : Nat) : Int))), (56, .pointer (some ⟨pb, 0 + (f i).at_.toNat * 4, none⟩)), (57, .agg (ivArr (atS (S) ((f i).at_.toNat)))), (58, .tuple #[.agg (optA (brR (f i) S false)), .bool ((brR (f i) S false).isSome)]), (49, .tuple #[.agg (optA (brR (f i) S false)), .bool ((brR (f i) S false).isSome)]), (59, .agg (optA (brR (f i) S false))), (60, .bool ((brR (f i) S false).isSome)), (10, .pointer (some ⟨b4, 0, none⟩)), (11, .bool ((brR (f i) S false).isSome))] ∧ MM [] w wz [(1, ⟨true, ob, 39, oa⟩), (2, ⟨true, pb, 54, cur⟩), (3, ⟨true, b3, 54, optA (brR (f i) S true)⟩), (4, ⟨true, b4, 54, optA (brR (f i) S false)⟩)]) ?tree2_01 ?cont2_01
    case tree2_01 =>
     refine wh_begin (by kernel_rfl) hm11 [(1, ⟨true, ob, 39, oa⟩), (2, ⟨true, pb, 54, cur⟩), (3, ⟨true, b3, 54, optA (brR (f i) S true)⟩)] ⟨rfl, rfl, rfl, trivial⟩ (fun w12 hm12 => ?_)
     refine tk (fuel := 14) (i := 0) ?_ he39 hm12 ⟨rfl, rfl, rfl, trivial⟩ (.slice (some ⟨b, p, none⟩) (n) (c)) ?_ ?_ ?_ ?_ fun a40 he40 => ?_
     rotate_left
     rw [List.getElem?_toArray]; rfl
     exact ⟨by kernel_rfl, by kernel_rfl, by kernel_rfl⟩
     exact ⟨fun _ _ _ _ h => h, rfl, rfl⟩
     exact fun wS hmS => rn_move _ (Or.inl rfl) _ (he39.tmp 0 _ rfl)
     refine tk (fuel := 13) (i := 1) ?_ he40 hm12 ⟨rfl, rfl, rfl, trivial⟩ (.int .i64 (((i : Nat) : Int))) ?_ ?_ ?_ ?_ fun a41 he41 => ?_
     rotate_left
     rw [List.getElem?_toArray]; rfl
     exact ⟨by kernel_rfl, by kernel_rfl, by kernel_rfl⟩
     exact ⟨fun _ _ _ _ h => h, rfl, rfl⟩
     exact fun wS hmS => rn_move _ (Or.inl rfl) _ (he40.tmp 6 _ rfl)
     refine tk (fuel := 12) (i := 2) ?_ he41 hm12 ⟨rfl, rfl, rfl, trivial⟩ (.pointer (some ⟨b, p + i * 5, none⟩)) ?_ ?_ ?_ ?_ fun a42 he42 => ?_
     rotate_left
     rw [List.getElem?_toArray]; rfl
     exact ⟨by kernel_rfl, by kernel_rfl, by kernel_rfl⟩
     exact ⟨fun _ _ _ _ h => h, rfl, rfl⟩
     exact fun wS hmS => rn_indexA _ _ _ rfl _ _ (.pointer (some ⟨b, p + i * 5, none⟩)) (he41.tmp 50 _ rfl) (he41.tmp 51 _ rfl) (ixS 39 5 (by kernel_rfl) (fun w => by kernel_rfl) (b) (p) (n) (c) (i) (by omega) _)
     refine tk (fuel := 11) (i := 3) ?_ he42 hm12 ⟨rfl, rfl, rfl, trivial⟩ (.agg (Ru.arr (f i))) ?_ ?_ ?_ ?_ fun a43 he43 => ?_
     rotate_left
     rw [List.getElem?_toArray]; rfl
     exact ⟨by kernel_rfl, by kernel_rfl, by kernel_rfl⟩
     exact ⟨fun _ _ _ _ h => h, rfl, rfl⟩
     exact fun wS hmS => rn_rowA hmS hR (by simp) (i) (by omega) _ _ rfl (he42.tmp 52 _ rfl) agg39 (by kernel_rfl)
     refine tk (fuel := 10) (i := 4) ?_ he43 hm12 ⟨rfl, rfl, rfl, trivial⟩ (.slice (some ⟨pb, 0, none⟩) (i0) (pc)) ?_ ?_ ?_ ?_ fun a44 he44 => ?_
     rotate_left
     rw [List.getElem?_toArray]; rfl
     exact ⟨by kernel_rfl, by kernel_rfl, by kernel_rfl⟩
     exact ⟨fun _ _ _ _ h => h, rfl, rfl⟩
     exact fun wS hmS => rn_move _ (Or.inl rfl) _ (he43.tmp 4 _ rfl)
     refine tk (fuel := 9) (i := 5) ?_ he44 hm12 ⟨rfl, rfl, rfl, trivial⟩ (.int .i64 ((((f i).at_.toNat : Nat) : Int))) ?_ ?_ ?_ ?_ fun a45 he45 => ?_
     rotate_left
     rw [List.getElem?_toArray]; rfl
     exact ⟨by kernel_rfl, by kernel_rfl, by kernel_rfl⟩
     exact ⟨fun _ _ _ _ h => h, rfl, rfl⟩
     exact fun wS hmS => rn_move _ (Or.inl rfl) _ (he44.tmp 7 _ rfl)
     refine tk (fuel := 8) (i := 6) ?_ he45 hm12 ⟨rfl, rfl, rfl, trivial⟩ (.pointer (some ⟨pb, 0 + (f i).at_.toNat * 4, none⟩)) ?_ ?_ ?_ ?_ fun a46 he46 => ?_
     rotate_left
     rw [List.getElem?_toArray]; rfl
     exact ⟨by kernel_rfl, by kernel_rfl, by kernel_rfl⟩
     exact ⟨fun _ _ _ _ h => h, rfl, rfl⟩
     exact fun wS hmS => rn_indexA _ _ _ rfl _ _ (.pointer (some ⟨pb, 0 + (f i).at_.toNat * 4, none⟩)) (he45.tmp 54 _ rfl) (he45.tmp 55 _ rfl) (ixS 54 4 (by kernel_rfl) (fun w => by kernel_rfl) (pb) (0) (i0) (pc) ((f i).at_.toNat) (by omega) _)
     refine tk (fuel := 7) (i := 7) ?_ he46 hm12 ⟨rfl, rfl, rfl, trivial⟩ (.agg (ivArr (atS (S) ((f i).at_.toNat)))) ?_ ?_ ?_ ?_ fun a47 he47 => ?_
     rotate_left
     rw [List.getElem?_toArray]; rfl
     exact ⟨by kernel_rfl, by kernel_rfl, by kernel_rfl⟩
     exact ⟨fun _ _ _ _ h => h, rfl, rfl⟩
     exact fun wS hmS => rn_loadA hmS 2 rfl _ _ rfl (0 + (f i).at_.toNat * 4) (he46.tmp 56 _ rfl) 4 agg54 (ivArr (atS (S) ((f i).at_.toNat))) (hrw.ext ivArr.sz (hS.get hat) _ (by omega)) rfl
     refine wpAnyH_ready (fuel := 6) (rs := [8, 12]) ?hr2e01_9 (by simp) (AllReadyH.cons (o := ?o2e01_9_0) ?hi2e01_9_0 ?st2e01_9_0 (AllReadyH.cons (o := ?o2e01_9_1) ?hi2e01_9_1 ?st2e01_9_1 AllReadyH.nil))
     case hr2e01_9 => kernel_rfl
     case hi2e01_9_0 => rw [List.getElem?_toArray]; rfl
     case hi2e01_9_1 => rw [List.getElem?_toArray]; rfl
     case st2e01_9_0 =>
      refine st_call he47 hm12 ⟨rfl, rfl, rfl, trivial⟩ rfl rfl _ #[.agg (Ru.arr (f i)), .agg (ivArr (atS (S) ((f i).at_.toNat))), .bool false] (enter_call _ _ _ rfl 34 #[] #[] rfl #[.agg (Ru.arr (f i)), .agg (ivArr (atS (S) ((f i).at_.toNat))), .bool false] (map3 (he47.tmp 53 _ rfl) (he47.tmp 57 _ rfl) rfl) #[.agg (Ru.arr (f i)), .agg (ivArr (atS (S) ((f i).at_.toNat))), .bool false] rfl (fun _ _ => by kernel_rfl)) (.tuple #[.agg (optA (brR (f i) S false)), .bool ((brR (f i) S false).isSome)]) (sp_br hri hS false _) (fun a48 w13 he48 hm13 => ?_)
      refine tk (fuel := 5) (i := 9) ?_ he48 hm13 ⟨rfl, rfl, rfl, trivial⟩ (.tuple #[.agg (optA (brR (f i) S false)), .bool ((brR (f i) S false).isSome)]) ?_ ?_ ?_ ?_ fun a49 he49 => ?_
      rotate_left
      rw [List.getElem?_toArray]; rfl
      exact ⟨by kernel_rfl, by kernel_rfl, by kernel_rfl⟩
      exact ⟨fun _ _ _ _ h => h, rfl, rfl⟩
      exact fun wS hmS => rn_move _ (Or.inl rfl) _ (he48.tmp 58 _ rfl)
      refine tk (fuel := 4) (i := 10) ?_ he49 hm13 ⟨rfl, rfl, rfl, trivial⟩ (.agg (optA (brR (f i) S false))) ?_ ?_ ?_ ?_ fun a50 he50 => ?_
      rotate_left
      rw [List.getElem?_toArray]; rfl
      exact ⟨by kernel_rfl, by kernel_rfl, by kernel_rfl⟩
      exact ⟨fun _ _ _ _ h => h, rfl, rfl⟩
      exact fun wS hmS => rn_extract _ _ rfl _ (he49.tmp 49 _ rfl) _ rfl
      refine tk (fuel := 3) (i := 11) ?_ he50 hm13 ⟨rfl, rfl, rfl, trivial⟩ (.bool ((brR (f i) S false).isSome)) ?_ ?_ ?_ ?_ fun a51 he51 => ?_
      rotate_left
      rw [List.getElem?_toArray]; rfl
      exact ⟨by kernel_rfl, by kernel_rfl, by kernel_rfl⟩
      exact ⟨fun _ _ _ _ h => h, rfl, rfl⟩
      exact fun wS hmS => rn_extract _ _ rfl _ (he50.tmp 49 _ rfl) _ rfl
      refine wpAnyH_ready (fuel := 2) (rs := [12]) ?hr2e01_13 (by simp) (AllReadyH.cons (o := ?o2e01_13_0) ?hi2e01_13_0 ?st2e01_13_0 AllReadyH.nil)
      case hr2e01_13 => kernel_rfl
      case hi2e01_13_0 => rw [List.getElem?_toArray]; rfl
      case st2e01_13_0 =>
       refine st_alloc he51 hm13 4 rfl ⟨rfl, rfl, rfl, trivial⟩ rfl rfl _ rfl (.agg #[.int .i64 0, .int .i64 0, .int .i64 0, .int .i64 0]) (fun w => by kernel_rfl) (#[.int .i64 (0), .int .i64 (0), .int .i64 (0), .int .i64 (0)]) rfl (fun _ => ⟨rfl, rfl, rfl, trivial⟩) (fun a52 w14 b4 he52 hm14 => ?_)
       refine wh_store (i := 13) (op := ?op2e01_14) (fuel := 1) ?hr2e01_14 ?hi2e01_14 he52 hm14 4 rfl ?hd2e01_14 ?hw2e01_14 54 (.tmp 10) (.tmp 59) ?ho2e01_14 (0) (he52.tmp 10 _ rfl) _ (he52.tmp 59 _ rfl) 4 agg54.size (optA.sz _) (optA.one _) (by decide) (optA (brR (f i) S false)) (optA_ovw _ _ _ _ _) ⟨rfl, rfl, rfl, trivial⟩ (fun w15 hm15 => ?k2e01_14)
       case hi2e01_14 => rw [List.getElem?_toArray]; rfl
       case hw2e01_14 => exact rfl
       case hr2e01_14 => kernel_rfl
       case hd2e01_14 | ho2e01_14 => rfl
       refine tk (fuel := 0) (i := 14) ?_ he52 hm15 ⟨rfl, rfl, rfl, trivial⟩ (.bool ((brR (f i) S false).isSome)) ?_ ?_ ?_ ?_ fun a53 he53 => ?_
       rotate_left
       rw [List.getElem?_toArray]; rfl
       exact ⟨by kernel_rfl, by kernel_rfl, by kernel_rfl⟩
       exact ⟨fun _ _ _ _ h => h, rfl, rfl⟩
       exact fun wS hmS => rn_move _ (Or.inr rfl) _ (he52.tmp 60 _ rfl)
       refine wpAnyH_done (by kernel_rfl) ?_ _
       exact ⟨b4, he53.sub _ ⟨rfl, rfl, rfl, rfl, rfl, rfl, rfl, rfl, rfl, rfl, rfl, rfl, rfl, rfl, rfl, rfl, rfl, rfl, rfl, rfl, rfl, rfl, rfl, rfl, rfl, rfl, rfl, rfl, rfl, rfl, rfl, rfl, rfl, rfl, rfl, rfl, rfl, rfl, rfl, rfl, rfl, rfl, rfl, rfl, rfl, rfl, rfl, rfl, rfl, rfl, trivial⟩, hm15.sub _ ⟨rfl, rfl, rfl, rfl, trivial⟩⟩
     case st2e01_9_1 =>
      refine st_alloc he47 hm12 4 rfl ⟨rfl, rfl, rfl, trivial⟩ rfl rfl _ rfl (.agg #[.int .i64 0, .int .i64 0, .int .i64 0, .int .i64 0]) (fun w => by kernel_rfl) (#[.int .i64 (0), .int .i64 (0), .int .i64 (0), .int .i64 (0)]) rfl (fun _ => ⟨rfl, rfl, rfl, trivial⟩) (fun a48 w13 b4 he48 hm13 => ?_)
      refine wpAnyH_ready (fuel := 5) (rs := [8]) ?hr2e01_16 (by simp) (AllReadyH.cons (o := ?o2e01_16_0) ?hi2e01_16_0 ?st2e01_16_0 AllReadyH.nil)
      case hr2e01_16 => kernel_rfl
      case hi2e01_16_0 => rw [List.getElem?_toArray]; rfl
      case st2e01_16_0 =>
       refine st_call he48 hm13 ⟨rfl, rfl, rfl, trivial⟩ rfl rfl _ #[.agg (Ru.arr (f i)), .agg (ivArr (atS (S) ((f i).at_.toNat))), .bool false] (enter_call _ _ _ rfl 34 #[] #[] rfl #[.agg (Ru.arr (f i)), .agg (ivArr (atS (S) ((f i).at_.toNat))), .bool false] (map3 (he48.tmp 53 _ rfl) (he48.tmp 57 _ rfl) rfl) #[.agg (Ru.arr (f i)), .agg (ivArr (atS (S) ((f i).at_.toNat))), .bool false] rfl (fun _ _ => by kernel_rfl)) (.tuple #[.agg (optA (brR (f i) S false)), .bool ((brR (f i) S false).isSome)]) (sp_br hri hS false _) (fun a49 w14 he49 hm14 => ?_)
       refine tk (fuel := 4) (i := 9) ?_ he49 hm14 ⟨rfl, rfl, rfl, trivial⟩ (.tuple #[.agg (optA (brR (f i) S false)), .bool ((brR (f i) S false).isSome)]) ?_ ?_ ?_ ?_ fun a50 he50 => ?_
       rotate_left
       rw [List.getElem?_toArray]; rfl
       exact ⟨by kernel_rfl, by kernel_rfl, by kernel_rfl⟩
       exact ⟨fun _ _ _ _ h => h, rfl, rfl⟩
       exact fun wS hmS => rn_move _ (Or.inl rfl) _ (he49.tmp 58 _ rfl)
       refine tk (fuel := 3) (i := 10) ?_ he50 hm14 ⟨rfl, rfl, rfl, trivial⟩ (.agg (optA (brR (f i) S false))) ?_ ?_ ?_ ?_ fun a51 he51 => ?_
       rotate_left
       rw [List.getElem?_toArray]; rfl
       exact ⟨by kernel_rfl, by kernel_rfl, by kernel_rfl⟩
       exact ⟨fun _ _ _ _ h => h, rfl, rfl⟩
       exact fun wS hmS => rn_extract _ _ rfl _ (he50.tmp 49 _ rfl) _ rfl
       refine tk (fuel := 2) (i := 11) ?_ he51 hm14 ⟨rfl, rfl, rfl, trivial⟩ (.bool ((brR (f i) S false).isSome)) ?_ ?_ ?_ ?_ fun a52 he52 => ?_
       rotate_left
       rw [List.getElem?_toArray]; rfl
       exact ⟨by kernel_rfl, by kernel_rfl, by kernel_rfl⟩
       exact ⟨fun _ _ _ _ h => h, rfl, rfl⟩
       exact fun wS hmS => rn_extract _ _ rfl _ (he51.tmp 49 _ rfl) _ rfl
       refine wh_store (i := 13) (op := ?op2e01_20) (fuel := 1) ?hr2e01_20 ?hi2e01_20 he52 hm14 4 rfl ?hd2e01_20 ?hw2e01_20 54 (.tmp 10) (.tmp 59) ?ho2e01_20 (0) (he52.tmp 10 _ rfl) _ (he52.tmp 59 _ rfl) 4 agg54.size (optA.sz _) (optA.one _) (by decide) (optA (brR (f i) S false)) (optA_ovw _ _ _ _ _) ⟨rfl, rfl, rfl, trivial⟩ (fun w15 hm15 => ?k2e01_20)
       case hi2e01_20 => rw [List.getElem?_toArray]; rfl
       case hw2e01_20 => exact rfl
       case hr2e01_20 => kernel_rfl
       case hd2e01_20 | ho2e01_20 => rfl
       refine tk (fuel := 0) (i := 14) ?_ he52 hm15 ⟨rfl, rfl, rfl, trivial⟩ (.bool ((brR (f i) S false).isSome)) ?_ ?_ ?_ ?_ fun a53 he53 => ?_
       rotate_left
       rw [List.getElem?_toArray]; rfl
       exact ⟨by kernel_rfl, by kernel_rfl, by kernel_rfl⟩
       exact ⟨fun _ _ _ _ h => h, rfl, rfl⟩
       exact fun wS hmS => rn_move _ (Or.inr rfl) _ (he52.tmp 60 _ rfl)
       refine wpAnyH_done (by kernel_rfl) ?_ _
       exact ⟨b4, he53.sub _ ⟨rfl, rfl, rfl, rfl, rfl, rfl, rfl, rfl, rfl, rfl, rfl, rfl, rfl, rfl, rfl, rfl, rfl, rfl, rfl, rfl, rfl, rfl, rfl, rfl, rfl, rfl, rfl, rfl, rfl, rfl, rfl, rfl, rfl, rfl, rfl, rfl, rfl, rfl, rfl, rfl, rfl, rfl, rfl, rfl, rfl, rfl, rfl, rfl, rfl, rfl, trivial⟩, hm15.sub _ ⟨rfl, rfl, rfl, rfl, trivial⟩⟩
    rintro a54 w17 ⟨b4, he54, hm17⟩
    refine then_normal ?_
    refine wp_seq ?_
    refine wp_seqR ?_
    refine wl_val he54 rfl rfl (.bool ((brR (f i) S true).isSome)) (rn_move _ (Or.inl rfl) _ (he54.tmp 9 _ rfl)) (fun a55 he55 => ?_)
    clear he54
    cases hd3 : ((brR (f i) S true).isSome)
    ·
     have hb1 : brR (f i) S true = none := by simpa using hd3
     refine wl_val he55 rfl rfl (.bool true) (rn_un _ _ _ rfl _ (.bool (!(brR (f i) S true).isSome)) _ (he55.tmp 61 _ rfl) rfl (congrArg (fun q => Value.bool (!q)) hd3)) (fun a56 he56 => ?_)
     clear he55
     refine wl_end ?_
     refine wp_condT (he := he56) rfl ?_
     refine wp_exit ?_
     refine exit_then ?_
     refine exit_here ?_
     refine then_normal ?_
     refine wp_region_lit ?_
     refine wl_val he56 rfl rfl (.int .i64 (((i : Nat) : Int))) (rn_move _ (Or.inl rfl) _ (he56.tmp 6 _ rfl)) (fun a57 he57 => ?_)
     clear he56
     refine wl_val he57 rfl rfl (.int .i64 (((i + 1 : Nat) : Int))) (rn_bin _ _ _ _ _ rfl .i64 _ _ (he57.tmp 30 _ rfl) rfl (.int .i64 (IntKind.wrap .i64 (((i : Nat) : Int) + 1))) _ rfl (addN (i := i) (c := 1) (by omega))) (fun a58 he58 => ?_)
     clear he57
     refine wl_val he58 rfl rfl (.int .i64 (((i + 1 : Nat) : Int))) (rn_move _ (Or.inr rfl) _ (he58.tmp 31 _ rfl)) (fun a59 he59 => ?_)
     clear he58
     refine wpList_nil ?_
     exact ⟨n - (i + 1), by omega, i + 1, S, cur, o, on, ob, oc, oa, rfl, ⟨by omega, hS, hrw, tid_skip htd (by omega) hb1, by simp [hon], by omega, horw⟩, he59.sub _ ⟨rfl, rfl, rfl, rfl, rfl, rfl, rfl, rfl, rfl, rfl, rfl, rfl, trivial⟩, hm17.sub _ ⟨rfl, rfl, trivial⟩⟩
    ·
     obtain ⟨y1, hb1⟩ := Option.isSome_iff_exists.1 hd3
     refine wl_val he55 rfl rfl (.bool false) (rn_un _ _ _ rfl _ (.bool (!(brR (f i) S true).isSome)) _ (he55.tmp 61 _ rfl) rfl (congrArg (fun q => Value.bool (!q)) hd3)) (fun a56 he56 => ?_)
     clear he55
     refine wl_end ?_
     refine wp_condF (he := he56) rfl ?_
     refine wp_skip ?_
     refine then_normal ?_
     refine wp_seqR ?_
     refine wl_val he56 rfl rfl (.slice (some ⟨ob, 0, none⟩) (on) (oc)) (rn_move _ (Or.inl rfl) _ (he56.tmp 3 _ rfl)) (fun a57 he57 => ?_)
     clear he56
     refine wl_val he57 rfl rfl (.slice (some ⟨b, p, none⟩) (n) (c)) (rn_move _ (Or.inl rfl) _ (he57.tmp 0 _ rfl)) (fun a58 he58 => ?_)
     clear he57
     refine wl_val he58 rfl rfl (.int .i64 (((i : Nat) : Int))) (rn_move _ (Or.inl rfl) _ (he58.tmp 6 _ rfl)) (fun a59 he59 => ?_)
     clear he58
     refine wl_val he59 rfl rfl (.pointer (some ⟨b, p + i * 5, none⟩)) (rn_indexA _ _ _ rfl _ _ (.pointer (some ⟨b, p + i * 5, none⟩)) (he59.tmp 64 _ rfl) (he59.tmp 65 _ rfl) (ixS 39 5 (by kernel_rfl) (fun w => by kernel_rfl) (b) (p) (n) (c) (i) (by omega) _)) (fun a60 he60 => ?_)
     clear he59
     refine wl_val he60 rfl rfl (.agg (Ru.arr (f i))) (rn_rowA hm17 hR (by simp) (i) (by omega) _ _ rfl (he60.tmp 66 _ rfl) agg39 (by kernel_rfl)) (fun a61 he61 => ?_)
     clear he60
     refine wl_buildSlice he61 hm17 5 rfl rfl rfl _ _ _ rfl #[(0, .agg (Ru.arr (f i)))] (pmap1 (he61.tmp 67 _ rfl)) 39 ((cellsOf Ru.arr [f i]).toArray) (by kernel_rfl) (fun a62 w18 b5 he62 hm18 => ?_)
     clear he61 hm17
     have rw5_0 : Rw ((cellsOf Ru.arr [f i]).toArray) 1 1 5 (cellsOf Ru.arr ([f i])) := Rw.lits Ru.sz [f i] (by simp [maxLen])
     refine wl_append (k := on) (cap := oc) he62 hm18 1 rfl rfl rfl _ _ _ rfl el39 (he62.tmp 63 _ rfl) horw ⟨b5, 0, none⟩ 1 1 (he62.tmp 68 _ rfl) (cellsOf Ru.arr ([f i])) (rw5_0.len) (fun j u hu => by rw [Addr.add_mid, Nat.zero_add, (hm18.bx 5 _ _ _ _ rfl).cell]; exact rw5_0.get j u hu) (cellsOf_one Ru.one _) (by simp only [maxLen]; omega) (by omega) (fun a63 w19 b1_63 cap1_63 cur1_63 he63 hm19 rw1_63 => ?_)
     clear he62 hm18
     replace rw1_63 := rw1_63.app
     refine wl_val he63 rfl rfl (.slice (some ⟨b1_63, 0, none⟩) (on + 1) (cap1_63)) (rn_move _ (Or.inr rfl) _ (he63.tmp 69 _ rfl)) (fun a64 he64 => ?_)
     clear he63
     refine wl_end ?_
     refine wp_seq ?_
     refine wp_seqR ?_
     refine wl_val he64 rfl rfl (.bool ((brR (f i) S false).isSome)) (rn_move _ (Or.inl rfl) _ (he64.tmp 11 _ rfl)) (fun a65 he65 => ?_)
     clear he64
     cases hd4 : ((brR (f i) S false).isSome)
     ·
      have hb2 : brR (f i) S false = none := by simpa using hd4
      refine wl_val he65 rfl rfl (.bool true) (rn_un _ _ _ rfl _ (.bool (!(brR (f i) S false).isSome)) _ (he65.tmp 70 _ rfl) rfl (congrArg (fun q => Value.bool (!q)) hd4)) (fun a66 he66 => ?_)
      clear he65
      refine wl_end ?_
      refine wp_condT (he := he66) rfl ?_
      refine wp_seqR ?_
      refine wl_val he66 rfl rfl (.slice (some ⟨b1_63, 0, none⟩) (on + 1) (cap1_63)) (rn_move _ (Or.inl rfl) _ (he66.tmp 3 _ rfl)) (fun a67 he67 => ?_)
      clear he66
      refine wl_val he67 rfl rfl (.slice (some ⟨b1_63, 0, none⟩) (on + 1) (cap1_63)) (rn_move _ (Or.inr rfl) _ (he67.tmp 72 _ rfl)) (fun a68 he68 => ?_)
      clear he67
      refine wl_end ?_
      refine wp_ret ?_
      refine ret_then ?_
      refine ret_in ?_
      refine ret_then ?_
      refine ret_then ?_
      refine ret_in ?_
      refine ret_then ?_
      have htm : tidM f n = (o) ++ ([f i]) := tid_last htd (by omega) hb1 hb2
      have hN : on + 1 = (tidM f n).length := by rw [htm]; simp [hon]
      have hL : cellsOf Ru.arr ((o) ++ ([f i])) = cellsOf Ru.arr (tidM f n) := by rw [htm]
      exact bodyPost_ret (results_tmp he68 _ Try.results20 _ rfl) he68.defers ⟨(cap1_63, cur1_63), _, congrArg (fun k => Ending.returned (.slice (some ⟨b1_63, 0, none⟩) k (cap1_63))) hN, hm19.bx 1 _ _ _ _ rfl, rw1_63.cast hN hL, by have := hm19.own 1 _ rfl rfl; simpa using this, hm19.below⟩
     ·
      obtain ⟨y2, hb2⟩ := Option.isSome_iff_exists.1 hd4
      refine wl_val he65 rfl rfl (.bool false) (rn_un _ _ _ rfl _ (.bool (!(brR (f i) S false).isSome)) _ (he65.tmp 70 _ rfl) rfl (congrArg (fun q => Value.bool (!q)) hd4)) (fun a66 he66 => ?_)
      clear he65
      refine wl_end ?_
      refine wp_condF (he := he66) rfl ?_
      refine wp_skip ?_
      refine then_normal ?_
      refine wp_region_lit ?_
      refine wl_val he66 rfl rfl (.slice (some ⟨pb, 0, none⟩) (i0) (pc)) (rn_move _ (Or.inl rfl) _ (he66.tmp 4 _ rfl)) (fun a67 he67 => ?_)
      clear he66
      refine wl_val he67 rfl rfl (.int .i64 ((((f i).at_.toNat : Nat) : Int))) (rn_move _ (Or.inl rfl) _ (he67.tmp 7 _ rfl)) (fun a68 he68 => ?_)
      clear he67
      refine wl_val he68 rfl rfl (.agg (optA (brR (f i) S false))) (rn_loadA hm19 4 rfl _ _ rfl (0) (he68.tmp 10 _ rfl) 4 agg54 (optA (brR (f i) S false)) (optA_ext _) (optA.sz _)) (fun a69 he69 => ?_)
      clear he68
      refine wl_val he69 rfl rfl (.pointer (some ⟨pb, 0 + (f i).at_.toNat * 4, none⟩)) (rn_indexA _ _ _ rfl _ _ (.pointer (some ⟨pb, 0 + (f i).at_.toNat * 4, none⟩)) (he69.tmp 73 _ rfl) (he69.tmp 74 _ rfl) (ixS 54 4 (by kernel_rfl) (fun w => by kernel_rfl) (pb) (0) (i0) (pc) ((f i).at_.toNat) (by omega) _)) (fun a70 he70 => ?_)
      clear he69
      obtain ⟨q1, hq1⟩ : ∃ q1 : Array Value, q1 = ovw (cur) (0 + (f i).at_.toNat * 4) (optA (brR (f i) S false)).toList := ⟨_, rfl⟩
      have rq1 : Rw q1 12 pc 4 (cellsOf ivArr ((S).set ((f i).at_.toNat) (y2))) := by rw [hq1, hb2]; exact hrw.set ivArr.sz (by rw [hS.len]; omega) _ _ (by omega)
      have fq1 := hrw.fit'
      refine wl_store he70 hm19 2 rfl rfl rfl _ _ _ rfl (0 + (f i).at_.toNat * 4) (he70.tmp 76 _ rfl) _ (he70.tmp 75 _ rfl) 4 agg54.size (optA.sz _) (optA.one _) (by omega) (q1) hq1.symm (fun w20 hm20 => ?_)
      clear hm19
      refine wpList_nil ?_
      refine in_normal ?_
      refine then_normal ?_
      refine wp_region_lit ?_
      refine wl_val he70 rfl rfl (.int .i64 (((i : Nat) : Int))) (rn_move _ (Or.inl rfl) _ (he70.tmp 6 _ rfl)) (fun a71 he71 => ?_)
      clear he70
      refine wl_val he71 rfl rfl (.int .i64 (((i + 1 : Nat) : Int))) (rn_bin _ _ _ _ _ rfl .i64 _ _ (he71.tmp 30 _ rfl) rfl (.int .i64 (IntKind.wrap .i64 (((i : Nat) : Int) + 1))) _ rfl (addN (i := i) (c := 1) (by omega))) (fun a72 he72 => ?_)
      clear he71
      refine wl_val he72 rfl rfl (.int .i64 (((i + 1 : Nat) : Int))) (rn_move _ (Or.inr rfl) _ (he72.tmp 31 _ rfl)) (fun a73 he73 => ?_)
      clear he72
      refine wpList_nil ?_
      exact ⟨n - (i + 1), by omega, i + 1, S.set (f i).at_.toNat y2, q1, (o) ++ ([f i]), on + 1, b1_63, cap1_63, cur1_63, rfl, ⟨by omega, (hS.set hb2), rq1, tid_keep htd (by omega) hb1 hb2, by simp [hon], by omega, rw1_63⟩, he73.sub _ ⟨rfl, rfl, rfl, rfl, rfl, rfl, rfl, rfl, rfl, rfl, rfl, rfl, trivial⟩, hm20.sub _ ⟨rfl, rfl, trivial⟩⟩
  ·
   have hd1p := of_decide_eq_true hd1
   refine wl_val he11 rfl rfl (.bool true) (rn_bin _ _ _ _ _ rfl .i64 _ _ (he11.tmp 18 _ rfl) rfl (.bool (decide (((i0 : Nat) : Int) < 12))) _ rfl (congrArg Value.bool (hd1))) (fun a12 he12 => ?_)
   clear he11
   refine wl_end ?_
   refine wp_condT (he := he12) rfl ?_
   refine wp_skip ?_
   refine then_normal ?_
   refine wp_seq ?_
   refine wp_block ?_
   refine wp_region_lit ?_
   refine wl_val he12 rfl rfl (.slice (some ⟨pb, 0, none⟩) (i0) (pc)) (rn_move _ (Or.inl rfl) _ (he12.tmp 4 _ rfl)) (fun a13 he13 => ?_)
   clear he12
   refine wl_call he13 hm4 rfl rfl _ #[.int .i64 (0), .int .i64 (255)] (enter_call _ _ _ rfl 33 #[] #[] rfl #[.int .i64 (0), .int .i64 (255)] (map2 rfl rfl) #[.int .i64 (0), .int .i64 (255)] rfl (fun _ _ => by kernel_rfl)) (.agg (ivArr (full))) (c_ends255 _) (fun a14 w5 he14 hm5 => ?_)
   clear he13 hm4
   refine wl_buildSlice he14 hm5 3 rfl rfl rfl _ _ _ rfl #[(0, .agg (ivArr (full)))] (pmap1 (he14.tmp 23 _ rfl)) 54 ((cellsOf ivArr [full]).toArray) (by kernel_rfl) (fun a15 w6 b3 he15 hm6 => ?_)
   clear he14 hm5
   have rw3_0 : Rw ((cellsOf ivArr [full]).toArray) 1 1 4 (cellsOf ivArr ([full])) := Rw.lits ivArr.sz [full] (by simp [maxLen])
   refine wl_append (k := i0) (cap := pc) he15 hm6 2 rfl rfl rfl _ _ _ rfl el54 (he15.tmp 22 _ rfl) hrw ⟨b3, 0, none⟩ 1 1 (he15.tmp 24 _ rfl) (cellsOf ivArr ([full])) (rw3_0.len) (fun j u hu => by rw [Addr.add_mid, Nat.zero_add, (hm6.bx 3 _ _ _ _ rfl).cell]; exact rw3_0.get j u hu) (cellsOf_one ivArr.one _) (by simp only [maxLen]; omega) (by omega) (fun a16 w7 b2_16 cap2_16 cur2_16 he16 hm7 rw2_16 => ?_)
   clear he15 hm6
   replace rw2_16 := rw2_16.app
   refine wl_val he16 rfl rfl (.slice (some ⟨b2_16, 0, none⟩) (i0 + 1) (cap2_16)) (rn_move _ (Or.inr rfl) _ (he16.tmp 25 _ rfl)) (fun a17 he17 => ?_)
   clear he16
   refine wpList_nil ?_
   refine in_normal ?_
   refine then_normal ?_
   refine wp_region_lit ?_
   refine wl_val he17 rfl rfl (.int .i64 (((i0 : Nat) : Int))) (rn_move _ (Or.inl rfl) _ (he17.tmp 5 _ rfl)) (fun a18 he18 => ?_)
   clear he17
   refine wl_val he18 rfl rfl (.int .i64 (((i0 + 1 : Nat) : Int))) (rn_bin _ _ _ _ _ rfl .i64 _ _ (he18.tmp 20 _ rfl) rfl (.int .i64 (IntKind.wrap .i64 (((i0 : Nat) : Int) + 1))) _ rfl (addN (i := i0) (c := 1) (by omega))) (fun a19 he19 => ?_)
   clear he18
   refine wl_val he19 rfl rfl (.int .i64 (((i0 + 1 : Nat) : Int))) (rn_move _ (Or.inr rfl) _ (he19.tmp 21 _ rfl)) (fun a20 he20 => ?_)
   clear he19
   refine wpList_nil ?_
   exact ⟨12 - (i0 + 1), by omega, i0 + 1, b2_16, cap2_16, cur2_16, rfl, ⟨by omega, by have := rw2_16; rw [show List.replicate i0 full ++ [full] = List.replicate (i0 + 1) full from List.replicate_succ'.symm] at this; exact this⟩, he20.sub _ ⟨rfl, rfl, rfl, rfl, rfl, rfl, rfl, rfl, rfl, rfl, trivial⟩, hm7.sub _ ⟨rfl, rfl, trivial⟩⟩
end Go.Proofs.Ytcopcajleonndaa
