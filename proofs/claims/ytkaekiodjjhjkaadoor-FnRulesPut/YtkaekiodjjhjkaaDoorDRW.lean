/- The draw of rules. -/
import Derived.Test.YtkaekiodjjhjkaaDoorDR1
import Derived.Test.YtkaekiodjjhjkaaDoorRLW
namespace Go.Proofs.YtkaekiodjjhjkaaDoor
open Go.RowKit
set_option linter.unusedVariables false
set_option linter.unusedSimpArgs false
theorem RuSz (r : Ru) : r.arr.size = 5 := rfl
structure RuX where
  L : List Ru
  cap : Nat
  cur : Array Value
  q : Nat
set_option maxRecDepth 100000 in
set_option maxHeartbeats 4000000 in
theorem d_rules {w0 : World} {B : Nat} {a : Option Addr} {len cap p : Nat} (w : World) (h : RS w0 w B a len cap p) (hp : p ≤ 100000) :
    Calls Tryd.prog 14 #[.pointer (some ⟨B, 0, none⟩)] w fun e w' => DrawsN w B (fun (x : RuX) b => .slice (some ⟨b, 0, none⟩) x.L.length x.cap) 36 (fun x => x.cur) 52 (fun x => rdA a len cap x.q) (fun x => Rw x.cur x.L.length x.cap 5 (cellsOf Ru.arr x.L) ∧ x.L.length ≤ 6 ∧ x.q ≤ p + 40) e w' := by
  refine calls_begin Tryd.func14 rfl 84 rfl (Nat.le_of_ble_eq_true rfl) [(0, .pointer (some ⟨B, 0, none⟩))] ⟨rfl, trivial⟩ (fun a0 he0 hm0 => ?_)
  have hm1 := MM.start1 (w := w) 1 h.bx
  clear hm0
  refine wp_seqR ?_
  refine wl_val he0 rfl rfl (.slice none 0 0) (rn_move _ (Or.inr rfl) _ rfl) (fun a1 he1 => ?_)
  clear he0
  refine wl_end ?_
  refine wp_seqR ?_
  refine wl_buildSlice he1 hm1 2 rfl rfl rfl _ _ _ rfl #[] (pmap0 _) 36 ((cellsOf Ru.arr []).toArray) (by kernel_rfl) (fun a2 w2 b2 he2 hm2 => ?_)
  clear he1 hm1
  have rw2_0 : Rw ((cellsOf Ru.arr []).toArray) 0 0 5 (cellsOf Ru.arr ([])) := Rw.lits RuSz [] (by simp [maxLen])
  refine wl_val he2 rfl rfl (.slice (some ⟨b2, 0, none⟩) (0) (0)) (rn_move _ (Or.inr rfl) _ (he2.tmp 7 _ rfl)) (fun a3 he3 => ?_)
  clear he2
  refine wl_end ?_
  refine wp_seq ?_
  refine wp_seqR ?_
  refine wl_val he3 rfl rfl (.pointer (some ⟨B, 0, none⟩)) (rn_move _ (Or.inl rfl) _ (he3.tmp 0 _ rfl)) (fun a4 he4 => ?_)
  clear he3
  refine wl_buildSlice he4 hm2 3 rfl rfl rfl _ _ _ rfl #[(0, .int .i64 (0)), (1, .int .i64 (1)), (2, .int .i64 (2)), (3, .int .i64 (3)), (4, .int .i64 (4)), (5, .int .i64 (6))] (by kernel_rfl) 3 (#[.int .i64 (0), .int .i64 (1), .int .i64 (2), .int .i64 (3), .int .i64 (4), .int .i64 (6)]) (by kernel_rfl) (fun a5 w3 b3 he5 hm3 => ?_)
  clear he4 hm2
  refine wl_callD he5 hm3 1 rfl rfl rfl _ #[.pointer (some ⟨B, 0, none⟩), .slice (some ⟨b3, 0, none⟩) (6) (6)] (enter_call _ _ _ rfl 27 #[] #[] rfl #[.pointer (some ⟨B, 0, none⟩), .slice (some ⟨b3, 0, none⟩) (6) (6)] (map2 (he5.tmp 8 _ rfl) (he5.tmp 9 _ rfl)) #[.pointer (some ⟨B, 0, none⟩), .slice (some ⟨b3, 0, none⟩) (6) (6)] rfl (fun _ _ => by kernel_rfl)) (d_one (h.kb hm3.keep (hm3.bx 1 _ _ _ _ rfl)) (by omega) b3 [0, 1, 2, 3, 4, 6] _ (hm3.bx 3 _ _ _ _ rfl) rfl (hm3.apart 3 1 _ _ rfl rfl (by decide) rfl) (by decide) (by decide) _ rfl) (fun d1 a6 w4 hd1 he6 hm4 => ?_)
  clear he5 hm3
  have hd1b : 0 ≤ d1 ∧ d1 ≤ 4294967295 := by simp at hd1; omega
  obtain ⟨d1n, rfl⟩ := Int.eq_ofNat_of_zero_le hd1b.1
  have hd1c : d1n ≤ 6 := by simp at hd1; omega
  refine wl_val he6 rfl rfl (.int .i64 (((d1n : Nat) : Int))) (rn_move _ (Or.inr rfl) _ (he6.tmp 10 _ rfl)) (fun a7 he7 => ?_)
  clear he6
  refine wl_end ?_
  refine wp_block ?_
  refine wp_loopN (fun mz az wz => ∃ (k : Nat), ∃ (o : List Ru), ∃ (on : Nat), ∃ (ob : Nat), ∃ (oc : Nat), ∃ (oa : Array Value), ∃ (q : Nat), mz = 1 * k ∧ (on = (o).length ∧ on + k ≤ 6 ∧ Rw (oa) (on) (oc) 5 (cellsOf Ru.arr (o)) ∧ q + 5 * k ≤ p + 31) ∧ EV az 84 [] [(0, .pointer (some ⟨B, 0, none⟩)), (2, .slice none 0 0), (7, .slice (some ⟨b2, 0, none⟩) (0) (0)), (8, .pointer (some ⟨B, 0, none⟩)), (9, .slice (some ⟨b3, 0, none⟩) (6) (6)), (10, .int .i64 (((d1n : Nat) : Int))), (4, .int .i64 (((k : Nat) : Int))), (3, .slice (some ⟨ob, 0, none⟩) (on) (oc))] ∧ MM [B] w wz [(1, ⟨true, B, 52, rdA a len cap (q)⟩), (2, ⟨true, ob, 36, oa⟩), (3, ⟨true, b3, 3, #[.int .i64 (0), .int .i64 (1), .int .i64 (2), .int .i64 (3), .int .i64 (4), .int .i64 (6)]⟩)]) ⟨_, d1n, [], 0, b2, 0, (cellsOf Ru.arr []).toArray, p + 1, rfl, ⟨rfl, by omega, rw2_0, by omega⟩, he7.sub _ ⟨rfl, rfl, rfl, rfl, rfl, rfl, rfl, rfl, trivial⟩, hm4.sub _ ⟨rfl, rfl, rfl, trivial⟩⟩ ?_
  rintro mz1 a8 w5 ⟨k, o, on, ob, oc, oa, q, rfl, hrel1, he8, hm5⟩
  clear he7 hm4
  obtain ⟨hon, hon6, horw, hq⟩ := hrel1
  refine wp_seq ?_
  refine wp_seqR ?_
  refine wl_val he8 rfl rfl (.int .i64 (((k : Nat) : Int))) (rn_move _ (Or.inl rfl) _ (he8.tmp 4 _ rfl)) (fun a9 he9 => ?_)
  clear he8
  cases hd1 : (decide (((k : Nat) : Int) > 0))
  ·
   have hd1p := of_decide_eq_false hd1
   refine wl_val he9 rfl rfl (.bool false) (rn_bin _ _ _ _ _ rfl .i64 _ _ (he9.tmp 11 _ rfl) rfl (.bool (decide (((k : Nat) : Int) > 0))) _ rfl (congrArg Value.bool (hd1))) (fun a10 he10 => ?_)
   clear he9
   refine wl_end ?_
   refine wp_condF (he := he10) rfl ?_
   refine wp_exit ?_
   refine exit_then ?_
   refine exit_then ?_
   refine exit_here ?_
   refine then_normal ?_
   refine wp_seq ?_
   refine wp_seqR ?_
   refine wl_val he10 rfl rfl (.slice (some ⟨ob, 0, none⟩) (on) (oc)) (rn_move _ (Or.inl rfl) _ (he10.tmp 3 _ rfl)) (fun a11 he11 => ?_)
   clear he10
   refine wl_val he11 rfl rfl (.int .i64 (((on : Nat) : Int))) (rn_builtin _ _ _ rfl #[.slice (some ⟨ob, 0, none⟩) (on) (oc)] (map1 (he11.tmp 38 _ rfl)) (.int .i64 (((on : Nat) : Int))) (by kernel_rfl)) (fun a12 he12 => ?_)
   clear he11
   cases hd2 : (decide (((on : Nat) : Int) > 0))
   ·
    have hd2p := of_decide_eq_false hd2
    refine wl_val he12 rfl rfl (.bool false) (rn_bin _ _ _ _ _ rfl .i64 _ _ (he12.tmp 39 _ rfl) rfl (.bool (decide (((on : Nat) : Int) > 0))) _ rfl (congrArg Value.bool (hd2))) (fun a13 he13 => ?_)
    clear he12
    refine wl_val he13 rfl rfl (.bool false) (rn_move _ (Or.inl rfl) _ (he13.tmp 40 _ rfl)) (fun a14 he14 => ?_)
    clear he13
    refine wl_not he14 rfl (wanted_slot he14 3 true rfl 41 rfl false rfl false rfl) (fun a15 he15 => ?_)
    clear he14
    refine wl_not he15 rfl (wanted_slot he15 3 true rfl 41 rfl false rfl false rfl) (fun a16 he16 => ?_)
    clear he15
    refine wl_not he16 rfl (wanted_slot he16 3 true rfl 41 rfl false rfl false rfl) (fun a17 he17 => ?_)
    clear he16
    refine wl_val he17 rfl rfl (.bool false) (rn_pickF _ _ _ rfl (he17.tmp 41 _ rfl) _ rfl) (fun a18 he18 => ?_)
    clear he17
    refine wl_end ?_
    refine wp_condF (he := he18) rfl ?_
    refine wp_skip ?_
    refine then_normal ?_
    refine wp_seqR ?_
    refine wl_val he18 rfl rfl (.slice (some ⟨ob, 0, none⟩) (on) (oc)) (rn_move _ (Or.inl rfl) _ (he18.tmp 3 _ rfl)) (fun a19 he19 => ?_)
    clear he18
    refine wl_val he19 rfl rfl (.slice (some ⟨ob, 0, none⟩) (on) (oc)) (rn_move _ (Or.inr rfl) _ (he19.tmp 83 _ rfl)) (fun a20 he20 => ?_)
    clear he19
    refine wl_end ?_
    refine wp_ret ?_
    have hN : on = (o).length := by simp [hon]
    exact bodyPost_ret (results_tmp he20 _ Tryd.results14 _ rfl) he20.defers ⟨⟨o, oc, oa, q⟩, _, congrArg (fun k => Ending.returned (.slice (some ⟨ob, 0, none⟩) k (oc))) hN, ⟨horw.cast hN rfl, by show (o).length ≤ 6; omega, by show q ≤ p + 40; omega⟩, hm5.bx 2 _ _ _ _ rfl, by have h1 := hm5.own 2 _ rfl rfl; have h2 := hm5.apart 2 1 _ _ rfl rfl (by decide) rfl; exact h1.resolve_right (fun hb => h2 (by simpa using hb)), hm5.keep, hm5.bx 1 _ _ _ _ rfl⟩
   ·
    have hd2p := of_decide_eq_true hd2
    refine wl_val he12 rfl rfl (.bool true) (rn_bin _ _ _ _ _ rfl .i64 _ _ (he12.tmp 39 _ rfl) rfl (.bool (decide (((on : Nat) : Int) > 0))) _ rfl (congrArg Value.bool (hd2))) (fun a13 he13 => ?_)
    clear he12
    refine wl_val he13 rfl rfl (.bool true) (rn_move _ (Or.inl rfl) _ (he13.tmp 40 _ rfl)) (fun a14 he14 => ?_)
    clear he13
    refine wl_val he14 rfl (wanted_slot he14 3 true rfl 41 rfl true rfl true rfl) (.pointer (some ⟨B, 0, none⟩)) (rn_move _ (Or.inl rfl) _ (he14.tmp 0 _ rfl)) (fun a15 he15 => ?_)
    clear he14
    refine wl_callD he15 hm5 1 rfl rfl (wanted_slot he15 3 true rfl 41 rfl true rfl true rfl) _ #[.pointer (some ⟨B, 0, none⟩), .int .i64 (12)] (enter_call _ _ _ rfl 23 #[] #[] rfl #[.pointer (some ⟨B, 0, none⟩), .int .i64 (12)] (map2 (he15.tmp 42 _ rfl) rfl) #[.pointer (some ⟨B, 0, none⟩), .int .i64 (12)] rfl (fun _ _ => by kernel_rfl)) (d_pick (h.kb hm5.keep (hm5.bx 1 _ _ _ _ rfl)) (by omega) 12 (by omega) (by omega)) (fun d2 a16 w6 hd2 he16 hm6 => ?_)
    clear he15 hm5
    cases hd3 : ((((d2 : Nat) : Int) == 0))
    ·
     have hd3p : ((d2 : Nat) : Int) ≠ 0 := by simpa using hd3
     refine wl_val he16 rfl (wanted_slot he16 3 true rfl 41 rfl true rfl true rfl) (.bool false) (rn_bin _ _ _ _ _ rfl .i64 _ _ (he16.tmp 43 _ rfl) rfl (.bool ((((d2 : Nat) : Int) == 0))) _ rfl (congrArg Value.bool (hd3))) (fun a17 he17 => ?_)
     clear he16
     refine wl_val he17 rfl rfl (.bool false) (rn_pickT _ _ _ rfl (he17.tmp 41 _ rfl) _ (he17.tmp 44 _ rfl)) (fun a18 he18 => ?_)
     clear he17
     refine wl_end ?_
     refine wp_condF (he := he18) rfl ?_
     refine wp_skip ?_
     refine then_normal ?_
     refine wp_seqR ?_
     refine wl_val he18 rfl rfl (.slice (some ⟨ob, 0, none⟩) (on) (oc)) (rn_move _ (Or.inl rfl) _ (he18.tmp 3 _ rfl)) (fun a19 he19 => ?_)
     clear he18
     refine wl_val he19 rfl rfl (.slice (some ⟨ob, 0, none⟩) (on) (oc)) (rn_move _ (Or.inr rfl) _ (he19.tmp 83 _ rfl)) (fun a20 he20 => ?_)
     clear he19
     refine wl_end ?_
     refine wp_ret ?_
     have hN : on = (o).length := by simp [hon]
     exact bodyPost_ret (results_tmp he20 _ Tryd.results14 _ rfl) he20.defers ⟨⟨o, oc, oa, q + 1⟩, _, congrArg (fun k => Ending.returned (.slice (some ⟨ob, 0, none⟩) k (oc))) hN, ⟨horw.cast hN rfl, by show (o).length ≤ 6; omega, by show q + 1 ≤ p + 40; omega⟩, hm6.bx 2 _ _ _ _ rfl, by have h1 := hm6.own 2 _ rfl rfl; have h2 := hm6.apart 2 1 _ _ rfl rfl (by decide) rfl; exact h1.resolve_right (fun hb => h2 (by simpa using hb)), hm6.keep, hm6.bx 1 _ _ _ _ rfl⟩
    ·
     have hd3p : ((d2 : Nat) : Int) = 0 := by simpa using hd3
     refine wl_val he16 rfl (wanted_slot he16 3 true rfl 41 rfl true rfl true rfl) (.bool true) (rn_bin _ _ _ _ _ rfl .i64 _ _ (he16.tmp 43 _ rfl) rfl (.bool ((((d2 : Nat) : Int) == 0))) _ rfl (congrArg Value.bool (hd3))) (fun a17 he17 => ?_)
     clear he16
     refine wl_val he17 rfl rfl (.bool true) (rn_pickT _ _ _ rfl (he17.tmp 41 _ rfl) _ (he17.tmp 44 _ rfl)) (fun a18 he18 => ?_)
     clear he17
     refine wl_end ?_
     refine wp_condT (he := he18) rfl ?_
     refine wp_seqR ?_
     refine wl_val he18 rfl rfl (.pointer (some ⟨B, 0, none⟩)) (rn_move _ (Or.inl rfl) _ (he18.tmp 0 _ rfl)) (fun a19 he19 => ?_)
     clear he18
     refine wl_val he19 rfl rfl (.slice (some ⟨ob, 0, none⟩) (on) (oc)) (rn_move _ (Or.inl rfl) _ (he19.tmp 3 _ rfl)) (fun a20 he20 => ?_)
     clear he19
     refine wl_val he20 rfl rfl (.int .i64 (((on : Nat) : Int))) (rn_builtin _ _ _ rfl #[.slice (some ⟨ob, 0, none⟩) (on) (oc)] (map1 (he20.tmp 47 _ rfl)) (.int .i64 (((on : Nat) : Int))) (by kernel_rfl)) (fun a21 he21 => ?_)
     clear he20
     refine wl_callD he21 hm6 1 rfl rfl rfl _ #[.pointer (some ⟨B, 0, none⟩), .int .i64 (((on : Nat) : Int))] (enter_call _ _ _ rfl 23 #[] #[] rfl #[.pointer (some ⟨B, 0, none⟩), .int .i64 (((on : Nat) : Int))] (map2 (he21.tmp 46 _ rfl) (he21.tmp 48 _ rfl)) #[.pointer (some ⟨B, 0, none⟩), .int .i64 (((on : Nat) : Int))] rfl (fun _ _ => by kernel_rfl)) (d_pick (h.kb hm6.keep (hm6.bx 1 _ _ _ _ rfl)) (by omega) on (by omega) (by omega)) (fun d3 a22 w7 hd3 he22 hm7 => ?_)
     clear he21 hm6
     refine wl_val he22 rfl rfl (.int .i64 (((d3 : Nat) : Int))) (rn_move _ (Or.inr rfl) _ (he22.tmp 49 _ rfl)) (fun a23 he23 => ?_)
     clear he22
     refine wl_end ?_
     refine wp_seqR ?_
     refine wl_val he23 rfl rfl (.pointer (some ⟨B, 0, none⟩)) (rn_move _ (Or.inl rfl) _ (he23.tmp 0 _ rfl)) (fun a24 he24 => ?_)
     clear he23
     refine wl_callD he24 hm7 1 rfl rfl rfl _ #[.pointer (some ⟨B, 0, none⟩), .int .i64 (4)] (enter_call _ _ _ rfl 23 #[] #[] rfl #[.pointer (some ⟨B, 0, none⟩), .int .i64 (4)] (map2 (he24.tmp 50 _ rfl) rfl) #[.pointer (some ⟨B, 0, none⟩), .int .i64 (4)] rfl (fun _ _ => by kernel_rfl)) (d_pick (h.kb hm7.keep (hm7.bx 1 _ _ _ _ rfl)) (by omega) 4 (by omega) (by omega)) (fun d4 a25 w8 hd4 he25 hm8 => ?_)
     clear he24 hm7
     refine wl_end ?_
     refine wp_block ?_
     refine wp_seqR ?_
     cases hd4 : ((((d4 : Nat) : Int) == 0))
     ·
      have hd4p : ((d4 : Nat) : Int) ≠ 0 := by simpa using hd4
      refine wl_val he25 rfl rfl (.bool false) (rn_bin _ _ _ _ _ rfl .i64 _ _ (he25.tmp 51 _ rfl) rfl (.bool ((((d4 : Nat) : Int) == 0))) _ rfl (congrArg Value.bool (hd4))) (fun a26 he26 => ?_)
      clear he25
      refine wl_val he26 rfl rfl (.bool false) (rn_move _ (Or.inr rfl) _ (he26.tmp 57 _ rfl)) (fun a27 he27 => ?_)
      clear he26
      refine wl_end ?_
      refine wp_condF (he := he27) rfl ?_
      refine wp_seqR ?_
      cases hd5 : ((((d4 : Nat) : Int) == 1))
      ·
       have hd5p : ((d4 : Nat) : Int) ≠ 1 := by simpa using hd5
       refine wl_val he27 rfl rfl (.bool false) (rn_bin _ _ _ _ _ rfl .i64 _ _ (he27.tmp 51 _ rfl) rfl (.bool ((((d4 : Nat) : Int) == 1))) _ rfl (congrArg Value.bool (hd5))) (fun a28 he28 => ?_)
       clear he27
       refine wl_val he28 rfl rfl (.bool false) (rn_move _ (Or.inr rfl) _ (he28.tmp 66 _ rfl)) (fun a29 he29 => ?_)
       clear he28
       refine wl_end ?_
       refine wp_condF (he := he29) rfl ?_
       refine wp_seqR ?_
       cases hd6 : ((((d4 : Nat) : Int) == 2))
       ·
        have hd6p : ((d4 : Nat) : Int) ≠ 2 := by simpa using hd6
        refine wl_val he29 rfl rfl (.bool false) (rn_bin _ _ _ _ _ rfl .i64 _ _ (he29.tmp 51 _ rfl) rfl (.bool ((((d4 : Nat) : Int) == 2))) _ rfl (congrArg Value.bool (hd6))) (fun a30 he30 => ?_)
        clear he29
        refine wl_val he30 rfl rfl (.bool false) (rn_move _ (Or.inr rfl) _ (he30.tmp 75 _ rfl)) (fun a31 he31 => ?_)
        clear he30
        refine wl_end ?_
        refine wp_condF (he := he31) rfl ?_
        refine wp_region_lit ?_
        refine wl_val he31 rfl rfl (.slice (some ⟨ob, 0, none⟩) (on) (oc)) (rn_move _ (Or.inl rfl) _ (he31.tmp 3 _ rfl)) (fun a32 he32 => ?_)
        clear he31
        refine wl_val he32 rfl rfl (.int .i64 (((d3 : Nat) : Int))) (rn_move _ (Or.inl rfl) _ (he32.tmp 6 _ rfl)) (fun a33 he33 => ?_)
        clear he32
        refine wl_val he33 rfl rfl (.pointer (some ⟨ob, 0 + d3 * 5, none⟩)) (rn_indexA _ _ _ rfl _ _ (.pointer (some ⟨ob, 0 + d3 * 5, none⟩)) (he33.tmp 52 _ rfl) (he33.tmp 53 _ rfl) (ixS 36 5 (by kernel_rfl) (fun w => by kernel_rfl) (ob) (0) (on) (oc) (d3) (by omega) _)) (fun a34 he34 => ?_)
        clear he33
        refine wl_val he34 rfl rfl (.pointer (some ⟨ob, 0 + d3 * 5 + 4, none⟩)) (rn_field _ _ _ rfl _ (.pointer (some ⟨ob, 0 + d3 * 5 + 4, none⟩)) (he34.tmp 54 _ rfl) (by kernel_rfl)) (fun a35 he35 => ?_)
        clear he34
        have hkq1 : d3 < (o).length := by omega
        obtain ⟨q1, hq1⟩ : ∃ q1 : Array Value, q1 = ovw (oa) (0 + d3 * 5 + 4) [.int .i64 (5)] := ⟨_, rfl⟩
        obtain ⟨yq1, hyq1⟩ : ∃ yq1 : Ru, yq1 = { (o)[d3]'hkq1 with key := 5 } := ⟨_, rfl⟩
        have rq1 : Rw q1 on oc 5 (cellsOf Ru.arr ((o).set (d3) yq1)) := by rw [hq1]; exact horw.set1 RuSz (f := 4) (y := yq1) (v := .int .i64 (5)) (List.getElem?_eq_getElem hkq1) (by omega) (by rw [hyq1]; rfl) (0 + d3 * 5 + 4) (by omega)
        have fq1 := horw.fit'
        refine wl_store he35 hm8 2 rfl rfl rfl _ _ _ rfl (0 + d3 * 5 + 4) (he35.tmp 55 _ rfl) _ rfl 1 one3.size rfl (by kernel_rfl) (by omega) (q1) (by rw [hq1]; rfl) (fun w9 hm9 => ?_)
        clear hm8
        refine wpList_nil ?_
        refine in_normal ?_
        refine then_normal ?_
        refine wp_seqR ?_
        refine wl_val he35 rfl rfl (.slice (some ⟨ob, 0, none⟩) (on) (oc)) (rn_move _ (Or.inl rfl) _ (he35.tmp 3 _ rfl)) (fun a36 he36 => ?_)
        clear he35
        refine wl_val he36 rfl rfl (.slice (some ⟨ob, 0, none⟩) (on) (oc)) (rn_move _ (Or.inr rfl) _ (he36.tmp 83 _ rfl)) (fun a37 he37 => ?_)
        clear he36
        refine wl_end ?_
        refine wp_ret ?_
        have hN : on = ((o).set (d3) yq1).length := by simp [hon]
        exact bodyPost_ret (results_tmp he37 _ Tryd.results14 _ rfl) he37.defers ⟨⟨(o).set (d3) yq1, oc, q1, q + 1 + 1 + 1⟩, _, congrArg (fun k => Ending.returned (.slice (some ⟨ob, 0, none⟩) k (oc))) hN, ⟨rq1.cast hN rfl, by show ((o).set (d3) yq1).length ≤ 6; omega, by show q + 1 + 1 + 1 ≤ p + 40; omega⟩, hm9.bx 2 _ _ _ _ rfl, by have h1 := hm9.own 2 _ rfl rfl; have h2 := hm9.apart 2 1 _ _ rfl rfl (by decide) rfl; exact h1.resolve_right (fun hb => h2 (by simpa using hb)), hm9.keep, hm9.bx 1 _ _ _ _ rfl⟩
       ·
        have hd6p : ((d4 : Nat) : Int) = 2 := by simpa using hd6
        refine wl_val he29 rfl rfl (.bool true) (rn_bin _ _ _ _ _ rfl .i64 _ _ (he29.tmp 51 _ rfl) rfl (.bool ((((d4 : Nat) : Int) == 2))) _ rfl (congrArg Value.bool (hd6))) (fun a30 he30 => ?_)
        clear he29
        refine wl_val he30 rfl rfl (.bool true) (rn_move _ (Or.inr rfl) _ (he30.tmp 75 _ rfl)) (fun a31 he31 => ?_)
        clear he30
        refine wl_end ?_
        refine wp_condT (he := he31) rfl ?_
        refine wp_region_lit ?_
        refine wl_val he31 rfl rfl (.slice (some ⟨ob, 0, none⟩) (on) (oc)) (rn_move _ (Or.inl rfl) _ (he31.tmp 3 _ rfl)) (fun a32 he32 => ?_)
        clear he31
        refine wl_val he32 rfl rfl (.int .i64 (((d3 : Nat) : Int))) (rn_move _ (Or.inl rfl) _ (he32.tmp 6 _ rfl)) (fun a33 he33 => ?_)
        clear he32
        refine wl_val he33 rfl rfl (.pointer (some ⟨B, 0, none⟩)) (rn_move _ (Or.inl rfl) _ (he33.tmp 0 _ rfl)) (fun a34 he34 => ?_)
        clear he33
        refine wl_buildSlice he34 hm8 4 rfl rfl rfl _ _ _ rfl #[(0, .int .i64 (11)), (1, .int .i64 (16))] (pmap2 rfl rfl) 3 (#[.int .i64 (11), .int .i64 (16)]) (by kernel_rfl) (fun a35 w9 b4 he35 hm9 => ?_)
        clear he34 hm8
        refine wl_callD he35 hm9 1 rfl rfl rfl _ #[.pointer (some ⟨B, 0, none⟩), .slice (some ⟨b4, 0, none⟩) (2) (2)] (enter_call _ _ _ rfl 27 #[] #[] rfl #[.pointer (some ⟨B, 0, none⟩), .slice (some ⟨b4, 0, none⟩) (2) (2)] (map2 (he35.tmp 78 _ rfl) (he35.tmp 79 _ rfl)) #[.pointer (some ⟨B, 0, none⟩), .slice (some ⟨b4, 0, none⟩) (2) (2)] rfl (fun _ _ => by kernel_rfl)) (d_one (h.kb hm9.keep (hm9.bx 1 _ _ _ _ rfl)) (by omega) b4 [11, 16] _ (hm9.bx 4 _ _ _ _ rfl) rfl (hm9.apart 4 1 _ _ rfl rfl (by decide) rfl) (by decide) (by decide) _ rfl) (fun d5 a36 w10 hd5 he36 hm10 => ?_)
        clear he35 hm9
        have hd5b : 0 ≤ d5 ∧ d5 ≤ 4294967295 := by simp at hd5; omega
        obtain ⟨d5n, rfl⟩ := Int.eq_ofNat_of_zero_le hd5b.1
        have hd5c : d5n ≤ 16 := by simp at hd5; omega
        refine wl_val he36 rfl rfl (.pointer (some ⟨ob, 0 + d3 * 5, none⟩)) (rn_indexA _ _ _ rfl _ _ (.pointer (some ⟨ob, 0 + d3 * 5, none⟩)) (he36.tmp 76 _ rfl) (he36.tmp 77 _ rfl) (ixS 36 5 (by kernel_rfl) (fun w => by kernel_rfl) (ob) (0) (on) (oc) (d3) (by omega) _)) (fun a37 he37 => ?_)
        clear he36
        refine wl_val he37 rfl rfl (.pointer (some ⟨ob, 0 + d3 * 5 + 1, none⟩)) (rn_field _ _ _ rfl _ (.pointer (some ⟨ob, 0 + d3 * 5 + 1, none⟩)) (he37.tmp 81 _ rfl) (by kernel_rfl)) (fun a38 he38 => ?_)
        clear he37
        have hkq1 : d3 < (o).length := by omega
        obtain ⟨q1, hq1⟩ : ∃ q1 : Array Value, q1 = ovw (oa) (0 + d3 * 5 + 1) [.int .i64 (((d5n : Nat) : Int))] := ⟨_, rfl⟩
        obtain ⟨yq1, hyq1⟩ : ∃ yq1 : Ru, yq1 = { (o)[d3]'hkq1 with op := ((d5n : Nat) : Int) } := ⟨_, rfl⟩
        have rq1 : Rw q1 on oc 5 (cellsOf Ru.arr ((o).set (d3) yq1)) := by rw [hq1]; exact horw.set1 RuSz (f := 1) (y := yq1) (v := .int .i64 (((d5n : Nat) : Int))) (List.getElem?_eq_getElem hkq1) (by omega) (by rw [hyq1]; rfl) (0 + d3 * 5 + 1) (by omega)
        have fq1 := horw.fit'
        refine wl_store he38 hm10 2 rfl rfl rfl _ _ _ rfl (0 + d3 * 5 + 1) (he38.tmp 82 _ rfl) _ (he38.tmp 80 _ rfl) 1 one3.size rfl (by kernel_rfl) (by omega) (q1) (by rw [hq1]; rfl) (fun w11 hm11 => ?_)
        clear hm10
        refine wpList_nil ?_
        refine in_normal ?_
        refine then_normal ?_
        refine wp_seqR ?_
        refine wl_val he38 rfl rfl (.slice (some ⟨ob, 0, none⟩) (on) (oc)) (rn_move _ (Or.inl rfl) _ (he38.tmp 3 _ rfl)) (fun a39 he39 => ?_)
        clear he38
        refine wl_val he39 rfl rfl (.slice (some ⟨ob, 0, none⟩) (on) (oc)) (rn_move _ (Or.inr rfl) _ (he39.tmp 83 _ rfl)) (fun a40 he40 => ?_)
        clear he39
        refine wl_end ?_
        refine wp_ret ?_
        have hN : on = ((o).set (d3) yq1).length := by simp [hon]
        exact bodyPost_ret (results_tmp he40 _ Tryd.results14 _ rfl) he40.defers ⟨⟨(o).set (d3) yq1, oc, q1, q + 1 + 1 + 1 + 1⟩, _, congrArg (fun k => Ending.returned (.slice (some ⟨ob, 0, none⟩) k (oc))) hN, ⟨rq1.cast hN rfl, by show ((o).set (d3) yq1).length ≤ 6; omega, by show q + 1 + 1 + 1 + 1 ≤ p + 40; omega⟩, hm11.bx 2 _ _ _ _ rfl, by have h1 := hm11.own 2 _ rfl rfl; have h2 := hm11.apart 2 1 _ _ rfl rfl (by decide) rfl; exact h1.resolve_right (fun hb => h2 (by simpa using hb)), hm11.keep, hm11.bx 1 _ _ _ _ rfl⟩
      ·
       have hd5p : ((d4 : Nat) : Int) = 1 := by simpa using hd5
       refine wl_val he27 rfl rfl (.bool true) (rn_bin _ _ _ _ _ rfl .i64 _ _ (he27.tmp 51 _ rfl) rfl (.bool ((((d4 : Nat) : Int) == 1))) _ rfl (congrArg Value.bool (hd5))) (fun a28 he28 => ?_)
       clear he27
       refine wl_val he28 rfl rfl (.bool true) (rn_move _ (Or.inr rfl) _ (he28.tmp 66 _ rfl)) (fun a29 he29 => ?_)
       clear he28
       refine wl_end ?_
       refine wp_condT (he := he29) rfl ?_
       refine wp_region_lit ?_
       refine wl_val he29 rfl rfl (.slice (some ⟨ob, 0, none⟩) (on) (oc)) (rn_move _ (Or.inl rfl) _ (he29.tmp 3 _ rfl)) (fun a30 he30 => ?_)
       clear he29
       refine wl_val he30 rfl rfl (.int .i64 (((d3 : Nat) : Int))) (rn_move _ (Or.inl rfl) _ (he30.tmp 6 _ rfl)) (fun a31 he31 => ?_)
       clear he30
       refine wl_val he31 rfl rfl (.pointer (some ⟨B, 0, none⟩)) (rn_move _ (Or.inl rfl) _ (he31.tmp 0 _ rfl)) (fun a32 he32 => ?_)
       clear he31
       refine wl_buildSlice he32 hm8 4 rfl rfl rfl _ _ _ rfl #[(0, .int .i64 ((-1))), (1, .int .i64 (256))] (pmap2 rfl rfl) 3 (#[.int .i64 ((-1)), .int .i64 (256)]) (by kernel_rfl) (fun a33 w9 b4 he33 hm9 => ?_)
       clear he32 hm8
       refine wl_callD he33 hm9 1 rfl rfl rfl _ #[.pointer (some ⟨B, 0, none⟩), .slice (some ⟨b4, 0, none⟩) (2) (2)] (enter_call _ _ _ rfl 27 #[] #[] rfl #[.pointer (some ⟨B, 0, none⟩), .slice (some ⟨b4, 0, none⟩) (2) (2)] (map2 (he33.tmp 69 _ rfl) (he33.tmp 70 _ rfl)) #[.pointer (some ⟨B, 0, none⟩), .slice (some ⟨b4, 0, none⟩) (2) (2)] rfl (fun _ _ => by kernel_rfl)) (d_one (h.kb hm9.keep (hm9.bx 1 _ _ _ _ rfl)) (by omega) b4 [(-1), 256] _ (hm9.bx 4 _ _ _ _ rfl) rfl (hm9.apart 4 1 _ _ rfl rfl (by decide) rfl) (by decide) (by decide) _ rfl) (fun d5 a34 w10 hd5 he34 hm10 => ?_)
       clear he33 hm9
       have hd5b : -1 ≤ d5 ∧ d5 ≤ 4294967295 := by simp at hd5; omega
       refine wl_val he34 rfl rfl (.pointer (some ⟨ob, 0 + d3 * 5, none⟩)) (rn_indexA _ _ _ rfl _ _ (.pointer (some ⟨ob, 0 + d3 * 5, none⟩)) (he34.tmp 67 _ rfl) (he34.tmp 68 _ rfl) (ixS 36 5 (by kernel_rfl) (fun w => by kernel_rfl) (ob) (0) (on) (oc) (d3) (by omega) _)) (fun a35 he35 => ?_)
       clear he34
       refine wl_val he35 rfl rfl (.pointer (some ⟨ob, 0 + d3 * 5 + 2, none⟩)) (rn_field _ _ _ rfl _ (.pointer (some ⟨ob, 0 + d3 * 5 + 2, none⟩)) (he35.tmp 72 _ rfl) (by kernel_rfl)) (fun a36 he36 => ?_)
       clear he35
       have hkq1 : d3 < (o).length := by omega
       obtain ⟨q1, hq1⟩ : ∃ q1 : Array Value, q1 = ovw (oa) (0 + d3 * 5 + 2) [.int .i64 (d5)] := ⟨_, rfl⟩
       obtain ⟨yq1, hyq1⟩ : ∃ yq1 : Ru, yq1 = { (o)[d3]'hkq1 with num := d5 } := ⟨_, rfl⟩
       have rq1 : Rw q1 on oc 5 (cellsOf Ru.arr ((o).set (d3) yq1)) := by rw [hq1]; exact horw.set1 RuSz (f := 2) (y := yq1) (v := .int .i64 (d5)) (List.getElem?_eq_getElem hkq1) (by omega) (by rw [hyq1]; rfl) (0 + d3 * 5 + 2) (by omega)
       have fq1 := horw.fit'
       refine wl_store he36 hm10 2 rfl rfl rfl _ _ _ rfl (0 + d3 * 5 + 2) (he36.tmp 73 _ rfl) _ (he36.tmp 71 _ rfl) 1 one3.size rfl (by kernel_rfl) (by omega) (q1) (by rw [hq1]; rfl) (fun w11 hm11 => ?_)
       clear hm10
       refine wpList_nil ?_
       refine in_normal ?_
       refine then_normal ?_
       refine wp_seqR ?_
       refine wl_val he36 rfl rfl (.slice (some ⟨ob, 0, none⟩) (on) (oc)) (rn_move _ (Or.inl rfl) _ (he36.tmp 3 _ rfl)) (fun a37 he37 => ?_)
       clear he36
       refine wl_val he37 rfl rfl (.slice (some ⟨ob, 0, none⟩) (on) (oc)) (rn_move _ (Or.inr rfl) _ (he37.tmp 83 _ rfl)) (fun a38 he38 => ?_)
       clear he37
       refine wl_end ?_
       refine wp_ret ?_
       have hN : on = ((o).set (d3) yq1).length := by simp [hon]
       exact bodyPost_ret (results_tmp he38 _ Tryd.results14 _ rfl) he38.defers ⟨⟨(o).set (d3) yq1, oc, q1, q + 1 + 1 + 1 + 1⟩, _, congrArg (fun k => Ending.returned (.slice (some ⟨ob, 0, none⟩) k (oc))) hN, ⟨rq1.cast hN rfl, by show ((o).set (d3) yq1).length ≤ 6; omega, by show q + 1 + 1 + 1 + 1 ≤ p + 40; omega⟩, hm11.bx 2 _ _ _ _ rfl, by have h1 := hm11.own 2 _ rfl rfl; have h2 := hm11.apart 2 1 _ _ rfl rfl (by decide) rfl; exact h1.resolve_right (fun hb => h2 (by simpa using hb)), hm11.keep, hm11.bx 1 _ _ _ _ rfl⟩
     ·
      have hd4p : ((d4 : Nat) : Int) = 0 := by simpa using hd4
      refine wl_val he25 rfl rfl (.bool true) (rn_bin _ _ _ _ _ rfl .i64 _ _ (he25.tmp 51 _ rfl) rfl (.bool ((((d4 : Nat) : Int) == 0))) _ rfl (congrArg Value.bool (hd4))) (fun a26 he26 => ?_)
      clear he25
      refine wl_val he26 rfl rfl (.bool true) (rn_move _ (Or.inr rfl) _ (he26.tmp 57 _ rfl)) (fun a27 he27 => ?_)
      clear he26
      refine wl_end ?_
      refine wp_condT (he := he27) rfl ?_
      refine wp_region_lit ?_
      refine wl_val he27 rfl rfl (.slice (some ⟨ob, 0, none⟩) (on) (oc)) (rn_move _ (Or.inl rfl) _ (he27.tmp 3 _ rfl)) (fun a28 he28 => ?_)
      clear he27
      refine wl_val he28 rfl rfl (.int .i64 (((d3 : Nat) : Int))) (rn_move _ (Or.inl rfl) _ (he28.tmp 6 _ rfl)) (fun a29 he29 => ?_)
      clear he28
      refine wl_val he29 rfl rfl (.pointer (some ⟨B, 0, none⟩)) (rn_move _ (Or.inl rfl) _ (he29.tmp 0 _ rfl)) (fun a30 he30 => ?_)
      clear he29
      refine wl_buildSlice he30 hm8 4 rfl rfl rfl _ _ _ rfl #[(0, .int .i64 ((-1))), (1, .int .i64 (12))] (pmap2 rfl rfl) 3 (#[.int .i64 ((-1)), .int .i64 (12)]) (by kernel_rfl) (fun a31 w9 b4 he31 hm9 => ?_)
      clear he30 hm8
      refine wl_callD he31 hm9 1 rfl rfl rfl _ #[.pointer (some ⟨B, 0, none⟩), .slice (some ⟨b4, 0, none⟩) (2) (2)] (enter_call _ _ _ rfl 27 #[] #[] rfl #[.pointer (some ⟨B, 0, none⟩), .slice (some ⟨b4, 0, none⟩) (2) (2)] (map2 (he31.tmp 60 _ rfl) (he31.tmp 61 _ rfl)) #[.pointer (some ⟨B, 0, none⟩), .slice (some ⟨b4, 0, none⟩) (2) (2)] rfl (fun _ _ => by kernel_rfl)) (d_one (h.kb hm9.keep (hm9.bx 1 _ _ _ _ rfl)) (by omega) b4 [(-1), 12] _ (hm9.bx 4 _ _ _ _ rfl) rfl (hm9.apart 4 1 _ _ rfl rfl (by decide) rfl) (by decide) (by decide) _ rfl) (fun d5 a32 w10 hd5 he32 hm10 => ?_)
      clear he31 hm9
      have hd5b : -1 ≤ d5 ∧ d5 ≤ 4294967295 := by simp at hd5; omega
      refine wl_val he32 rfl rfl (.pointer (some ⟨ob, 0 + d3 * 5, none⟩)) (rn_indexA _ _ _ rfl _ _ (.pointer (some ⟨ob, 0 + d3 * 5, none⟩)) (he32.tmp 58 _ rfl) (he32.tmp 59 _ rfl) (ixS 36 5 (by kernel_rfl) (fun w => by kernel_rfl) (ob) (0) (on) (oc) (d3) (by omega) _)) (fun a33 he33 => ?_)
      clear he32
      refine wl_val he33 rfl rfl (.pointer (some ⟨ob, 0 + d3 * 5, none⟩)) (rn_field _ _ _ rfl _ (.pointer (some ⟨ob, 0 + d3 * 5, none⟩)) (he33.tmp 63 _ rfl) (by kernel_rfl)) (fun a34 he34 => ?_)
      clear he33
      have hkq1 : d3 < (o).length := by omega
      obtain ⟨q1, hq1⟩ : ∃ q1 : Array Value, q1 = ovw (oa) (0 + d3 * 5) [.int .i64 (d5)] := ⟨_, rfl⟩
      obtain ⟨yq1, hyq1⟩ : ∃ yq1 : Ru, yq1 = { (o)[d3]'hkq1 with at_ := d5 } := ⟨_, rfl⟩
      have rq1 : Rw q1 on oc 5 (cellsOf Ru.arr ((o).set (d3) yq1)) := by rw [hq1]; exact horw.set1 RuSz (f := 0) (y := yq1) (v := .int .i64 (d5)) (List.getElem?_eq_getElem hkq1) (by omega) (by rw [hyq1]; rfl) (0 + d3 * 5) (by omega)
      have fq1 := horw.fit'
      refine wl_store he34 hm10 2 rfl rfl rfl _ _ _ rfl (0 + d3 * 5) (he34.tmp 64 _ rfl) _ (he34.tmp 62 _ rfl) 1 one3.size rfl (by kernel_rfl) (by omega) (q1) (by rw [hq1]; rfl) (fun w11 hm11 => ?_)
      clear hm10
      refine wpList_nil ?_
      refine in_normal ?_
      refine then_normal ?_
      refine wp_seqR ?_
      refine wl_val he34 rfl rfl (.slice (some ⟨ob, 0, none⟩) (on) (oc)) (rn_move _ (Or.inl rfl) _ (he34.tmp 3 _ rfl)) (fun a35 he35 => ?_)
      clear he34
      refine wl_val he35 rfl rfl (.slice (some ⟨ob, 0, none⟩) (on) (oc)) (rn_move _ (Or.inr rfl) _ (he35.tmp 83 _ rfl)) (fun a36 he36 => ?_)
      clear he35
      refine wl_end ?_
      refine wp_ret ?_
      have hN : on = ((o).set (d3) yq1).length := by simp [hon]
      exact bodyPost_ret (results_tmp he36 _ Tryd.results14 _ rfl) he36.defers ⟨⟨(o).set (d3) yq1, oc, q1, q + 1 + 1 + 1 + 1⟩, _, congrArg (fun k => Ending.returned (.slice (some ⟨ob, 0, none⟩) k (oc))) hN, ⟨rq1.cast hN rfl, by show ((o).set (d3) yq1).length ≤ 6; omega, by show q + 1 + 1 + 1 + 1 ≤ p + 40; omega⟩, hm11.bx 2 _ _ _ _ rfl, by have h1 := hm11.own 2 _ rfl rfl; have h2 := hm11.apart 2 1 _ _ rfl rfl (by decide) rfl; exact h1.resolve_right (fun hb => h2 (by simpa using hb)), hm11.keep, hm11.bx 1 _ _ _ _ rfl⟩
  ·
   have hd1p := of_decide_eq_true hd1
   refine wl_val he9 rfl rfl (.bool true) (rn_bin _ _ _ _ _ rfl .i64 _ _ (he9.tmp 11 _ rfl) rfl (.bool (decide (((k : Nat) : Int) > 0))) _ rfl (congrArg Value.bool (hd1))) (fun a10 he10 => ?_)
   clear he9
   refine wl_end ?_
   refine wp_condT (he := he10) rfl ?_
   refine wp_skip ?_
   refine then_normal ?_
   refine wp_seq ?_
   refine wp_block ?_
   refine wp_seqR ?_
   refine wl_val he10 rfl rfl (.pointer (some ⟨B, 0, none⟩)) (rn_move _ (Or.inl rfl) _ (he10.tmp 0 _ rfl)) (fun a11 he11 => ?_)
   clear he10
   refine wl_buildSlice he11 hm5 4 rfl rfl rfl _ _ _ rfl #[(0, .int .i64 (0)), (1, .int .i64 (0)), (2, .int .i64 (1)), (3, .int .i64 (2)), (4, .int .i64 (11))] (by kernel_rfl) 3 (#[.int .i64 (0), .int .i64 (0), .int .i64 (1), .int .i64 (2), .int .i64 (11)]) (by kernel_rfl) (fun a12 w6 b4 he12 hm6 => ?_)
   clear he11 hm5
   refine wl_callD he12 hm6 1 rfl rfl rfl _ #[.pointer (some ⟨B, 0, none⟩), .slice (some ⟨b4, 0, none⟩) (5) (5)] (enter_call _ _ _ rfl 27 #[] #[] rfl #[.pointer (some ⟨B, 0, none⟩), .slice (some ⟨b4, 0, none⟩) (5) (5)] (map2 (he12.tmp 15 _ rfl) (he12.tmp 16 _ rfl)) #[.pointer (some ⟨B, 0, none⟩), .slice (some ⟨b4, 0, none⟩) (5) (5)] rfl (fun _ _ => by kernel_rfl)) (d_one (h.kb hm6.keep (hm6.bx 1 _ _ _ _ rfl)) (by omega) b4 [0, 0, 1, 2, 11] _ (hm6.bx 4 _ _ _ _ rfl) rfl (hm6.apart 4 1 _ _ rfl rfl (by decide) rfl) (by decide) (by decide) _ rfl) (fun d2 a13 w7 hd2 he13 hm7 => ?_)
   clear he12 hm6
   have hd2b : 0 ≤ d2 ∧ d2 ≤ 4294967295 := by simp at hd2; omega
   obtain ⟨d2n, rfl⟩ := Int.eq_ofNat_of_zero_le hd2b.1
   have hd2c : d2n ≤ 11 := by simp at hd2; omega
   refine wl_val he13 rfl rfl (.pointer (some ⟨B, 0, none⟩)) (rn_move _ (Or.inl rfl) _ (he13.tmp 0 _ rfl)) (fun a14 he14 => ?_)
   clear he13
   refine wl_callD he14 hm7 1 rfl rfl rfl _ #[.pointer (some ⟨B, 0, none⟩), .int .i64 (4)] (enter_call _ _ _ rfl 23 #[] #[] rfl #[.pointer (some ⟨B, 0, none⟩), .int .i64 (4)] (map2 (he14.tmp 18 _ rfl) rfl) #[.pointer (some ⟨B, 0, none⟩), .int .i64 (4)] rfl (fun _ _ => by kernel_rfl)) (d_pick (h.kb hm7.keep (hm7.bx 1 _ _ _ _ rfl)) (by omega) 4 (by omega) (by omega)) (fun d3 a15 w8 hd3 he15 hm8 => ?_)
   clear he14 hm7
   refine wl_val he15 rfl rfl (.int .i64 (((12 + d3 : Nat) : Int))) (rn_bin _ _ _ _ _ rfl .i64 _ _ rfl (he15.tmp 19 _ rfl) (.int .i64 (IntKind.wrap .i64 (12 + ((d3 : Nat) : Int)))) _ rfl (addN (i := 12) (c := d3) (by omega))) (fun a16 he16 => ?_)
   clear he15
   refine wl_val he16 rfl rfl (.pointer (some ⟨B, 0, none⟩)) (rn_move _ (Or.inl rfl) _ (he16.tmp 0 _ rfl)) (fun a17 he17 => ?_)
   clear he16
   refine wl_buildSlice he17 hm8 5 rfl rfl rfl _ _ _ rfl #[(0, .int .i64 (0)), (1, .int .i64 (1)), (2, .int .i64 (2)), (3, .int .i64 (3)), (4, .int .i64 (7)), (5, .int .i64 (9)), (6, .int .i64 (10)), (7, .int .i64 (200)), (8, .int .i64 (254)), (9, .int .i64 (255))] (by kernel_rfl) 3 (#[.int .i64 (0), .int .i64 (1), .int .i64 (2), .int .i64 (3), .int .i64 (7), .int .i64 (9), .int .i64 (10), .int .i64 (200), .int .i64 (254), .int .i64 (255)]) (by kernel_rfl) (fun a18 w9 b5 he18 hm9 => ?_)
   clear he17 hm8
   refine wl_callD he18 hm9 1 rfl rfl rfl _ #[.pointer (some ⟨B, 0, none⟩), .slice (some ⟨b5, 0, none⟩) (10) (10)] (enter_call _ _ _ rfl 27 #[] #[] rfl #[.pointer (some ⟨B, 0, none⟩), .slice (some ⟨b5, 0, none⟩) (10) (10)] (map2 (he18.tmp 21 _ rfl) (he18.tmp 22 _ rfl)) #[.pointer (some ⟨B, 0, none⟩), .slice (some ⟨b5, 0, none⟩) (10) (10)] rfl (fun _ _ => by kernel_rfl)) (d_one (h.kb hm9.keep (hm9.bx 1 _ _ _ _ rfl)) (by omega) b5 [0, 1, 2, 3, 7, 9, 10, 200, 254, 255] _ (hm9.bx 5 _ _ _ _ rfl) rfl (hm9.apart 5 1 _ _ rfl rfl (by decide) rfl) (by decide) (by decide) _ rfl) (fun d4 a19 w10 hd4 he19 hm10 => ?_)
   clear he18 hm9
   have hd4b : 0 ≤ d4 ∧ d4 ≤ 4294967295 := by simp at hd4; omega
   obtain ⟨d4n, rfl⟩ := Int.eq_ofNat_of_zero_le hd4b.1
   have hd4c : d4n ≤ 255 := by simp at hd4; omega
   refine wl_val he19 rfl rfl (.pointer (some ⟨B, 0, none⟩)) (rn_move _ (Or.inl rfl) _ (he19.tmp 0 _ rfl)) (fun a20 he20 => ?_)
   clear he19
   refine wl_callD he20 hm10 1 rfl rfl rfl _ #[.pointer (some ⟨B, 0, none⟩), .int .i64 (3)] (enter_call _ _ _ rfl 23 #[] #[] rfl #[.pointer (some ⟨B, 0, none⟩), .int .i64 (3)] (map2 (he20.tmp 24 _ rfl) rfl) #[.pointer (some ⟨B, 0, none⟩), .int .i64 (3)] rfl (fun _ _ => by kernel_rfl)) (d_pick (h.kb hm10.keep (hm10.bx 1 _ _ _ _ rfl)) (by omega) 3 (by omega) (by omega)) (fun d5 a21 w11 hd5 he21 hm11 => ?_)
   clear he20 hm10
   refine wl_val he21 rfl rfl (.agg (Ru.arr ((⟨((d2n : Nat) : Int), ((12 + d3 : Nat) : Int), ((d4n : Nat) : Int), ((d5 : Nat) : Int), 0⟩ : Ru)))) (rn_build _ _ rfl #[(0, .int .i64 (((d2n : Nat) : Int))), (1, .int .i64 (((12 + d3 : Nat) : Int))), (2, .int .i64 (((d4n : Nat) : Int))), (3, .int .i64 (((d5 : Nat) : Int)))] (pmap4 (he21.tmp 17 _ rfl) (he21.tmp 20 _ rfl) (he21.tmp 23 _ rfl) (he21.tmp 25 _ rfl)) _ (by kernel_rfl)) (fun a22 he22 => ?_)
   clear he21
   refine wl_alloc he22 hm11 6 rfl rfl rfl _ rfl (.agg #[.int .i64 0, .int .i64 0, .int .i64 0, .int .i64 0, .int .i64 0]) (fun w => by kernel_rfl) (Ru.arr ((⟨0, 0, 0, 0, 0⟩ : Ru))) rfl (fun a23 w12 b6 he23 hm12 => ?_)
   clear he22 hm11
   refine wl_store he23 hm12 6 rfl rfl rfl _ _ _ rfl (0) (he23.tmp 5 _ rfl) _ (he23.tmp 26 _ rfl) 5 agg36.size rfl (Ru.one _) (by decide) (Ru.arr ((⟨((d2n : Nat) : Int), ((12 + d3 : Nat) : Int), ((d4n : Nat) : Int), ((d5 : Nat) : Int), 0⟩ : Ru))) (by kernel_rfl) (fun w13 hm13 => ?_)
   clear hm12
   refine wl_end ?_
   refine wp_seq ?_
   refine wp_seqR ?_
   refine wl_val he23 rfl rfl (.pointer (some ⟨b6, 3, none⟩)) (rn_field _ _ _ rfl _ (.pointer (some ⟨b6, 3, none⟩)) (he23.tmp 5 _ rfl) (by kernel_rfl)) (fun a24 he24 => ?_)
   clear he23
   refine wl_val he24 rfl rfl (.int .i64 (((d5 : Nat) : Int))) (rn_load1 hm13 6 rfl _ _ rfl (3) (he24.tmp 27 _ rfl) one3 _ rfl) (fun a25 he25 => ?_)
   clear he24
   cases hd2 : ((((d5 : Nat) : Int) == 2))
   ·
    have hd2p : ((d5 : Nat) : Int) ≠ 2 := by simpa using hd2
    refine wl_val he25 rfl rfl (.bool false) (rn_bin _ _ _ _ _ rfl .i64 _ _ (he25.tmp 28 _ rfl) rfl (.bool ((((d5 : Nat) : Int) == 2))) _ rfl (congrArg Value.bool (hd2))) (fun a26 he26 => ?_)
    clear he25
    refine wl_end ?_
    refine wp_condF (he := he26) rfl ?_
    refine wp_skip ?_
    refine then_normal ?_
    refine wp_region_lit ?_
    refine wl_val he26 rfl rfl (.slice (some ⟨ob, 0, none⟩) (on) (oc)) (rn_move _ (Or.inl rfl) _ (he26.tmp 3 _ rfl)) (fun a27 he27 => ?_)
    clear he26
    refine wl_val he27 rfl rfl (.agg (Ru.arr ((⟨((d2n : Nat) : Int), ((12 + d3 : Nat) : Int), ((d4n : Nat) : Int), ((d5 : Nat) : Int), 0⟩ : Ru)))) (rn_loadA hm13 6 rfl _ _ rfl (0) (he27.tmp 5 _ rfl) 5 agg36 (Ru.arr ((⟨((d2n : Nat) : Int), ((12 + d3 : Nat) : Int), ((d4n : Nat) : Int), ((d5 : Nat) : Int), 0⟩ : Ru))) (by kernel_rfl) rfl) (fun a28 he28 => ?_)
    clear he27
    refine wl_buildSlice he28 hm13 7 rfl rfl rfl _ _ _ rfl #[(0, .agg (Ru.arr ((⟨((d2n : Nat) : Int), ((12 + d3 : Nat) : Int), ((d4n : Nat) : Int), ((d5 : Nat) : Int), 0⟩ : Ru))))] (pmap1 (he28.tmp 35 _ rfl)) 36 ((cellsOf Ru.arr [(⟨((d2n : Nat) : Int), ((12 + d3 : Nat) : Int), ((d4n : Nat) : Int), ((d5 : Nat) : Int), 0⟩ : Ru)]).toArray) (by kernel_rfl) (fun a29 w14 b7 he29 hm14 => ?_)
    clear he28 hm13
    have rw7_0 : Rw ((cellsOf Ru.arr [(⟨((d2n : Nat) : Int), ((12 + d3 : Nat) : Int), ((d4n : Nat) : Int), ((d5 : Nat) : Int), 0⟩ : Ru)]).toArray) 1 1 5 (cellsOf Ru.arr ([(⟨((d2n : Nat) : Int), ((12 + d3 : Nat) : Int), ((d4n : Nat) : Int), ((d5 : Nat) : Int), 0⟩ : Ru)])) := Rw.lits RuSz [(⟨((d2n : Nat) : Int), ((12 + d3 : Nat) : Int), ((d4n : Nat) : Int), ((d5 : Nat) : Int), 0⟩ : Ru)] (by simp [maxLen])
    refine wl_append (k := on) (cap := oc) he29 hm14 2 rfl rfl rfl _ _ _ rfl el36 (he29.tmp 34 _ rfl) horw ⟨b7, 0, none⟩ 1 1 (he29.tmp 36 _ rfl) (cellsOf Ru.arr ([(⟨((d2n : Nat) : Int), ((12 + d3 : Nat) : Int), ((d4n : Nat) : Int), ((d5 : Nat) : Int), 0⟩ : Ru)])) (rw7_0.len) (fun j u hu => by rw [Addr.add_mid, Nat.zero_add, (hm14.bx 7 _ _ _ _ rfl).cell]; exact rw7_0.get j u hu) (cellsOf_one Ru.one _) (by simp only [maxLen]; omega) (by omega) (fun a30 w15 b2_30 cap2_30 cur2_30 he30 hm15 rw2_30 => ?_)
    clear he29 hm14
    replace rw2_30 := rw2_30.app
    refine wl_val he30 rfl rfl (.slice (some ⟨b2_30, 0, none⟩) (on + 1) (cap2_30)) (rn_move _ (Or.inr rfl) _ (he30.tmp 37 _ rfl)) (fun a31 he31 => ?_)
    clear he30
    refine wpList_nil ?_
    refine in_normal ?_
    refine then_normal ?_
    refine wp_region_lit ?_
    refine wl_val he31 rfl rfl (.int .i64 (((k : Nat) : Int))) (rn_move _ (Or.inl rfl) _ (he31.tmp 4 _ rfl)) (fun a32 he32 => ?_)
    clear he31
    refine wl_val he32 rfl rfl (.int .i64 (((k - 1 : Nat) : Int))) (rn_bin _ _ _ _ _ rfl .i64 _ _ (he32.tmp 13 _ rfl) rfl (.int .i64 (IntKind.wrap .i64 (((k : Nat) : Int) - 1))) _ rfl (subN (i := k) (c := 1) .i64 (by omega) (by rw [IntKind.wrap_i64]; omega))) (fun a33 he33 => ?_)
    clear he32
    refine wl_val he33 rfl rfl (.int .i64 (((k - 1 : Nat) : Int))) (rn_move _ (Or.inr rfl) _ (he33.tmp 14 _ rfl)) (fun a34 he34 => ?_)
    clear he33
    refine wpList_nil ?_
    exact ⟨1 * (k - 1), by omega, k - 1, (o) ++ ([(⟨((d2n : Nat) : Int), ((12 + d3 : Nat) : Int), ((d4n : Nat) : Int), ((d5 : Nat) : Int), 0⟩ : Ru)]), on + 1, b2_30, cap2_30, cur2_30, q + 1 + 1 + 1 + 1, rfl, ⟨by simp [hon], by omega, rw2_30, by omega⟩, he34.sub _ ⟨rfl, rfl, rfl, rfl, rfl, rfl, rfl, rfl, trivial⟩, hm15.sub _ ⟨rfl, rfl, rfl, trivial⟩⟩
   ·
    have hd2p : ((d5 : Nat) : Int) = 2 := by simpa using hd2
    refine wl_val he25 rfl rfl (.bool true) (rn_bin _ _ _ _ _ rfl .i64 _ _ (he25.tmp 28 _ rfl) rfl (.bool ((((d5 : Nat) : Int) == 2))) _ rfl (congrArg Value.bool (hd2))) (fun a26 he26 => ?_)
    clear he25
    refine wl_end ?_
    refine wp_condT (he := he26) rfl ?_
    refine wp_region_lit ?_
    refine wl_val he26 rfl rfl (.pointer (some ⟨B, 0, none⟩)) (rn_move _ (Or.inl rfl) _ (he26.tmp 0 _ rfl)) (fun a27 he27 => ?_)
    clear he26
    refine wl_buildSlice he27 hm13 7 rfl rfl rfl _ _ _ rfl #[(0, .int .i64 (0)), (1, .int .i64 (1)), (2, .int .i64 (2)), (3, .int .i64 (3)), (4, .int .i64 (7)), (5, .int .i64 (9)), (6, .int .i64 (4294967295))] (by kernel_rfl) 3 (#[.int .i64 (0), .int .i64 (1), .int .i64 (2), .int .i64 (3), .int .i64 (7), .int .i64 (9), .int .i64 (4294967295)]) (by kernel_rfl) (fun a28 w14 b7 he28 hm14 => ?_)
    clear he27 hm13
    refine wl_callD he28 hm14 1 rfl rfl rfl _ #[.pointer (some ⟨B, 0, none⟩), .slice (some ⟨b7, 0, none⟩) (7) (7)] (enter_call _ _ _ rfl 27 #[] #[] rfl #[.pointer (some ⟨B, 0, none⟩), .slice (some ⟨b7, 0, none⟩) (7) (7)] (map2 (he28.tmp 30 _ rfl) (he28.tmp 31 _ rfl)) #[.pointer (some ⟨B, 0, none⟩), .slice (some ⟨b7, 0, none⟩) (7) (7)] rfl (fun _ _ => by kernel_rfl)) (d_one (h.kb hm14.keep (hm14.bx 1 _ _ _ _ rfl)) (by omega) b7 [0, 1, 2, 3, 7, 9, 4294967295] _ (hm14.bx 7 _ _ _ _ rfl) rfl (hm14.apart 7 1 _ _ rfl rfl (by decide) rfl) (by decide) (by decide) _ rfl) (fun d6 a29 w15 hd6 he29 hm15 => ?_)
    clear he28 hm14
    have hd6b : 0 ≤ d6 ∧ d6 ≤ 4294967295 := by simp at hd6; omega
    obtain ⟨d6n, rfl⟩ := Int.eq_ofNat_of_zero_le hd6b.1
    have hd6c : d6n ≤ 4294967295 := by simp at hd6; omega
    refine wl_val he29 rfl rfl (.pointer (some ⟨b6, 4, none⟩)) (rn_field _ _ _ rfl _ (.pointer (some ⟨b6, 4, none⟩)) (he29.tmp 5 _ rfl) (by kernel_rfl)) (fun a30 he30 => ?_)
    clear he29
    refine wl_store he30 hm15 6 rfl rfl rfl _ _ _ rfl (4) (he30.tmp 33 _ rfl) _ (he30.tmp 32 _ rfl) 1 one3.size rfl (by kernel_rfl) (by show 4 + 1 ≤ 5; decide) (Ru.arr ((⟨((d2n : Nat) : Int), ((12 + d3 : Nat) : Int), ((d4n : Nat) : Int), ((d5 : Nat) : Int), ((d6n : Nat) : Int)⟩ : Ru))) (by kernel_rfl) (fun w16 hm16 => ?_)
    clear hm15
    refine wpList_nil ?_
    refine then_normal ?_
    refine wp_region_lit ?_
    refine wl_val he30 rfl rfl (.slice (some ⟨ob, 0, none⟩) (on) (oc)) (rn_move _ (Or.inl rfl) _ (he30.tmp 3 _ rfl)) (fun a31 he31 => ?_)
    clear he30
    refine wl_val he31 rfl rfl (.agg (Ru.arr ((⟨((d2n : Nat) : Int), ((12 + d3 : Nat) : Int), ((d4n : Nat) : Int), ((d5 : Nat) : Int), ((d6n : Nat) : Int)⟩ : Ru)))) (rn_loadA hm16 6 rfl _ _ rfl (0) (he31.tmp 5 _ rfl) 5 agg36 (Ru.arr ((⟨((d2n : Nat) : Int), ((12 + d3 : Nat) : Int), ((d4n : Nat) : Int), ((d5 : Nat) : Int), ((d6n : Nat) : Int)⟩ : Ru))) (by kernel_rfl) rfl) (fun a32 he32 => ?_)
    clear he31
    refine wl_buildSlice he32 hm16 8 rfl rfl rfl _ _ _ rfl #[(0, .agg (Ru.arr ((⟨((d2n : Nat) : Int), ((12 + d3 : Nat) : Int), ((d4n : Nat) : Int), ((d5 : Nat) : Int), ((d6n : Nat) : Int)⟩ : Ru))))] (pmap1 (he32.tmp 35 _ rfl)) 36 ((cellsOf Ru.arr [(⟨((d2n : Nat) : Int), ((12 + d3 : Nat) : Int), ((d4n : Nat) : Int), ((d5 : Nat) : Int), ((d6n : Nat) : Int)⟩ : Ru)]).toArray) (by kernel_rfl) (fun a33 w17 b8 he33 hm17 => ?_)
    clear he32 hm16
    have rw8_0 : Rw ((cellsOf Ru.arr [(⟨((d2n : Nat) : Int), ((12 + d3 : Nat) : Int), ((d4n : Nat) : Int), ((d5 : Nat) : Int), ((d6n : Nat) : Int)⟩ : Ru)]).toArray) 1 1 5 (cellsOf Ru.arr ([(⟨((d2n : Nat) : Int), ((12 + d3 : Nat) : Int), ((d4n : Nat) : Int), ((d5 : Nat) : Int), ((d6n : Nat) : Int)⟩ : Ru)])) := Rw.lits RuSz [(⟨((d2n : Nat) : Int), ((12 + d3 : Nat) : Int), ((d4n : Nat) : Int), ((d5 : Nat) : Int), ((d6n : Nat) : Int)⟩ : Ru)] (by simp [maxLen])
    refine wl_append (k := on) (cap := oc) he33 hm17 2 rfl rfl rfl _ _ _ rfl el36 (he33.tmp 34 _ rfl) horw ⟨b8, 0, none⟩ 1 1 (he33.tmp 36 _ rfl) (cellsOf Ru.arr ([(⟨((d2n : Nat) : Int), ((12 + d3 : Nat) : Int), ((d4n : Nat) : Int), ((d5 : Nat) : Int), ((d6n : Nat) : Int)⟩ : Ru)])) (rw8_0.len) (fun j u hu => by rw [Addr.add_mid, Nat.zero_add, (hm17.bx 8 _ _ _ _ rfl).cell]; exact rw8_0.get j u hu) (cellsOf_one Ru.one _) (by simp only [maxLen]; omega) (by omega) (fun a34 w18 b2_34 cap2_34 cur2_34 he34 hm18 rw2_34 => ?_)
    clear he33 hm17
    replace rw2_34 := rw2_34.app
    refine wl_val he34 rfl rfl (.slice (some ⟨b2_34, 0, none⟩) (on + 1) (cap2_34)) (rn_move _ (Or.inr rfl) _ (he34.tmp 37 _ rfl)) (fun a35 he35 => ?_)
    clear he34
    refine wpList_nil ?_
    refine in_normal ?_
    refine then_normal ?_
    refine wp_region_lit ?_
    refine wl_val he35 rfl rfl (.int .i64 (((k : Nat) : Int))) (rn_move _ (Or.inl rfl) _ (he35.tmp 4 _ rfl)) (fun a36 he36 => ?_)
    clear he35
    refine wl_val he36 rfl rfl (.int .i64 (((k - 1 : Nat) : Int))) (rn_bin _ _ _ _ _ rfl .i64 _ _ (he36.tmp 13 _ rfl) rfl (.int .i64 (IntKind.wrap .i64 (((k : Nat) : Int) - 1))) _ rfl (subN (i := k) (c := 1) .i64 (by omega) (by rw [IntKind.wrap_i64]; omega))) (fun a37 he37 => ?_)
    clear he36
    refine wl_val he37 rfl rfl (.int .i64 (((k - 1 : Nat) : Int))) (rn_move _ (Or.inr rfl) _ (he37.tmp 14 _ rfl)) (fun a38 he38 => ?_)
    clear he37
    refine wpList_nil ?_
    exact ⟨1 * (k - 1), by omega, k - 1, (o) ++ ([(⟨((d2n : Nat) : Int), ((12 + d3 : Nat) : Int), ((d4n : Nat) : Int), ((d5 : Nat) : Int), ((d6n : Nat) : Int)⟩ : Ru)]), on + 1, b2_34, cap2_34, cur2_34, q + 1 + 1 + 1 + 1 + 1, rfl, ⟨by simp [hon], by omega, rw2_34, by omega⟩, he38.sub _ ⟨rfl, rfl, rfl, rfl, rfl, rfl, rfl, rfl, trivial⟩, hm18.sub _ ⟨rfl, rfl, rfl, trivial⟩⟩
end Go.Proofs.YtkaekiodjjhjkaaDoor
