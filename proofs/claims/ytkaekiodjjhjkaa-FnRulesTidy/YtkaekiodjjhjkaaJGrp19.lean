/- The draw of rules. -/
import Derived.Test.YtkaekiodjjhjkaaJGrp3
import Derived.Test.YtkaekiodjjhjkaaJGrp18
import Derived.Test.YtkaekiodjjhjkaaJGrp8
set_option maxRecDepth 100000
set_option maxHeartbeats 4000000
set_option linter.unusedSimpArgs false
set_option linter.unusedVariables false
namespace Go.Proofs.Ytkaekiodjjhjkaa.W
open Go.RowKit
open Go.Proofs.Ytkaekiodjjhjkaa.H
theorem RuSz (r : Ru) : r.arr.size = 5 := rfl
structure RuX where
 L : List Ru
 cap : Nat
 cur : Array Value
 q : Nat
theorem d_rules {w0 : World} {B : Nat} {a : Option Addr} {len cap p : Nat} (w : World) (h : RS w0 w B a len cap p) (hp : p ≤ 100000) :
 Calls Try.prog 15 #[.pointer (some ⟨B, 0, none⟩)] w fun e w' => DrawsN w B (fun (x : RuX) b => .slice (some ⟨b, 0, none⟩) x.L.length x.cap) 30 (fun x => x.cur) 67 (fun x => rdA a len cap x.q) (fun x => Rw x.cur x.L.length x.cap 5 (cellsOf Ru.arr x.L) ∧ x.L.length ≤ 6 ∧ x.q ≤ p + 40) e w' := by
 refine calls_begin Try.func15 rfl 84 rfl (Nat.le_of_ble_eq_true rfl) [(0, .pointer (some ⟨B, 0, none⟩))] ⟨rfl, trivial⟩ (fun a0 e0 m0 => ?_)
 have m1 := MM.start1 (w := w) 1 h.bx
 refine wp_seqR ?_
 refine wb 1 e0 [(2, .slice none 0 0)] fun a1 e1 => ?_
 refine wl_end (wp_seqR ?_)
 refine kb e1 m1 2 23 0 30 ((cellsOf Ru.arr []).toArray) (vs := #[]) (by kernel_rfl) fun a2 w2 b2 e2 m2 => ?_
 have rw2_0 : Rw ((cellsOf Ru.arr []).toArray) 0 0 5 (cellsOf Ru.arr ([])) := Rw.lits RuSz [] (by simp [maxLen])
 refine wb 1 e2 [(3, zS b2 0 0)] fun a3 e3 => ?_
 refine wl_end (wp_seq (wp_seqR ?_))
 refine wb 1 e3 [(8, zP B 0)] fun a4 e4 => ?_
 refine kb e4 m2 3 42 6 3 (#[zI 0, zI 1, zI 2, zI 3, zI 4, zI 6]) (vs := #[(0, .int .i64 (0)), (1, .int .i64 (1)), (2, .int .i64 (2)), (3, .int .i64 (3)), (4, .int .i64 (4)), (5, .int .i64 (6))]) (by kernel_rfl) fun a5 w3 b3 e5 m3 => ?_
 refine kd e5 m3 1 (d_one (h.kb m3.keep (m3.bx 1 _ _ _ _ rfl)) (by omega) b3 [0, 1, 2, 3, 4, 6] _ (m3.bx 3 _ _ _ _ rfl) rfl (m3.apart 3 1 _ _ rfl rfl (by decide) rfl) (by decide) (by decide) _ rfl) fun d1 a6 w4 hd1 e6 m4 => ?_
 have hd1b : 0 ≤ d1 ∧ d1 ≤ 4294967295 := by simp at hd1; omega
 obtain ⟨d1n, rfl⟩ := Int.eq_ofNat_of_zero_le hd1b.1
 have hd1c : d1n ≤ 6 := by simp at hd1; omega
 refine wb 1 e6 [(4, zN d1n)] fun a7 e7 => ?_
 refine wl_end (wp_block ?_)
 refine wp_loopN (fun mz az wz => ∃ (k : Nat), ∃ (o : List Ru), ∃ (on : Nat), ∃ (ob : Nat), ∃ (oc : Nat), ∃ (oa : Array Value), ∃ (q : Nat), mz = 1 * k ∧ (on = (o).length ∧ on + k ≤ 6 ∧ Rw (oa) (on) (oc) 5 (cellsOf Ru.arr (o)) ∧ q + 5 * k ≤ p + 31) ∧ EV az 84 [] [(0, .pointer (some ⟨B, 0, none⟩)), (2, .slice none 0 0), (7, .slice (some ⟨b2, 0, none⟩) (0) (0)), (8, .pointer (some ⟨B, 0, none⟩)), (9, .slice (some ⟨b3, 0, none⟩) (6) (6)), (10, .int .i64 (((d1n : Nat) : Int))), (4, .int .i64 (((k : Nat) : Int))), (3, .slice (some ⟨ob, 0, none⟩) (on) (oc))] ∧ MM [B] w wz [(1, ⟨true, B, 67, rdA a len cap (q)⟩), (2, ⟨true, ob, 30, oa⟩), (3, ⟨true, b3, 3, #[zI 0, zI 1, zI 2, zI 3, zI 4, zI 6]⟩)]) ⟨_, d1n, [], 0, b2, 0, (cellsOf Ru.arr []).toArray, p + 1, rfl, ⟨rfl, by omega, rw2_0, by omega⟩, e7.sb, m4.sb⟩ ?_
 rintro mz1 a8 w5 ⟨k, o, on, ob, oc, oa, q, rfl, hrel1, e8, m5⟩
 obtain ⟨hon, hon6, horw, hq⟩ := hrel1
 refine wp_seq (wp_seqR ?_)
 refine wb 1 e8 [(11, zN k)] fun a9 e9 => ?_
 cases hd1 : (decide (((k : Nat) : Int) > 0))
 ·
  have hd1p := of_decide_eq_false hd1
  refine wr [1] e9 m5 [(12, zF)] [] (vb (hd1) vl0) fun a10 w6 e10 m6 => ?_
  refine wl_end (wp_condF (he := e10) rfl (wp_exit (exit_then (exit_then (exit_here (then_normal (wp_seq (wp_seqR ?_))))))))
  refine wb 1 e10 [(38, zS ob on oc)] fun a11 e11 => ?_
  refine kv e11 (zN on) (rn_builtin _ _ _ rfl #[.slice (some ⟨ob, 0, none⟩) (on) (oc)] (map1 (e11.tmp 38 _ rfl)) (.int .i64 (((on : Nat) : Int))) (by kernel_rfl)) fun a12 e12 => ?_
  cases hd2 : (decide (((on : Nat) : Int) > 0))
  ·
   have hd2p := of_decide_eq_false hd2
   refine wr [1, 0, 0, 0, 0, 0] e12 m6 [(45, zF), (44, zU), (43, zU), (42, zU), (41, zF), (40, zF)] [] (vb (hd2) vl0) fun a13 w7 e13 m7 => ?_
   refine wl_end (wp_condF (he := e13) rfl (wp_skip (then_normal (wp_seqR ?_))))
   refine wb 2 e13 [(2, zS ob on oc), (83, zS ob on oc)] fun a14 e14 => ?_
   refine wl_end (wp_ret ?_)
   have hN : on = (o).length := by simp [hon]
   exact bodyPost_ret (results_tmp e14 _ Try.results15 (.slice (some ⟨ob, 0, none⟩) (on) (oc)) rfl) e14.defers ⟨⟨o, oc, oa, q⟩, _, congrArg (fun k => Ending.returned (.slice (some ⟨ob, 0, none⟩) k (oc))) hN, ⟨horw.cast hN rfl, by show (o).length ≤ 6; omega, by show q ≤ p + 40; omega⟩, m7.bx 2 _ _ _ _ rfl, by have h1 := m7.own 2 _ rfl rfl; have h2 := m7.apart 2 1 _ _ rfl rfl (by decide) rfl; exact h1.resolve_right (fun hb => h2 (by simpa using hb)), m7.keep, m7.bx 1 _ _ _ _ rfl⟩
  ·
   have hd2p := of_decide_eq_true hd2
   refine wr [1, 0, 0] e12 m6 [(42, zP B 0), (41, zT), (40, zT)] [] (vb (hd2) vl0) fun a13 w7 e13 m7 => ?_
   refine kd e13 m7 1 (d_pick (h.kb m7.keep (m7.bx 1 _ _ _ _ rfl)) (by omega) 12 (by omega) (by omega)) fun d2 a14 w8 hd2 e14 m8 => ?_
   cases hd3 : ((((d2 : Nat) : Int) == 0))
   ·
    have hd3p : ((d2 : Nat) : Int) ≠ 0 := by simpa using hd3
    refine wr [1, 0] e14 m8 [(45, zF), (44, zF)] [] (vb (hd3) vl0) fun a15 w9 e15 m9 => ?_
    refine wl_end (wp_condF (he := e15) rfl (wp_skip (then_normal (wp_seqR ?_))))
    refine wb 2 e15 [(2, zS ob on oc), (83, zS ob on oc)] fun a16 e16 => ?_
    refine wl_end (wp_ret ?_)
    have hN : on = (o).length := by simp [hon]
    exact bodyPost_ret (results_tmp e16 _ Try.results15 (.slice (some ⟨ob, 0, none⟩) (on) (oc)) rfl) e16.defers ⟨⟨o, oc, oa, q + 1⟩, _, congrArg (fun k => Ending.returned (.slice (some ⟨ob, 0, none⟩) k (oc))) hN, ⟨horw.cast hN rfl, by show (o).length ≤ 6; omega, by show q + 1 ≤ p + 40; omega⟩, m9.bx 2 _ _ _ _ rfl, by have h1 := m9.own 2 _ rfl rfl; have h2 := m9.apart 2 1 _ _ rfl rfl (by decide) rfl; exact h1.resolve_right (fun hb => h2 (by simpa using hb)), m9.keep, m9.bx 1 _ _ _ _ rfl⟩
   ·
    have hd3p : ((d2 : Nat) : Int) = 0 := by simpa using hd3
    refine wr [1, 0] e14 m8 [(45, zT), (44, zT)] [] (vb (hd3) vl0) fun a15 w9 e15 m9 => ?_
    refine wl_end (wp_condT (he := e15) rfl (wp_seqR ?_))
    refine wb 2 e15 [(47, zS ob on oc), (46, zP B 0)] fun a16 e16 => ?_
    refine kv e16 (zN on) (rn_builtin _ _ _ rfl #[.slice (some ⟨ob, 0, none⟩) (on) (oc)] (map1 (e16.tmp 47 _ rfl)) (.int .i64 (((on : Nat) : Int))) (by kernel_rfl)) fun a17 e17 => ?_
    refine kd e17 m9 1 (d_pick (h.kb m9.keep (m9.bx 1 _ _ _ _ rfl)) (by omega) on (by omega) (by omega)) fun d3 a18 w10 hd3 e18 m10 => ?_
    refine wb 1 e18 [(6, zN d3)] fun a19 e19 => ?_
    refine wl_end (wp_seqR ?_)
    refine wb 1 e19 [(50, zP B 0)] fun a20 e20 => ?_
    refine kd e20 m10 1 (d_pick (h.kb m10.keep (m10.bx 1 _ _ _ _ rfl)) (by omega) 4 (by omega) (by omega)) fun d4 a21 w11 hd4 e21 m11 => ?_
    refine wl_end (wp_block (wp_seqR ?_))
    cases hd4 : ((((d4 : Nat) : Int) == 0))
    ·
     have hd4p : ((d4 : Nat) : Int) ≠ 0 := by simpa using hd4
     refine wr [1, 0] e21 m11 [(56, zF), (57, zF)] [] (vb (hd4) vl0) fun a22 w12 e22 m12 => ?_
     refine wl_end (wp_condF (he := e22) rfl (wp_seqR ?_))
     cases hd5 : ((((d4 : Nat) : Int) == 1))
     ·
      have hd5p : ((d4 : Nat) : Int) ≠ 1 := by simpa using hd5
      refine wr [1, 0] e22 m12 [(65, zF), (66, zF)] [] (vb (hd5) vl0) fun a23 w13 e23 m13 => ?_
      refine wl_end (wp_condF (he := e23) rfl (wp_seqR ?_))
      cases hd6 : ((((d4 : Nat) : Int) == 2))
      ·
       have hd6p : ((d4 : Nat) : Int) ≠ 2 := by simpa using hd6
       refine wr [1, 0] e23 m13 [(74, zF), (75, zF)] [] (vb (hd6) vl0) fun a24 w14 e24 m14 => ?_
       refine wl_end (wp_condF (he := e24) rfl (wp_region_lit ?_))
       refine wb 2 e24 [(53, zN d3), (52, zS ob on oc)] fun a25 e25 => ?_
       refine kv e25 (.pointer (some ⟨ob, 0 + d3 * 5, none⟩)) (rn_indexA _ _ _ rfl _ _ (.pointer (some ⟨ob, 0 + d3 * 5, none⟩)) (e25.tmp 52 _ rfl) (e25.tmp 53 _ rfl) (ixS 30 5 (by kernel_rfl) (fun w => by kernel_rfl) (ob) (0) (on) (oc) (d3) (by omega) _)) fun a26 e26 => ?_
       refine kv e26 (.pointer (some ⟨ob, 0 + d3 * 5 + 4, none⟩)) (rn_field _ _ _ rfl _ (.pointer (some ⟨ob, 0 + d3 * 5 + 4, none⟩)) (e26.tmp 54 _ rfl) (by kernel_rfl)) fun a27 e27 => ?_
       have hkq1 : d3 < (o).length := by omega
       obtain ⟨q1, hq1⟩ : ∃ q1 : Array Value, q1 = ovw (oa) (0 + d3 * 5 + 4) [.int .i64 (5)] := ⟨_, rfl⟩
       obtain ⟨yq1, hyq1⟩ : ∃ yq1 : Ru, yq1 = { (o)[d3]'hkq1 with key := 5 } := ⟨_, rfl⟩
       have rq1 : Rw q1 on oc 5 (cellsOf Ru.arr ((o).set (d3) yq1)) := by rw [hq1]; exact horw.set1 RuSz (f := 4) (y := yq1) (v := .int .i64 (5)) (List.getElem?_eq_getElem hkq1) (by omega) (by rw [hyq1]; rfl) (0 + d3 * 5 + 4) (by omega)
       have fq1 := horw.fit'
       refine ks e27 m14 2 one3.sz (0 + d3 * 5 + 4) (.int .i64 (5)) (q1) (hA := (by rw [hq1]; rfl)) fun w15 m15 => ?_
       refine wpList_nil (in_normal (then_normal (wp_seqR ?_)))
       refine wb 2 e27 [(2, zS ob on oc), (83, zS ob on oc)] fun a28 e28 => ?_
       refine wl_end (wp_ret ?_)
       have hN : on = ((o).set (d3) yq1).length := by simp [hon]
       exact bodyPost_ret (results_tmp e28 _ Try.results15 (.slice (some ⟨ob, 0, none⟩) (on) (oc)) rfl) e28.defers ⟨⟨(o).set (d3) yq1, oc, q1, q + 1 + 1 + 1⟩, _, congrArg (fun k => Ending.returned (.slice (some ⟨ob, 0, none⟩) k (oc))) hN, ⟨rq1.cast hN rfl, by show ((o).set (d3) yq1).length ≤ 6; omega, by show q + 1 + 1 + 1 ≤ p + 40; omega⟩, m15.bx 2 _ _ _ _ rfl, by have h1 := m15.own 2 _ rfl rfl; have h2 := m15.apart 2 1 _ _ rfl rfl (by decide) rfl; exact h1.resolve_right (fun hb => h2 (by simpa using hb)), m15.keep, m15.bx 1 _ _ _ _ rfl⟩
      ·
       have hd6p : ((d4 : Nat) : Int) = 2 := by simpa using hd6
       refine wr [1, 0] e23 m13 [(74, zT), (75, zT)] [] (vb (hd6) vl0) fun a24 w14 e24 m14 => ?_
       refine wl_end (wp_condT (he := e24) rfl (wp_region_lit ?_))
       refine wb 3 e24 [(78, zP B 0), (77, zN d3), (76, zS ob on oc)] fun a25 e25 => ?_
       refine kb e25 m14 4 42 2 3 (#[zI 11, zI 16]) (vs := #[(0, .int .i64 (11)), (1, .int .i64 (16))]) (by kernel_rfl) fun a26 w15 b4 e26 m15 => ?_
       refine kd e26 m15 1 (d_one (h.kb m15.keep (m15.bx 1 _ _ _ _ rfl)) (by omega) b4 [11, 16] _ (m15.bx 4 _ _ _ _ rfl) rfl (m15.apart 4 1 _ _ rfl rfl (by decide) rfl) (by decide) (by decide) _ rfl) fun d5 a27 w16 hd5 e27 m16 => ?_
       have hd5b : 0 ≤ d5 ∧ d5 ≤ 4294967295 := by simp at hd5; omega
       obtain ⟨d5n, rfl⟩ := Int.eq_ofNat_of_zero_le hd5b.1
       have hd5c : d5n ≤ 16 := by simp at hd5; omega
       refine kv e27 (.pointer (some ⟨ob, 0 + d3 * 5, none⟩)) (rn_indexA _ _ _ rfl _ _ (.pointer (some ⟨ob, 0 + d3 * 5, none⟩)) (e27.tmp 76 _ rfl) (e27.tmp 77 _ rfl) (ixS 30 5 (by kernel_rfl) (fun w => by kernel_rfl) (ob) (0) (on) (oc) (d3) (by omega) _)) fun a28 e28 => ?_
       refine kv e28 (.pointer (some ⟨ob, 0 + d3 * 5 + 1, none⟩)) (rn_field _ _ _ rfl _ (.pointer (some ⟨ob, 0 + d3 * 5 + 1, none⟩)) (e28.tmp 81 _ rfl) (by kernel_rfl)) fun a29 e29 => ?_
       have hkq1 : d3 < (o).length := by omega
       obtain ⟨q1, hq1⟩ : ∃ q1 : Array Value, q1 = ovw (oa) (0 + d3 * 5 + 1) [.int .i64 (((d5n : Nat) : Int))] := ⟨_, rfl⟩
       obtain ⟨yq1, hyq1⟩ : ∃ yq1 : Ru, yq1 = { (o)[d3]'hkq1 with op := ((d5n : Nat) : Int) } := ⟨_, rfl⟩
       have rq1 : Rw q1 on oc 5 (cellsOf Ru.arr ((o).set (d3) yq1)) := by rw [hq1]; exact horw.set1 RuSz (f := 1) (y := yq1) (v := .int .i64 (((d5n : Nat) : Int))) (List.getElem?_eq_getElem hkq1) (by omega) (by rw [hyq1]; rfl) (0 + d3 * 5 + 1) (by omega)
       have fq1 := horw.fit'
       refine ks e29 m16 2 one3.sz (0 + d3 * 5 + 1) (.int .i64 (((d5n : Nat) : Int))) (q1) (hA := (by rw [hq1]; rfl)) fun w17 m17 => ?_
       refine wpList_nil (in_normal (then_normal (wp_seqR ?_)))
       refine wb 2 e29 [(2, zS ob on oc), (83, zS ob on oc)] fun a30 e30 => ?_
       refine wl_end (wp_ret ?_)
       have hN : on = ((o).set (d3) yq1).length := by simp [hon]
       exact bodyPost_ret (results_tmp e30 _ Try.results15 (.slice (some ⟨ob, 0, none⟩) (on) (oc)) rfl) e30.defers ⟨⟨(o).set (d3) yq1, oc, q1, q + 1 + 1 + 1 + 1⟩, _, congrArg (fun k => Ending.returned (.slice (some ⟨ob, 0, none⟩) k (oc))) hN, ⟨rq1.cast hN rfl, by show ((o).set (d3) yq1).length ≤ 6; omega, by show q + 1 + 1 + 1 + 1 ≤ p + 40; omega⟩, m17.bx 2 _ _ _ _ rfl, by have h1 := m17.own 2 _ rfl rfl; have h2 := m17.apart 2 1 _ _ rfl rfl (by decide) rfl; exact h1.resolve_right (fun hb => h2 (by simpa using hb)), m17.keep, m17.bx 1 _ _ _ _ rfl⟩
     ·
      have hd5p : ((d4 : Nat) : Int) = 1 := by simpa using hd5
      refine wr [1, 0] e22 m12 [(65, zT), (66, zT)] [] (vb (hd5) vl0) fun a23 w13 e23 m13 => ?_
      refine wl_end (wp_condT (he := e23) rfl (wp_region_lit ?_))
      refine wb 3 e23 [(69, zP B 0), (68, zN d3), (67, zS ob on oc)] fun a24 e24 => ?_
      refine kb e24 m13 4 42 2 3 (#[zI (-1), zI 256]) (vs := #[(0, .int .i64 ((-1))), (1, .int .i64 (256))]) (by kernel_rfl) fun a25 w14 b4 e25 m14 => ?_
      refine kd e25 m14 1 (d_one (h.kb m14.keep (m14.bx 1 _ _ _ _ rfl)) (by omega) b4 [(-1), 256] _ (m14.bx 4 _ _ _ _ rfl) rfl (m14.apart 4 1 _ _ rfl rfl (by decide) rfl) (by decide) (by decide) _ rfl) fun d5 a26 w15 hd5 e26 m15 => ?_
      have hd5b : -1 ≤ d5 ∧ d5 ≤ 4294967295 := by simp at hd5; omega
      refine kv e26 (.pointer (some ⟨ob, 0 + d3 * 5, none⟩)) (rn_indexA _ _ _ rfl _ _ (.pointer (some ⟨ob, 0 + d3 * 5, none⟩)) (e26.tmp 67 _ rfl) (e26.tmp 68 _ rfl) (ixS 30 5 (by kernel_rfl) (fun w => by kernel_rfl) (ob) (0) (on) (oc) (d3) (by omega) _)) fun a27 e27 => ?_
      refine kv e27 (.pointer (some ⟨ob, 0 + d3 * 5 + 2, none⟩)) (rn_field _ _ _ rfl _ (.pointer (some ⟨ob, 0 + d3 * 5 + 2, none⟩)) (e27.tmp 72 _ rfl) (by kernel_rfl)) fun a28 e28 => ?_
      have hkq1 : d3 < (o).length := by omega
      obtain ⟨q1, hq1⟩ : ∃ q1 : Array Value, q1 = ovw (oa) (0 + d3 * 5 + 2) [.int .i64 (d5)] := ⟨_, rfl⟩
      obtain ⟨yq1, hyq1⟩ : ∃ yq1 : Ru, yq1 = { (o)[d3]'hkq1 with num := d5 } := ⟨_, rfl⟩
      have rq1 : Rw q1 on oc 5 (cellsOf Ru.arr ((o).set (d3) yq1)) := by rw [hq1]; exact horw.set1 RuSz (f := 2) (y := yq1) (v := .int .i64 (d5)) (List.getElem?_eq_getElem hkq1) (by omega) (by rw [hyq1]; rfl) (0 + d3 * 5 + 2) (by omega)
      have fq1 := horw.fit'
      refine ks e28 m15 2 one3.sz (0 + d3 * 5 + 2) (.int .i64 (d5)) (q1) (hA := (by rw [hq1]; rfl)) fun w16 m16 => ?_
      refine wpList_nil (in_normal (then_normal (wp_seqR ?_)))
      refine wb 2 e28 [(2, zS ob on oc), (83, zS ob on oc)] fun a29 e29 => ?_
      refine wl_end (wp_ret ?_)
      have hN : on = ((o).set (d3) yq1).length := by simp [hon]
      exact bodyPost_ret (results_tmp e29 _ Try.results15 (.slice (some ⟨ob, 0, none⟩) (on) (oc)) rfl) e29.defers ⟨⟨(o).set (d3) yq1, oc, q1, q + 1 + 1 + 1 + 1⟩, _, congrArg (fun k => Ending.returned (.slice (some ⟨ob, 0, none⟩) k (oc))) hN, ⟨rq1.cast hN rfl, by show ((o).set (d3) yq1).length ≤ 6; omega, by show q + 1 + 1 + 1 + 1 ≤ p + 40; omega⟩, m16.bx 2 _ _ _ _ rfl, by have h1 := m16.own 2 _ rfl rfl; have h2 := m16.apart 2 1 _ _ rfl rfl (by decide) rfl; exact h1.resolve_right (fun hb => h2 (by simpa using hb)), m16.keep, m16.bx 1 _ _ _ _ rfl⟩
    ·
     have hd4p : ((d4 : Nat) : Int) = 0 := by simpa using hd4
     refine wr [1, 0] e21 m11 [(56, zT), (57, zT)] [] (vb (hd4) vl0) fun a22 w12 e22 m12 => ?_
     refine wl_end (wp_condT (he := e22) rfl (wp_region_lit ?_))
     refine wb 3 e22 [(60, zP B 0), (59, zN d3), (58, zS ob on oc)] fun a23 e23 => ?_
     refine kb e23 m12 4 42 2 3 (#[zI (-1), zI 12]) (vs := #[(0, .int .i64 ((-1))), (1, .int .i64 (12))]) (by kernel_rfl) fun a24 w13 b4 e24 m13 => ?_
     refine kd e24 m13 1 (d_one (h.kb m13.keep (m13.bx 1 _ _ _ _ rfl)) (by omega) b4 [(-1), 12] _ (m13.bx 4 _ _ _ _ rfl) rfl (m13.apart 4 1 _ _ rfl rfl (by decide) rfl) (by decide) (by decide) _ rfl) fun d5 a25 w14 hd5 e25 m14 => ?_
     have hd5b : -1 ≤ d5 ∧ d5 ≤ 4294967295 := by simp at hd5; omega
     refine kv e25 (.pointer (some ⟨ob, 0 + d3 * 5, none⟩)) (rn_indexA _ _ _ rfl _ _ (.pointer (some ⟨ob, 0 + d3 * 5, none⟩)) (e25.tmp 58 _ rfl) (e25.tmp 59 _ rfl) (ixS 30 5 (by kernel_rfl) (fun w => by kernel_rfl) (ob) (0) (on) (oc) (d3) (by omega) _)) fun a26 e26 => ?_
     refine kv e26 (.pointer (some ⟨ob, 0 + d3 * 5, none⟩)) (rn_field _ _ _ rfl _ (.pointer (some ⟨ob, 0 + d3 * 5, none⟩)) (e26.tmp 63 _ rfl) (by kernel_rfl)) fun a27 e27 => ?_
     have hkq1 : d3 < (o).length := by omega
     obtain ⟨q1, hq1⟩ : ∃ q1 : Array Value, q1 = ovw (oa) (0 + d3 * 5) [.int .i64 (d5)] := ⟨_, rfl⟩
     obtain ⟨yq1, hyq1⟩ : ∃ yq1 : Ru, yq1 = { (o)[d3]'hkq1 with at_ := d5 } := ⟨_, rfl⟩
     have rq1 : Rw q1 on oc 5 (cellsOf Ru.arr ((o).set (d3) yq1)) := by rw [hq1]; exact horw.set1 RuSz (f := 0) (y := yq1) (v := .int .i64 (d5)) (List.getElem?_eq_getElem hkq1) (by omega) (by rw [hyq1]; rfl) (0 + d3 * 5) (by omega)
     have fq1 := horw.fit'
     refine ks e27 m14 2 one3.sz (0 + d3 * 5) (.int .i64 (d5)) (q1) (hA := (by rw [hq1]; rfl)) fun w15 m15 => ?_
     refine wpList_nil (in_normal (then_normal (wp_seqR ?_)))
     refine wb 2 e27 [(2, zS ob on oc), (83, zS ob on oc)] fun a28 e28 => ?_
     refine wl_end (wp_ret ?_)
     have hN : on = ((o).set (d3) yq1).length := by simp [hon]
     exact bodyPost_ret (results_tmp e28 _ Try.results15 (.slice (some ⟨ob, 0, none⟩) (on) (oc)) rfl) e28.defers ⟨⟨(o).set (d3) yq1, oc, q1, q + 1 + 1 + 1 + 1⟩, _, congrArg (fun k => Ending.returned (.slice (some ⟨ob, 0, none⟩) k (oc))) hN, ⟨rq1.cast hN rfl, by show ((o).set (d3) yq1).length ≤ 6; omega, by show q + 1 + 1 + 1 + 1 ≤ p + 40; omega⟩, m15.bx 2 _ _ _ _ rfl, by have h1 := m15.own 2 _ rfl rfl; have h2 := m15.apart 2 1 _ _ rfl rfl (by decide) rfl; exact h1.resolve_right (fun hb => h2 (by simpa using hb)), m15.keep, m15.bx 1 _ _ _ _ rfl⟩
 ·
  have hd1p := of_decide_eq_true hd1
  refine wr [1] e9 m5 [(12, zT)] [] (vb (hd1) vl0) fun a10 w6 e10 m6 => ?_
  refine wl_end (wp_condT (he := e10) rfl (wp_skip (then_normal (wp_seq (wp_block (wp_seqR ?_))))))
  refine wb 1 e10 [(15, zP B 0)] fun a11 e11 => ?_
  refine kb e11 m6 4 42 5 3 (#[zI 0, zI 0, zI 1, zI 2, zI 11]) (vs := #[(0, .int .i64 (0)), (1, .int .i64 (0)), (2, .int .i64 (1)), (3, .int .i64 (2)), (4, .int .i64 (11))]) (by kernel_rfl) fun a12 w7 b4 e12 m7 => ?_
  refine kd e12 m7 1 (d_one (h.kb m7.keep (m7.bx 1 _ _ _ _ rfl)) (by omega) b4 [0, 0, 1, 2, 11] _ (m7.bx 4 _ _ _ _ rfl) rfl (m7.apart 4 1 _ _ rfl rfl (by decide) rfl) (by decide) (by decide) _ rfl) fun d2 a13 w8 hd2 e13 m8 => ?_
  have hd2b : 0 ≤ d2 ∧ d2 ≤ 4294967295 := by simp at hd2; omega
  obtain ⟨d2n, rfl⟩ := Int.eq_ofNat_of_zero_le hd2b.1
  have hd2c : d2n ≤ 11 := by simp at hd2; omega
  refine wb 1 e13 [(18, zP B 0)] fun a14 e14 => ?_
  refine kd e14 m8 1 (d_pick (h.kb m8.keep (m8.bx 1 _ _ _ _ rfl)) (by omega) 4 (by omega) (by omega)) fun d3 a15 w9 hd3 e15 m9 => ?_
  refine wr [1, 0] e15 m9 [(21, zP B 0), (20, zN (12 + d3))] [] (vn 12 d3 vl0) fun a16 w10 e16 m10 => ?_
  refine kb e16 m10 5 42 10 3 (#[zI 0, zI 1, zI 2, zI 3, zI 7, zI 9, zI 10, zI 200, zI 254, zI 255]) (vs := #[(0, .int .i64 (0)), (1, .int .i64 (1)), (2, .int .i64 (2)), (3, .int .i64 (3)), (4, .int .i64 (7)), (5, .int .i64 (9)), (6, .int .i64 (10)), (7, .int .i64 (200)), (8, .int .i64 (254)), (9, .int .i64 (255))]) (by kernel_rfl) fun a17 w11 b5 e17 m11 => ?_
  refine kd e17 m11 1 (d_one (h.kb m11.keep (m11.bx 1 _ _ _ _ rfl)) (by omega) b5 [0, 1, 2, 3, 7, 9, 10, 200, 254, 255] _ (m11.bx 5 _ _ _ _ rfl) rfl (m11.apart 5 1 _ _ rfl rfl (by decide) rfl) (by decide) (by decide) _ rfl) fun d4 a18 w12 hd4 e18 m12 => ?_
  have hd4b : 0 ≤ d4 ∧ d4 ≤ 4294967295 := by simp at hd4; omega
  obtain ⟨d4n, rfl⟩ := Int.eq_ofNat_of_zero_le hd4b.1
  have hd4c : d4n ≤ 255 := by simp at hd4; omega
  refine wb 1 e18 [(24, zP B 0)] fun a19 e19 => ?_
  refine kd e19 m12 1 (d_pick (h.kb m12.keep (m12.bx 1 _ _ _ _ rfl)) (by omega) 3 (by omega) (by omega)) fun d5 a20 w13 hd5 e20 m13 => ?_
  refine kv e20 (.agg (Ru.arr ((⟨((d2n : Nat) : Int), ((12 + d3 : Nat) : Int), ((d4n : Nat) : Int), ((d5 : Nat) : Int), 0⟩ : Ru)))) (rn_build _ _ rfl #[(0, .int .i64 (((d2n : Nat) : Int))), (1, .int .i64 (((12 + d3 : Nat) : Int))), (2, .int .i64 (((d4n : Nat) : Int))), (3, .int .i64 (((d5 : Nat) : Int)))] (pmap4 (e20.tmp 17 _ rfl) (e20.tmp 20 _ rfl) (e20.tmp 23 _ rfl) (e20.tmp 25 _ rfl)) _ (by kernel_rfl)) fun a21 e21 => ?_
  refine ka e21 m13 6 30 (.agg #[.int .i64 0, .int .i64 0, .int .i64 0, .int .i64 0, .int .i64 0]) (Ru.arr ((⟨0, 0, 0, 0, 0⟩ : Ru))) fun a22 w14 b6 e22 m14 => ?_
  refine ks e22 m14 6 agg30.sz (0) (.agg (Ru.arr ((⟨((d2n : Nat) : Int), ((12 + d3 : Nat) : Int), ((d4n : Nat) : Int), ((d5 : Nat) : Int), 0⟩ : Ru)))) (Ru.arr ((⟨((d2n : Nat) : Int), ((12 + d3 : Nat) : Int), ((d4n : Nat) : Int), ((d5 : Nat) : Int), 0⟩ : Ru))) (hc := (Ru.one _)) (hA := (by kernel_rfl)) fun w15 m15 => ?_
  refine wl_end (wp_seq (wp_seqR ?_))
  refine wr [0, 8] e22 m15 [(28, zN d5), (27, zP b6 3)] [b6] vl0 fun a23 w16 e23 m16 => ?_
  cases hd2 : ((((d5 : Nat) : Int) == 2))
  ·
   have hd2p : ((d5 : Nat) : Int) ≠ 2 := by simpa using hd2
   refine wr [1] e23 m16 [(29, zF)] [] (vb (hd2) vl0) fun a24 w17 e24 m17 => ?_
   refine wl_end (wp_condF (he := e24) rfl (wp_skip (then_normal (wp_region_lit ?_))))
   refine wr [0, 8] e24 m17 [(35, .agg (Ru.arr ((⟨((d2n : Nat) : Int), ((12 + d3 : Nat) : Int), ((d4n : Nat) : Int), ((d5 : Nat) : Int), 0⟩ : Ru)))), (34, zS ob on oc)] [b6] vl0 fun a25 w18 e25 m18 => ?_
   refine kb e25 m18 7 23 1 30 ((cellsOf Ru.arr [(⟨((d2n : Nat) : Int), ((12 + d3 : Nat) : Int), ((d4n : Nat) : Int), ((d5 : Nat) : Int), 0⟩ : Ru)]).toArray) (vs := #[(0, .agg (Ru.arr ((⟨((d2n : Nat) : Int), ((12 + d3 : Nat) : Int), ((d4n : Nat) : Int), ((d5 : Nat) : Int), 0⟩ : Ru))))]) (by kernel_rfl) fun a26 w19 b7 e26 m19 => ?_
   have rw7_0 : Rw ((cellsOf Ru.arr [(⟨((d2n : Nat) : Int), ((12 + d3 : Nat) : Int), ((d4n : Nat) : Int), ((d5 : Nat) : Int), 0⟩ : Ru)]).toArray) 1 1 5 (cellsOf Ru.arr ([(⟨((d2n : Nat) : Int), ((12 + d3 : Nat) : Int), ((d4n : Nat) : Int), ((d5 : Nat) : Int), 0⟩ : Ru)])) := Rw.lits RuSz [(⟨((d2n : Nat) : Int), ((12 + d3 : Nat) : Int), ((d4n : Nat) : Int), ((d5 : Nat) : Int), 0⟩ : Ru)] (by simp [maxLen])
   refine kpR e26 m19 2 7 el30 horw rw7_0 (cellsOf_one Ru.one _) fun a27 w20 b2_27 cap2_27 cur2_27 e27 m20 rw2_27 => ?_
   replace rw2_27 := rw2_27.app
   refine wb 1 e27 [(3, zS b2_27 (on + 1) cap2_27)] fun a28 e28 => ?_
   refine wpList_nil (in_normal (then_normal (wp_region_lit ?_)))
   refine wb 1 e28 [(13, zN k)] fun a29 e29 => ?_
   refine kv e29 (zN (k - 1)) (rn_bin _ _ _ _ _ rfl .i64 _ _ (e29.tmp 13 _ rfl) rfl (.int .i64 (IntKind.wrap .i64 (((k : Nat) : Int) - 1))) _ rfl (subN (i := k) (c := 1) .i64 (by omega) (by rw [IntKind.wrap_i64]; omega))) fun a30 e30 => ?_
   refine wb 1 e30 [(4, zN (k - 1))] fun a31 e31 => ?_
   refine wpList_nil ?_
   exact ⟨1 * (k - 1), by omega, k - 1, (o) ++ ([(⟨((d2n : Nat) : Int), ((12 + d3 : Nat) : Int), ((d4n : Nat) : Int), ((d5 : Nat) : Int), 0⟩ : Ru)]), on + 1, b2_27, cap2_27, cur2_27, q + 1 + 1 + 1 + 1, rfl, ⟨by simp [hon], by omega, rw2_27, by omega⟩, e31.sb, m20.sb⟩
  ·
   have hd2p : ((d5 : Nat) : Int) = 2 := by simpa using hd2
   refine wr [1] e23 m16 [(29, zT)] [] (vb (hd2) vl0) fun a24 w17 e24 m17 => ?_
   refine wl_end (wp_condT (he := e24) rfl (wp_region_lit ?_))
   refine wb 1 e24 [(30, zP B 0)] fun a25 e25 => ?_
   refine kb e25 m17 7 42 7 3 (#[zI 0, zI 1, zI 2, zI 3, zI 7, zI 9, zI 4294967295]) (vs := #[(0, .int .i64 (0)), (1, .int .i64 (1)), (2, .int .i64 (2)), (3, .int .i64 (3)), (4, .int .i64 (7)), (5, .int .i64 (9)), (6, .int .i64 (4294967295))]) (by kernel_rfl) fun a26 w18 b7 e26 m18 => ?_
   refine kd e26 m18 1 (d_one (h.kb m18.keep (m18.bx 1 _ _ _ _ rfl)) (by omega) b7 [0, 1, 2, 3, 7, 9, 4294967295] _ (m18.bx 7 _ _ _ _ rfl) rfl (m18.apart 7 1 _ _ rfl rfl (by decide) rfl) (by decide) (by decide) _ rfl) fun d6 a27 w19 hd6 e27 m19 => ?_
   have hd6b : 0 ≤ d6 ∧ d6 ≤ 4294967295 := by simp at hd6; omega
   obtain ⟨d6n, rfl⟩ := Int.eq_ofNat_of_zero_le hd6b.1
   have hd6c : d6n ≤ 4294967295 := by simp at hd6; omega
   refine wr [0] e27 m19 [(33, zP b6 4)] [] vl0 fun a28 w20 e28 m20 => ?_
   refine ks e28 m20 6 one3.sz (4) (.int .i64 (((d6n : Nat) : Int))) (Ru.arr ((⟨((d2n : Nat) : Int), ((12 + d3 : Nat) : Int), ((d4n : Nat) : Int), ((d5 : Nat) : Int), ((d6n : Nat) : Int)⟩ : Ru))) (hin := (by show 4 + 1 ≤ 5; decide)) (hA := (by kernel_rfl)) fun w21 m21 => ?_
   refine wpList_nil (then_normal (wp_region_lit ?_))
   refine wr [0, 8] e28 m21 [(35, .agg (Ru.arr ((⟨((d2n : Nat) : Int), ((12 + d3 : Nat) : Int), ((d4n : Nat) : Int), ((d5 : Nat) : Int), ((d6n : Nat) : Int)⟩ : Ru)))), (34, zS ob on oc)] [b6] vl0 fun a29 w22 e29 m22 => ?_
   refine kb e29 m22 8 23 1 30 ((cellsOf Ru.arr [(⟨((d2n : Nat) : Int), ((12 + d3 : Nat) : Int), ((d4n : Nat) : Int), ((d5 : Nat) : Int), ((d6n : Nat) : Int)⟩ : Ru)]).toArray) (vs := #[(0, .agg (Ru.arr ((⟨((d2n : Nat) : Int), ((12 + d3 : Nat) : Int), ((d4n : Nat) : Int), ((d5 : Nat) : Int), ((d6n : Nat) : Int)⟩ : Ru))))]) (by kernel_rfl) fun a30 w23 b8 e30 m23 => ?_
   have rw8_0 : Rw ((cellsOf Ru.arr [(⟨((d2n : Nat) : Int), ((12 + d3 : Nat) : Int), ((d4n : Nat) : Int), ((d5 : Nat) : Int), ((d6n : Nat) : Int)⟩ : Ru)]).toArray) 1 1 5 (cellsOf Ru.arr ([(⟨((d2n : Nat) : Int), ((12 + d3 : Nat) : Int), ((d4n : Nat) : Int), ((d5 : Nat) : Int), ((d6n : Nat) : Int)⟩ : Ru)])) := Rw.lits RuSz [(⟨((d2n : Nat) : Int), ((12 + d3 : Nat) : Int), ((d4n : Nat) : Int), ((d5 : Nat) : Int), ((d6n : Nat) : Int)⟩ : Ru)] (by simp [maxLen])
   refine kpR e30 m23 2 8 el30 horw rw8_0 (cellsOf_one Ru.one _) fun a31 w24 b2_31 cap2_31 cur2_31 e31 m24 rw2_31 => ?_
   replace rw2_31 := rw2_31.app
   refine wb 1 e31 [(3, zS b2_31 (on + 1) cap2_31)] fun a32 e32 => ?_
   refine wpList_nil (in_normal (then_normal (wp_region_lit ?_)))
   refine wb 1 e32 [(13, zN k)] fun a33 e33 => ?_
   refine kv e33 (zN (k - 1)) (rn_bin _ _ _ _ _ rfl .i64 _ _ (e33.tmp 13 _ rfl) rfl (.int .i64 (IntKind.wrap .i64 (((k : Nat) : Int) - 1))) _ rfl (subN (i := k) (c := 1) .i64 (by omega) (by rw [IntKind.wrap_i64]; omega))) fun a34 e34 => ?_
   refine wb 1 e34 [(4, zN (k - 1))] fun a35 e35 => ?_
   refine wpList_nil ?_
   exact ⟨1 * (k - 1), by omega, k - 1, (o) ++ ([(⟨((d2n : Nat) : Int), ((12 + d3 : Nat) : Int), ((d4n : Nat) : Int), ((d5 : Nat) : Int), ((d6n : Nat) : Int)⟩ : Ru)]), on + 1, b2_31, cap2_31, cur2_31, q + 1 + 1 + 1 + 1 + 1, rfl, ⟨by simp [hon], by omega, rw2_31, by omega⟩, e35.sb, m24.sb⟩
end Go.Proofs.Ytkaekiodjjhjkaa.W
namespace Go.Proofs.Ytkaekiodjjhjkaa.W
open Go.RowKit
open Go.Proofs.Ytkaekiodjjhjkaa.H
def u8A (n : Nat) : Array Value := #[.int .u8 ((n : Nat) : Int)]
theorem u8A.sz (n : Nat) : (u8A n).size = 1 := rfl
theorem u8A.one (n : Nat) : (u8A n).all (·.oneCell') = true := by kernel_rfl
def i64A (n : Int) : Array Value := #[.int .i64 n]
theorem i64A.sz (n : Int) : (i64A n).size = 1 := rfl
theorem i64A.one (n : Int) : (i64A n).all (·.oneCell') = true := by kernel_rfl
theorem el5 : ElT Try.prog 22 5 (.int .u8 0) 1 1 := ⟨by kernel_rfl, by kernel_rfl, by kernel_rfl, by decide⟩
theorem el3 : ElT Try.prog 42 3 (.int .i64 0) 1 8 := ⟨by kernel_rfl, by kernel_rfl, by kernel_rfl, by decide⟩
theorem agg44 : AggT Try.prog 44 5 := ⟨fun w => by kernel_rfl, fun w => by kernel_rfl⟩
theorem one42 : OneT Try.prog 42 := ⟨fun w => by kernel_rfl, fun w => by kernel_rfl⟩
theorem wr8 {n : Nat} (h : n < 256) : Value.int .u8 (IntKind.u8.wrap (n : Int)) = .int .u8 (n : Int) := by rw [show IntKind.u8.wrap (n : Int) = (n : Int) by simp [IntKind.wrap, IntKind.bits, IntKind.signed]; omega]
theorem cv_bytes {w : World} {b n cap : Nat} {cur : Array Value} {l : List Nat} (hx : BX w b 5 cur) (rw_ : Rw cur n cap 1 (cellsOf u8A l)) (hn : n = l.length) : (convert 22 9 (.slice (some ⟨b, 0, none⟩) n cap)).run Try.prog w = .ok (.string (strOfNums (l.map fun n : Nat => (n : Int)))) w := by
 subst hn
 refine run_convert_bytes_arg (P := Try.prog) w 22 5 Try.underlying22 Try.underlying5 b 0 l.length cap (l.map fun n : Nat => (n : Int)) (by simp) (fun i hi => ?_) 9 Try.underlying9
 have hg := cellsOf_get u8A.sz l i 0 _ (List.getElem?_eq_getElem hi) (by omega)
 rw [Nat.zero_add, hx.cell]
 refine rw_.get i _ ?_
 have e : (cellsOf u8A l)[i * 1 + 0]? = some (.int .u8 ((l[i] : Nat) : Int)) := hg
 simpa [List.getD, hi] using e
theorem rn_cvs {P : Program} {op : Oper} {a : Act} {w : World} (T U : TypeId) (x : Operand) (ho : op.op = .convert T U x) (v u : Value) (hx : a.eval x = v) (hr : (convert T U v).run P w = .ok u w) : (execOp a.eval op).run P w = .ok (.value u) w := by
 unfold execOp
 simp only [ho, hx, Sem.run_bind, hr]; rfl
theorem sz_nums (l : List Nat) : (strOfNums (l.map fun n : Nat => (n : Int))).size = l.length := by simp [strOfNums, ByteArray.size]
theorem d_tables {w0 : World} {B : Nat} {a : Option Addr} {len cap p : Nat} (w : World) (h : RS w0 w B a len cap p) (hp : p ≤ 700000) :
 Calls Try.prog 31 #[.pointer (some ⟨B, 0, none⟩)] w fun e w' => Draws w B (fun x : Option Addr × Nat × Nat × Nat => .slice x.1 x.2.1 x.2.2.1) 67 (fun x => rdA a len cap x.2.2.2) (fun x => x.2.2.2 ≤ p + 90) e w' := by
 refine calls_begin Try.func31 rfl 17 rfl (Nat.le_of_ble_eq_true rfl) [(0, .pointer (some ⟨B, 0, none⟩))] ⟨rfl, trivial⟩ (fun a0 e0 m0 => ?_)
 have m1 := MM.start1 (w := w) 1 h.bx
 refine wp_seqR ?_
 refine wb 1 e0 [(2, .slice none 0 0)] fun a1 e1 => ?_
 refine wl_end (wp_seqR ?_)
 refine wb 1 e1 [(4, zP B 0)] fun a2 e2 => ?_
 refine kd e2 m1 1 (d_table (h.kb m1.keep (m1.bx 1 _ _ _ _ rfl)) (by omega)) fun d1 a3 w2 hd1 e3 m2 => ?_
 have hd1b : d1.2.2.2 ≤ p + 40 := hd1
 refine wb 1 e3 [(6, zP B 0)] fun a4 e4 => ?_
 refine kd e4 m2 1 (d_table (h.kb m2.keep (m2.bx 1 _ _ _ _ rfl)) (by omega)) fun d2 a5 w3 hd2 e5 m3 => ?_
 have hd2b : d2.2.2.2 ≤ d1.2.2.2 + 40 := hd2
 refine kb e5 m3 2 41 2 89 (#[zI d1.1.1, zI d1.1.2.1, zI d1.1.2.2, .slice d1.2.1.1 d1.2.1.2.1 d1.2.1.2.2, .slice d1.2.2.1.1 d1.2.2.1.2.1 d1.2.2.1.2.2, zI d2.1.1, zI d2.1.2.1, zI d2.1.2.2, .slice d2.2.1.1 d2.2.1.2.1 d2.2.1.2.2, .slice d2.2.2.1.1 d2.2.2.1.2.1 d2.2.2.1.2.2]) (vs := #[(0, .agg (#[zI d1.1.1, zI d1.1.2.1, zI d1.1.2.2, .slice d1.2.1.1 d1.2.1.2.1 d1.2.1.2.2, .slice d1.2.2.1.1 d1.2.2.1.2.1 d1.2.2.1.2.2])), (1, .agg (#[zI d2.1.1, zI d2.1.2.1, zI d2.1.2.2, .slice d2.2.1.1 d2.2.1.2.1 d2.2.1.2.2, .slice d2.2.2.1.1 d2.2.2.1.2.1 d2.2.2.1.2.2]))]) (by kernel_rfl) fun a6 w4 b2 e6 m4 => ?_
 refine wb 1 e6 [(3, zS b2 2 2)] fun a7 e7 => ?_
 refine wl_end (wp_seq (wp_seqR ?_))
 refine wb 1 e7 [(9, zP B 0)] fun a8 e8 => ?_
 refine kd e8 m4 1 (d_pick (h.kb m4.keep (m4.bx 1 _ _ _ _ rfl)) (by omega) 6 (by omega) (by omega)) fun d3 a9 w5 hd3 e9 m5 => ?_
 cases hd1 : ((((d3 : Nat) : Int) == 0))
 ·
  have hd1p : ((d3 : Nat) : Int) ≠ 0 := by simpa using hd1
  refine wr [1] e9 m5 [(11, zF)] [] (vb (hd1) vl0) fun a10 w6 e10 m6 => ?_
  refine wl_end (wp_condF (he := e10) rfl (wp_skip (then_normal (wp_seqR ?_))))
  refine wb 2 e10 [(2, zS b2 2 2), (16, zS b2 2 2)] fun a11 e11 => ?_
  refine wl_end (wp_ret ?_)
  exact bodyPost_ret (results_tmp e11 _ Try.results31 (.slice (some ⟨b2, 0, none⟩) (2) (2)) rfl) e11.defers ⟨(some ⟨b2, 0, none⟩, 2, 2, d2.2.2.2 + 1), rfl, (by show d2.2.2.2 + 1 ≤ p + 90; omega), m6.keep, m6.bx 1 _ _ _ _ rfl⟩
 ·
  have hd1p : ((d3 : Nat) : Int) = 0 := by simpa using hd1
  refine wr [1] e9 m5 [(11, zT)] [] (vb (hd1) vl0) fun a10 w6 e10 m6 => ?_
  refine wl_end (wp_condT (he := e10) rfl (wp_seqR ?_))
  refine wb 2 e10 [(13, zP B 0), (12, zS b2 2 2)] fun a11 e11 => ?_
  refine kd e11 m6 1 (d_pick (h.kb m6.keep (m6.bx 1 _ _ _ _ rfl)) (by omega) 2 (by omega) (by omega)) fun d4 a12 w7 hd4 e12 m7 => ?_
  rcases (by omega : d4 = 0 ∨ d4 = 1) with hv | hv
  ·
   refine kv e12 (.slice (some ⟨b2, 0, none⟩) 0 2) (rn_slc _ _ _ rfl _ _ (.slice (some ⟨b2, 0, none⟩) 0 2) (e12.tmp 12 _ rfl) (e12.tmp 14 _ rfl) (by rw [hv]; kernel_rfl)) fun a13 e13 => ?_
   refine wb 1 e13 [(2, .slice (some ⟨b2, 0, none⟩) 0 2)] fun a14 e14 => ?_
   refine wl_end (wp_ret (ret_then ?_))
   exact bodyPost_ret (results_tmp e14 _ Try.results31 (.slice (some ⟨b2, 0, none⟩) 0 2) rfl) e14.defers ⟨(some ⟨b2, 0, none⟩, 0, 2, d2.2.2.2 + 1 + 1), rfl, (by show d2.2.2.2 + 1 + 1 ≤ p + 90; omega), m7.keep, m7.bx 1 _ _ _ _ rfl⟩
  ·
   refine kv e12 (.slice (some ⟨b2, 0, none⟩) 1 2) (rn_slc _ _ _ rfl _ _ (.slice (some ⟨b2, 0, none⟩) 1 2) (e12.tmp 12 _ rfl) (e12.tmp 14 _ rfl) (by rw [hv]; kernel_rfl)) fun a13 e13 => ?_
   refine wb 1 e13 [(2, .slice (some ⟨b2, 0, none⟩) 1 2)] fun a14 e14 => ?_
   refine wl_end (wp_ret (ret_then ?_))
   exact bodyPost_ret (results_tmp e14 _ Try.results31 (.slice (some ⟨b2, 0, none⟩) 1 2) rfl) e14.defers ⟨(some ⟨b2, 0, none⟩, 1, 2, d2.2.2.2 + 1 + 1), rfl, (by show d2.2.2.2 + 1 + 1 ≤ p + 90; omega), m7.keep, m7.bx 1 _ _ _ _ rfl⟩
structure StX where
 prog : Value
 came : ByteArray
 tabs : Value
 rands : Value
 socks : Value
 q : Nat
theorem d_start {w0 : World} {B : Nat} {a : Option Addr} {len cap p : Nat} (w : World) (h : RS w0 w B a len cap p) (hp : p ≤ 100000) :
 Calls Try.prog 16 #[.pointer (some ⟨B, 0, none⟩)] w fun e w' => Draws w B (fun x : StX => .agg #[x.prog, .string x.came, x.tabs, x.rands, x.socks]) 67 (fun x => rdA a len cap x.q) (fun x => x.came.size = 12 ∧ x.q ≤ p + 700) e w' := by
 refine calls_begin Try.func16 rfl 57 rfl (Nat.le_of_ble_eq_true rfl) [(0, .pointer (some ⟨B, 0, none⟩))] ⟨rfl, trivial⟩ (fun a0 e0 m0 => ?_)
 have m1 := MM.start1 (w := w) 1 h.bx
 refine wp_seqR ?_
 refine ka e0 m1 2 44 (.agg #[.slice none 0 0, .string ⟨#[]⟩, .slice none 0 0, .slice none 0 0, .slice none 0 0]) (#[.slice none 0 0, .string (⟨#[]⟩), .slice none 0 0, .slice none 0 0, .slice none 0 0]) fun a1 w2 b2 e1 m2 => ?_
 refine wl_end (wp_seqR ?_)
 refine wb 1 e1 [(8, zP B 0)] fun a2 e2 => ?_
 refine kd e2 m2 1 (d_prog (h.kb m2.keep (m2.bx 1 _ _ _ _ rfl)) (by omega)) fun d1 a3 w3 hd1 e3 m3 => ?_
 have hd1b : d1.2.2.2 ≤ p + 450 := hd1
 refine wb 1 e3 [(10, zP B 0)] fun a4 e4 => ?_
 refine kd e4 m3 1 (d_tables _ (h.kb m3.keep (m3.bx 1 _ _ _ _ rfl)) (by omega)) fun d2 a5 w4 hd2 e5 m4 => ?_
 have hd2b : d2.2.2.2 ≤ d1.2.2.2 + 90 := hd2
 refine kv e5 (.agg (#[.slice d1.1 d1.2.1 d1.2.2.1, .string (⟨#[]⟩), .slice d2.1 d2.2.1 d2.2.2.1, .slice none 0 0, .slice none 0 0])) (rn_build _ _ rfl #[(0, .slice d1.1 d1.2.1 d1.2.2.1), (2, .slice d2.1 d2.2.1 d2.2.2.1)] (pmap2 (e5.tmp 9 _ rfl) (e5.tmp 11 _ rfl)) _ (by kernel_rfl)) fun a6 e6 => ?_
 refine ka e6 m4 3 44 (.agg #[.slice none 0 0, .string ⟨#[]⟩, .slice none 0 0, .slice none 0 0, .slice none 0 0]) (#[.slice none 0 0, .string (⟨#[]⟩), .slice none 0 0, .slice none 0 0, .slice none 0 0]) fun a7 w5 b3 e7 m5 => ?_
 refine wm [5] e7 m5 [] [(3, zE b3 44 (#[.slice d1.1 d1.2.1 d1.2.2.1, .string (⟨#[]⟩), .slice d2.1 d2.2.1 d2.2.2.1, .slice none 0 0, .slice none 0 0]))] [b3] vl0 fun a8 w6 e8 m6 => ?_
 refine wl_end (wp_seqR ?_)
 refine kb e8 m6 4 22 0 5 ((cellsOf u8A []).toArray) (vs := #[]) (by kernel_rfl) fun a9 w7 b4 e9 m7 => ?_
 have rw4_0 : Rw ((cellsOf u8A []).toArray) 0 0 1 (cellsOf u8A ([])) := Rw.lits u8A.sz [] (by simp [maxLen])
 refine wb 1 e9 [(4, zS b4 0 0)] fun a10 e10 => ?_
 refine wl_end (wp_seq (wp_seqR ?_))
 refine wb 1 e10 [(5, zI 0)] fun a11 e11 => ?_
 refine wl_end (wp_block ?_)
 refine wp_loopN (fun mz az wz => ∃ (i : Nat), ∃ (o : List Nat), ∃ (on : Nat), ∃ (ob : Nat), ∃ (oc : Nat), ∃ (oa : Array Value), ∃ (q : Nat), mz = 12 - (i) ∧ (i ≤ 12 ∧ on = (o).length ∧ on = i ∧ Rw (oa) (on) (oc) 1 (cellsOf u8A (o)) ∧ q ≤ p + 540 + i) ∧ EV az 57 [] [(0, .pointer (some ⟨B, 0, none⟩)), (2, .pointer (some ⟨b2, 0, none⟩)), (8, .pointer (some ⟨B, 0, none⟩)), (9, .slice d1.1 d1.2.1 d1.2.2.1), (10, .pointer (some ⟨B, 0, none⟩)), (11, .slice d2.1 d2.2.1 d2.2.2.1), (12, .agg (#[.slice d1.1 d1.2.1 d1.2.2.1, .string (⟨#[]⟩), .slice d2.1 d2.2.1 d2.2.2.1, .slice none 0 0, .slice none 0 0])), (3, .pointer (some ⟨b3, 0, none⟩)), (13, .slice (some ⟨b4, 0, none⟩) (0) (0)), (5, .int .i64 (((i : Nat) : Int))), (4, .slice (some ⟨ob, 0, none⟩) (on) (oc))] ∧ MM [B] w wz [(1, ⟨true, B, 67, rdA a len cap (q)⟩), (2, ⟨true, b2, 44, #[.slice none 0 0, .string (⟨#[]⟩), .slice none 0 0, .slice none 0 0, .slice none 0 0]⟩), (3, ⟨true, b3, 44, #[.slice d1.1 d1.2.1 d1.2.2.1, .string (⟨#[]⟩), .slice d2.1 d2.2.1 d2.2.2.1, .slice none 0 0, .slice none 0 0]⟩), (4, ⟨true, ob, 5, oa⟩)]) ⟨_, 0, [], 0, b4, 0, (cellsOf u8A []).toArray, d2.2.2.2, rfl, ⟨by omega, rfl, rfl, rw4_0, by omega⟩, e11.sb, m7.sb⟩ ?_
 rintro mz1 a12 w8 ⟨i, o, on, ob, oc, oa, q, rfl, hrel1, e12, m8⟩
 obtain ⟨hi, hcn, hci, horw, hq⟩ := hrel1
 refine wp_seq (wp_seqR ?_)
 refine wb 1 e12 [(14, zN i)] fun a13 e13 => ?_
 cases hd1 : (decide (((i : Nat) : Int) < 12))
 ·
  have hd1p := of_decide_eq_false hd1
  refine wr [1] e13 m8 [(15, zF)] [] (vb (hd1) vl0) fun a14 w9 e14 m9 => ?_
  refine wl_end (wp_condF (he := e14) rfl (wp_exit (exit_then (exit_then (exit_here (then_normal (wp_seqR ?_)))))))
  refine wb 1 e14 [(25, zS ob on oc)] fun a15 e15 => ?_
  obtain ⟨z0, hz0⟩ : ∃ z0 : ByteArray, z0 = strOfNums ((o).map fun n : Nat => (n : Int)) := ⟨_, rfl⟩
  have hz12 : z0.size = 12 := by rw [hz0, sz_nums, ← hcn]; omega
  refine kv e15 (.string (z0)) (rn_cvs _ _ _ rfl _ _ (e15.tmp 25 _ rfl) (by rw [hz0]; exact cv_bytes (m9.bx 4 _ _ _ _ rfl) horw hcn)) fun a16 e16 => ?_
  refine wm [0, 5] e16 m9 [(27, zP b3 1)] [(3, zE b3 44 (#[.slice d1.1 d1.2.1 d1.2.2.1, .string (z0), .slice d2.1 d2.2.1 d2.2.2.1, .slice none 0 0, .slice none 0 0]))] [b3] vl0 fun a17 w10 e17 m10 => ?_
  refine wl_end (wp_seq (wp_seqR ?_))
  refine wb 1 e17 [(28, zP B 0)] fun a18 e18 => ?_
  refine kd e18 m10 1 (d_pick (h.kb m10.keep (m10.bx 1 _ _ _ _ rfl)) (by omega) 3 (by omega) (by omega)) fun d3 a19 w11 hd3 e19 m11 => ?_
  refine wr [1, 0] e19 m11 [(6, zN (1 + d3)), (30, zN (1 + d3))] [] (vn 1 d3 vl0) fun a20 w12 e20 m12 => ?_
  refine wl_end (wp_block ?_)
  refine wp_loopN (fun mz az wz => (∃ (kk2 : Nat), ∃ (qq2 : Nat), mz = 1 * kk2 ∧ (kk2 ≤ 3 ∧ qq2 + 3 * kk2 ≤ p + 600) ∧ EV az 57 [] [(0, .pointer (some ⟨B, 0, none⟩)), (2, .pointer (some ⟨b2, 0, none⟩)), (8, .pointer (some ⟨B, 0, none⟩)), (9, .slice d1.1 d1.2.1 d1.2.2.1), (10, .pointer (some ⟨B, 0, none⟩)), (11, .slice d2.1 d2.2.1 d2.2.2.1), (12, .agg (#[.slice d1.1 d1.2.1 d1.2.2.1, .string (⟨#[]⟩), .slice d2.1 d2.2.1 d2.2.2.1, .slice none 0 0, .slice none 0 0])), (3, .pointer (some ⟨b3, 0, none⟩)), (13, .slice (some ⟨b4, 0, none⟩) (0) (0)), (5, .int .i64 (((i : Nat) : Int))), (4, .slice (some ⟨ob, 0, none⟩) (on) (oc)), (14, .int .i64 (((i : Nat) : Int))), (15, .bool false), (25, .slice (some ⟨ob, 0, none⟩) (on) (oc)), (26, .string (z0)), (27, .pointer (some ⟨b3, 1, none⟩)), (28, .pointer (some ⟨B, 0, none⟩)), (29, .int .i64 (((d3 : Nat) : Int))), (30, .int .i64 (((1 + d3 : Nat) : Int))), (6, .int .i64 (((kk2 : Nat) : Int)))] ∧ MM [B] w wz [(1, ⟨true, B, 67, rdA a len cap (qq2)⟩), (2, ⟨true, b2, 44, #[.slice none 0 0, .string (⟨#[]⟩), .slice none 0 0, .slice none 0 0, .slice none 0 0]⟩), (3, ⟨true, b3, 44, #[.slice d1.1 d1.2.1 d1.2.2.1, .string (z0), .slice d2.1 d2.2.1 d2.2.2.1, .slice none 0 0, .slice none 0 0]⟩), (4, ⟨true, ob, 5, oa⟩)]) ∨ (∃ (kk2 : Nat), ∃ (oo2 : List Int), ∃ (nn2 : Nat), ∃ (bb2 : Nat), ∃ (cc2 : Nat), ∃ (aa2 : Array Value), ∃ (qq2 : Nat), mz = 1 * kk2 ∧ (nn2 = (oo2).length ∧ nn2 + kk2 ≤ 3 ∧ Rw (aa2) (nn2) (cc2) 1 (cellsOf i64A (oo2)) ∧ qq2 + 3 * kk2 ≤ p + 600) ∧ EV az 57 [] [(0, .pointer (some ⟨B, 0, none⟩)), (2, .pointer (some ⟨b2, 0, none⟩)), (8, .pointer (some ⟨B, 0, none⟩)), (9, .slice d1.1 d1.2.1 d1.2.2.1), (10, .pointer (some ⟨B, 0, none⟩)), (11, .slice d2.1 d2.2.1 d2.2.2.1), (12, .agg (#[.slice d1.1 d1.2.1 d1.2.2.1, .string (⟨#[]⟩), .slice d2.1 d2.2.1 d2.2.2.1, .slice none 0 0, .slice none 0 0])), (3, .pointer (some ⟨b3, 0, none⟩)), (13, .slice (some ⟨b4, 0, none⟩) (0) (0)), (5, .int .i64 (((i : Nat) : Int))), (4, .slice (some ⟨ob, 0, none⟩) (on) (oc)), (14, .int .i64 (((i : Nat) : Int))), (15, .bool false), (25, .slice (some ⟨ob, 0, none⟩) (on) (oc)), (26, .string (z0)), (27, .pointer (some ⟨b3, 1, none⟩)), (28, .pointer (some ⟨B, 0, none⟩)), (29, .int .i64 (((d3 : Nat) : Int))), (30, .int .i64 (((1 + d3 : Nat) : Int))), (6, .int .i64 (((kk2 : Nat) : Int)))] ∧ MM [B] w wz [(1, ⟨true, B, 67, rdA a len cap (qq2)⟩), (2, ⟨true, b2, 44, #[.slice none 0 0, .string (⟨#[]⟩), .slice none 0 0, .slice none 0 0, .slice none 0 0]⟩), (3, ⟨true, b3, 44, #[.slice d1.1 d1.2.1 d1.2.2.1, .string (z0), .slice d2.1 d2.2.1 d2.2.2.1, zS bb2 nn2 cc2, .slice none 0 0]⟩), (4, ⟨true, ob, 5, oa⟩), (83, ⟨true, bb2, 3, aa2⟩)])) ⟨_, Or.inl ⟨1 + d3, q + 1, rfl, ⟨by omega, by omega⟩, e20.sb, m12.sb⟩⟩ ?_
  rintro mz2 a21 w13 (⟨kk2, qq2, rfl, hrel2, e21, m13⟩ | ⟨kk2, oo2, nn2, bb2, cc2, aa2, qq2, rfl, hrel2, e21, m13⟩)
  ·
   obtain ⟨hk2, hq2⟩ := hrel2
   refine wp_seq (wp_seqR ?_)
   refine wb 1 e21 [(31, zN kk2)] fun a22 e22 => ?_
   cases hd2 : (decide (((kk2 : Nat) : Int) > 0))
   ·
    have hd2p := of_decide_eq_false hd2
    refine wr [1] e22 m13 [(32, zF)] [] (vb (hd2) vl0) fun a23 w14 e23 m14 => ?_
    refine wl_end (wp_condF (he := e23) rfl (wp_exit (exit_then (exit_then (exit_here (then_normal (wp_seq (wp_seqR ?_))))))))
    refine wb 1 e23 [(42, zP B 0)] fun a24 e24 => ?_
    refine kd e24 m14 1 (d_pick (h.kb m14.keep (m14.bx 1 _ _ _ _ rfl)) (by omega) 4 (by omega) (by omega)) fun d4 a25 w15 hd4 e25 m15 => ?_
    refine wb 1 e25 [(7, zN d4)] fun a26 e26 => ?_
    refine wl_end (wp_block ?_)
    refine wp_loopN (fun mz az wz => (∃ (kk3 : Nat), ∃ (qq3 : Nat), mz = 1 * kk3 ∧ (kk3 ≤ 3 ∧ qq3 + 1 * kk3 ≤ p + 650) ∧ EV az 57 [] [(0, .pointer (some ⟨B, 0, none⟩)), (2, .pointer (some ⟨b2, 0, none⟩)), (8, .pointer (some ⟨B, 0, none⟩)), (9, .slice d1.1 d1.2.1 d1.2.2.1), (10, .pointer (some ⟨B, 0, none⟩)), (11, .slice d2.1 d2.2.1 d2.2.2.1), (12, .agg (#[.slice d1.1 d1.2.1 d1.2.2.1, .string (⟨#[]⟩), .slice d2.1 d2.2.1 d2.2.2.1, .slice none 0 0, .slice none 0 0])), (3, .pointer (some ⟨b3, 0, none⟩)), (13, .slice (some ⟨b4, 0, none⟩) (0) (0)), (5, .int .i64 (((i : Nat) : Int))), (4, .slice (some ⟨ob, 0, none⟩) (on) (oc)), (14, .int .i64 (((i : Nat) : Int))), (15, .bool false), (25, .slice (some ⟨ob, 0, none⟩) (on) (oc)), (26, .string (z0)), (27, .pointer (some ⟨b3, 1, none⟩)), (28, .pointer (some ⟨B, 0, none⟩)), (29, .int .i64 (((d3 : Nat) : Int))), (30, .int .i64 (((1 + d3 : Nat) : Int))), (6, .int .i64 (((kk2 : Nat) : Int))), (31, .int .i64 (((kk2 : Nat) : Int))), (32, .bool false), (42, .pointer (some ⟨B, 0, none⟩)), (43, .int .i64 (((d4 : Nat) : Int))), (7, .int .i64 (((kk3 : Nat) : Int)))] ∧ MM [B] w wz [(1, ⟨true, B, 67, rdA a len cap (qq3)⟩), (2, ⟨true, b2, 44, #[.slice none 0 0, .string (⟨#[]⟩), .slice none 0 0, .slice none 0 0, .slice none 0 0]⟩), (3, ⟨true, b3, 44, #[.slice d1.1 d1.2.1 d1.2.2.1, .string (z0), .slice d2.1 d2.2.1 d2.2.2.1, .slice none 0 0, .slice none 0 0]⟩), (4, ⟨true, ob, 5, oa⟩)]) ∨ (∃ (kk3 : Nat), ∃ (oo3 : List Int), ∃ (nn3 : Nat), ∃ (bb3 : Nat), ∃ (cc3 : Nat), ∃ (aa3 : Array Value), ∃ (qq3 : Nat), mz = 1 * kk3 ∧ (nn3 = (oo3).length ∧ nn3 + kk3 ≤ 3 ∧ Rw (aa3) (nn3) (cc3) 1 (cellsOf i64A (oo3)) ∧ qq3 + 1 * kk3 ≤ p + 650) ∧ EV az 57 [] [(0, .pointer (some ⟨B, 0, none⟩)), (2, .pointer (some ⟨b2, 0, none⟩)), (8, .pointer (some ⟨B, 0, none⟩)), (9, .slice d1.1 d1.2.1 d1.2.2.1), (10, .pointer (some ⟨B, 0, none⟩)), (11, .slice d2.1 d2.2.1 d2.2.2.1), (12, .agg (#[.slice d1.1 d1.2.1 d1.2.2.1, .string (⟨#[]⟩), .slice d2.1 d2.2.1 d2.2.2.1, .slice none 0 0, .slice none 0 0])), (3, .pointer (some ⟨b3, 0, none⟩)), (13, .slice (some ⟨b4, 0, none⟩) (0) (0)), (5, .int .i64 (((i : Nat) : Int))), (4, .slice (some ⟨ob, 0, none⟩) (on) (oc)), (14, .int .i64 (((i : Nat) : Int))), (15, .bool false), (25, .slice (some ⟨ob, 0, none⟩) (on) (oc)), (26, .string (z0)), (27, .pointer (some ⟨b3, 1, none⟩)), (28, .pointer (some ⟨B, 0, none⟩)), (29, .int .i64 (((d3 : Nat) : Int))), (30, .int .i64 (((1 + d3 : Nat) : Int))), (6, .int .i64 (((kk2 : Nat) : Int))), (31, .int .i64 (((kk2 : Nat) : Int))), (32, .bool false), (42, .pointer (some ⟨B, 0, none⟩)), (43, .int .i64 (((d4 : Nat) : Int))), (7, .int .i64 (((kk3 : Nat) : Int)))] ∧ MM [B] w wz [(1, ⟨true, B, 67, rdA a len cap (qq3)⟩), (2, ⟨true, b2, 44, #[.slice none 0 0, .string (⟨#[]⟩), .slice none 0 0, .slice none 0 0, .slice none 0 0]⟩), (3, ⟨true, b3, 44, #[.slice d1.1 d1.2.1 d1.2.2.1, .string (z0), .slice d2.1 d2.2.1 d2.2.2.1, .slice none 0 0, zS bb3 nn3 cc3]⟩), (4, ⟨true, ob, 5, oa⟩), (84, ⟨true, bb3, 3, aa3⟩)])) ⟨_, Or.inl ⟨d4, qq2 + 1, rfl, ⟨by omega, by omega⟩, e26.sb, m15.sb⟩⟩ ?_
    rintro mz3 a27 w16 (⟨kk3, qq3, rfl, hrel3, e27, m16⟩ | ⟨kk3, oo3, nn3, bb3, cc3, aa3, qq3, rfl, hrel3, e27, m16⟩)
    ·
     obtain ⟨hk3, hq3⟩ := hrel3
     refine wp_seq (wp_seqR ?_)
     refine wb 1 e27 [(44, zN kk3)] fun a28 e28 => ?_
     cases hd3 : (decide (((kk3 : Nat) : Int) > 0))
     ·
      have hd3p := of_decide_eq_false hd3
      refine wr [1] e28 m16 [(45, zF)] [] (vb (hd3) vl0) fun a29 w17 e29 m17 => ?_
      refine wl_end (wp_condF (he := e29) rfl (wp_exit (exit_then (exit_then (exit_here (then_normal (wp_seqR ?_)))))))
      refine wm [5, 4] e29 m17 [(56, .agg (#[.slice d1.1 d1.2.1 d1.2.2.1, .string (z0), .slice d2.1 d2.2.1 d2.2.2.1, .slice none 0 0, .slice none 0 0]))] [(2, zE b2 44 (#[.slice d1.1 d1.2.1 d1.2.2.1, .string (z0), .slice d2.1 d2.2.1 d2.2.2.1, .slice none 0 0, .slice none 0 0]))] [b2, b3] vl0 fun a30 w18 e30 m18 => ?_
      refine wl_end (wp_ret ?_)
      exact bodyPost_ret (results_cell e30 m18 _ _ Try.results16 _ rfl 2 rfl 5 agg44 (by first | rfl | assumption)) e30.defers ⟨⟨.slice d1.1 d1.2.1 d1.2.2.1, z0, .slice d2.1 d2.2.1 d2.2.2.1, .slice none 0 0, .slice none 0 0, qq3⟩, rfl, ⟨hz12, by show qq3 ≤ p + 700; omega⟩, m18.keep, m18.bx 1 _ _ _ _ rfl⟩
     ·
      have hd3p := of_decide_eq_true hd3
      refine wr [1] e28 m16 [(45, zT)] [] (vb (hd3) vl0) fun a29 w17 e29 m17 => ?_
      refine wl_end (wp_condT (he := e29) rfl (wp_skip (then_normal (wp_seq (wp_block ?_)))))
      refine wh_begin (by kernel_rfl) m17 [(2, ⟨true, b2, 44, #[.slice none 0 0, .string (⟨#[]⟩), .slice none 0 0, .slice none 0 0, .slice none 0 0]⟩), (4, ⟨true, ob, 5, oa⟩)] ⟨rfl, rfl, trivial⟩ (fun w18 m18 => ?_)
      refine wtd (fuel := 7) [(0, 0), (2, 0)] e29 m18 [(50, zP B 0), (48, zP b3 4)] [] vl0 fun a30 e30 => ?_
      refine up2 (fuel := 6) 1 3 rfl rfl ?_ ?_
      ·
       refine sv e30 m18 (.slice none 0 0) (rn_load1 m18 3 rfl _ _ rfl (4) (e30.tmp 48 _ rfl) one42 _ rfl) fun a31 e31 => ?_
       refine tbb (fuel := 5) 3 rfl e31 m18 5 42 6 3 (#[zI 0, zI 1, zI 2, zI 3, zI 7, zI 9]) (vs := #[(0, .int .i64 (0)), (1, .int .i64 (1)), (2, .int .i64 (2)), (3, .int .i64 (3)), (4, .int .i64 (7)), (5, .int .i64 (9))]) (fun w => by kernel_rfl) (fun _ => ⟨rfl, rfl, trivial⟩) fun a32 w19 b5 e32 m19 => ?_
       refine td (fuel := 4) 4 rfl e32 m19 1 (d_one (h.kb m19.keep (m19.bx 1 _ _ _ _ rfl)) (by omega) b5 [0, 1, 2, 3, 7, 9] _ (m19.bx 5 _ _ _ _ rfl) rfl (m19.apart 5 1 _ _ rfl rfl (by decide) rfl) (by decide) (by decide) _ rfl) (fun _ => ⟨rfl, rfl, trivial⟩) fun d5 a33 w20 hd5 e33 m20 => ?_
       have hd5b : 0 ≤ d5 ∧ d5 ≤ 4294967295 := by simp at hd5; omega
       obtain ⟨d5n, rfl⟩ := Int.eq_ofNat_of_zero_le hd5b.1
       have hd5c : d5n ≤ 9 := by simp at hd5; omega
       refine tbb (fuel := 3) 5 rfl e33 m20 6 42 1 3 ((cellsOf i64A [((d5n : Nat) : Int)]).toArray) (vs := #[(0, .int .i64 (((d5n : Nat) : Int)))]) (fun w => by kernel_rfl) (fun _ => ⟨rfl, rfl, trivial⟩) fun a34 w21 b6 e34 m21 => ?_
       have rw6_0 : Rw ((cellsOf i64A [((d5n : Nat) : Int)]).toArray) 1 1 1 (cellsOf i64A ([((d5n : Nat) : Int)])) := Rw.lits i64A.sz [((d5n : Nat) : Int)] (by simp [maxLen])
       refine tp0R (fuel := 2) 6 rfl e34 m21 84 6 el3 rw6_0 (fun _ _ => ⟨rfl, rfl, trivial⟩) fun a35 w22 b84_35 cap84_35 cur84_35 e35 m22 rw84_35 => ?_
       refine wtd (fuel := 1) [(7, 0)] e35 m22 [(55, zP b3 4)] [] vl0 fun a36 e36 => ?_
       refine ts (fuel := 0) 8 rfl e36 m22 3 one42.sz (4) (.slice (some ⟨b84_35, 0, none⟩) (1) (cap84_35)) (#[.slice d1.1 d1.2.1 d1.2.2.1, .string (z0), .slice d2.1 d2.2.1 d2.2.2.1, .slice none 0 0, zS b84_35 1 cap84_35]) ⟨rfl, rfl, trivial⟩ (hin := (by simp)) (hA := (by kernel_rfl)) fun w23 m23 => ?_
       refine wpAnyH_done (by kernel_rfl) ?_ _
       refine in_normal (then_normal (wp_region_lit ?_))
       refine wb 1 e36 [(46, zN kk3)] fun a37 e37 => ?_
       refine kv e37 (zN (kk3 - 1)) (rn_bin _ _ _ _ _ rfl .i64 _ _ (e37.tmp 46 _ rfl) rfl (.int .i64 (IntKind.wrap .i64 (((kk3 : Nat) : Int) - 1))) _ rfl (subN (i := kk3) (c := 1) .i64 (by omega) (by rw [IntKind.wrap_i64]; omega))) fun a38 e38 => ?_
       refine wb 1 e38 [(7, zN (kk3 - 1))] fun a39 e39 => ?_
       refine wpList_nil ?_
       exact ⟨1 * (kk3 - 1), by omega, Or.inr ⟨kk3 - 1, [((d5n : Nat) : Int)], 1, b84_35, cap84_35, cur84_35, qq3 + 1, rfl, ⟨by simp, by omega, rw84_35, by omega⟩, e39.sb, m23.sb⟩⟩
      ·
       refine sb e30 m18 5 42 6 3 (#[zI 0, zI 1, zI 2, zI 3, zI 7, zI 9]) (vs := #[(0, .int .i64 (0)), (1, .int .i64 (1)), (2, .int .i64 (2)), (3, .int .i64 (3)), (4, .int .i64 (7)), (5, .int .i64 (9))]) (fun w => by kernel_rfl) (fun _ => ⟨rfl, rfl, trivial⟩) fun a31 w19 b5 e31 m19 => ?_
       refine up2 (fuel := 5) 1 4 rfl rfl ?_ ?_
       ·
        refine sv e31 m19 (.slice none 0 0) (rn_load1 m19 3 rfl _ _ rfl (4) (e31.tmp 48 _ rfl) one42 _ rfl) fun a32 e32 => ?_
        refine td (fuel := 4) 4 rfl e32 m19 1 (d_one (h.kb m19.keep (m19.bx 1 _ _ _ _ rfl)) (by omega) b5 [0, 1, 2, 3, 7, 9] _ (m19.bx 5 _ _ _ _ rfl) rfl (m19.apart 5 1 _ _ rfl rfl (by decide) rfl) (by decide) (by decide) _ rfl) (fun _ => ⟨rfl, rfl, trivial⟩) fun d5 a33 w20 hd5 e33 m20 => ?_
        have hd5b : 0 ≤ d5 ∧ d5 ≤ 4294967295 := by simp at hd5; omega
        obtain ⟨d5n, rfl⟩ := Int.eq_ofNat_of_zero_le hd5b.1
        have hd5c : d5n ≤ 9 := by simp at hd5; omega
        refine tbb (fuel := 3) 5 rfl e33 m20 6 42 1 3 ((cellsOf i64A [((d5n : Nat) : Int)]).toArray) (vs := #[(0, .int .i64 (((d5n : Nat) : Int)))]) (fun w => by kernel_rfl) (fun _ => ⟨rfl, rfl, trivial⟩) fun a34 w21 b6 e34 m21 => ?_
        have rw6_0 : Rw ((cellsOf i64A [((d5n : Nat) : Int)]).toArray) 1 1 1 (cellsOf i64A ([((d5n : Nat) : Int)])) := Rw.lits i64A.sz [((d5n : Nat) : Int)] (by simp [maxLen])
        refine tp0R (fuel := 2) 6 rfl e34 m21 84 6 el3 rw6_0 (fun _ _ => ⟨rfl, rfl, trivial⟩) fun a35 w22 b84_35 cap84_35 cur84_35 e35 m22 rw84_35 => ?_
        refine wtd (fuel := 1) [(7, 0)] e35 m22 [(55, zP b3 4)] [] vl0 fun a36 e36 => ?_
        refine ts (fuel := 0) 8 rfl e36 m22 3 one42.sz (4) (.slice (some ⟨b84_35, 0, none⟩) (1) (cap84_35)) (#[.slice d1.1 d1.2.1 d1.2.2.1, .string (z0), .slice d2.1 d2.2.1 d2.2.2.1, .slice none 0 0, zS b84_35 1 cap84_35]) ⟨rfl, rfl, trivial⟩ (hin := (by simp)) (hA := (by kernel_rfl)) fun w23 m23 => ?_
        refine wpAnyH_done (by kernel_rfl) ?_ _
        refine in_normal (then_normal (wp_region_lit ?_))
        refine wb 1 e36 [(46, zN kk3)] fun a37 e37 => ?_
        refine kv e37 (zN (kk3 - 1)) (rn_bin _ _ _ _ _ rfl .i64 _ _ (e37.tmp 46 _ rfl) rfl (.int .i64 (IntKind.wrap .i64 (((kk3 : Nat) : Int) - 1))) _ rfl (subN (i := kk3) (c := 1) .i64 (by omega) (by rw [IntKind.wrap_i64]; omega))) fun a38 e38 => ?_
        refine wb 1 e38 [(7, zN (kk3 - 1))] fun a39 e39 => ?_
        refine wpList_nil ?_
        exact ⟨1 * (kk3 - 1), by omega, Or.inr ⟨kk3 - 1, [((d5n : Nat) : Int)], 1, b84_35, cap84_35, cur84_35, qq3 + 1, rfl, ⟨by simp, by omega, rw84_35, by omega⟩, e39.sb, m23.sb⟩⟩
       ·
        refine sd e31 m19 1 (fun _ => ⟨rfl, rfl, trivial⟩) (d_one (h.kb m19.keep (m19.bx 1 _ _ _ _ rfl)) (by omega) b5 [0, 1, 2, 3, 7, 9] _ (m19.bx 5 _ _ _ _ rfl) rfl (m19.apart 5 1 _ _ rfl rfl (by decide) rfl) (by decide) (by decide) _ rfl) fun d5 a32 w20 hd5 e32 m20 => ?_
        have hd5b : 0 ≤ d5 ∧ d5 ≤ 4294967295 := by simp at hd5; omega
        obtain ⟨d5n, rfl⟩ := Int.eq_ofNat_of_zero_le hd5b.1
        have hd5c : d5n ≤ 9 := by simp at hd5; omega
        refine up2 (fuel := 4) 1 5 rfl rfl ?_ ?_
        ·
         refine sv e32 m20 (.slice none 0 0) (rn_load1 m20 3 rfl _ _ rfl (4) (e32.tmp 48 _ rfl) one42 _ rfl) fun a33 e33 => ?_
         refine tbb (fuel := 3) 5 rfl e33 m20 6 42 1 3 ((cellsOf i64A [((d5n : Nat) : Int)]).toArray) (vs := #[(0, .int .i64 (((d5n : Nat) : Int)))]) (fun w => by kernel_rfl) (fun _ => ⟨rfl, rfl, trivial⟩) fun a34 w21 b6 e34 m21 => ?_
         have rw6_0 : Rw ((cellsOf i64A [((d5n : Nat) : Int)]).toArray) 1 1 1 (cellsOf i64A ([((d5n : Nat) : Int)])) := Rw.lits i64A.sz [((d5n : Nat) : Int)] (by simp [maxLen])
         refine tp0R (fuel := 2) 6 rfl e34 m21 84 6 el3 rw6_0 (fun _ _ => ⟨rfl, rfl, trivial⟩) fun a35 w22 b84_35 cap84_35 cur84_35 e35 m22 rw84_35 => ?_
         refine wtd (fuel := 1) [(7, 0)] e35 m22 [(55, zP b3 4)] [] vl0 fun a36 e36 => ?_
         refine ts (fuel := 0) 8 rfl e36 m22 3 one42.sz (4) (.slice (some ⟨b84_35, 0, none⟩) (1) (cap84_35)) (#[.slice d1.1 d1.2.1 d1.2.2.1, .string (z0), .slice d2.1 d2.2.1 d2.2.2.1, .slice none 0 0, zS b84_35 1 cap84_35]) ⟨rfl, rfl, trivial⟩ (hin := (by simp)) (hA := (by kernel_rfl)) fun w23 m23 => ?_
         refine wpAnyH_done (by kernel_rfl) ?_ _
         refine in_normal (then_normal (wp_region_lit ?_))
         refine wb 1 e36 [(46, zN kk3)] fun a37 e37 => ?_
         refine kv e37 (zN (kk3 - 1)) (rn_bin _ _ _ _ _ rfl .i64 _ _ (e37.tmp 46 _ rfl) rfl (.int .i64 (IntKind.wrap .i64 (((kk3 : Nat) : Int) - 1))) _ rfl (subN (i := kk3) (c := 1) .i64 (by omega) (by rw [IntKind.wrap_i64]; omega))) fun a38 e38 => ?_
         refine wb 1 e38 [(7, zN (kk3 - 1))] fun a39 e39 => ?_
         refine wpList_nil ?_
         exact ⟨1 * (kk3 - 1), by omega, Or.inr ⟨kk3 - 1, [((d5n : Nat) : Int)], 1, b84_35, cap84_35, cur84_35, qq3 + 1, rfl, ⟨by simp, by omega, rw84_35, by omega⟩, e39.sb, m23.sb⟩⟩
        ·
         refine sb e32 m20 6 42 1 3 ((cellsOf i64A [((d5n : Nat) : Int)]).toArray) (vs := #[(0, .int .i64 (((d5n : Nat) : Int)))]) (fun w => by kernel_rfl) (fun _ => ⟨rfl, rfl, trivial⟩) fun a33 w21 b6 e33 m21 => ?_
         have rw6_0 : Rw ((cellsOf i64A [((d5n : Nat) : Int)]).toArray) 1 1 1 (cellsOf i64A ([((d5n : Nat) : Int)])) := Rw.lits i64A.sz [((d5n : Nat) : Int)] (by simp [maxLen])
         refine up1 (fuel := 3) 1 rfl ?_
         refine sv e33 m21 (.slice none 0 0) (rn_load1 m21 3 rfl _ _ rfl (4) (e33.tmp 48 _ rfl) one42 _ rfl) fun a34 e34 => ?_
         refine tp0R (fuel := 2) 6 rfl e34 m21 84 6 el3 rw6_0 (fun _ _ => ⟨rfl, rfl, trivial⟩) fun a35 w22 b84_35 cap84_35 cur84_35 e35 m22 rw84_35 => ?_
         refine wtd (fuel := 1) [(7, 0)] e35 m22 [(55, zP b3 4)] [] vl0 fun a36 e36 => ?_
         refine ts (fuel := 0) 8 rfl e36 m22 3 one42.sz (4) (.slice (some ⟨b84_35, 0, none⟩) (1) (cap84_35)) (#[.slice d1.1 d1.2.1 d1.2.2.1, .string (z0), .slice d2.1 d2.2.1 d2.2.2.1, .slice none 0 0, zS b84_35 1 cap84_35]) ⟨rfl, rfl, trivial⟩ (hin := (by simp)) (hA := (by kernel_rfl)) fun w23 m23 => ?_
         refine wpAnyH_done (by kernel_rfl) ?_ _
         refine in_normal (then_normal (wp_region_lit ?_))
         refine wb 1 e36 [(46, zN kk3)] fun a37 e37 => ?_
         refine kv e37 (zN (kk3 - 1)) (rn_bin _ _ _ _ _ rfl .i64 _ _ (e37.tmp 46 _ rfl) rfl (.int .i64 (IntKind.wrap .i64 (((kk3 : Nat) : Int) - 1))) _ rfl (subN (i := kk3) (c := 1) .i64 (by omega) (by rw [IntKind.wrap_i64]; omega))) fun a38 e38 => ?_
         refine wb 1 e38 [(7, zN (kk3 - 1))] fun a39 e39 => ?_
         refine wpList_nil ?_
         exact ⟨1 * (kk3 - 1), by omega, Or.inr ⟨kk3 - 1, [((d5n : Nat) : Int)], 1, b84_35, cap84_35, cur84_35, qq3 + 1, rfl, ⟨by simp, by omega, rw84_35, by omega⟩, e39.sb, m23.sb⟩⟩
    ·
     obtain ⟨hn3, hk3, rw3o, hq3⟩ := hrel3
     refine wp_seq (wp_seqR ?_)
     refine wb 1 e27 [(44, zN kk3)] fun a28 e28 => ?_
     cases hd3 : (decide (((kk3 : Nat) : Int) > 0))
     ·
      have hd3p := of_decide_eq_false hd3
      refine wr [1] e28 m16 [(45, zF)] [] (vb (hd3) vl0) fun a29 w17 e29 m17 => ?_
      refine wl_end (wp_condF (he := e29) rfl (wp_exit (exit_then (exit_then (exit_here (then_normal (wp_seqR ?_)))))))
      refine wm [5, 4] e29 m17 [(56, .agg (#[.slice d1.1 d1.2.1 d1.2.2.1, .string (z0), .slice d2.1 d2.2.1 d2.2.2.1, .slice none 0 0, zS bb3 nn3 cc3]))] [(2, zE b2 44 (#[.slice d1.1 d1.2.1 d1.2.2.1, .string (z0), .slice d2.1 d2.2.1 d2.2.2.1, .slice none 0 0, zS bb3 nn3 cc3]))] [b2, b3] vl0 fun a30 w18 e30 m18 => ?_
      refine wl_end (wp_ret ?_)
      exact bodyPost_ret (results_cell e30 m18 _ _ Try.results16 _ rfl 2 rfl 5 agg44 (by first | rfl | assumption)) e30.defers ⟨⟨.slice d1.1 d1.2.1 d1.2.2.1, z0, .slice d2.1 d2.2.1 d2.2.2.1, .slice none 0 0, .slice (some ⟨bb3, 0, none⟩) (nn3) (cc3), qq3⟩, rfl, ⟨hz12, by show qq3 ≤ p + 700; omega⟩, m18.keep, m18.bx 1 _ _ _ _ rfl⟩
     ·
      have hd3p := of_decide_eq_true hd3
      refine wr [1] e28 m16 [(45, zT)] [] (vb (hd3) vl0) fun a29 w17 e29 m17 => ?_
      refine wl_end (wp_condT (he := e29) rfl (wp_skip (then_normal (wp_seq (wp_block ?_)))))
      refine wh_begin (by kernel_rfl) m17 [(2, ⟨true, b2, 44, #[.slice none 0 0, .string (⟨#[]⟩), .slice none 0 0, .slice none 0 0, .slice none 0 0]⟩), (4, ⟨true, ob, 5, oa⟩)] ⟨rfl, rfl, trivial⟩ (fun w18 m18 => ?_)
      refine wtd (fuel := 7) [(0, 0), (2, 0)] e29 m18 [(50, zP B 0), (48, zP b3 4)] [] vl0 fun a30 e30 => ?_
      refine up2 (fuel := 6) 1 3 rfl rfl ?_ ?_
      ·
       refine sv e30 m18 (.slice (some ⟨bb3, 0, none⟩) (nn3) (cc3)) (rn_load1 m18 3 rfl _ _ rfl (4) (e30.tmp 48 _ rfl) one42 _ rfl) fun a31 e31 => ?_
       refine tbb (fuel := 5) 3 rfl e31 m18 5 42 6 3 (#[zI 0, zI 1, zI 2, zI 3, zI 7, zI 9]) (vs := #[(0, .int .i64 (0)), (1, .int .i64 (1)), (2, .int .i64 (2)), (3, .int .i64 (3)), (4, .int .i64 (7)), (5, .int .i64 (9))]) (fun w => by kernel_rfl) (fun _ => ⟨rfl, rfl, trivial⟩) fun a32 w19 b5 e32 m19 => ?_
       refine td (fuel := 4) 4 rfl e32 m19 1 (d_one (h.kb m19.keep (m19.bx 1 _ _ _ _ rfl)) (by omega) b5 [0, 1, 2, 3, 7, 9] _ (m19.bx 5 _ _ _ _ rfl) rfl (m19.apart 5 1 _ _ rfl rfl (by decide) rfl) (by decide) (by decide) _ rfl) (fun _ => ⟨rfl, rfl, trivial⟩) fun d5 a33 w20 hd5 e33 m20 => ?_
       have hd5b : 0 ≤ d5 ∧ d5 ≤ 4294967295 := by simp at hd5; omega
       obtain ⟨d5n, rfl⟩ := Int.eq_ofNat_of_zero_le hd5b.1
       have hd5c : d5n ≤ 9 := by simp at hd5; omega
       refine tbb (fuel := 3) 5 rfl e33 m20 6 42 1 3 ((cellsOf i64A [((d5n : Nat) : Int)]).toArray) (vs := #[(0, .int .i64 (((d5n : Nat) : Int)))]) (fun w => by kernel_rfl) (fun _ => ⟨rfl, rfl, trivial⟩) fun a34 w21 b6 e34 m21 => ?_
       have rw6_0 : Rw ((cellsOf i64A [((d5n : Nat) : Int)]).toArray) 1 1 1 (cellsOf i64A ([((d5n : Nat) : Int)])) := Rw.lits i64A.sz [((d5n : Nat) : Int)] (by simp [maxLen])
       refine tpR (fuel := 2) 6 rfl e34 m21 84 6 el3 rw3o rw6_0 (cellsOf_one i64A.one _) (fun _ _ => ⟨rfl, rfl, trivial⟩) fun a35 w22 b84_35 cap84_35 cur84_35 e35 m22 rw84_35 => ?_
       replace rw84_35 := rw84_35.app
       refine wtd (fuel := 1) [(7, 0)] e35 m22 [(55, zP b3 4)] [] vl0 fun a36 e36 => ?_
       refine ts (fuel := 0) 8 rfl e36 m22 3 one42.sz (4) (.slice (some ⟨b84_35, 0, none⟩) (nn3 + 1) (cap84_35)) (#[.slice d1.1 d1.2.1 d1.2.2.1, .string (z0), .slice d2.1 d2.2.1 d2.2.2.1, .slice none 0 0, zS b84_35 (nn3 + 1) cap84_35]) ⟨rfl, rfl, trivial⟩ (hin := (by simp)) (hA := (by kernel_rfl)) fun w23 m23 => ?_
       refine wpAnyH_done (by kernel_rfl) ?_ _
       refine in_normal (then_normal (wp_region_lit ?_))
       refine wb 1 e36 [(46, zN kk3)] fun a37 e37 => ?_
       refine kv e37 (zN (kk3 - 1)) (rn_bin _ _ _ _ _ rfl .i64 _ _ (e37.tmp 46 _ rfl) rfl (.int .i64 (IntKind.wrap .i64 (((kk3 : Nat) : Int) - 1))) _ rfl (subN (i := kk3) (c := 1) .i64 (by omega) (by rw [IntKind.wrap_i64]; omega))) fun a38 e38 => ?_
       refine wb 1 e38 [(7, zN (kk3 - 1))] fun a39 e39 => ?_
       refine wpList_nil ?_
       exact ⟨1 * (kk3 - 1), by omega, Or.inr ⟨kk3 - 1, (oo3) ++ ([((d5n : Nat) : Int)]), nn3 + 1, b84_35, cap84_35, cur84_35, qq3 + 1, rfl, ⟨by simp [hn3], by omega, rw84_35, by omega⟩, e39.sb, m23.sb⟩⟩
      ·
       refine sb e30 m18 5 42 6 3 (#[zI 0, zI 1, zI 2, zI 3, zI 7, zI 9]) (vs := #[(0, .int .i64 (0)), (1, .int .i64 (1)), (2, .int .i64 (2)), (3, .int .i64 (3)), (4, .int .i64 (7)), (5, .int .i64 (9))]) (fun w => by kernel_rfl) (fun _ => ⟨rfl, rfl, trivial⟩) fun a31 w19 b5 e31 m19 => ?_
       refine up2 (fuel := 5) 1 4 rfl rfl ?_ ?_
       ·
        refine sv e31 m19 (.slice (some ⟨bb3, 0, none⟩) (nn3) (cc3)) (rn_load1 m19 3 rfl _ _ rfl (4) (e31.tmp 48 _ rfl) one42 _ rfl) fun a32 e32 => ?_
        refine td (fuel := 4) 4 rfl e32 m19 1 (d_one (h.kb m19.keep (m19.bx 1 _ _ _ _ rfl)) (by omega) b5 [0, 1, 2, 3, 7, 9] _ (m19.bx 5 _ _ _ _ rfl) rfl (m19.apart 5 1 _ _ rfl rfl (by decide) rfl) (by decide) (by decide) _ rfl) (fun _ => ⟨rfl, rfl, trivial⟩) fun d5 a33 w20 hd5 e33 m20 => ?_
        have hd5b : 0 ≤ d5 ∧ d5 ≤ 4294967295 := by simp at hd5; omega
        obtain ⟨d5n, rfl⟩ := Int.eq_ofNat_of_zero_le hd5b.1
        have hd5c : d5n ≤ 9 := by simp at hd5; omega
        refine tbb (fuel := 3) 5 rfl e33 m20 6 42 1 3 ((cellsOf i64A [((d5n : Nat) : Int)]).toArray) (vs := #[(0, .int .i64 (((d5n : Nat) : Int)))]) (fun w => by kernel_rfl) (fun _ => ⟨rfl, rfl, trivial⟩) fun a34 w21 b6 e34 m21 => ?_
        have rw6_0 : Rw ((cellsOf i64A [((d5n : Nat) : Int)]).toArray) 1 1 1 (cellsOf i64A ([((d5n : Nat) : Int)])) := Rw.lits i64A.sz [((d5n : Nat) : Int)] (by simp [maxLen])
        refine tpR (fuel := 2) 6 rfl e34 m21 84 6 el3 rw3o rw6_0 (cellsOf_one i64A.one _) (fun _ _ => ⟨rfl, rfl, trivial⟩) fun a35 w22 b84_35 cap84_35 cur84_35 e35 m22 rw84_35 => ?_
        replace rw84_35 := rw84_35.app
        refine wtd (fuel := 1) [(7, 0)] e35 m22 [(55, zP b3 4)] [] vl0 fun a36 e36 => ?_
        refine ts (fuel := 0) 8 rfl e36 m22 3 one42.sz (4) (.slice (some ⟨b84_35, 0, none⟩) (nn3 + 1) (cap84_35)) (#[.slice d1.1 d1.2.1 d1.2.2.1, .string (z0), .slice d2.1 d2.2.1 d2.2.2.1, .slice none 0 0, zS b84_35 (nn3 + 1) cap84_35]) ⟨rfl, rfl, trivial⟩ (hin := (by simp)) (hA := (by kernel_rfl)) fun w23 m23 => ?_
        refine wpAnyH_done (by kernel_rfl) ?_ _
        refine in_normal (then_normal (wp_region_lit ?_))
        refine wb 1 e36 [(46, zN kk3)] fun a37 e37 => ?_
        refine kv e37 (zN (kk3 - 1)) (rn_bin _ _ _ _ _ rfl .i64 _ _ (e37.tmp 46 _ rfl) rfl (.int .i64 (IntKind.wrap .i64 (((kk3 : Nat) : Int) - 1))) _ rfl (subN (i := kk3) (c := 1) .i64 (by omega) (by rw [IntKind.wrap_i64]; omega))) fun a38 e38 => ?_
        refine wb 1 e38 [(7, zN (kk3 - 1))] fun a39 e39 => ?_
        refine wpList_nil ?_
        exact ⟨1 * (kk3 - 1), by omega, Or.inr ⟨kk3 - 1, (oo3) ++ ([((d5n : Nat) : Int)]), nn3 + 1, b84_35, cap84_35, cur84_35, qq3 + 1, rfl, ⟨by simp [hn3], by omega, rw84_35, by omega⟩, e39.sb, m23.sb⟩⟩
       ·
        refine sd e31 m19 1 (fun _ => ⟨rfl, rfl, trivial⟩) (d_one (h.kb m19.keep (m19.bx 1 _ _ _ _ rfl)) (by omega) b5 [0, 1, 2, 3, 7, 9] _ (m19.bx 5 _ _ _ _ rfl) rfl (m19.apart 5 1 _ _ rfl rfl (by decide) rfl) (by decide) (by decide) _ rfl) fun d5 a32 w20 hd5 e32 m20 => ?_
        have hd5b : 0 ≤ d5 ∧ d5 ≤ 4294967295 := by simp at hd5; omega
        obtain ⟨d5n, rfl⟩ := Int.eq_ofNat_of_zero_le hd5b.1
        have hd5c : d5n ≤ 9 := by simp at hd5; omega
        refine up2 (fuel := 4) 1 5 rfl rfl ?_ ?_
        ·
         refine sv e32 m20 (.slice (some ⟨bb3, 0, none⟩) (nn3) (cc3)) (rn_load1 m20 3 rfl _ _ rfl (4) (e32.tmp 48 _ rfl) one42 _ rfl) fun a33 e33 => ?_
         refine tbb (fuel := 3) 5 rfl e33 m20 6 42 1 3 ((cellsOf i64A [((d5n : Nat) : Int)]).toArray) (vs := #[(0, .int .i64 (((d5n : Nat) : Int)))]) (fun w => by kernel_rfl) (fun _ => ⟨rfl, rfl, trivial⟩) fun a34 w21 b6 e34 m21 => ?_
         have rw6_0 : Rw ((cellsOf i64A [((d5n : Nat) : Int)]).toArray) 1 1 1 (cellsOf i64A ([((d5n : Nat) : Int)])) := Rw.lits i64A.sz [((d5n : Nat) : Int)] (by simp [maxLen])
         refine tpR (fuel := 2) 6 rfl e34 m21 84 6 el3 rw3o rw6_0 (cellsOf_one i64A.one _) (fun _ _ => ⟨rfl, rfl, trivial⟩) fun a35 w22 b84_35 cap84_35 cur84_35 e35 m22 rw84_35 => ?_
         replace rw84_35 := rw84_35.app
         refine wtd (fuel := 1) [(7, 0)] e35 m22 [(55, zP b3 4)] [] vl0 fun a36 e36 => ?_
         refine ts (fuel := 0) 8 rfl e36 m22 3 one42.sz (4) (.slice (some ⟨b84_35, 0, none⟩) (nn3 + 1) (cap84_35)) (#[.slice d1.1 d1.2.1 d1.2.2.1, .string (z0), .slice d2.1 d2.2.1 d2.2.2.1, .slice none 0 0, zS b84_35 (nn3 + 1) cap84_35]) ⟨rfl, rfl, trivial⟩ (hin := (by simp)) (hA := (by kernel_rfl)) fun w23 m23 => ?_
         refine wpAnyH_done (by kernel_rfl) ?_ _
         refine in_normal (then_normal (wp_region_lit ?_))
         refine wb 1 e36 [(46, zN kk3)] fun a37 e37 => ?_
         refine kv e37 (zN (kk3 - 1)) (rn_bin _ _ _ _ _ rfl .i64 _ _ (e37.tmp 46 _ rfl) rfl (.int .i64 (IntKind.wrap .i64 (((kk3 : Nat) : Int) - 1))) _ rfl (subN (i := kk3) (c := 1) .i64 (by omega) (by rw [IntKind.wrap_i64]; omega))) fun a38 e38 => ?_
         refine wb 1 e38 [(7, zN (kk3 - 1))] fun a39 e39 => ?_
         refine wpList_nil ?_
         exact ⟨1 * (kk3 - 1), by omega, Or.inr ⟨kk3 - 1, (oo3) ++ ([((d5n : Nat) : Int)]), nn3 + 1, b84_35, cap84_35, cur84_35, qq3 + 1, rfl, ⟨by simp [hn3], by omega, rw84_35, by omega⟩, e39.sb, m23.sb⟩⟩
        ·
         refine sb e32 m20 6 42 1 3 ((cellsOf i64A [((d5n : Nat) : Int)]).toArray) (vs := #[(0, .int .i64 (((d5n : Nat) : Int)))]) (fun w => by kernel_rfl) (fun _ => ⟨rfl, rfl, trivial⟩) fun a33 w21 b6 e33 m21 => ?_
         have rw6_0 : Rw ((cellsOf i64A [((d5n : Nat) : Int)]).toArray) 1 1 1 (cellsOf i64A ([((d5n : Nat) : Int)])) := Rw.lits i64A.sz [((d5n : Nat) : Int)] (by simp [maxLen])
         refine up1 (fuel := 3) 1 rfl ?_
         refine sv e33 m21 (.slice (some ⟨bb3, 0, none⟩) (nn3) (cc3)) (rn_load1 m21 3 rfl _ _ rfl (4) (e33.tmp 48 _ rfl) one42 _ rfl) fun a34 e34 => ?_
         refine tpR (fuel := 2) 6 rfl e34 m21 84 6 el3 rw3o rw6_0 (cellsOf_one i64A.one _) (fun _ _ => ⟨rfl, rfl, trivial⟩) fun a35 w22 b84_35 cap84_35 cur84_35 e35 m22 rw84_35 => ?_
         replace rw84_35 := rw84_35.app
         refine wtd (fuel := 1) [(7, 0)] e35 m22 [(55, zP b3 4)] [] vl0 fun a36 e36 => ?_
         refine ts (fuel := 0) 8 rfl e36 m22 3 one42.sz (4) (.slice (some ⟨b84_35, 0, none⟩) (nn3 + 1) (cap84_35)) (#[.slice d1.1 d1.2.1 d1.2.2.1, .string (z0), .slice d2.1 d2.2.1 d2.2.2.1, .slice none 0 0, zS b84_35 (nn3 + 1) cap84_35]) ⟨rfl, rfl, trivial⟩ (hin := (by simp)) (hA := (by kernel_rfl)) fun w23 m23 => ?_
         refine wpAnyH_done (by kernel_rfl) ?_ _
         refine in_normal (then_normal (wp_region_lit ?_))
         refine wb 1 e36 [(46, zN kk3)] fun a37 e37 => ?_
         refine kv e37 (zN (kk3 - 1)) (rn_bin _ _ _ _ _ rfl .i64 _ _ (e37.tmp 46 _ rfl) rfl (.int .i64 (IntKind.wrap .i64 (((kk3 : Nat) : Int) - 1))) _ rfl (subN (i := kk3) (c := 1) .i64 (by omega) (by rw [IntKind.wrap_i64]; omega))) fun a38 e38 => ?_
         refine wb 1 e38 [(7, zN (kk3 - 1))] fun a39 e39 => ?_
         refine wpList_nil ?_
         exact ⟨1 * (kk3 - 1), by omega, Or.inr ⟨kk3 - 1, (oo3) ++ ([((d5n : Nat) : Int)]), nn3 + 1, b84_35, cap84_35, cur84_35, qq3 + 1, rfl, ⟨by simp [hn3], by omega, rw84_35, by omega⟩, e39.sb, m23.sb⟩⟩
   ·
    have hd2p := of_decide_eq_true hd2
    refine wr [1] e22 m13 [(32, zT)] [] (vb (hd2) vl0) fun a23 w14 e23 m14 => ?_
    refine wl_end (wp_condT (he := e23) rfl (wp_skip (then_normal (wp_seq (wp_block ?_)))))
    refine wh_begin (by kernel_rfl) m14 [(2, ⟨true, b2, 44, #[.slice none 0 0, .string (⟨#[]⟩), .slice none 0 0, .slice none 0 0, .slice none 0 0]⟩), (4, ⟨true, ob, 5, oa⟩)] ⟨rfl, rfl, trivial⟩ (fun w15 m15 => ?_)
    refine wtd (fuel := 6) [(0, 0), (2, 0)] e23 m15 [(37, zP B 0), (35, zP b3 3)] [] vl0 fun a24 e24 => ?_
    refine up2 (fuel := 5) 1 3 rfl rfl ?_ ?_
    ·
     refine sv e24 m15 (.slice none 0 0) (rn_load1 m15 3 rfl _ _ rfl (3) (e24.tmp 35 _ rfl) one42 _ rfl) fun a25 e25 => ?_
     refine td (fuel := 4) 3 rfl e25 m15 1 (d_number (h.kb m15.keep (m15.bx 1 _ _ _ _ rfl)) (by omega)) (fun _ => ⟨rfl, rfl, trivial⟩) fun d4 a26 w16 hd4 e26 m16 => ?_
     have hd4b : d4.2 ≤ qq2 + 3 := hd4
     refine tbb (fuel := 3) 4 rfl e26 m16 5 42 1 3 ((cellsOf i64A [((d4.1 : Nat) : Int)]).toArray) (vs := #[(0, .int .i64 (((d4.1 : Nat) : Int)))]) (fun w => by kernel_rfl) (fun _ => ⟨rfl, rfl, trivial⟩) fun a27 w17 b5 e27 m17 => ?_
     have rw5_0 : Rw ((cellsOf i64A [((d4.1 : Nat) : Int)]).toArray) 1 1 1 (cellsOf i64A ([((d4.1 : Nat) : Int)])) := Rw.lits i64A.sz [((d4.1 : Nat) : Int)] (by simp [maxLen])
     refine tp0R (fuel := 2) 5 rfl e27 m17 83 5 el3 rw5_0 (fun _ _ => ⟨rfl, rfl, trivial⟩) fun a28 w18 b83_28 cap83_28 cur83_28 e28 m18 rw83_28 => ?_
     refine wtd (fuel := 1) [(6, 0)] e28 m18 [(41, zP b3 3)] [] vl0 fun a29 e29 => ?_
     refine ts (fuel := 0) 7 rfl e29 m18 3 one42.sz (3) (.slice (some ⟨b83_28, 0, none⟩) (1) (cap83_28)) (#[.slice d1.1 d1.2.1 d1.2.2.1, .string (z0), .slice d2.1 d2.2.1 d2.2.2.1, zS b83_28 1 cap83_28, .slice none 0 0]) ⟨rfl, rfl, trivial⟩ (hin := (by simp)) (hA := (by kernel_rfl)) fun w19 m19 => ?_
     refine wpAnyH_done (by kernel_rfl) ?_ _
     refine in_normal (then_normal (wp_region_lit ?_))
     refine wb 1 e29 [(33, zN kk2)] fun a30 e30 => ?_
     refine kv e30 (zN (kk2 - 1)) (rn_bin _ _ _ _ _ rfl .i64 _ _ (e30.tmp 33 _ rfl) rfl (.int .i64 (IntKind.wrap .i64 (((kk2 : Nat) : Int) - 1))) _ rfl (subN (i := kk2) (c := 1) .i64 (by omega) (by rw [IntKind.wrap_i64]; omega))) fun a31 e31 => ?_
     refine wb 1 e31 [(6, zN (kk2 - 1))] fun a32 e32 => ?_
     refine wpList_nil ?_
     exact ⟨1 * (kk2 - 1), by omega, Or.inr ⟨kk2 - 1, [((d4.1 : Nat) : Int)], 1, b83_28, cap83_28, cur83_28, d4.2, rfl, ⟨by simp, by omega, rw83_28, by omega⟩, e32.sb, m19.sb⟩⟩
    ·
     refine sd e24 m15 1 (fun _ => ⟨rfl, rfl, trivial⟩) (d_number (h.kb m15.keep (m15.bx 1 _ _ _ _ rfl)) (by omega)) fun d4 a25 w16 hd4 e25 m16 => ?_
     have hd4b : d4.2 ≤ qq2 + 3 := hd4
     refine up2 (fuel := 4) 1 4 rfl rfl ?_ ?_
     ·
      refine sv e25 m16 (.slice none 0 0) (rn_load1 m16 3 rfl _ _ rfl (3) (e25.tmp 35 _ rfl) one42 _ rfl) fun a26 e26 => ?_
      refine tbb (fuel := 3) 4 rfl e26 m16 5 42 1 3 ((cellsOf i64A [((d4.1 : Nat) : Int)]).toArray) (vs := #[(0, .int .i64 (((d4.1 : Nat) : Int)))]) (fun w => by kernel_rfl) (fun _ => ⟨rfl, rfl, trivial⟩) fun a27 w17 b5 e27 m17 => ?_
      have rw5_0 : Rw ((cellsOf i64A [((d4.1 : Nat) : Int)]).toArray) 1 1 1 (cellsOf i64A ([((d4.1 : Nat) : Int)])) := Rw.lits i64A.sz [((d4.1 : Nat) : Int)] (by simp [maxLen])
      refine tp0R (fuel := 2) 5 rfl e27 m17 83 5 el3 rw5_0 (fun _ _ => ⟨rfl, rfl, trivial⟩) fun a28 w18 b83_28 cap83_28 cur83_28 e28 m18 rw83_28 => ?_
      refine wtd (fuel := 1) [(6, 0)] e28 m18 [(41, zP b3 3)] [] vl0 fun a29 e29 => ?_
      refine ts (fuel := 0) 7 rfl e29 m18 3 one42.sz (3) (.slice (some ⟨b83_28, 0, none⟩) (1) (cap83_28)) (#[.slice d1.1 d1.2.1 d1.2.2.1, .string (z0), .slice d2.1 d2.2.1 d2.2.2.1, zS b83_28 1 cap83_28, .slice none 0 0]) ⟨rfl, rfl, trivial⟩ (hin := (by simp)) (hA := (by kernel_rfl)) fun w19 m19 => ?_
      refine wpAnyH_done (by kernel_rfl) ?_ _
      refine in_normal (then_normal (wp_region_lit ?_))
      refine wb 1 e29 [(33, zN kk2)] fun a30 e30 => ?_
      refine kv e30 (zN (kk2 - 1)) (rn_bin _ _ _ _ _ rfl .i64 _ _ (e30.tmp 33 _ rfl) rfl (.int .i64 (IntKind.wrap .i64 (((kk2 : Nat) : Int) - 1))) _ rfl (subN (i := kk2) (c := 1) .i64 (by omega) (by rw [IntKind.wrap_i64]; omega))) fun a31 e31 => ?_
      refine wb 1 e31 [(6, zN (kk2 - 1))] fun a32 e32 => ?_
      refine wpList_nil ?_
      exact ⟨1 * (kk2 - 1), by omega, Or.inr ⟨kk2 - 1, [((d4.1 : Nat) : Int)], 1, b83_28, cap83_28, cur83_28, d4.2, rfl, ⟨by simp, by omega, rw83_28, by omega⟩, e32.sb, m19.sb⟩⟩
     ·
      refine sb e25 m16 5 42 1 3 ((cellsOf i64A [((d4.1 : Nat) : Int)]).toArray) (vs := #[(0, .int .i64 (((d4.1 : Nat) : Int)))]) (fun w => by kernel_rfl) (fun _ => ⟨rfl, rfl, trivial⟩) fun a26 w17 b5 e26 m17 => ?_
      have rw5_0 : Rw ((cellsOf i64A [((d4.1 : Nat) : Int)]).toArray) 1 1 1 (cellsOf i64A ([((d4.1 : Nat) : Int)])) := Rw.lits i64A.sz [((d4.1 : Nat) : Int)] (by simp [maxLen])
      refine up1 (fuel := 3) 1 rfl ?_
      refine sv e26 m17 (.slice none 0 0) (rn_load1 m17 3 rfl _ _ rfl (3) (e26.tmp 35 _ rfl) one42 _ rfl) fun a27 e27 => ?_
      refine tp0R (fuel := 2) 5 rfl e27 m17 83 5 el3 rw5_0 (fun _ _ => ⟨rfl, rfl, trivial⟩) fun a28 w18 b83_28 cap83_28 cur83_28 e28 m18 rw83_28 => ?_
      refine wtd (fuel := 1) [(6, 0)] e28 m18 [(41, zP b3 3)] [] vl0 fun a29 e29 => ?_
      refine ts (fuel := 0) 7 rfl e29 m18 3 one42.sz (3) (.slice (some ⟨b83_28, 0, none⟩) (1) (cap83_28)) (#[.slice d1.1 d1.2.1 d1.2.2.1, .string (z0), .slice d2.1 d2.2.1 d2.2.2.1, zS b83_28 1 cap83_28, .slice none 0 0]) ⟨rfl, rfl, trivial⟩ (hin := (by simp)) (hA := (by kernel_rfl)) fun w19 m19 => ?_
      refine wpAnyH_done (by kernel_rfl) ?_ _
      refine in_normal (then_normal (wp_region_lit ?_))
      refine wb 1 e29 [(33, zN kk2)] fun a30 e30 => ?_
      refine kv e30 (zN (kk2 - 1)) (rn_bin _ _ _ _ _ rfl .i64 _ _ (e30.tmp 33 _ rfl) rfl (.int .i64 (IntKind.wrap .i64 (((kk2 : Nat) : Int) - 1))) _ rfl (subN (i := kk2) (c := 1) .i64 (by omega) (by rw [IntKind.wrap_i64]; omega))) fun a31 e31 => ?_
      refine wb 1 e31 [(6, zN (kk2 - 1))] fun a32 e32 => ?_
      refine wpList_nil ?_
      exact ⟨1 * (kk2 - 1), by omega, Or.inr ⟨kk2 - 1, [((d4.1 : Nat) : Int)], 1, b83_28, cap83_28, cur83_28, d4.2, rfl, ⟨by simp, by omega, rw83_28, by omega⟩, e32.sb, m19.sb⟩⟩
  ·
   obtain ⟨hn2, hk2, rw2o, hq2⟩ := hrel2
   refine wp_seq (wp_seqR ?_)
   refine wb 1 e21 [(31, zN kk2)] fun a22 e22 => ?_
   cases hd2 : (decide (((kk2 : Nat) : Int) > 0))
   ·
    have hd2p := of_decide_eq_false hd2
    refine wr [1] e22 m13 [(32, zF)] [] (vb (hd2) vl0) fun a23 w14 e23 m14 => ?_
    refine wl_end (wp_condF (he := e23) rfl (wp_exit (exit_then (exit_then (exit_here (then_normal (wp_seq (wp_seqR ?_))))))))
    refine wb 1 e23 [(42, zP B 0)] fun a24 e24 => ?_
    refine kd e24 m14 1 (d_pick (h.kb m14.keep (m14.bx 1 _ _ _ _ rfl)) (by omega) 4 (by omega) (by omega)) fun d4 a25 w15 hd4 e25 m15 => ?_
    refine wb 1 e25 [(7, zN d4)] fun a26 e26 => ?_
    refine wl_end (wp_block ?_)
    refine wp_loopN (fun mz az wz => (∃ (kk3 : Nat), ∃ (qq3 : Nat), mz = 1 * kk3 ∧ (kk3 ≤ 3 ∧ qq3 + 1 * kk3 ≤ p + 650) ∧ EV az 57 [] [(0, .pointer (some ⟨B, 0, none⟩)), (2, .pointer (some ⟨b2, 0, none⟩)), (8, .pointer (some ⟨B, 0, none⟩)), (9, .slice d1.1 d1.2.1 d1.2.2.1), (10, .pointer (some ⟨B, 0, none⟩)), (11, .slice d2.1 d2.2.1 d2.2.2.1), (12, .agg (#[.slice d1.1 d1.2.1 d1.2.2.1, .string (⟨#[]⟩), .slice d2.1 d2.2.1 d2.2.2.1, .slice none 0 0, .slice none 0 0])), (3, .pointer (some ⟨b3, 0, none⟩)), (13, .slice (some ⟨b4, 0, none⟩) (0) (0)), (5, .int .i64 (((i : Nat) : Int))), (4, .slice (some ⟨ob, 0, none⟩) (on) (oc)), (14, .int .i64 (((i : Nat) : Int))), (15, .bool false), (25, .slice (some ⟨ob, 0, none⟩) (on) (oc)), (26, .string (z0)), (27, .pointer (some ⟨b3, 1, none⟩)), (28, .pointer (some ⟨B, 0, none⟩)), (29, .int .i64 (((d3 : Nat) : Int))), (30, .int .i64 (((1 + d3 : Nat) : Int))), (6, .int .i64 (((kk2 : Nat) : Int))), (31, .int .i64 (((kk2 : Nat) : Int))), (32, .bool false), (42, .pointer (some ⟨B, 0, none⟩)), (43, .int .i64 (((d4 : Nat) : Int))), (7, .int .i64 (((kk3 : Nat) : Int)))] ∧ MM [B] w wz [(1, ⟨true, B, 67, rdA a len cap (qq3)⟩), (2, ⟨true, b2, 44, #[.slice none 0 0, .string (⟨#[]⟩), .slice none 0 0, .slice none 0 0, .slice none 0 0]⟩), (3, ⟨true, b3, 44, #[.slice d1.1 d1.2.1 d1.2.2.1, .string (z0), .slice d2.1 d2.2.1 d2.2.2.1, zS bb2 nn2 cc2, .slice none 0 0]⟩), (4, ⟨true, ob, 5, oa⟩), (83, ⟨true, bb2, 3, aa2⟩)]) ∨ (∃ (kk3 : Nat), ∃ (oo3 : List Int), ∃ (nn3 : Nat), ∃ (bb3 : Nat), ∃ (cc3 : Nat), ∃ (aa3 : Array Value), ∃ (qq3 : Nat), mz = 1 * kk3 ∧ (nn3 = (oo3).length ∧ nn3 + kk3 ≤ 3 ∧ Rw (aa3) (nn3) (cc3) 1 (cellsOf i64A (oo3)) ∧ qq3 + 1 * kk3 ≤ p + 650) ∧ EV az 57 [] [(0, .pointer (some ⟨B, 0, none⟩)), (2, .pointer (some ⟨b2, 0, none⟩)), (8, .pointer (some ⟨B, 0, none⟩)), (9, .slice d1.1 d1.2.1 d1.2.2.1), (10, .pointer (some ⟨B, 0, none⟩)), (11, .slice d2.1 d2.2.1 d2.2.2.1), (12, .agg (#[.slice d1.1 d1.2.1 d1.2.2.1, .string (⟨#[]⟩), .slice d2.1 d2.2.1 d2.2.2.1, .slice none 0 0, .slice none 0 0])), (3, .pointer (some ⟨b3, 0, none⟩)), (13, .slice (some ⟨b4, 0, none⟩) (0) (0)), (5, .int .i64 (((i : Nat) : Int))), (4, .slice (some ⟨ob, 0, none⟩) (on) (oc)), (14, .int .i64 (((i : Nat) : Int))), (15, .bool false), (25, .slice (some ⟨ob, 0, none⟩) (on) (oc)), (26, .string (z0)), (27, .pointer (some ⟨b3, 1, none⟩)), (28, .pointer (some ⟨B, 0, none⟩)), (29, .int .i64 (((d3 : Nat) : Int))), (30, .int .i64 (((1 + d3 : Nat) : Int))), (6, .int .i64 (((kk2 : Nat) : Int))), (31, .int .i64 (((kk2 : Nat) : Int))), (32, .bool false), (42, .pointer (some ⟨B, 0, none⟩)), (43, .int .i64 (((d4 : Nat) : Int))), (7, .int .i64 (((kk3 : Nat) : Int)))] ∧ MM [B] w wz [(1, ⟨true, B, 67, rdA a len cap (qq3)⟩), (2, ⟨true, b2, 44, #[.slice none 0 0, .string (⟨#[]⟩), .slice none 0 0, .slice none 0 0, .slice none 0 0]⟩), (3, ⟨true, b3, 44, #[.slice d1.1 d1.2.1 d1.2.2.1, .string (z0), .slice d2.1 d2.2.1 d2.2.2.1, zS bb2 nn2 cc2, zS bb3 nn3 cc3]⟩), (4, ⟨true, ob, 5, oa⟩), (83, ⟨true, bb2, 3, aa2⟩), (84, ⟨true, bb3, 3, aa3⟩)])) ⟨_, Or.inl ⟨d4, qq2 + 1, rfl, ⟨by omega, by omega⟩, e26.sb, m15.sb⟩⟩ ?_
    rintro mz3 a27 w16 (⟨kk3, qq3, rfl, hrel3, e27, m16⟩ | ⟨kk3, oo3, nn3, bb3, cc3, aa3, qq3, rfl, hrel3, e27, m16⟩)
    ·
     obtain ⟨hk3, hq3⟩ := hrel3
     refine wp_seq (wp_seqR ?_)
     refine wb 1 e27 [(44, zN kk3)] fun a28 e28 => ?_
     cases hd3 : (decide (((kk3 : Nat) : Int) > 0))
     ·
      have hd3p := of_decide_eq_false hd3
      refine wr [1] e28 m16 [(45, zF)] [] (vb (hd3) vl0) fun a29 w17 e29 m17 => ?_
      refine wl_end (wp_condF (he := e29) rfl (wp_exit (exit_then (exit_then (exit_here (then_normal (wp_seqR ?_)))))))
      refine wm [5, 4] e29 m17 [(56, .agg (#[.slice d1.1 d1.2.1 d1.2.2.1, .string (z0), .slice d2.1 d2.2.1 d2.2.2.1, zS bb2 nn2 cc2, .slice none 0 0]))] [(2, zE b2 44 (#[.slice d1.1 d1.2.1 d1.2.2.1, .string (z0), .slice d2.1 d2.2.1 d2.2.2.1, zS bb2 nn2 cc2, .slice none 0 0]))] [b2, b3] vl0 fun a30 w18 e30 m18 => ?_
      refine wl_end (wp_ret ?_)
      exact bodyPost_ret (results_cell e30 m18 _ _ Try.results16 _ rfl 2 rfl 5 agg44 (by first | rfl | assumption)) e30.defers ⟨⟨.slice d1.1 d1.2.1 d1.2.2.1, z0, .slice d2.1 d2.2.1 d2.2.2.1, .slice (some ⟨bb2, 0, none⟩) (nn2) (cc2), .slice none 0 0, qq3⟩, rfl, ⟨hz12, by show qq3 ≤ p + 700; omega⟩, m18.keep, m18.bx 1 _ _ _ _ rfl⟩
     ·
      have hd3p := of_decide_eq_true hd3
      refine wr [1] e28 m16 [(45, zT)] [] (vb (hd3) vl0) fun a29 w17 e29 m17 => ?_
      refine wl_end (wp_condT (he := e29) rfl (wp_skip (then_normal (wp_seq (wp_block ?_)))))
      refine wh_begin (by kernel_rfl) m17 [(2, ⟨true, b2, 44, #[.slice none 0 0, .string (⟨#[]⟩), .slice none 0 0, .slice none 0 0, .slice none 0 0]⟩), (4, ⟨true, ob, 5, oa⟩)] ⟨rfl, rfl, trivial⟩ (fun w18 m18 => ?_)
      refine wtd (fuel := 7) [(0, 0), (2, 0)] e29 m18 [(50, zP B 0), (48, zP b3 4)] [] vl0 fun a30 e30 => ?_
      refine up2 (fuel := 6) 1 3 rfl rfl ?_ ?_
      ·
       refine sv e30 m18 (.slice none 0 0) (rn_load1 m18 3 rfl _ _ rfl (4) (e30.tmp 48 _ rfl) one42 _ rfl) fun a31 e31 => ?_
       refine tbb (fuel := 5) 3 rfl e31 m18 5 42 6 3 (#[zI 0, zI 1, zI 2, zI 3, zI 7, zI 9]) (vs := #[(0, .int .i64 (0)), (1, .int .i64 (1)), (2, .int .i64 (2)), (3, .int .i64 (3)), (4, .int .i64 (7)), (5, .int .i64 (9))]) (fun w => by kernel_rfl) (fun _ => ⟨rfl, rfl, trivial⟩) fun a32 w19 b5 e32 m19 => ?_
       refine td (fuel := 4) 4 rfl e32 m19 1 (d_one (h.kb m19.keep (m19.bx 1 _ _ _ _ rfl)) (by omega) b5 [0, 1, 2, 3, 7, 9] _ (m19.bx 5 _ _ _ _ rfl) rfl (m19.apart 5 1 _ _ rfl rfl (by decide) rfl) (by decide) (by decide) _ rfl) (fun _ => ⟨rfl, rfl, trivial⟩) fun d5 a33 w20 hd5 e33 m20 => ?_
       have hd5b : 0 ≤ d5 ∧ d5 ≤ 4294967295 := by simp at hd5; omega
       obtain ⟨d5n, rfl⟩ := Int.eq_ofNat_of_zero_le hd5b.1
       have hd5c : d5n ≤ 9 := by simp at hd5; omega
       refine tbb (fuel := 3) 5 rfl e33 m20 6 42 1 3 ((cellsOf i64A [((d5n : Nat) : Int)]).toArray) (vs := #[(0, .int .i64 (((d5n : Nat) : Int)))]) (fun w => by kernel_rfl) (fun _ => ⟨rfl, rfl, trivial⟩) fun a34 w21 b6 e34 m21 => ?_
       have rw6_0 : Rw ((cellsOf i64A [((d5n : Nat) : Int)]).toArray) 1 1 1 (cellsOf i64A ([((d5n : Nat) : Int)])) := Rw.lits i64A.sz [((d5n : Nat) : Int)] (by simp [maxLen])
       refine tp0R (fuel := 2) 6 rfl e34 m21 84 6 el3 rw6_0 (fun _ _ => ⟨rfl, rfl, trivial⟩) fun a35 w22 b84_35 cap84_35 cur84_35 e35 m22 rw84_35 => ?_
       refine wtd (fuel := 1) [(7, 0)] e35 m22 [(55, zP b3 4)] [] vl0 fun a36 e36 => ?_
       refine ts (fuel := 0) 8 rfl e36 m22 3 one42.sz (4) (.slice (some ⟨b84_35, 0, none⟩) (1) (cap84_35)) (#[.slice d1.1 d1.2.1 d1.2.2.1, .string (z0), .slice d2.1 d2.2.1 d2.2.2.1, zS bb2 nn2 cc2, zS b84_35 1 cap84_35]) ⟨rfl, rfl, trivial⟩ (hin := (by simp)) (hA := (by kernel_rfl)) fun w23 m23 => ?_
       refine wpAnyH_done (by kernel_rfl) ?_ _
       refine in_normal (then_normal (wp_region_lit ?_))
       refine wb 1 e36 [(46, zN kk3)] fun a37 e37 => ?_
       refine kv e37 (zN (kk3 - 1)) (rn_bin _ _ _ _ _ rfl .i64 _ _ (e37.tmp 46 _ rfl) rfl (.int .i64 (IntKind.wrap .i64 (((kk3 : Nat) : Int) - 1))) _ rfl (subN (i := kk3) (c := 1) .i64 (by omega) (by rw [IntKind.wrap_i64]; omega))) fun a38 e38 => ?_
       refine wb 1 e38 [(7, zN (kk3 - 1))] fun a39 e39 => ?_
       refine wpList_nil ?_
       exact ⟨1 * (kk3 - 1), by omega, Or.inr ⟨kk3 - 1, [((d5n : Nat) : Int)], 1, b84_35, cap84_35, cur84_35, qq3 + 1, rfl, ⟨by simp, by omega, rw84_35, by omega⟩, e39.sb, m23.sb⟩⟩
      ·
       refine sb e30 m18 5 42 6 3 (#[zI 0, zI 1, zI 2, zI 3, zI 7, zI 9]) (vs := #[(0, .int .i64 (0)), (1, .int .i64 (1)), (2, .int .i64 (2)), (3, .int .i64 (3)), (4, .int .i64 (7)), (5, .int .i64 (9))]) (fun w => by kernel_rfl) (fun _ => ⟨rfl, rfl, trivial⟩) fun a31 w19 b5 e31 m19 => ?_
       refine up2 (fuel := 5) 1 4 rfl rfl ?_ ?_
       ·
        refine sv e31 m19 (.slice none 0 0) (rn_load1 m19 3 rfl _ _ rfl (4) (e31.tmp 48 _ rfl) one42 _ rfl) fun a32 e32 => ?_
        refine td (fuel := 4) 4 rfl e32 m19 1 (d_one (h.kb m19.keep (m19.bx 1 _ _ _ _ rfl)) (by omega) b5 [0, 1, 2, 3, 7, 9] _ (m19.bx 5 _ _ _ _ rfl) rfl (m19.apart 5 1 _ _ rfl rfl (by decide) rfl) (by decide) (by decide) _ rfl) (fun _ => ⟨rfl, rfl, trivial⟩) fun d5 a33 w20 hd5 e33 m20 => ?_
        have hd5b : 0 ≤ d5 ∧ d5 ≤ 4294967295 := by simp at hd5; omega
        obtain ⟨d5n, rfl⟩ := Int.eq_ofNat_of_zero_le hd5b.1
        have hd5c : d5n ≤ 9 := by simp at hd5; omega
        refine tbb (fuel := 3) 5 rfl e33 m20 6 42 1 3 ((cellsOf i64A [((d5n : Nat) : Int)]).toArray) (vs := #[(0, .int .i64 (((d5n : Nat) : Int)))]) (fun w => by kernel_rfl) (fun _ => ⟨rfl, rfl, trivial⟩) fun a34 w21 b6 e34 m21 => ?_
        have rw6_0 : Rw ((cellsOf i64A [((d5n : Nat) : Int)]).toArray) 1 1 1 (cellsOf i64A ([((d5n : Nat) : Int)])) := Rw.lits i64A.sz [((d5n : Nat) : Int)] (by simp [maxLen])
        refine tp0R (fuel := 2) 6 rfl e34 m21 84 6 el3 rw6_0 (fun _ _ => ⟨rfl, rfl, trivial⟩) fun a35 w22 b84_35 cap84_35 cur84_35 e35 m22 rw84_35 => ?_
        refine wtd (fuel := 1) [(7, 0)] e35 m22 [(55, zP b3 4)] [] vl0 fun a36 e36 => ?_
        refine ts (fuel := 0) 8 rfl e36 m22 3 one42.sz (4) (.slice (some ⟨b84_35, 0, none⟩) (1) (cap84_35)) (#[.slice d1.1 d1.2.1 d1.2.2.1, .string (z0), .slice d2.1 d2.2.1 d2.2.2.1, zS bb2 nn2 cc2, zS b84_35 1 cap84_35]) ⟨rfl, rfl, trivial⟩ (hin := (by simp)) (hA := (by kernel_rfl)) fun w23 m23 => ?_
        refine wpAnyH_done (by kernel_rfl) ?_ _
        refine in_normal (then_normal (wp_region_lit ?_))
        refine wb 1 e36 [(46, zN kk3)] fun a37 e37 => ?_
        refine kv e37 (zN (kk3 - 1)) (rn_bin _ _ _ _ _ rfl .i64 _ _ (e37.tmp 46 _ rfl) rfl (.int .i64 (IntKind.wrap .i64 (((kk3 : Nat) : Int) - 1))) _ rfl (subN (i := kk3) (c := 1) .i64 (by omega) (by rw [IntKind.wrap_i64]; omega))) fun a38 e38 => ?_
        refine wb 1 e38 [(7, zN (kk3 - 1))] fun a39 e39 => ?_
        refine wpList_nil ?_
        exact ⟨1 * (kk3 - 1), by omega, Or.inr ⟨kk3 - 1, [((d5n : Nat) : Int)], 1, b84_35, cap84_35, cur84_35, qq3 + 1, rfl, ⟨by simp, by omega, rw84_35, by omega⟩, e39.sb, m23.sb⟩⟩
       ·
        refine sd e31 m19 1 (fun _ => ⟨rfl, rfl, trivial⟩) (d_one (h.kb m19.keep (m19.bx 1 _ _ _ _ rfl)) (by omega) b5 [0, 1, 2, 3, 7, 9] _ (m19.bx 5 _ _ _ _ rfl) rfl (m19.apart 5 1 _ _ rfl rfl (by decide) rfl) (by decide) (by decide) _ rfl) fun d5 a32 w20 hd5 e32 m20 => ?_
        have hd5b : 0 ≤ d5 ∧ d5 ≤ 4294967295 := by simp at hd5; omega
        obtain ⟨d5n, rfl⟩ := Int.eq_ofNat_of_zero_le hd5b.1
        have hd5c : d5n ≤ 9 := by simp at hd5; omega
        refine up2 (fuel := 4) 1 5 rfl rfl ?_ ?_
        ·
         refine sv e32 m20 (.slice none 0 0) (rn_load1 m20 3 rfl _ _ rfl (4) (e32.tmp 48 _ rfl) one42 _ rfl) fun a33 e33 => ?_
         refine tbb (fuel := 3) 5 rfl e33 m20 6 42 1 3 ((cellsOf i64A [((d5n : Nat) : Int)]).toArray) (vs := #[(0, .int .i64 (((d5n : Nat) : Int)))]) (fun w => by kernel_rfl) (fun _ => ⟨rfl, rfl, trivial⟩) fun a34 w21 b6 e34 m21 => ?_
         have rw6_0 : Rw ((cellsOf i64A [((d5n : Nat) : Int)]).toArray) 1 1 1 (cellsOf i64A ([((d5n : Nat) : Int)])) := Rw.lits i64A.sz [((d5n : Nat) : Int)] (by simp [maxLen])
         refine tp0R (fuel := 2) 6 rfl e34 m21 84 6 el3 rw6_0 (fun _ _ => ⟨rfl, rfl, trivial⟩) fun a35 w22 b84_35 cap84_35 cur84_35 e35 m22 rw84_35 => ?_
         refine wtd (fuel := 1) [(7, 0)] e35 m22 [(55, zP b3 4)] [] vl0 fun a36 e36 => ?_
         refine ts (fuel := 0) 8 rfl e36 m22 3 one42.sz (4) (.slice (some ⟨b84_35, 0, none⟩) (1) (cap84_35)) (#[.slice d1.1 d1.2.1 d1.2.2.1, .string (z0), .slice d2.1 d2.2.1 d2.2.2.1, zS bb2 nn2 cc2, zS b84_35 1 cap84_35]) ⟨rfl, rfl, trivial⟩ (hin := (by simp)) (hA := (by kernel_rfl)) fun w23 m23 => ?_
         refine wpAnyH_done (by kernel_rfl) ?_ _
         refine in_normal (then_normal (wp_region_lit ?_))
         refine wb 1 e36 [(46, zN kk3)] fun a37 e37 => ?_
         refine kv e37 (zN (kk3 - 1)) (rn_bin _ _ _ _ _ rfl .i64 _ _ (e37.tmp 46 _ rfl) rfl (.int .i64 (IntKind.wrap .i64 (((kk3 : Nat) : Int) - 1))) _ rfl (subN (i := kk3) (c := 1) .i64 (by omega) (by rw [IntKind.wrap_i64]; omega))) fun a38 e38 => ?_
         refine wb 1 e38 [(7, zN (kk3 - 1))] fun a39 e39 => ?_
         refine wpList_nil ?_
         exact ⟨1 * (kk3 - 1), by omega, Or.inr ⟨kk3 - 1, [((d5n : Nat) : Int)], 1, b84_35, cap84_35, cur84_35, qq3 + 1, rfl, ⟨by simp, by omega, rw84_35, by omega⟩, e39.sb, m23.sb⟩⟩
        ·
         refine sb e32 m20 6 42 1 3 ((cellsOf i64A [((d5n : Nat) : Int)]).toArray) (vs := #[(0, .int .i64 (((d5n : Nat) : Int)))]) (fun w => by kernel_rfl) (fun _ => ⟨rfl, rfl, trivial⟩) fun a33 w21 b6 e33 m21 => ?_
         have rw6_0 : Rw ((cellsOf i64A [((d5n : Nat) : Int)]).toArray) 1 1 1 (cellsOf i64A ([((d5n : Nat) : Int)])) := Rw.lits i64A.sz [((d5n : Nat) : Int)] (by simp [maxLen])
         refine up1 (fuel := 3) 1 rfl ?_
         refine sv e33 m21 (.slice none 0 0) (rn_load1 m21 3 rfl _ _ rfl (4) (e33.tmp 48 _ rfl) one42 _ rfl) fun a34 e34 => ?_
         refine tp0R (fuel := 2) 6 rfl e34 m21 84 6 el3 rw6_0 (fun _ _ => ⟨rfl, rfl, trivial⟩) fun a35 w22 b84_35 cap84_35 cur84_35 e35 m22 rw84_35 => ?_
         refine wtd (fuel := 1) [(7, 0)] e35 m22 [(55, zP b3 4)] [] vl0 fun a36 e36 => ?_
         refine ts (fuel := 0) 8 rfl e36 m22 3 one42.sz (4) (.slice (some ⟨b84_35, 0, none⟩) (1) (cap84_35)) (#[.slice d1.1 d1.2.1 d1.2.2.1, .string (z0), .slice d2.1 d2.2.1 d2.2.2.1, zS bb2 nn2 cc2, zS b84_35 1 cap84_35]) ⟨rfl, rfl, trivial⟩ (hin := (by simp)) (hA := (by kernel_rfl)) fun w23 m23 => ?_
         refine wpAnyH_done (by kernel_rfl) ?_ _
         refine in_normal (then_normal (wp_region_lit ?_))
         refine wb 1 e36 [(46, zN kk3)] fun a37 e37 => ?_
         refine kv e37 (zN (kk3 - 1)) (rn_bin _ _ _ _ _ rfl .i64 _ _ (e37.tmp 46 _ rfl) rfl (.int .i64 (IntKind.wrap .i64 (((kk3 : Nat) : Int) - 1))) _ rfl (subN (i := kk3) (c := 1) .i64 (by omega) (by rw [IntKind.wrap_i64]; omega))) fun a38 e38 => ?_
         refine wb 1 e38 [(7, zN (kk3 - 1))] fun a39 e39 => ?_
         refine wpList_nil ?_
         exact ⟨1 * (kk3 - 1), by omega, Or.inr ⟨kk3 - 1, [((d5n : Nat) : Int)], 1, b84_35, cap84_35, cur84_35, qq3 + 1, rfl, ⟨by simp, by omega, rw84_35, by omega⟩, e39.sb, m23.sb⟩⟩
    ·
     obtain ⟨hn3, hk3, rw3o, hq3⟩ := hrel3
     refine wp_seq (wp_seqR ?_)
     refine wb 1 e27 [(44, zN kk3)] fun a28 e28 => ?_
     cases hd3 : (decide (((kk3 : Nat) : Int) > 0))
     ·
      have hd3p := of_decide_eq_false hd3
      refine wr [1] e28 m16 [(45, zF)] [] (vb (hd3) vl0) fun a29 w17 e29 m17 => ?_
      refine wl_end (wp_condF (he := e29) rfl (wp_exit (exit_then (exit_then (exit_here (then_normal (wp_seqR ?_)))))))
      refine wm [5, 4] e29 m17 [(56, .agg (#[.slice d1.1 d1.2.1 d1.2.2.1, .string (z0), .slice d2.1 d2.2.1 d2.2.2.1, zS bb2 nn2 cc2, zS bb3 nn3 cc3]))] [(2, zE b2 44 (#[.slice d1.1 d1.2.1 d1.2.2.1, .string (z0), .slice d2.1 d2.2.1 d2.2.2.1, zS bb2 nn2 cc2, zS bb3 nn3 cc3]))] [b2, b3] vl0 fun a30 w18 e30 m18 => ?_
      refine wl_end (wp_ret ?_)
      exact bodyPost_ret (results_cell e30 m18 _ _ Try.results16 _ rfl 2 rfl 5 agg44 (by first | rfl | assumption)) e30.defers ⟨⟨.slice d1.1 d1.2.1 d1.2.2.1, z0, .slice d2.1 d2.2.1 d2.2.2.1, .slice (some ⟨bb2, 0, none⟩) (nn2) (cc2), .slice (some ⟨bb3, 0, none⟩) (nn3) (cc3), qq3⟩, rfl, ⟨hz12, by show qq3 ≤ p + 700; omega⟩, m18.keep, m18.bx 1 _ _ _ _ rfl⟩
     ·
      have hd3p := of_decide_eq_true hd3
      refine wr [1] e28 m16 [(45, zT)] [] (vb (hd3) vl0) fun a29 w17 e29 m17 => ?_
      refine wl_end (wp_condT (he := e29) rfl (wp_skip (then_normal (wp_seq (wp_block ?_)))))
      refine wh_begin (by kernel_rfl) m17 [(2, ⟨true, b2, 44, #[.slice none 0 0, .string (⟨#[]⟩), .slice none 0 0, .slice none 0 0, .slice none 0 0]⟩), (4, ⟨true, ob, 5, oa⟩)] ⟨rfl, rfl, trivial⟩ (fun w18 m18 => ?_)
      refine wtd (fuel := 7) [(0, 0), (2, 0)] e29 m18 [(50, zP B 0), (48, zP b3 4)] [] vl0 fun a30 e30 => ?_
      refine up2 (fuel := 6) 1 3 rfl rfl ?_ ?_
      ·
       refine sv e30 m18 (.slice (some ⟨bb3, 0, none⟩) (nn3) (cc3)) (rn_load1 m18 3 rfl _ _ rfl (4) (e30.tmp 48 _ rfl) one42 _ rfl) fun a31 e31 => ?_
       refine tbb (fuel := 5) 3 rfl e31 m18 5 42 6 3 (#[zI 0, zI 1, zI 2, zI 3, zI 7, zI 9]) (vs := #[(0, .int .i64 (0)), (1, .int .i64 (1)), (2, .int .i64 (2)), (3, .int .i64 (3)), (4, .int .i64 (7)), (5, .int .i64 (9))]) (fun w => by kernel_rfl) (fun _ => ⟨rfl, rfl, trivial⟩) fun a32 w19 b5 e32 m19 => ?_
       refine td (fuel := 4) 4 rfl e32 m19 1 (d_one (h.kb m19.keep (m19.bx 1 _ _ _ _ rfl)) (by omega) b5 [0, 1, 2, 3, 7, 9] _ (m19.bx 5 _ _ _ _ rfl) rfl (m19.apart 5 1 _ _ rfl rfl (by decide) rfl) (by decide) (by decide) _ rfl) (fun _ => ⟨rfl, rfl, trivial⟩) fun d5 a33 w20 hd5 e33 m20 => ?_
       have hd5b : 0 ≤ d5 ∧ d5 ≤ 4294967295 := by simp at hd5; omega
       obtain ⟨d5n, rfl⟩ := Int.eq_ofNat_of_zero_le hd5b.1
       have hd5c : d5n ≤ 9 := by simp at hd5; omega
       refine tbb (fuel := 3) 5 rfl e33 m20 6 42 1 3 ((cellsOf i64A [((d5n : Nat) : Int)]).toArray) (vs := #[(0, .int .i64 (((d5n : Nat) : Int)))]) (fun w => by kernel_rfl) (fun _ => ⟨rfl, rfl, trivial⟩) fun a34 w21 b6 e34 m21 => ?_
       have rw6_0 : Rw ((cellsOf i64A [((d5n : Nat) : Int)]).toArray) 1 1 1 (cellsOf i64A ([((d5n : Nat) : Int)])) := Rw.lits i64A.sz [((d5n : Nat) : Int)] (by simp [maxLen])
       refine tpR (fuel := 2) 6 rfl e34 m21 84 6 el3 rw3o rw6_0 (cellsOf_one i64A.one _) (fun _ _ => ⟨rfl, rfl, trivial⟩) fun a35 w22 b84_35 cap84_35 cur84_35 e35 m22 rw84_35 => ?_
       replace rw84_35 := rw84_35.app
       refine wtd (fuel := 1) [(7, 0)] e35 m22 [(55, zP b3 4)] [] vl0 fun a36 e36 => ?_
       refine ts (fuel := 0) 8 rfl e36 m22 3 one42.sz (4) (.slice (some ⟨b84_35, 0, none⟩) (nn3 + 1) (cap84_35)) (#[.slice d1.1 d1.2.1 d1.2.2.1, .string (z0), .slice d2.1 d2.2.1 d2.2.2.1, zS bb2 nn2 cc2, zS b84_35 (nn3 + 1) cap84_35]) ⟨rfl, rfl, trivial⟩ (hin := (by simp)) (hA := (by kernel_rfl)) fun w23 m23 => ?_
       refine wpAnyH_done (by kernel_rfl) ?_ _
       refine in_normal (then_normal (wp_region_lit ?_))
       refine wb 1 e36 [(46, zN kk3)] fun a37 e37 => ?_
       refine kv e37 (zN (kk3 - 1)) (rn_bin _ _ _ _ _ rfl .i64 _ _ (e37.tmp 46 _ rfl) rfl (.int .i64 (IntKind.wrap .i64 (((kk3 : Nat) : Int) - 1))) _ rfl (subN (i := kk3) (c := 1) .i64 (by omega) (by rw [IntKind.wrap_i64]; omega))) fun a38 e38 => ?_
       refine wb 1 e38 [(7, zN (kk3 - 1))] fun a39 e39 => ?_
       refine wpList_nil ?_
       exact ⟨1 * (kk3 - 1), by omega, Or.inr ⟨kk3 - 1, (oo3) ++ ([((d5n : Nat) : Int)]), nn3 + 1, b84_35, cap84_35, cur84_35, qq3 + 1, rfl, ⟨by simp [hn3], by omega, rw84_35, by omega⟩, e39.sb, m23.sb⟩⟩
      ·
       refine sb e30 m18 5 42 6 3 (#[zI 0, zI 1, zI 2, zI 3, zI 7, zI 9]) (vs := #[(0, .int .i64 (0)), (1, .int .i64 (1)), (2, .int .i64 (2)), (3, .int .i64 (3)), (4, .int .i64 (7)), (5, .int .i64 (9))]) (fun w => by kernel_rfl) (fun _ => ⟨rfl, rfl, trivial⟩) fun a31 w19 b5 e31 m19 => ?_
       refine up2 (fuel := 5) 1 4 rfl rfl ?_ ?_
       ·
        refine sv e31 m19 (.slice (some ⟨bb3, 0, none⟩) (nn3) (cc3)) (rn_load1 m19 3 rfl _ _ rfl (4) (e31.tmp 48 _ rfl) one42 _ rfl) fun a32 e32 => ?_
        refine td (fuel := 4) 4 rfl e32 m19 1 (d_one (h.kb m19.keep (m19.bx 1 _ _ _ _ rfl)) (by omega) b5 [0, 1, 2, 3, 7, 9] _ (m19.bx 5 _ _ _ _ rfl) rfl (m19.apart 5 1 _ _ rfl rfl (by decide) rfl) (by decide) (by decide) _ rfl) (fun _ => ⟨rfl, rfl, trivial⟩) fun d5 a33 w20 hd5 e33 m20 => ?_
        have hd5b : 0 ≤ d5 ∧ d5 ≤ 4294967295 := by simp at hd5; omega
        obtain ⟨d5n, rfl⟩ := Int.eq_ofNat_of_zero_le hd5b.1
        have hd5c : d5n ≤ 9 := by simp at hd5; omega
        refine tbb (fuel := 3) 5 rfl e33 m20 6 42 1 3 ((cellsOf i64A [((d5n : Nat) : Int)]).toArray) (vs := #[(0, .int .i64 (((d5n : Nat) : Int)))]) (fun w => by kernel_rfl) (fun _ => ⟨rfl, rfl, trivial⟩) fun a34 w21 b6 e34 m21 => ?_
        have rw6_0 : Rw ((cellsOf i64A [((d5n : Nat) : Int)]).toArray) 1 1 1 (cellsOf i64A ([((d5n : Nat) : Int)])) := Rw.lits i64A.sz [((d5n : Nat) : Int)] (by simp [maxLen])
        refine tpR (fuel := 2) 6 rfl e34 m21 84 6 el3 rw3o rw6_0 (cellsOf_one i64A.one _) (fun _ _ => ⟨rfl, rfl, trivial⟩) fun a35 w22 b84_35 cap84_35 cur84_35 e35 m22 rw84_35 => ?_
        replace rw84_35 := rw84_35.app
        refine wtd (fuel := 1) [(7, 0)] e35 m22 [(55, zP b3 4)] [] vl0 fun a36 e36 => ?_
        refine ts (fuel := 0) 8 rfl e36 m22 3 one42.sz (4) (.slice (some ⟨b84_35, 0, none⟩) (nn3 + 1) (cap84_35)) (#[.slice d1.1 d1.2.1 d1.2.2.1, .string (z0), .slice d2.1 d2.2.1 d2.2.2.1, zS bb2 nn2 cc2, zS b84_35 (nn3 + 1) cap84_35]) ⟨rfl, rfl, trivial⟩ (hin := (by simp)) (hA := (by kernel_rfl)) fun w23 m23 => ?_
        refine wpAnyH_done (by kernel_rfl) ?_ _
        refine in_normal (then_normal (wp_region_lit ?_))
        refine wb 1 e36 [(46, zN kk3)] fun a37 e37 => ?_
        refine kv e37 (zN (kk3 - 1)) (rn_bin _ _ _ _ _ rfl .i64 _ _ (e37.tmp 46 _ rfl) rfl (.int .i64 (IntKind.wrap .i64 (((kk3 : Nat) : Int) - 1))) _ rfl (subN (i := kk3) (c := 1) .i64 (by omega) (by rw [IntKind.wrap_i64]; omega))) fun a38 e38 => ?_
        refine wb 1 e38 [(7, zN (kk3 - 1))] fun a39 e39 => ?_
        refine wpList_nil ?_
        exact ⟨1 * (kk3 - 1), by omega, Or.inr ⟨kk3 - 1, (oo3) ++ ([((d5n : Nat) : Int)]), nn3 + 1, b84_35, cap84_35, cur84_35, qq3 + 1, rfl, ⟨by simp [hn3], by omega, rw84_35, by omega⟩, e39.sb, m23.sb⟩⟩
       ·
        refine sd e31 m19 1 (fun _ => ⟨rfl, rfl, trivial⟩) (d_one (h.kb m19.keep (m19.bx 1 _ _ _ _ rfl)) (by omega) b5 [0, 1, 2, 3, 7, 9] _ (m19.bx 5 _ _ _ _ rfl) rfl (m19.apart 5 1 _ _ rfl rfl (by decide) rfl) (by decide) (by decide) _ rfl) fun d5 a32 w20 hd5 e32 m20 => ?_
        have hd5b : 0 ≤ d5 ∧ d5 ≤ 4294967295 := by simp at hd5; omega
        obtain ⟨d5n, rfl⟩ := Int.eq_ofNat_of_zero_le hd5b.1
        have hd5c : d5n ≤ 9 := by simp at hd5; omega
        refine up2 (fuel := 4) 1 5 rfl rfl ?_ ?_
        ·
         refine sv e32 m20 (.slice (some ⟨bb3, 0, none⟩) (nn3) (cc3)) (rn_load1 m20 3 rfl _ _ rfl (4) (e32.tmp 48 _ rfl) one42 _ rfl) fun a33 e33 => ?_
         refine tbb (fuel := 3) 5 rfl e33 m20 6 42 1 3 ((cellsOf i64A [((d5n : Nat) : Int)]).toArray) (vs := #[(0, .int .i64 (((d5n : Nat) : Int)))]) (fun w => by kernel_rfl) (fun _ => ⟨rfl, rfl, trivial⟩) fun a34 w21 b6 e34 m21 => ?_
         have rw6_0 : Rw ((cellsOf i64A [((d5n : Nat) : Int)]).toArray) 1 1 1 (cellsOf i64A ([((d5n : Nat) : Int)])) := Rw.lits i64A.sz [((d5n : Nat) : Int)] (by simp [maxLen])
         refine tpR (fuel := 2) 6 rfl e34 m21 84 6 el3 rw3o rw6_0 (cellsOf_one i64A.one _) (fun _ _ => ⟨rfl, rfl, trivial⟩) fun a35 w22 b84_35 cap84_35 cur84_35 e35 m22 rw84_35 => ?_
         replace rw84_35 := rw84_35.app
         refine wtd (fuel := 1) [(7, 0)] e35 m22 [(55, zP b3 4)] [] vl0 fun a36 e36 => ?_
         refine ts (fuel := 0) 8 rfl e36 m22 3 one42.sz (4) (.slice (some ⟨b84_35, 0, none⟩) (nn3 + 1) (cap84_35)) (#[.slice d1.1 d1.2.1 d1.2.2.1, .string (z0), .slice d2.1 d2.2.1 d2.2.2.1, zS bb2 nn2 cc2, zS b84_35 (nn3 + 1) cap84_35]) ⟨rfl, rfl, trivial⟩ (hin := (by simp)) (hA := (by kernel_rfl)) fun w23 m23 => ?_
         refine wpAnyH_done (by kernel_rfl) ?_ _
         refine in_normal (then_normal (wp_region_lit ?_))
         refine wb 1 e36 [(46, zN kk3)] fun a37 e37 => ?_
         refine kv e37 (zN (kk3 - 1)) (rn_bin _ _ _ _ _ rfl .i64 _ _ (e37.tmp 46 _ rfl) rfl (.int .i64 (IntKind.wrap .i64 (((kk3 : Nat) : Int) - 1))) _ rfl (subN (i := kk3) (c := 1) .i64 (by omega) (by rw [IntKind.wrap_i64]; omega))) fun a38 e38 => ?_
         refine wb 1 e38 [(7, zN (kk3 - 1))] fun a39 e39 => ?_
         refine wpList_nil ?_
         exact ⟨1 * (kk3 - 1), by omega, Or.inr ⟨kk3 - 1, (oo3) ++ ([((d5n : Nat) : Int)]), nn3 + 1, b84_35, cap84_35, cur84_35, qq3 + 1, rfl, ⟨by simp [hn3], by omega, rw84_35, by omega⟩, e39.sb, m23.sb⟩⟩
        ·
         refine sb e32 m20 6 42 1 3 ((cellsOf i64A [((d5n : Nat) : Int)]).toArray) (vs := #[(0, .int .i64 (((d5n : Nat) : Int)))]) (fun w => by kernel_rfl) (fun _ => ⟨rfl, rfl, trivial⟩) fun a33 w21 b6 e33 m21 => ?_
         have rw6_0 : Rw ((cellsOf i64A [((d5n : Nat) : Int)]).toArray) 1 1 1 (cellsOf i64A ([((d5n : Nat) : Int)])) := Rw.lits i64A.sz [((d5n : Nat) : Int)] (by simp [maxLen])
         refine up1 (fuel := 3) 1 rfl ?_
         refine sv e33 m21 (.slice (some ⟨bb3, 0, none⟩) (nn3) (cc3)) (rn_load1 m21 3 rfl _ _ rfl (4) (e33.tmp 48 _ rfl) one42 _ rfl) fun a34 e34 => ?_
         refine tpR (fuel := 2) 6 rfl e34 m21 84 6 el3 rw3o rw6_0 (cellsOf_one i64A.one _) (fun _ _ => ⟨rfl, rfl, trivial⟩) fun a35 w22 b84_35 cap84_35 cur84_35 e35 m22 rw84_35 => ?_
         replace rw84_35 := rw84_35.app
         refine wtd (fuel := 1) [(7, 0)] e35 m22 [(55, zP b3 4)] [] vl0 fun a36 e36 => ?_
         refine ts (fuel := 0) 8 rfl e36 m22 3 one42.sz (4) (.slice (some ⟨b84_35, 0, none⟩) (nn3 + 1) (cap84_35)) (#[.slice d1.1 d1.2.1 d1.2.2.1, .string (z0), .slice d2.1 d2.2.1 d2.2.2.1, zS bb2 nn2 cc2, zS b84_35 (nn3 + 1) cap84_35]) ⟨rfl, rfl, trivial⟩ (hin := (by simp)) (hA := (by kernel_rfl)) fun w23 m23 => ?_
         refine wpAnyH_done (by kernel_rfl) ?_ _
         refine in_normal (then_normal (wp_region_lit ?_))
         refine wb 1 e36 [(46, zN kk3)] fun a37 e37 => ?_
         refine kv e37 (zN (kk3 - 1)) (rn_bin _ _ _ _ _ rfl .i64 _ _ (e37.tmp 46 _ rfl) rfl (.int .i64 (IntKind.wrap .i64 (((kk3 : Nat) : Int) - 1))) _ rfl (subN (i := kk3) (c := 1) .i64 (by omega) (by rw [IntKind.wrap_i64]; omega))) fun a38 e38 => ?_
         refine wb 1 e38 [(7, zN (kk3 - 1))] fun a39 e39 => ?_
         refine wpList_nil ?_
         exact ⟨1 * (kk3 - 1), by omega, Or.inr ⟨kk3 - 1, (oo3) ++ ([((d5n : Nat) : Int)]), nn3 + 1, b84_35, cap84_35, cur84_35, qq3 + 1, rfl, ⟨by simp [hn3], by omega, rw84_35, by omega⟩, e39.sb, m23.sb⟩⟩
   ·
    have hd2p := of_decide_eq_true hd2
    refine wr [1] e22 m13 [(32, zT)] [] (vb (hd2) vl0) fun a23 w14 e23 m14 => ?_
    refine wl_end (wp_condT (he := e23) rfl (wp_skip (then_normal (wp_seq (wp_block ?_)))))
    refine wh_begin (by kernel_rfl) m14 [(2, ⟨true, b2, 44, #[.slice none 0 0, .string (⟨#[]⟩), .slice none 0 0, .slice none 0 0, .slice none 0 0]⟩), (4, ⟨true, ob, 5, oa⟩)] ⟨rfl, rfl, trivial⟩ (fun w15 m15 => ?_)
    refine wtd (fuel := 6) [(0, 0), (2, 0)] e23 m15 [(37, zP B 0), (35, zP b3 3)] [] vl0 fun a24 e24 => ?_
    refine up2 (fuel := 5) 1 3 rfl rfl ?_ ?_
    ·
     refine sv e24 m15 (.slice (some ⟨bb2, 0, none⟩) (nn2) (cc2)) (rn_load1 m15 3 rfl _ _ rfl (3) (e24.tmp 35 _ rfl) one42 _ rfl) fun a25 e25 => ?_
     refine td (fuel := 4) 3 rfl e25 m15 1 (d_number (h.kb m15.keep (m15.bx 1 _ _ _ _ rfl)) (by omega)) (fun _ => ⟨rfl, rfl, trivial⟩) fun d4 a26 w16 hd4 e26 m16 => ?_
     have hd4b : d4.2 ≤ qq2 + 3 := hd4
     refine tbb (fuel := 3) 4 rfl e26 m16 5 42 1 3 ((cellsOf i64A [((d4.1 : Nat) : Int)]).toArray) (vs := #[(0, .int .i64 (((d4.1 : Nat) : Int)))]) (fun w => by kernel_rfl) (fun _ => ⟨rfl, rfl, trivial⟩) fun a27 w17 b5 e27 m17 => ?_
     have rw5_0 : Rw ((cellsOf i64A [((d4.1 : Nat) : Int)]).toArray) 1 1 1 (cellsOf i64A ([((d4.1 : Nat) : Int)])) := Rw.lits i64A.sz [((d4.1 : Nat) : Int)] (by simp [maxLen])
     refine tpR (fuel := 2) 5 rfl e27 m17 83 5 el3 rw2o rw5_0 (cellsOf_one i64A.one _) (fun _ _ => ⟨rfl, rfl, trivial⟩) fun a28 w18 b83_28 cap83_28 cur83_28 e28 m18 rw83_28 => ?_
     replace rw83_28 := rw83_28.app
     refine wtd (fuel := 1) [(6, 0)] e28 m18 [(41, zP b3 3)] [] vl0 fun a29 e29 => ?_
     refine ts (fuel := 0) 7 rfl e29 m18 3 one42.sz (3) (.slice (some ⟨b83_28, 0, none⟩) (nn2 + 1) (cap83_28)) (#[.slice d1.1 d1.2.1 d1.2.2.1, .string (z0), .slice d2.1 d2.2.1 d2.2.2.1, zS b83_28 (nn2 + 1) cap83_28, .slice none 0 0]) ⟨rfl, rfl, trivial⟩ (hin := (by simp)) (hA := (by kernel_rfl)) fun w19 m19 => ?_
     refine wpAnyH_done (by kernel_rfl) ?_ _
     refine in_normal (then_normal (wp_region_lit ?_))
     refine wb 1 e29 [(33, zN kk2)] fun a30 e30 => ?_
     refine kv e30 (zN (kk2 - 1)) (rn_bin _ _ _ _ _ rfl .i64 _ _ (e30.tmp 33 _ rfl) rfl (.int .i64 (IntKind.wrap .i64 (((kk2 : Nat) : Int) - 1))) _ rfl (subN (i := kk2) (c := 1) .i64 (by omega) (by rw [IntKind.wrap_i64]; omega))) fun a31 e31 => ?_
     refine wb 1 e31 [(6, zN (kk2 - 1))] fun a32 e32 => ?_
     refine wpList_nil ?_
     exact ⟨1 * (kk2 - 1), by omega, Or.inr ⟨kk2 - 1, (oo2) ++ ([((d4.1 : Nat) : Int)]), nn2 + 1, b83_28, cap83_28, cur83_28, d4.2, rfl, ⟨by simp [hn2], by omega, rw83_28, by omega⟩, e32.sb, m19.sb⟩⟩
    ·
     refine sd e24 m15 1 (fun _ => ⟨rfl, rfl, trivial⟩) (d_number (h.kb m15.keep (m15.bx 1 _ _ _ _ rfl)) (by omega)) fun d4 a25 w16 hd4 e25 m16 => ?_
     have hd4b : d4.2 ≤ qq2 + 3 := hd4
     refine up2 (fuel := 4) 1 4 rfl rfl ?_ ?_
     ·
      refine sv e25 m16 (.slice (some ⟨bb2, 0, none⟩) (nn2) (cc2)) (rn_load1 m16 3 rfl _ _ rfl (3) (e25.tmp 35 _ rfl) one42 _ rfl) fun a26 e26 => ?_
      refine tbb (fuel := 3) 4 rfl e26 m16 5 42 1 3 ((cellsOf i64A [((d4.1 : Nat) : Int)]).toArray) (vs := #[(0, .int .i64 (((d4.1 : Nat) : Int)))]) (fun w => by kernel_rfl) (fun _ => ⟨rfl, rfl, trivial⟩) fun a27 w17 b5 e27 m17 => ?_
      have rw5_0 : Rw ((cellsOf i64A [((d4.1 : Nat) : Int)]).toArray) 1 1 1 (cellsOf i64A ([((d4.1 : Nat) : Int)])) := Rw.lits i64A.sz [((d4.1 : Nat) : Int)] (by simp [maxLen])
      refine tpR (fuel := 2) 5 rfl e27 m17 83 5 el3 rw2o rw5_0 (cellsOf_one i64A.one _) (fun _ _ => ⟨rfl, rfl, trivial⟩) fun a28 w18 b83_28 cap83_28 cur83_28 e28 m18 rw83_28 => ?_
      replace rw83_28 := rw83_28.app
      refine wtd (fuel := 1) [(6, 0)] e28 m18 [(41, zP b3 3)] [] vl0 fun a29 e29 => ?_
      refine ts (fuel := 0) 7 rfl e29 m18 3 one42.sz (3) (.slice (some ⟨b83_28, 0, none⟩) (nn2 + 1) (cap83_28)) (#[.slice d1.1 d1.2.1 d1.2.2.1, .string (z0), .slice d2.1 d2.2.1 d2.2.2.1, zS b83_28 (nn2 + 1) cap83_28, .slice none 0 0]) ⟨rfl, rfl, trivial⟩ (hin := (by simp)) (hA := (by kernel_rfl)) fun w19 m19 => ?_
      refine wpAnyH_done (by kernel_rfl) ?_ _
      refine in_normal (then_normal (wp_region_lit ?_))
      refine wb 1 e29 [(33, zN kk2)] fun a30 e30 => ?_
      refine kv e30 (zN (kk2 - 1)) (rn_bin _ _ _ _ _ rfl .i64 _ _ (e30.tmp 33 _ rfl) rfl (.int .i64 (IntKind.wrap .i64 (((kk2 : Nat) : Int) - 1))) _ rfl (subN (i := kk2) (c := 1) .i64 (by omega) (by rw [IntKind.wrap_i64]; omega))) fun a31 e31 => ?_
      refine wb 1 e31 [(6, zN (kk2 - 1))] fun a32 e32 => ?_
      refine wpList_nil ?_
      exact ⟨1 * (kk2 - 1), by omega, Or.inr ⟨kk2 - 1, (oo2) ++ ([((d4.1 : Nat) : Int)]), nn2 + 1, b83_28, cap83_28, cur83_28, d4.2, rfl, ⟨by simp [hn2], by omega, rw83_28, by omega⟩, e32.sb, m19.sb⟩⟩
     ·
      refine sb e25 m16 5 42 1 3 ((cellsOf i64A [((d4.1 : Nat) : Int)]).toArray) (vs := #[(0, .int .i64 (((d4.1 : Nat) : Int)))]) (fun w => by kernel_rfl) (fun _ => ⟨rfl, rfl, trivial⟩) fun a26 w17 b5 e26 m17 => ?_
      have rw5_0 : Rw ((cellsOf i64A [((d4.1 : Nat) : Int)]).toArray) 1 1 1 (cellsOf i64A ([((d4.1 : Nat) : Int)])) := Rw.lits i64A.sz [((d4.1 : Nat) : Int)] (by simp [maxLen])
      refine up1 (fuel := 3) 1 rfl ?_
      refine sv e26 m17 (.slice (some ⟨bb2, 0, none⟩) (nn2) (cc2)) (rn_load1 m17 3 rfl _ _ rfl (3) (e26.tmp 35 _ rfl) one42 _ rfl) fun a27 e27 => ?_
      refine tpR (fuel := 2) 5 rfl e27 m17 83 5 el3 rw2o rw5_0 (cellsOf_one i64A.one _) (fun _ _ => ⟨rfl, rfl, trivial⟩) fun a28 w18 b83_28 cap83_28 cur83_28 e28 m18 rw83_28 => ?_
      replace rw83_28 := rw83_28.app
      refine wtd (fuel := 1) [(6, 0)] e28 m18 [(41, zP b3 3)] [] vl0 fun a29 e29 => ?_
      refine ts (fuel := 0) 7 rfl e29 m18 3 one42.sz (3) (.slice (some ⟨b83_28, 0, none⟩) (nn2 + 1) (cap83_28)) (#[.slice d1.1 d1.2.1 d1.2.2.1, .string (z0), .slice d2.1 d2.2.1 d2.2.2.1, zS b83_28 (nn2 + 1) cap83_28, .slice none 0 0]) ⟨rfl, rfl, trivial⟩ (hin := (by simp)) (hA := (by kernel_rfl)) fun w19 m19 => ?_
      refine wpAnyH_done (by kernel_rfl) ?_ _
      refine in_normal (then_normal (wp_region_lit ?_))
      refine wb 1 e29 [(33, zN kk2)] fun a30 e30 => ?_
      refine kv e30 (zN (kk2 - 1)) (rn_bin _ _ _ _ _ rfl .i64 _ _ (e30.tmp 33 _ rfl) rfl (.int .i64 (IntKind.wrap .i64 (((kk2 : Nat) : Int) - 1))) _ rfl (subN (i := kk2) (c := 1) .i64 (by omega) (by rw [IntKind.wrap_i64]; omega))) fun a31 e31 => ?_
      refine wb 1 e31 [(6, zN (kk2 - 1))] fun a32 e32 => ?_
      refine wpList_nil ?_
      exact ⟨1 * (kk2 - 1), by omega, Or.inr ⟨kk2 - 1, (oo2) ++ ([((d4.1 : Nat) : Int)]), nn2 + 1, b83_28, cap83_28, cur83_28, d4.2, rfl, ⟨by simp [hn2], by omega, rw83_28, by omega⟩, e32.sb, m19.sb⟩⟩
 ·
  have hd1p := of_decide_eq_true hd1
  refine wr [1] e13 m8 [(15, zT)] [] (vb (hd1) vl0) fun a14 w9 e14 m9 => ?_
  refine wl_end (wp_condT (he := e14) rfl (wp_skip (then_normal (wp_seq (wp_block (wp_region_lit ?_))))))
  refine wb 2 e14 [(19, zP B 0), (18, zS ob on oc)] fun a15 e15 => ?_
  refine kb e15 m9 5 42 10 3 (#[zI 0, zI 1, zI 2, zI 3, zI 5, zI 7, zI 9, zI 10, zI 200, zI 255]) (vs := #[(0, .int .i64 (0)), (1, .int .i64 (1)), (2, .int .i64 (2)), (3, .int .i64 (3)), (4, .int .i64 (5)), (5, .int .i64 (7)), (6, .int .i64 (9)), (7, .int .i64 (10)), (8, .int .i64 (200)), (9, .int .i64 (255))]) (by kernel_rfl) fun a16 w10 b5 e16 m10 => ?_
  refine kd e16 m10 1 (d_one (h.kb m10.keep (m10.bx 1 _ _ _ _ rfl)) (by omega) b5 [0, 1, 2, 3, 5, 7, 9, 10, 200, 255] _ (m10.bx 5 _ _ _ _ rfl) rfl (m10.apart 5 1 _ _ rfl rfl (by decide) rfl) (by decide) (by decide) _ rfl) fun d3 a17 w11 hd3 e17 m11 => ?_
  have hd3b : 0 ≤ d3 ∧ d3 ≤ 4294967295 := by simp at hd3; omega
  obtain ⟨d3n, rfl⟩ := Int.eq_ofNat_of_zero_le hd3b.1
  have hd3c : d3n ≤ 255 := by simp at hd3; omega
  refine kv e17 (.int .u8 (((d3n : Nat) : Int))) (rn_conv _ _ _ rfl _ (.int .u8 (IntKind.u8.wrap (((d3n : Nat) : Int)))) _ (e17.tmp 21 _ rfl) (by kernel_rfl) (wr8 (n := d3n) (by omega))) fun a18 e18 => ?_
  refine kb e18 m11 6 22 1 5 ((cellsOf u8A [d3n]).toArray) (vs := #[(0, .int .u8 (((d3n : Nat) : Int)))]) (by kernel_rfl) fun a19 w12 b6 e19 m12 => ?_
  have rw6_0 : Rw ((cellsOf u8A [d3n]).toArray) 1 1 1 (cellsOf u8A ([d3n])) := Rw.lits u8A.sz [d3n] (by simp [maxLen])
  refine kpR e19 m12 4 6 el5 horw rw6_0 (cellsOf_one u8A.one _) fun a20 w13 b4_20 cap4_20 cur4_20 e20 m13 rw4_20 => ?_
  replace rw4_20 := rw4_20.app
  refine wb 1 e20 [(4, zS b4_20 (on + 1) cap4_20)] fun a21 e21 => ?_
  refine wpList_nil (in_normal (then_normal (wp_region_lit ?_)))
  refine wr [0, 1, 0] e21 m13 [(5, zN (i + 1)), (17, zN (i + 1)), (16, zN i)] [] (vn i 1 vl0) fun a22 w14 e22 m14 => ?_
  refine wpList_nil ?_
  exact ⟨12 - (i + 1), by omega, i + 1, (o) ++ ([d3n]), on + 1, b4_20, cap4_20, cur4_20, q + 1, rfl, ⟨by omega, by simp [hcn], by omega, rw4_20, by omega⟩, e22.sb, m14.sb⟩
end Go.Proofs.Ytkaekiodjjhjkaa.W
