/- Rules that are drawn, tidied: the walk of the law. -/
import Derived.Test.YtkaekiodjjhjkaaJGrp3
import Derived.Test.YtkaekiodjjhjkaaJGrp20
import Derived.Test.YtkaekiodjjhjkaaJGrp8
set_option maxRecDepth 100000
set_option maxHeartbeats 4000000
set_option linter.unusedSimpArgs false
set_option linter.unusedVariables false
namespace Go.Proofs.Ytkaekiodjjhjkaa.W
open Go.RowKit
open Go.Proofs.Ytkaekiodjjhjkaa.H
structure DpX where
 L : List Ru
 cap : Nat
 cur : Array Value
section
variable (f : Nat → Ru) (b p n c : Nat) (w : World) (hR : RowAt w b p n 5 fun i => (f i).arr) (hn : n ≤ 1048576) (hok : ruOks f n = true)
include hR hn hok
theorem c_RTidy_nil (h : tidM f n = []) : Calls Try.prog 10 #[.slice (some ⟨b, p, none⟩) n c] w fun e w' => e = .returned (.slice none 0 0) ∧ Below w.heap.size w w' := by
 refine (c_RTidy0 f b p n c w hR hn hok).mono ?_
 rintro e w' (⟨_, h1⟩ | ⟨h1, _⟩)
 ·exact h1
 ·exact absurd h h1
theorem c_RTidyT (T : List Ru) (hT : T = tidM f n) (h : T ≠ []) : Calls Try.prog 10 #[.slice (some ⟨b, p, none⟩) n c] w fun e w' => NewRu w T e w' := by
 subst hT
 refine (c_RTidy0 f b p n c w hR hn hok).mono ?_
 rintro e w' (⟨h1, _⟩ | ⟨_, h1⟩)
 ·exact absurd h1 h
 ·exact h1
theorem c_spRTidyT (T : List Ru) (hT : T = tidM f n) : Calls Try.prog 12 #[.slice (some ⟨b, p, none⟩) n c] w fun e w' => NewRu w T e w' := by
 subst hT
 exact c_spRTidy f b p n c w hR hn hok
end
theorem tid3 (f : Nat → Ru) (n : Nat) : ruOks f n = false ∨ (ruOks f n = true ∧ tidM f n = []) ∨ ∃ T, ruOks f n = true ∧ T = tidM f n ∧ T ≠ [] := by
 cases h : ruOks f n
 ·exact .inl rfl
 ·by_cases h2 : tidM f n = []
  ·exact .inr (.inl ⟨rfl, h2⟩)
  ·exact .inr (.inr ⟨_, rfl, rfl, h2⟩)
theorem c_RTidy_no (f : Nat → Ru) (b p n c : Nat) (w : World) (hR : RowAt w b p n 5 fun i => (f i).arr) (hn : n ≤ 1048576) (hok : ruOks f n = false) :
 Calls Try.prog 10 #[.slice (some ⟨b, p, none⟩) (n) (c)] w fun e w' => e = .returned (.slice none 0 0) ∧ Below w.heap.size w w' := by
 refine calls_begin Try.func10 rfl 72 rfl (Nat.le_of_ble_eq_true rfl) [(0, .slice (some ⟨b, p, none⟩) (n) (c))] ⟨rfl, trivial⟩ (fun a0 e0 m0 => ?_)
 refine wp_seqR ?_
 refine wb 1 e0 [(2, .slice none 0 0)] fun a1 e1 => ?_
 refine wl_end (wp_seq (wp_seqR ?_))
 refine wb 1 e1 [(15, .slice (some ⟨b, p, none⟩) (n) (c))] fun a2 e2 => ?_
 refine kc e2 m0 (v := zF) (callsV (congrArg Value.bool (hok)) (c_Oks f b p n c _ (hR.kb m0.keep (by simp)) hn)) fun a3 w1 e3 m1 => ?_
 refine wb 1 e3 [(17, zT)] fun a4 e4 => ?_
 refine wl_end (wp_condT (he := e4) rfl (wp_seqR ?_))
 refine wb 1 e4 [(2, .slice none 0 0)] fun a5 e5 => ?_
 refine wl_end (wp_ret (ret_then ?_))
 exact bodyPost_ret (results_tmp e5 _ Try.results10 (.slice none 0 0) rfl) e5.defers ⟨rfl, m1.below⟩
theorem c_spRTidy_no (f : Nat → Ru) (b p n c : Nat) (w : World) (hR : RowAt w b p n 5 fun i => (f i).arr) (hn : n ≤ 1048576) (hok : ruOks f n = false) :
 Calls Try.prog 12 #[.slice (some ⟨b, p, none⟩) (n) (c)] w fun e w' => NewRu w [] e w' := by
 refine calls_begin Try.func12 rfl 78 rfl (Nat.le_of_ble_eq_true rfl) [(0, .slice (some ⟨b, p, none⟩) (n) (c))] ⟨rfl, trivial⟩ (fun a0 e0 m0 => ?_)
 refine wp_seqR ?_
 refine wb 1 e0 [(2, .slice none 0 0)] fun a1 e1 => ?_
 refine wl_end (wp_seqR ?_)
 refine kb e1 m0 1 23 0 30 ((cellsOf Ru.arr []).toArray) (vs := #[]) (by kernel_rfl) fun a2 w1 b1 e2 m1 => ?_
 have rw1_0 : Rw ((cellsOf Ru.arr []).toArray) 0 0 5 (cellsOf Ru.arr ([])) := Rw.lits Ru.sz [] (by simp [maxLen])
 refine wb 1 e2 [(3, zS b1 0 0)] fun a3 e3 => ?_
 refine wl_end (wp_seq (wp_seqR ?_))
 refine wb 1 e3 [(13, .slice (some ⟨b, p, none⟩) (n) (c))] fun a4 e4 => ?_
 refine kc e4 m1 (v := zF) (callsV (congrArg Value.bool (hok)) (c_oks f b p n c _ (hR.kb m1.keep (by simp)) hn)) fun a5 w2 e5 m2 => ?_
 refine wb 1 e5 [(15, zT)] fun a6 e6 => ?_
 refine wl_end (wp_condT (he := e6) rfl (wp_seqR ?_))
 refine wb 2 e6 [(2, zS b1 0 0), (16, zS b1 0 0)] fun a7 e7 => ?_
 refine wl_end (wp_ret (ret_then ?_))
 exact bodyPost_ret (results_tmp e7 _ Try.results12 (.slice (some ⟨b1, 0, none⟩) (0) (0)) rfl) e7.defers ⟨(0, (cellsOf Ru.arr []).toArray), _, rfl, m2.bx 1 _ _ _ _ rfl, rw1_0, by have := m2.own 1 _ rfl rfl; simpa using this, m2.below⟩
theorem c_Okn (a : Option Addr) (c : Nat) (w : World)  :
 Calls Try.prog 13 #[.slice (a) (0) (c)] w fun e w' => e = .returned (.bool true) ∧ Below w.heap.size w w' := by
 refine calls_begin Try.func13 rfl 18 rfl (Nat.le_of_ble_eq_true rfl) [(0, .slice (a) (0) (c))] ⟨rfl, trivial⟩ (fun a0 e0 m0 => ?_)
 refine wp_seqR ?_
 refine wb 1 e0 [(2, zF)] fun a1 e1 => ?_
 refine wl_end (wp_seq (wp_seqR ?_))
 refine wb 1 e1 [(5, .slice (a) (0) (c))] fun a2 e2 => ?_
 refine kv e2 (zI 0) (rn_builtin _ _ _ rfl #[.slice (a) (0) (c)] (map1 (e2.tmp 5 _ rfl)) (.int .i64 (0)) (by kernel_rfl)) fun a3 e3 => ?_
 refine wb 1 e3 [(7, zI 0)] fun a4 e4 => ?_
 refine wl_end (wp_block ?_)
 refine wp_loop_rounds 1 ?_
 rw [rounds_succ]
 refine wp_seqR ?_
 refine wr [1] e4 m0 [(8, zF)] [] (vlc (u := .bool (decide (0 < 0))) (v := .bool false) rfl vl0) fun a5 w1 e5 m1 => ?_
 refine wl_end (wp_seq (wp_condF (he := e5) rfl (wp_exit (exit_then (exit_then (exit_here (then_normal (wp_seqR ?_))))))))
 refine wb 1 e5 [(15, .slice (a) (0) (c))] fun a6 e6 => ?_
 refine kv e6 (zI 0) (rn_builtin _ _ _ rfl #[.slice (a) (0) (c)] (map1 (e6.tmp 15 _ rfl)) (.int .i64 (0)) (by kernel_rfl)) fun a7 e7 => ?_
 refine wr [1, 0] e7 m1 [(2, zT), (17, zT)] [] (vlc (u := .bool (decide (0 ≤ 6))) (v := .bool true) rfl vl0) fun a8 w2 e8 m2 => ?_
 refine wl_end (wp_ret ?_)
 exact bodyPost_ret (results_tmp e8 _ Try.results13 (.bool true) rfl) e8.defers ⟨rfl, m2.below⟩
theorem c_Ofn (a : Option Addr) (c : Nat) (s : ByteArray) (w : World) (hs : s.size = 12) :
 Calls Try.prog 6 #[.slice (a) (0) (c), .string (s)] w fun e w' => e = .returned (.tuple #[.int .i64 1, .int .i64 0]) ∧ Below w.heap.size w w' := by
 refine calls_begin Try.func6 rfl 33 rfl (Nat.le_of_ble_eq_true rfl) [(0, .slice (a) (0) (c)), (1, .string (s))] ⟨rfl, rfl, trivial⟩ (fun a0 e0 m0 => ?_)
 have hs1 : (((s.size : Nat) : Int) != 12) = false := by rw [hs]; rfl
 refine wp_seqR ?_
 refine wb 2 e0 [(5, zI 0), (4, zI 0)] fun a1 e1 => ?_
 refine wl_end (wp_seq (wp_seqR ?_))
 refine wb 1 e1 [(9, .slice (a) (0) (c))] fun a2 e2 => ?_
 refine kc e2 m0 (v := zT) (c_Okn a c _) fun a3 w1 e3 m1 => ?_
 refine wb 3 e3 [(13, .string (s)), (12, zF), (11, zF)] fun a4 e4 => ?_
 refine kv e4 (zN ((s).size)) (rn_builtin _ _ _ rfl #[.string (s)] (map1 (e4.tmp 13 _ rfl)) (.int .i64 ((((s).size : Nat) : Int))) (by kernel_rfl)) fun a5 e5 => ?_
 refine wr [1, 0] e5 m1 [(16, zF), (15, zF)] [] (vb (hs1) vl0) fun a6 w2 e6 m2 => ?_
 refine wl_end (wp_condF (he := e6) rfl (wp_skip (then_normal (wp_seq (wp_seqR ?_)))))
 refine wb 1 e6 [(17, .slice (a) (0) (c))] fun a7 e7 => ?_
 refine kv e7 (zI 0) (rn_builtin _ _ _ rfl #[.slice (a) (0) (c)] (map1 (e7.tmp 17 _ rfl)) (.int .i64 (0)) (by kernel_rfl)) fun a8 e8 => ?_
 refine wb 1 e8 [(19, zI 0)] fun a9 e9 => ?_
 refine wl_end (wp_block ?_)
 refine wp_loop_rounds 1 ?_
 rw [rounds_succ]
 refine wp_seqR ?_
 refine wr [1] e9 m2 [(20, zF)] [] (vlc (u := .bool (decide (0 < 0))) (v := .bool false) rfl vl0) fun a10 w3 e10 m3 => ?_
 refine wl_end (wp_seq (wp_condF (he := e10) rfl (wp_exit (exit_then (exit_then (exit_here (then_normal (wp_seqR ?_))))))))
 refine wb 2 e10 [(5, zI 0), (4, zI 1)] fun a11 e11 => ?_
 refine wl_end (wp_ret ?_)
 exact bodyPost_ret (results_tmp2 e11 _ _ Try.results6 (.int .i64 (1)) (.int .i64 (0)) rfl rfl) e11.defers ⟨rfl, m3.below⟩
theorem c_RTn (a : Option Addr) (c : Nat) (w : World)  :
 Calls Try.prog 10 #[.slice (a) (0) (c)] w fun e w' => e = .returned (.slice none 0 0) ∧ Below w.heap.size w w' := by
 refine calls_begin Try.func10 rfl 72 rfl (Nat.le_of_ble_eq_true rfl) [(0, .slice (a) (0) (c))] ⟨rfl, trivial⟩ (fun a0 e0 m0 => ?_)
 refine wp_seqR ?_
 refine wb 1 e0 [(2, .slice none 0 0)] fun a1 e1 => ?_
 refine wl_end (wp_seq (wp_seqR ?_))
 refine wb 1 e1 [(15, .slice (a) (0) (c))] fun a2 e2 => ?_
 refine kc e2 m0 (v := zT) (c_Okn a c _) fun a3 w1 e3 m1 => ?_
 refine wb 1 e3 [(17, zF)] fun a4 e4 => ?_
 refine wl_end (wp_condF (he := e4) rfl (wp_skip (then_normal (wp_seqR ?_))))
 refine ka e4 m1 1 57 (.agg zero12) (zero12) fun a5 w2 b1 e5 m2 => ?_
 refine wl_end (wp_seq (wp_seqR ?_))
 refine wb 1 e5 [(18, zI 0)] fun a6 e6 => ?_
 refine wl_end (wp_block ?_)
 refine wp_loopN (fun mz az wz => ∃ (i0 : Nat), ∃ (cur0 : Array Value), mz = 12 - (i0) ∧ (i0 ≤ 12 ∧ Rw (cur0) 12 12 4 (cellsOf ivArr (initS i0))) ∧ EV az 72 [] [(0, .slice (a) (0) (c)), (2, .slice none 0 0), (15, .slice (a) (0) (c)), (16, .bool true), (17, .bool false), (3, .pointer (some ⟨b1, 0, none⟩)), (18, .int .i64 (((i0 : Nat) : Int)))] ∧ MM [] w wz [(1, ⟨true, b1, 57, cur0⟩)]) ⟨_, 0, zero12, rfl, ⟨by omega, zero12_rw⟩, e6.sb, m2.sub _ ⟨rfl, trivial⟩⟩ ?_
 rintro mz1 a7 w3 ⟨i0, cur0, rfl, hrel1, e7, m3⟩
 obtain ⟨hra, hrw⟩ := hrel1
 refine wp_seqR ?_
 cases hd1 : (decide (((i0 : Nat) : Int) < 12))
 ·
  have hd1p := of_decide_eq_false hd1
  refine wr [1] e7 m3 [(19, zF)] [] (vb (hd1) vl0) fun a8 w4 e8 m4 => ?_
  refine wl_end (wp_seq (wp_condF (he := e8) rfl (wp_exit (exit_then (exit_then (exit_here (then_normal (wp_seqR ?_))))))))
  refine wb 1 e8 [(5, .slice none 0 0)] fun a9 e9 => ?_
  refine wl_end (wp_seq (wp_seqR ?_))
  refine wb 1 e9 [(25, .slice (a) (0) (c))] fun a10 e10 => ?_
  refine kv e10 (zI 0) (rn_builtin _ _ _ rfl #[.slice (a) (0) (c)] (map1 (e10.tmp 25 _ rfl)) (.int .i64 (0)) (by kernel_rfl)) fun a11 e11 => ?_
  refine wb 1 e11 [(27, zI 0)] fun a12 e12 => ?_
  refine wl_end (wp_block ?_)
  refine wp_loop_rounds 1 ?_
  rw [rounds_succ]
  refine wp_seqR ?_
  refine wr [1] e12 m4 [(28, zF)] [] (vlc (u := .bool (decide (0 < 0))) (v := .bool false) rfl vl0) fun a13 w5 e13 m5 => ?_
  refine wl_end (wp_seq (wp_condF (he := e13) rfl (wp_exit (exit_then (exit_then (exit_here (then_normal (wp_seqR ?_))))))))
  refine wb 2 e13 [(2, .slice none 0 0), (71, .slice none 0 0)] fun a14 e14 => ?_
  refine wl_end (wp_ret ?_)
  exact bodyPost_ret (results_tmp e14 _ Try.results10 (.slice none 0 0) rfl) e14.defers ⟨rfl, m5.below⟩
 ·
  have hd1p := of_decide_eq_true hd1
  refine wr [1] e7 m3 [(19, zT)] [] (vb (hd1) vl0) fun a8 w4 e8 m4 => ?_
  refine wl_end (wp_seq (wp_condT (he := e8) rfl (wp_skip (then_normal (wp_seq (wp_block (wp_seqR ?_)))))))
  refine wb 2 e8 [(4, zN i0), (20, zN i0)] fun a9 e9 => ?_
  refine wl_end (wp_region_lit ?_)
  refine wb 1 e9 [(21, zN i0)] fun a10 e10 => ?_
  refine kc e10 m4 (v := .agg (ivArr (full))) (c_from255 _) fun a11 w5 e11 m5 => ?_
  refine kv e11 (.pointer (some ⟨b1, 0 + i0 * 4, none⟩)) (rn_indexA _ _ _ rfl _ _ (.pointer (some ⟨b1, 0 + i0 * 4, none⟩)) (e11.tmp 3 _ rfl) (e11.tmp 21 _ rfl) (ixA 12 56 4 (by kernel_rfl) (fun w => by kernel_rfl) b1 0 (i0) (by omega) (by decide) _)) fun a12 e12 => ?_
  obtain ⟨q1, hq1⟩ : ∃ q1 : Array Value, q1 = ovw (cur0) (0 + i0 * 4) (ivArr (full)).toList := ⟨_, rfl⟩
  have rq1 : Rw q1 12 12 4 (cellsOf ivArr ((initS i0).set (i0) (full))) := by rw [hq1]; exact hrw.set ivArr.sz (by rw [initS_len (by omega)]; omega) _ _ (by omega)
  have fq1 := hrw.fit'
  refine ks e12 m5 1 agg56.sz (0 + i0 * 4) (.agg (ivArr (full))) (q1) (hc := (ivArr.one _)) (hA := hq1.symm) fun w6 m6 => ?_
  refine wpList_nil (in_normal (then_normal (wp_region_lit ?_)))
  refine wr [1, 0] e12 m6 [(18, zN (i0 + 1)), (24, zN (i0 + 1))] [] (vn i0 1 vl0) fun a13 w7 e13 m7 => ?_
  refine wpList_nil ?_
  exact ⟨12 - (i0 + 1), by omega, i0 + 1, q1, rfl, ⟨by omega, by have := rq1; rw [initS_set (by omega)] at this; exact this⟩, e13.sb, m7.sub _ ⟨rfl, trivial⟩⟩
theorem of_none {l : List Ru} {s : ByteArray} (ho : ruOks (fun i => l.getD i ru0) l.length = true) (h : tidM (fun i => l.getD i ru0) l.length = []) (hs : s.size = 12) : ofM (fun i => l.getD i ru0) l.length s = (1, 0) := by
 rw [← T_of ho h.symm s hs]
 rw [ofM_yes (T_ok ho h.symm) hs]; rfl
theorem c_drawTidy (a : Option Addr) (len cap : Nat) (w : World) (hc : len ≤ cap) (hs : Src w a len) (hl : cap < 2 ^ 63) :
 Calls Try.prog 9 #[.slice (a) (len) (cap)] w fun e w' => NewRow w (fun (x : DpX) b => .slice (some ⟨b, 0, none⟩) x.L.length x.cap) 30 (fun x => x.cur) (fun x => Rw x.cur x.L.length x.cap 5 (cellsOf Ru.arr x.L) ∧ x.L.length ≤ 6) e w' := by
 refine calls_begin Try.func9 rfl 6 rfl (Nat.le_of_ble_eq_true rfl) [(0, .slice (a) (len) (cap))] ⟨rfl, trivial⟩ (fun a0 e0 m0 => ?_)
 refine wp_seqR ?_
 refine wb 1 e0 [(2, .slice none 0 0)] fun a1 e1 => ?_
 refine wl_end (wp_seqR ?_)
 refine wb 1 e1 [(3, .slice (a) (len) (cap))] fun a2 e2 => ?_
 refine kn e2 m0 1 (c_open a len cap _ hc (hs.kb m0.keep) hl) fun x1 b1 a3 w1 hx1 e3 m1 => ?_
 have hgb := (m1.own 1 _ rfl rfl).resolve_right (by simp)
 have hsb := hx1.1
 have hlb := hx1.2
 refine kdn e3 m1 1 2 (d_rules _ (RS.of (m1.bx 1 _ _ _ _ rfl) hgb m1.keep hsb hlb) (by omega)) fun d1 b2 a4 w2 hd1 e4 m2 => ?_
 obtain ⟨hrw, hl6, hq1⟩ := hd1
 refine wb 1 e4 [(2, zS b2 d1.L.length d1.cap)] fun a5 e5 => ?_
 refine wl_end (wp_ret ?_)
 exact bodyPost_ret (results_tmp e5 _ Try.results9 (.slice (some ⟨b2, 0, none⟩) (d1.L.length) (d1.cap)) rfl) e5.defers ⟨⟨d1.L, d1.cap, d1.cur⟩, _, rfl, m2.bx 2 _ _ _ _ rfl, ⟨hrw, hl6⟩, (m2.own 2 _ rfl rfl).resolve_right (by simp), m2.below⟩
theorem law_tidy (a : Option Addr) (len cap : Nat) (aq : Option Addr) (lenq capq : Nat) (w : World) (hc : len ≤ cap) (hs : Src w a len) (hl : cap < 2 ^ 63) (hcq : lenq ≤ capq) (hsq : Src w aq lenq) (hlq : capq < 2 ^ 63) :
 Calls Try.prog 4 #[.slice (a) (len) (cap), .slice (aq) (lenq) (capq)] w fun e w' => e = .returned (.bool true) ∧ Below w.heap.size w w' := by
 refine calls_begin Try.func4 rfl 81 rfl (Nat.le_of_ble_eq_true rfl) [(0, .slice (a) (len) (cap)), (1, .slice (aq) (lenq) (capq))] ⟨rfl, rfl, trivial⟩ (fun a0 e0 m0 => ?_)
 refine wp_seqR ?_
 refine wb 1 e0 [(4, zF)] fun a1 e1 => ?_
 refine wl_end (wp_seq (wp_seqR ?_))
 refine wb 1 e1 [(13, .slice (a) (len) (cap))] fun a2 e2 => ?_
 refine kv e2 (zN len) (rn_builtin _ _ _ rfl #[.slice (a) (len) (cap)] (map1 (e2.tmp 13 _ rfl)) (.int .i64 (((len : Nat) : Int))) (by kernel_rfl)) fun a3 e3 => ?_
 cases hd1 : (decide (((len : Nat) : Int) > 1048576))
 ·
  have hd1p := of_decide_eq_false hd1
  refine wr [1, 0, 0] e3 m0 [(17, .slice (aq) (lenq) (capq)), (16, zF), (15, zF)] [] (vb (hd1) vl0) fun a4 w1 e4 m1 => ?_
  refine kv e4 (zN lenq) (rn_builtin _ _ _ rfl #[.slice (aq) (lenq) (capq)] (map1 (e4.tmp 17 _ rfl)) (.int .i64 (((lenq : Nat) : Int))) (by kernel_rfl)) fun a5 e5 => ?_
  cases hd2 : (decide (((lenq : Nat) : Int) > 1048576))
  ·
   have hd2p := of_decide_eq_false hd2
   refine wr [1, 0] e5 m1 [(20, zF), (19, zF)] [] (vb (hd2) vl0) fun a6 w2 e6 m2 => ?_
   refine wl_end (wp_condF (he := e6) rfl (wp_skip (then_normal (wp_seqR ?_))))
   refine wb 1 e6 [(21, .slice (a) (len) (cap))] fun a7 e7 => ?_
   refine kn e7 m2 1 (c_drawTidy a len cap _ hc (hs.kb m2.keep) hl) fun x1 b1 a8 w3 hx1 e8 m3 => ?_
   obtain ⟨hrw, hl6⟩ := hx1
   have hsx : ∀ z : Int × Int, ((z.1 == z.1) = true ∧ (z.2 == z.2) = true) := fun z => ⟨by simp, by simp⟩
   refine wb 1 e8 [(5, zS b1 x1.L.length x1.cap)] fun a9 e9 => ?_
   refine wl_end (wp_seqR ?_)
   refine wb 1 e9 [(23, zS b1 x1.L.length x1.cap)] fun a10 e10 => ?_
   rcases tid3 (fun i => x1.L.getD i ru0) x1.L.length with hok | ⟨hok, hem⟩ | ⟨T, hok, hT, hne⟩
   ·
    refine kc e10 m3 (v := .slice (none) (0) (0)) (c_RTidy_no (fun i => x1.L.getD i ru0) b1 0 x1.L.length x1.cap _ (Rw.rowAt RuSz ru0 hrw rfl (m3.bx 1 _ _ _ _ rfl)) (by omega) hok) fun a11 w4 e11 m4 => ?_
    refine wb 1 e11 [(6, .slice (none) (0) (0))] fun a12 e12 => ?_
    refine wl_end (wp_seq (wp_seqR ?_))
    refine wb 2 e12 [(26, zS b1 x1.L.length x1.cap), (25, .slice (none) (0) (0))] fun a13 e13 => ?_
    refine kn e13 m4 2 (c_spRTidy_no (fun i => x1.L.getD i ru0) b1 0 x1.L.length x1.cap _ (Rw.rowAt RuSz ru0 hrw rfl (m4.bx 1 _ _ _ _ rfl)) (by omega) hok) fun x2 b2 a14 w5 hx2 e14 m5 => ?_
    have rw2_n : Rw (x2.2) (0) (x2.1) 5 (cellsOf Ru.arr ([])) := hx2
    refine kc e14 m5 (v := zT) (c_sg0 none (some ⟨b2, 0, none⟩) 0 x2.1 _) fun a15 w6 e15 m6 => ?_
    refine wb 3 e15 [(31, zS b1 x1.L.length x1.cap), (30, zF), (29, zF)] fun a16 e16 => ?_
    refine kc e16 m6 (v := zF) (callsV (congrArg Value.bool (hok)) (c_Oks (fun i => x1.L.getD i ru0) b1 0 x1.L.length x1.cap _ (Rw.rowAt RuSz ru0 hrw rfl (m6.bx 1 _ _ _ _ rfl)) (by omega))) fun a17 w7 e17 m7 => ?_
    refine wb 2 e17 [(34, zT), (33, zT)] fun a18 e18 => ?_
    refine wl_end (wp_condT (he := e18) rfl (wp_seqR ?_))
    refine wb 2 e18 [(36, zS b1 x1.L.length x1.cap), (35, .slice (none) (0) (0))] fun a19 e19 => ?_
    refine kn e19 m7 3 (c_spRTidy_no (fun i => x1.L.getD i ru0) b1 0 x1.L.length x1.cap _ (Rw.rowAt RuSz ru0 hrw rfl (m7.bx 1 _ _ _ _ rfl)) (by omega) hok) fun x3 b3 a20 w8 hx3 e20 m8 => ?_
    have rw3_n : Rw (x3.2) (0) (x3.1) 5 (cellsOf Ru.arr ([])) := hx3
    refine kc e20 m8 (v := zT) (c_sg0 none (some ⟨b3, 0, none⟩) 0 x3.1 _) fun a21 w9 e21 m9 => ?_
    refine wb 1 e21 [(4, zT)] fun a22 e22 => ?_
    refine wl_end (wp_ret (ret_then ?_))
    exact bodyPost_ret (results_tmp e22 _ Try.results4 (.bool true) rfl) e22.defers ⟨rfl, m9.below⟩
   ·
    have hle0 : decide ((0 : Int) ≤ ((x1.L.length : Nat) : Int)) = true := decide_eq_true (by omega)
    refine kc e10 m3 (v := .slice (none) (0) (0)) (c_RTidy_nil (fun i => x1.L.getD i ru0) b1 0 x1.L.length x1.cap _ (Rw.rowAt RuSz ru0 hrw rfl (m3.bx 1 _ _ _ _ rfl)) (by omega) hok hem) fun a11 w4 e11 m4 => ?_
    refine wb 1 e11 [(6, .slice (none) (0) (0))] fun a12 e12 => ?_
    refine wl_end (wp_seq (wp_seqR ?_))
    refine wb 2 e12 [(26, zS b1 x1.L.length x1.cap), (25, .slice (none) (0) (0))] fun a13 e13 => ?_
    refine kn e13 m4 2 (c_spRTidyT (fun i => x1.L.getD i ru0) b1 0 x1.L.length x1.cap _ (Rw.rowAt RuSz ru0 hrw rfl (m4.bx 1 _ _ _ _ rfl)) (by omega) hok [] hem.symm) fun x2 b2 a14 w5 hx2 e14 m5 => ?_
    have rw2_n : Rw (x2.2) (0) (x2.1) 5 (cellsOf Ru.arr ([])) := hx2
    refine kc e14 m5 (v := zT) (c_sg0 none (some ⟨b2, 0, none⟩) 0 x2.1 _) fun a15 w6 e15 m6 => ?_
    refine wb 3 e15 [(31, zS b1 x1.L.length x1.cap), (30, zF), (29, zF)] fun a16 e16 => ?_
    refine kc e16 m6 (v := zT) (callsV (congrArg Value.bool (hok)) (c_Oks (fun i => x1.L.getD i ru0) b1 0 x1.L.length x1.cap _ (Rw.rowAt RuSz ru0 hrw rfl (m6.bx 1 _ _ _ _ rfl)) (by omega))) fun a17 w7 e17 m7 => ?_
    refine wb 2 e17 [(34, zF), (33, zF)] fun a18 e18 => ?_
    refine wl_end (wp_condF (he := e18) rfl (wp_skip (then_normal (wp_seqR ?_))))
    refine wb 1 e18 [(40, .slice (aq) (lenq) (capq))] fun a19 e19 => ?_
    refine kn e19 m7 3 (c_drawOf aq lenq capq _ hcq (hsq.kb m7.keep) hlq) fun x3 b3 a20 w8 hx3 e20 m8 => ?_
    obtain ⟨_, _, hs12⟩ := hx3
    refine wb 5 e20 [(8, .string (x3.came)), (7, zS b3 x3.L.length x3.cap), (43, .string (x3.came)), (42, zS b3 x3.L.length x3.cap), (39, .tuple #[.slice (some ⟨b3, 0, none⟩) (x3.L.length) (x3.cap), .string (x3.came)])] fun a21 e21 => ?_
    refine wl_end (wp_seqR ?_)
    refine wb 2 e21 [(46, .string (x3.came)), (45, zS b1 x1.L.length x1.cap)] fun a22 e22 => ?_
    refine kc e22 m8 (v := .tuple #[.int .i64 (1), .int .i64 (0)]) (callsV (congrArg (fun z : Int × Int => Value.tuple #[.int .i64 z.1, .int .i64 z.2]) (of_none hok hem hs12)) (c_Of (fun i => x1.L.getD i ru0) b1 0 x1.L.length x1.cap x3.came _ (Rw.rowAt RuSz ru0 hrw rfl (m8.bx 1 _ _ _ _ rfl)) (by omega))) fun a23 w9 e23 m9 => ?_
    refine wb 5 e23 [(10, zI 0), (9, zI 1), (49, zI 0), (48, zI 1), (44, .tuple #[.int .i64 (1), .int .i64 (0)])] fun a24 e24 => ?_
    refine wl_end (wp_seqR ?_)
    refine wb 2 e24 [(52, .string (x3.came)), (51, .slice (none) (0) (0))] fun a25 e25 => ?_
    refine kc e25 m9 (v := .tuple #[.int .i64 (1), .int .i64 (0)]) (c_Ofn none 0 _ _ hs12) fun a26 w10 e26 m10 => ?_
    refine wb 5 e26 [(12, zI 0), (11, zI 1), (55, zI 0), (54, zI 1), (50, .tuple #[.int .i64 (1), .int .i64 (0)])] fun a27 e27 => ?_
    refine wl_end (wp_seqR ?_)
    refine wb 1 e27 [(56, .slice (none) (0) (0))] fun a28 e28 => ?_
    refine kv e28 (zI 0) (rn_builtin _ _ _ rfl #[.slice (none) (0) (0)] (map1 (e28.tmp 56 _ rfl)) (.int .i64 (0)) (by kernel_rfl)) fun a29 e29 => ?_
    refine wb 1 e29 [(58, zS b1 x1.L.length x1.cap)] fun a30 e30 => ?_
    refine kv e30 (zN x1.L.length) (rn_builtin _ _ _ rfl #[.slice (some ⟨b1, 0, none⟩) (x1.L.length) (x1.cap)] (map1 (e30.tmp 58 _ rfl)) (.int .i64 (((x1.L.length : Nat) : Int))) (by kernel_rfl)) fun a31 e31 => ?_
    refine wr [1, 0, 0] e31 m10 [(62, .slice (none) (0) (0)), (61, zT), (60, zT)] [] (vb (hle0) vl0) fun a32 w11 e32 m11 => ?_
    refine kc e32 m11 (v := zT) (c_Okn none 0 _) fun a33 w12 e33 m12 => ?_
    refine wb 3 e33 [(66, .slice (none) (0) (0)), (65, zT), (64, zT)] fun a34 e34 => ?_
    refine kc e34 m12 (v := .slice (none) (0) (0)) (c_RTn none 0 _) fun a35 w13 e35 m13 => ?_
    refine wb 1 e35 [(68, .slice (none) (0) (0))] fun a36 e36 => ?_
    refine kc e36 m13 (v := zT) (c_sg0 none none 0 0 _) fun a37 w14 e37 m14 => ?_
    refine wr [0, 0, 0, 0, 1, 0, 0, 0, 0, 1, 0, 0] e37 m14 [(4, zT), (80, zT), (79, zT), (78, zI 0), (77, zI 0), (76, zT), (75, zT), (74, zT), (73, zI 1), (72, zI 1), (71, zT), (70, zT)] [] (vlc (u := .bool ((0 == 0))) (v := .bool true) rfl (vlc (u := .bool ((1 == 1))) (v := .bool true) rfl vl0)) fun a38 w15 e38 m15 => ?_
    refine wl_end (wp_ret ?_)
    exact bodyPost_ret (results_tmp e38 _ Try.results4 (.bool true) rfl) e38.defers ⟨rfl, m15.below⟩
   ·
    have hTl := T_le hT
    have hTok := T_ok hok hT
    have hTT := (T_two hT).symm
    have hle1 : decide (((T.length : Nat) : Int) ≤ ((x1.L.length : Nat) : Int)) = true := decide_eq_true (by omega)
    refine kn e10 m3 2 (c_RTidyT (fun i => x1.L.getD i ru0) b1 0 x1.L.length x1.cap _ (Rw.rowAt RuSz ru0 hrw rfl (m3.bx 1 _ _ _ _ rfl)) (by omega) hok T hT hne) fun x2 b2 a11 w4 hx2 e11 m4 => ?_
    have rw2_n : Rw (x2.2) (T.length) (x2.1) 5 (cellsOf Ru.arr (T)) := hx2
    refine wb 1 e11 [(6, zS b2 T.length x2.1)] fun a12 e12 => ?_
    refine wl_end (wp_seq (wp_seqR ?_))
    refine wb 2 e12 [(26, zS b1 x1.L.length x1.cap), (25, zS b2 T.length x2.1)] fun a13 e13 => ?_
    refine kn e13 m4 3 (c_spRTidyT (fun i => x1.L.getD i ru0) b1 0 x1.L.length x1.cap _ (Rw.rowAt RuSz ru0 hrw rfl (m4.bx 1 _ _ _ _ rfl)) (by omega) hok T hT) fun x3 b3 a14 w5 hx3 e14 m5 => ?_
    have rw3_n : Rw (x3.2) (T.length) (x3.1) 5 (cellsOf Ru.arr (T)) := hx3
    refine kc e14 m5 (v := zT) (c_sg (fun i => T.getD i ru0) b2 0 T.length x2.1 b3 0 x3.1 _ (Rw.rowAt RuSz ru0 rw2_n rfl (m5.bx 2 _ _ _ _ rfl)) (Rw.rowAt RuSz ru0 rw3_n rfl (m5.bx 3 _ _ _ _ rfl)) (by omega)) fun a15 w6 e15 m6 => ?_
    refine wb 3 e15 [(31, zS b1 x1.L.length x1.cap), (30, zF), (29, zF)] fun a16 e16 => ?_
    refine kc e16 m6 (v := zT) (callsV (congrArg Value.bool (hok)) (c_Oks (fun i => x1.L.getD i ru0) b1 0 x1.L.length x1.cap _ (Rw.rowAt RuSz ru0 hrw rfl (m6.bx 1 _ _ _ _ rfl)) (by omega))) fun a17 w7 e17 m7 => ?_
    refine wb 2 e17 [(34, zF), (33, zF)] fun a18 e18 => ?_
    refine wl_end (wp_condF (he := e18) rfl (wp_skip (then_normal (wp_seqR ?_))))
    refine wb 1 e18 [(40, .slice (aq) (lenq) (capq))] fun a19 e19 => ?_
    refine kn e19 m7 4 (c_drawOf aq lenq capq _ hcq (hsq.kb m7.keep) hlq) fun x4 b4 a20 w8 hx4 e20 m8 => ?_
    obtain ⟨_, _, hs12⟩ := hx4
    refine wb 5 e20 [(8, .string (x4.came)), (7, zS b4 x4.L.length x4.cap), (43, .string (x4.came)), (42, zS b4 x4.L.length x4.cap), (39, .tuple #[.slice (some ⟨b4, 0, none⟩) (x4.L.length) (x4.cap), .string (x4.came)])] fun a21 e21 => ?_
    refine wl_end (wp_seqR ?_)
    refine wb 2 e21 [(46, .string (x4.came)), (45, zS b1 x1.L.length x1.cap)] fun a22 e22 => ?_
    refine kc e22 m8 (v := .tuple #[.int .i64 ((ofM (fun i => x1.L.getD i ru0) x1.L.length x4.came).1), .int .i64 ((ofM (fun i => x1.L.getD i ru0) x1.L.length x4.came).2)]) (c_Of (fun i => x1.L.getD i ru0) b1 0 x1.L.length x1.cap x4.came _ (Rw.rowAt RuSz ru0 hrw rfl (m8.bx 1 _ _ _ _ rfl)) (by omega)) fun a23 w9 e23 m9 => ?_
    refine wb 5 e23 [(10, zI ((ofM (fun i => x1.L.getD i ru0) x1.L.length x4.came).2)), (9, zI ((ofM (fun i => x1.L.getD i ru0) x1.L.length x4.came).1)), (49, zI ((ofM (fun i => x1.L.getD i ru0) x1.L.length x4.came).2)), (48, zI ((ofM (fun i => x1.L.getD i ru0) x1.L.length x4.came).1)), (44, .tuple #[.int .i64 ((ofM (fun i => x1.L.getD i ru0) x1.L.length x4.came).1), .int .i64 ((ofM (fun i => x1.L.getD i ru0) x1.L.length x4.came).2)])] fun a24 e24 => ?_
    refine wl_end (wp_seqR ?_)
    refine wb 2 e24 [(52, .string (x4.came)), (51, zS b2 T.length x2.1)] fun a25 e25 => ?_
    refine kc e25 m9 (v := .tuple #[.int .i64 ((ofM (fun i => x1.L.getD i ru0) x1.L.length x4.came).1), .int .i64 ((ofM (fun i => x1.L.getD i ru0) x1.L.length x4.came).2)]) (callsV (congrArg (fun z : Int × Int => Value.tuple #[.int .i64 z.1, .int .i64 z.2]) (T_of hok hT _ hs12)) (c_Of (fun i => T.getD i ru0) b2 0 T.length x2.1 x4.came _ (Rw.rowAt RuSz ru0 rw2_n rfl (m9.bx 2 _ _ _ _ rfl)) (by omega))) fun a26 w10 e26 m10 => ?_
    refine wb 5 e26 [(12, zI ((ofM (fun i => x1.L.getD i ru0) x1.L.length x4.came).2)), (11, zI ((ofM (fun i => x1.L.getD i ru0) x1.L.length x4.came).1)), (55, zI ((ofM (fun i => x1.L.getD i ru0) x1.L.length x4.came).2)), (54, zI ((ofM (fun i => x1.L.getD i ru0) x1.L.length x4.came).1)), (50, .tuple #[.int .i64 ((ofM (fun i => x1.L.getD i ru0) x1.L.length x4.came).1), .int .i64 ((ofM (fun i => x1.L.getD i ru0) x1.L.length x4.came).2)])] fun a27 e27 => ?_
    refine wl_end (wp_seqR ?_)
    refine wb 1 e27 [(56, zS b2 T.length x2.1)] fun a28 e28 => ?_
    refine kv e28 (zN T.length) (rn_builtin _ _ _ rfl #[.slice (some ⟨b2, 0, none⟩) (T.length) (x2.1)] (map1 (e28.tmp 56 _ rfl)) (.int .i64 (((T.length : Nat) : Int))) (by kernel_rfl)) fun a29 e29 => ?_
    refine wb 1 e29 [(58, zS b1 x1.L.length x1.cap)] fun a30 e30 => ?_
    refine kv e30 (zN x1.L.length) (rn_builtin _ _ _ rfl #[.slice (some ⟨b1, 0, none⟩) (x1.L.length) (x1.cap)] (map1 (e30.tmp 58 _ rfl)) (.int .i64 (((x1.L.length : Nat) : Int))) (by kernel_rfl)) fun a31 e31 => ?_
    refine wr [1, 0, 0] e31 m10 [(62, zS b2 T.length x2.1), (61, zT), (60, zT)] [] (vb (hle1) vl0) fun a32 w11 e32 m11 => ?_
    refine kc e32 m11 (v := zT) (callsV (congrArg Value.bool (hTok)) (c_Oks (fun i => T.getD i ru0) b2 0 T.length x2.1 _ (Rw.rowAt RuSz ru0 rw2_n rfl (m11.bx 2 _ _ _ _ rfl)) (by omega))) fun a33 w12 e33 m12 => ?_
    refine wb 3 e33 [(66, zS b2 T.length x2.1), (65, zT), (64, zT)] fun a34 e34 => ?_
    refine kn e34 m12 5 (c_RTidyT (fun i => T.getD i ru0) b2 0 T.length x2.1 _ (Rw.rowAt RuSz ru0 rw2_n rfl (m12.bx 2 _ _ _ _ rfl)) (by omega) hTok T hTT hne) fun x5 b5 a35 w13 hx5 e35 m13 => ?_
    have rw5_n : Rw (x5.2) (T.length) (x5.1) 5 (cellsOf Ru.arr (T)) := hx5
    refine wb 1 e35 [(68, zS b2 T.length x2.1)] fun a36 e36 => ?_
    refine kc e36 m13 (v := zT) (c_sg (fun i => T.getD i ru0) b5 0 T.length x5.1 b2 0 x2.1 _ (Rw.rowAt RuSz ru0 rw5_n rfl (m13.bx 5 _ _ _ _ rfl)) (Rw.rowAt RuSz ru0 rw2_n rfl (m13.bx 2 _ _ _ _ rfl)) (by omega)) fun a37 w14 e37 m14 => ?_
    refine wr [0, 0, 0, 0, 1, 0, 0, 0, 0, 1, 0, 0] e37 m14 [(4, zT), (80, zT), (79, zT), (78, zI ((ofM (fun i => x1.L.getD i ru0) x1.L.length x4.came).2)), (77, zI ((ofM (fun i => x1.L.getD i ru0) x1.L.length x4.came).2)), (76, zT), (75, zT), (74, zT), (73, zI ((ofM (fun i => x1.L.getD i ru0) x1.L.length x4.came).1)), (72, zI ((ofM (fun i => x1.L.getD i ru0) x1.L.length x4.came).1)), (71, zT), (70, zT)] [] (vb ((hsx (ofM (fun i => x1.L.getD i ru0) x1.L.length x4.came)).2) (vb ((hsx (ofM (fun i => x1.L.getD i ru0) x1.L.length x4.came)).1) vl0)) fun a38 w15 e38 m15 => ?_
    refine wl_end (wp_ret ?_)
    exact bodyPost_ret (results_tmp e38 _ Try.results4 (.bool true) rfl) e38.defers ⟨rfl, m15.below⟩
  ·
   have hd2p := of_decide_eq_true hd2
   refine wr [1, 0] e5 m1 [(20, zT), (19, zT)] [] (vb (hd2) vl0) fun a6 w2 e6 m2 => ?_
   refine wl_end (wp_condT (he := e6) rfl (wp_seqR ?_))
   refine wb 1 e6 [(4, zT)] fun a7 e7 => ?_
   refine wl_end (wp_ret (ret_then ?_))
   exact bodyPost_ret (results_tmp e7 _ Try.results4 (.bool true) rfl) e7.defers ⟨rfl, m2.below⟩
 ·
  have hd1p := of_decide_eq_true hd1
  refine wr [1, 0, 0, 0, 0, 0] e3 m0 [(20, zT), (19, zU), (18, zU), (17, zU), (16, zT), (15, zT)] [] (vb (hd1) vl0) fun a4 w1 e4 m1 => ?_
  refine wl_end (wp_condT (he := e4) rfl (wp_seqR ?_))
  refine wb 1 e4 [(4, zT)] fun a5 e5 => ?_
  refine wl_end (wp_ret (ret_then ?_))
  exact bodyPost_ret (results_tmp e5 _ Try.results4 (.bool true) rfl) e5.defers ⟨rfl, m1.below⟩
end Go.Proofs.Ytkaekiodjjhjkaa.W
