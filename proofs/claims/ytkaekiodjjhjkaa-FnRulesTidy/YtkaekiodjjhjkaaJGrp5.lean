/- The walks of the laws of two ranges. -/
import Derived.Test.YtkaekiodjjhjkaaJGrp4
import Derived.Test.YtkaekiodjjhjkaaJTk
import Derived.Deep.DeepCutAuto
import Derived.Test.YtkaekiodjjhjkaaJGrp3
import Derived.Test.YtkaekiodjjhjkaaJGrp2
set_option maxRecDepth 100000
set_option maxHeartbeats 2000000
set_option linter.unusedSimpArgs false
set_option linter.unusedVariables false
namespace Go.Proofs.Ytkaekiodjjhjkaa.H
open Go.RowKit
theorem st4_heap {k B : Nat} (hk : k ≠ B) (x y z u : Int) (w1 : World) : (Go.Proofs.Ytkaekiodjjhjkaa.H.st4 w1 B x y z u).heap[k]? = w1.heap[k]? :=
 (Below.heap_setCell _ _ _ k hk).trans ((Below.heap_setCell _ _ _ k hk).trans ((Below.heap_setCell _ _ _ k hk).trans (Below.heap_setCell _ _ _ k hk)))
theorem cell_heap {w1 w2 : World} {k : Nat} (j : Nat) (e : w2.heap[k]? = w1.heap[k]?) : w2.cell? ⟨k, j, none⟩ = w1.cell? ⟨k, j, none⟩ := World.cell?_of_block (w := w1) e
theorem Box4.heap {k : Nat} {lo hi b o : Int} {w1 w2 : World} (h : Box4 k lo hi b o w1) (e : w2.heap[k]? = w1.heap[k]?) : Box4 k lo hi b o w2 :=
 ⟨(cell_heap 0 e).trans h.c0, (cell_heap 1 e).trans h.c1, (cell_heap 2 e).trans h.c2, (cell_heap 3 e).trans h.c3⟩
theorem Box4.st4 {k B : Nat} {lo hi b o x y z u : Int} {w1 : World} (h : Box4 k lo hi b o w1) (hk : k ≠ B) : Box4 k lo hi b o (Go.Proofs.Ytkaekiodjjhjkaa.H.st4 w1 B x y z u) := h.heap (st4_heap hk x y z u w1)
theorem RBox.st4o {W : World} {B k : Nat} {x y z u : Int} (h : RBox W B x y z u) (hk : B ≠ k) (x' y' z' u' : Int) : RBox (Go.Proofs.Ytkaekiodjjhjkaa.H.st4 W k x' y' z' u') B x y z u := (st4_heap hk x' y' z' u' W).trans h
theorem Box4.drew {k : Nat} {lo hi b o : Int} {w1 : World} (h : Box4 k lo hi b o w1) : Box4 k lo hi b o w1.drew := ⟨h.c0, h.c1, h.c2, h.c3⟩
theorem st4_size (w1 : World) (B : Nat) (x y z u : Int) : w1.heap.size ≤ (st4 w1 B x y z u).heap.size := (st4_below (n₀ := 0) B x y z u (Below.refl 0 w1) (Nat.zero_le _)).size
structure Two (w : World) (a b c d e f g h : Int) (wr : World) : Prop where
 A : Box4 w.heap.size a b c d wr
 B : Box4 (w.heap.size + 1) e f g h wr
 l : w.heap.size + 1 < wr.heap.size
 bel : Below w.heap.size w wr
section
variable {w wr w' : World} {a b c d e f g h : Int}
theorem Two.below (t : Two w a b c d e f g h wr) (hb : Below wr.heap.size wr w') : Two w a b c d e f g h w' := by
 have := t.l; have := hb.size
 exact ⟨t.A.below hb (by omega), t.B.below hb t.l, by omega, t.bel.trans (hb.mono (by omega))⟩
theorem Two.drew (t : Two w a b c d e f g h wr) : Two w a b c d e f g h wr.drew := ⟨t.A.drew, t.B.drew, t.l, t.bel.drew⟩
theorem Two.alloc (t : Two w a b c d e f g h wr) (o : Obj) : Two w a b c d e f g h (wr.alloc o) := t.below ((Below.refl _ _).alloc (Nat.le_refl _) _)
theorem Two.st4 (t : Two w a b c d e f g h wr) {k : Nat} (hk : w.heap.size + 1 < k) (x y z u : Int) : Two w a b c d e f g h (Go.Proofs.Ytkaekiodjjhjkaa.H.st4 wr k x y z u) :=
 ⟨t.A.st4 (by omega), t.B.st4 (by omega), Nat.lt_of_lt_of_le t.l (st4_size _ _ _ _ _ _), st4_below _ _ _ _ _ t.bel (by omega)⟩
theorem Two.new (w : World) (a b c d e f g h : Int) (T : TypeId) : Two w a b c d e f g h ((w.alloc (.cells #[.int .i64 a, .int .i64 b, .int .i64 c, .int .i64 d] T)).alloc (.cells #[.int .i64 e, .int .i64 f, .int .i64 g, .int .i64 h] T)) := by
 refine ⟨(Box4.new w a b c d T).alloc (by simp) _, ?_, by simp, newB w _ _⟩
 have h0 := Box4.new (w.alloc (.cells #[.int .i64 a, .int .i64 b, .int .i64 c, .int .i64 d] T)) e f g h T
 simp only [World.size_alloc] at h0
 exact h0
end
end Go.Proofs.Ytkaekiodjjhjkaa.H
namespace Go.Proofs.Ytkaekiodjjhjkaa.H
open Go.RowKit
def meetB (a b c d e f g h : Nat) : Bool := (clashN c d g h == 0) && decide (max a e ≤ min b f) && someN (max a e) (min b f) (c ||| g) (d &&& h)
abbrev meetV (a b c d e f g h : Nat) : Value := rv (tLo (max a e) (min b f) (c ||| g)) (tHi (max a e) (min b f) (c ||| g) (d &&& h)) (tB (max a e) (min b f) (c ||| g)) (tO (max a e) (min b f) (d &&& h))
theorem meet_yes {a b c d e f g h : Nat} (A : OkN a b c d) (B : OkN e f g h) (hy : meetB a b c d e f g h = true) : clashN c d g h = 0 ∧ OkN (max a e) (min b f) (c ||| g) (d &&& h) ∧ someN (max a e) (min b f) (c ||| g) (d &&& h) = true := by
 rw [meetB, Bool.and_eq_true, Bool.and_eq_true, beq_iff_eq, decide_eq_true_eq] at hy
 exact ⟨hy.1.1, meet_ok A B hy.1.2, hy.2⟩
theorem rbit {P : Program} {op : Oper} {a : Act} {w : World} {b : BinOp} {T U : TypeId} {x y : Operand} {p q r : Int} (hx : a.eval x = .int .i64 p) (hy : a.eval y = .int .i64 q) (hv : bits b .i64 p q = r) (ho : op.op = .binOp b T x y U := by rfl) (hr : (binOp b T (.int .i64 p) (.int .i64 q)).run P w = .ok (.int .i64 (bits b .i64 p q)) w := by rfl) : (execOp a.eval op).run P w = .ok (.value (.int .i64 r)) w :=
 rn_bin b T U x y ho .i64 p q hx hy _ _ hr (congrArg (Value.int .i64) hv)
theorem mxN (a e : Nat) : ((max a e : Nat) : Int) = max (a : Int) e := by omega
theorem mnN (a e : Nat) : ((min a e : Nat) : Int) = min (a : Int) e := by omega
theorem l2some_no {a b c d e f g h m n : Nat} (A : OkN a b c d) (B : OkN e f g h) (hn : meetB a b c d e f g h = false) (hc : (((clashN c d g h : Nat) : Int) != 0) = false) (hm : max a e = m) (hx : min b f = n) (hk : m ≤ n) (w : World) :
 Calls Try.prog 78 #[rv m n (c ||| g : Nat) (d &&& h : Nat)] w fun ee w' => ee = .returned (.bool false) ∧ Below w.heap.size w w' := by
 subst hm; subst hx
 have e1 : decide (max a e ≤ min b f) = true := by simpa using hk
 have e2 : (clashN c d g h == 0) = true := by simp at hc ⊢; omega
 have hs : someN (max a e) (min b f) (c ||| g) (d &&& h) = false := by rw [meetB, e2, e1] at hn; simpa using hn
 have := c_l2Some _ _ _ _ w (meet_ok A B hk)
 rw [hs] at this; exact this
theorem l2some_yes {a b c d e f g h m n : Nat} (J : OkN (max a e) (min b f) (c ||| g) (d &&& h)) (hs : someN (max a e) (min b f) (c ||| g) (d &&& h) = true) (hm : max a e = m) (hx : min b f = n) (w : World) :
 Calls Try.prog 78 #[rv m n (c ||| g : Nat) (d &&& h : Nat)] w fun ee w' => ee = .returned (.bool true) ∧ Below w.heap.size w w' := by
 subst hm; subst hx
 have := c_l2Some _ _ _ _ w J
 rw [hs] at this; exact this
theorem l2tidy_m {a b c d e f g h m n : Nat} (J : OkN (max a e) (min b f) (c ||| g) (d &&& h)) (hm : max a e = m) (hx : min b f = n) (w : World) :
 Calls Try.prog 45 #[rv m n (c ||| g : Nat) (d &&& h : Nat)] w fun ee w' => ee = .returned (meetV a b c d e f g h) ∧ Below w.heap.size w w' := by
 subst hm; subst hx; exact c_l2Tidy _ _ _ _ w J
theorem some_yes {a b c d e f g h : Nat} (J : OkN (max a e) (min b f) (c ||| g) (d &&& h)) (hs : someN (max a e) (min b f) (c ||| g) (d &&& h) = true) (w : World) :
 Calls Try.prog 43 #[rv (max (a : Int) e) (min (b : Int) f) (c ||| g : Nat) (d &&& h : Nat)] w fun ee w' => ee = .returned (.bool true) ∧ Below w.heap.size w w' := by
 have := c_RangeSome _ _ _ _ w J
 rw [hs, mxN, mnN] at this; exact this
theorem tidy_yes {a b c d e f g h : Nat} (J : OkN (max a e) (min b f) (c ||| g) (d &&& h)) (hs : someN (max a e) (min b f) (c ||| g) (d &&& h) = true) (w : World) :
 Calls Try.prog 40 #[rv (max (a : Int) e) (min (b : Int) f) (c ||| g : Nat) (d &&& h : Nat)] w fun ee w' => ee = .returned (meetV a b c d e f g h) ∧ Below w.heap.size w w' := by
 have := c_RangeTidy _ _ _ _ w J hs
 rw [mxN, mnN] at this; exact this
theorem c_l2Meet_no (a b c d e f g h : Nat) (w : World) (A : OkN a b c d) (B : OkN e f g h) (hn : meetB a b c d e f g h = false) :
 Calls Try.prog 65 #[.agg (#[.int .i64 (((a : Nat) : Int)), .int .i64 (((b : Nat) : Int)), .int .i64 (((c : Nat) : Int)), .int .i64 (((d : Nat) : Int))]), .agg (#[.int .i64 (((e : Nat) : Int)), .int .i64 (((f : Nat) : Int)), .int .i64 (((g : Nat) : Int)), .int .i64 (((h : Nat) : Int))])] w fun ee w' => ee = .returned (.tuple #[rv 1 0 0 0, .bool false]) ∧ Below w.heap.size w w' := by
 refine calls_begin Try.func65 rfl 70 rfl (Nat.le_of_ble_eq_true rfl) [(0, .agg (#[zN a, zN b, zN c, zN d])), (1, .agg (#[zN e, zN f, zN g, zN h]))] ⟨rfl, rfl, trivial⟩ (fun a0 he0 m0 => ?_)
 have e0 := xor_top d A.o
 have l0 := not_le A.o
 have e1 := xor_top h B.o
 have l1 := not_le B.o
 have e2 := and_i64 (notB d) (notB h) (by omega) (by omega)
 have l2 : notB d &&& notB h ≤ 4294967295 := and_le _ l0
 have e3 := xor_i64 c g (by have := A.b; omega) (by have := B.b; omega)
 have l3 : c ^^^ g ≤ 4294967295 := xor_le A.b B.b
 have e4 := and_i64 (notB d &&& notB h) (c ^^^ g) (by omega) (by omega)
 rw [clash_spec A B] at e4
 have e5 := or_i64 c g (by have := A.b; omega) (by have := B.b; omega)
 have e6 := and_i64 d h (by have := A.o; omega) (by have := B.o; omega)
 refine wp_seqR ?_
 refine kx he0 m0 1 (.agg (#[zN a, zN b, zN c, zN d])) (#[zN a, zN b, zN c, zN d]) 56 fun a1 w1 b1 he1 m1 => ?_
 refine kx he1 m1 2 (.agg (#[zN e, zN f, zN g, zN h])) (#[zN e, zN f, zN g, zN h]) 56 fun a2 w2 b2 he2 m2 => ?_
 refine ka he2 m2 3 56 (.agg #[.int .i64 0, .int .i64 0, .int .i64 0, .int .i64 0]) (#[zI 0, zI 0, zI 0, zI 0]) fun a3 w3 b3 he3 m3 => ?_
 refine wb 1 he3 [(5, zF)] fun a4 he4 => ?_
 refine wl_end (wp_seq ?_)
 refine wh_begin (by kernel_rfl) m3 [(1, ⟨true, b1, 56, #[zN a, zN b, zN c, zN d]⟩), (2, ⟨true, b2, 56, #[zN e, zN f, zN g, zN h]⟩), (3, ⟨true, b3, 56, #[zI 0, zI 0, zI 0, zI 0]⟩)] ⟨rfl, rfl, rfl, trivial⟩ (fun w4 m4 => ?_)
 refine wtd (fuel := 3) [(1, 0), (2, 3)] he4 m4 [(10, zN d), (9, zP b1 3)] [b1] vl0 fun a5 he5 => ?_
 refine tc (fuel := 2) 0 rfl he5 m4 (v := zI 4294967295) (callsS (c_l2Top _)) fun a6 w5 he6 m5 => ?_
 refine tv (fuel := 1) 3 rfl he6 m5 (zN (notB d)) (fun wS hmS => rbit (he6.tmp 8 _ rfl) (he6.tmp 10 _ rfl) e0) fun a7 he7 => ?_
 refine wtb (fuel := 0) [4] he7 m5 [(6, zN (notB d))] fun a8 he8 => ?_
 refine wpAnyH_done (by kernel_rfl) ?_ _
 refine then_normal (wp_seq (wp_seq ?_))
 refine wh_begin (by kernel_rfl) m5 [(1, ⟨true, b1, 56, #[zN a, zN b, zN c, zN d]⟩), (2, ⟨true, b2, 56, #[zN e, zN f, zN g, zN h]⟩), (3, ⟨true, b3, 56, #[zI 0, zI 0, zI 0, zI 0]⟩)] ⟨rfl, rfl, rfl, trivial⟩ (fun w6 m6 => ?_)
 refine wtd (fuel := 6) [(0, 0), (2, 0), (3, 4), (6, 0), (7, 3), (8, 0), (9, 4)] he8 m6 [(21, zN g), (20, zP b2 2), (19, zN c), (18, zP b1 2), (15, zN h), (14, zP b2 3), (12, zN (notB d))] [b2, b1, b2] vl0 fun a9 he9 => ?_
 refine tv (fuel := 5) 10 rfl he9 m6 (zN (c ^^^ g)) (fun wS hmS => rbit (he9.tmp 19 _ rfl) (he9.tmp 21 _ rfl) e3) fun a10 he10 => ?_
 refine tc (fuel := 4) 1 rfl he10 m6 (v := zI 4294967295) (callsS (c_l2Top _)) fun a11 w7 he11 m7 => ?_
 refine tv (fuel := 3) 4 rfl he11 m7 (zN (notB h)) (fun wS hmS => rbit (he11.tmp 13 _ rfl) (he11.tmp 15 _ rfl) e1) fun a12 he12 => ?_
 refine tv (fuel := 2) 5 rfl he12 m7 (zN (notB d &&& notB h)) (fun wS hmS => rbit (he12.tmp 12 _ rfl) (he12.tmp 16 _ rfl) e2) fun a13 he13 => ?_
 refine tv (fuel := 1) 11 rfl he13 m7 (zN (clashN c d g h)) (fun wS hmS => rbit (he13.tmp 17 _ rfl) (he13.tmp 22 _ rfl) e4) fun a14 he14 => ?_
 cases hd1 : ((((clashN c d g h : Nat) : Int) != 0))
 ·
  have hd1p : ((clashN c d g h : Nat) : Int) = 0 := by simpa using hd1
  refine wtd (fuel := 0) [(12, 1)] he14 m7 [(24, zF)] [] (vb (hd1) vl0) fun a15 he15 => ?_
  refine wpAnyH_done (by kernel_rfl) ?_ _
  refine then_normal (wp_condF (he := he15) rfl (wp_skip (then_normal (wp_seqR ?_))))
  refine wr [0, 3, 0, 3, 0, 3, 0, 4] he15 m7 [(33, zN g), (32, zP b2 2), (31, zN c), (30, zP b1 2), (29, zN b), (28, zP b1 1), (27, zN a), (26, zP b1 0)] [b2, b1, b1, b1] vl0 fun a16 w8 he16 m8 => ?_
  refine kv he16 (zN (c ||| g)) (rbit (he16.tmp 31 _ rfl) (he16.tmp 33 _ rfl) e5) fun a17 he17 => ?_
  refine wr [0, 3, 0, 4] he17 m8 [(38, zN h), (37, zP b2 3), (36, zN d), (35, zP b1 3)] [b2, b1] vl0 fun a18 w9 he18 m9 => ?_
  refine kv he18 (zN (d &&& h)) (rbit (he18.tmp 36 _ rfl) (he18.tmp 38 _ rfl) e6) fun a19 he19 => ?_
  refine kv he19 (.agg (#[zN a, zN b, zN (c ||| g), zN (d &&& h)])) (rn_build _ _ rfl #[(0, .int .i64 (((a : Nat) : Int))), (1, .int .i64 (((b : Nat) : Int))), (2, .int .i64 (((c ||| g : Nat) : Int))), (3, .int .i64 (((d &&& h : Nat) : Int)))] (pmap4 (he19.tmp 27 _ rfl) (he19.tmp 29 _ rfl) (he19.tmp 34 _ rfl) (he19.tmp 39 _ rfl)) _ (by kernel_rfl)) fun a20 he20 => ?_
  refine ka he20 m9 4 56 (.agg #[.int .i64 0, .int .i64 0, .int .i64 0, .int .i64 0]) (#[zI 0, zI 0, zI 0, zI 0]) fun a21 w10 b4 he21 m10 => ?_
  refine wm [6] he21 m10 [] [(4, zE b4 56 (#[zN a, zN b, zN (c ||| g), zN (d &&& h)]))] [b4] vl0 fun a22 w11 he22 m11 => ?_
  refine wl_end (wp_seq (wp_seqR ?_))
  refine wr [0, 4, 0, 6] he22 m11 [(44, zN a), (43, zP b4 0), (42, zN e), (41, zP b2 0)] [b4, b2] vl0 fun a23 w12 he23 m12 => ?_
  cases hd2 : (decide (((e : Nat) : Int) > ((a : Nat) : Int)))
  ·
   have hd2p := of_decide_eq_false hd2
   refine wr [1] he23 m12 [(45, zF)] [] (vb (hd2) vl0) fun a24 w13 he24 m13 => ?_
   refine wl_end (wp_condF (he := he24) rfl (wp_skip (then_normal (wp_seq (wp_seqR ?_)))))
   refine wr [0, 4, 0, 6] he24 m13 [(52, zN b), (51, zP b4 1), (50, zN f), (49, zP b2 1)] [b4, b2] vl0 fun a25 w14 he25 m14 => ?_
   cases hd3 : (decide (((f : Nat) : Int) < ((b : Nat) : Int)))
   ·
    have hd3p := of_decide_eq_false hd3
    refine wr [1] he25 m14 [(53, zF)] [] (vb (hd3) vl0) fun a26 w15 he26 m15 => ?_
    refine wl_end (wp_condF (he := he26) rfl (wp_skip (then_normal (wp_seq (wp_seqR ?_)))))
    refine wr [0, 6, 0, 6] he26 m15 [(60, zN b), (59, zP b4 1), (58, zN a), (57, zP b4 0)] [b4, b4] vl0 fun a27 w16 he27 m16 => ?_
    cases hd4 : (decide (((a : Nat) : Int) > ((b : Nat) : Int)))
    ·
     have hd4p := of_decide_eq_false hd4
     refine wr [1, 0, 6] he27 m16 [(63, .agg (#[zN a, zN b, zN (c ||| g), zN (d &&& h)])), (62, zF), (61, zF)] [b4] (vb (hd4) vl0) fun a28 w17 he28 m17 => ?_
     refine kc he28 m17 (v := zF) (l2some_no (m := a) (n := b) A B hn hd1 (by omega) (by omega) (by omega) _) fun a29 w18 he29 m18 => ?_
     refine wb 2 he29 [(66, zT), (65, zT)] fun a30 he30 => ?_
     refine wl_end (wp_condT (he := he30) rfl (wp_seqR ?_))
     refine kv he30 (.agg (#[zI 1, zI 0, zI 0, zI 0])) (rn_build _ _ rfl #[(0, .int .i64 (1))] (pmap1 rfl) _ (by kernel_rfl)) fun a31 he31 => ?_
     refine wm [5, 0] he31 m18 [(5, zF)] [(3, zE b3 56 (#[zI 1, zI 0, zI 0, zI 0]))] [b3] vl0 fun a32 w19 he32 m19 => ?_
     refine wl_end (wp_ret (ret_then ?_))
     exact bodyPost_ret (results_cell_t he32 m19 _ _ _ Try.results65 _ rfl 3 rfl 4 agg56 (by first | rfl | assumption) _ rfl) he32.defers ⟨rfl, m19.below⟩
    ·
     have hd4p := of_decide_eq_true hd4
     refine wr [1, 0, 0, 0, 0, 0] he27 m16 [(66, zT), (65, zU), (64, zU), (63, zU), (62, zT), (61, zT)] [] (vb (hd4) vl0) fun a28 w17 he28 m17 => ?_
     refine wl_end (wp_condT (he := he28) rfl (wp_seqR ?_))
     refine kv he28 (.agg (#[zI 1, zI 0, zI 0, zI 0])) (rn_build _ _ rfl #[(0, .int .i64 (1))] (pmap1 rfl) _ (by kernel_rfl)) fun a29 he29 => ?_
     refine wm [5, 0] he29 m17 [(5, zF)] [(3, zE b3 56 (#[zI 1, zI 0, zI 0, zI 0]))] [b3] vl0 fun a30 w18 he30 m18 => ?_
     refine wl_end (wp_ret (ret_then ?_))
     exact bodyPost_ret (results_cell_t he30 m18 _ _ _ Try.results65 _ rfl 3 rfl 4 agg56 (by first | rfl | assumption) _ rfl) he30.defers ⟨rfl, m18.below⟩
   ·
    have hd3p := of_decide_eq_true hd3
    refine wr [1] he25 m14 [(53, zT)] [] (vb (hd3) vl0) fun a26 w15 he26 m15 => ?_
    refine wl_end (wp_condT (he := he26) rfl (wp_region_lit ?_))
    refine wm [0, 4, 0, 6] he26 m15 [(56, zP b4 1), (55, zN f), (54, zP b2 1)] [(4, zE b4 56 (#[zN a, zN f, zN (c ||| g), zN (d &&& h)]))] [b4, b2] vl0 fun a27 w16 he27 m16 => ?_
    refine wpList_nil (then_normal (wp_seq (wp_seqR ?_)))
    refine wr [0, 6, 0, 6] he27 m16 [(60, zN f), (59, zP b4 1), (58, zN a), (57, zP b4 0)] [b4, b4] vl0 fun a28 w17 he28 m17 => ?_
    cases hd4 : (decide (((a : Nat) : Int) > ((f : Nat) : Int)))
    ·
     have hd4p := of_decide_eq_false hd4
     refine wr [1, 0, 6] he28 m17 [(63, .agg (#[zN a, zN f, zN (c ||| g), zN (d &&& h)])), (62, zF), (61, zF)] [b4] (vb (hd4) vl0) fun a29 w18 he29 m18 => ?_
     refine kc he29 m18 (v := zF) (l2some_no (m := a) (n := f) A B hn hd1 (by omega) (by omega) (by omega) _) fun a30 w19 he30 m19 => ?_
     refine wb 2 he30 [(66, zT), (65, zT)] fun a31 he31 => ?_
     refine wl_end (wp_condT (he := he31) rfl (wp_seqR ?_))
     refine kv he31 (.agg (#[zI 1, zI 0, zI 0, zI 0])) (rn_build _ _ rfl #[(0, .int .i64 (1))] (pmap1 rfl) _ (by kernel_rfl)) fun a32 he32 => ?_
     refine wm [5, 0] he32 m19 [(5, zF)] [(3, zE b3 56 (#[zI 1, zI 0, zI 0, zI 0]))] [b3] vl0 fun a33 w20 he33 m20 => ?_
     refine wl_end (wp_ret (ret_then ?_))
     exact bodyPost_ret (results_cell_t he33 m20 _ _ _ Try.results65 _ rfl 3 rfl 4 agg56 (by first | rfl | assumption) _ rfl) he33.defers ⟨rfl, m20.below⟩
    ·
     have hd4p := of_decide_eq_true hd4
     refine wr [1, 0, 0, 0, 0, 0] he28 m17 [(66, zT), (65, zU), (64, zU), (63, zU), (62, zT), (61, zT)] [] (vb (hd4) vl0) fun a29 w18 he29 m18 => ?_
     refine wl_end (wp_condT (he := he29) rfl (wp_seqR ?_))
     refine kv he29 (.agg (#[zI 1, zI 0, zI 0, zI 0])) (rn_build _ _ rfl #[(0, .int .i64 (1))] (pmap1 rfl) _ (by kernel_rfl)) fun a30 he30 => ?_
     refine wm [5, 0] he30 m18 [(5, zF)] [(3, zE b3 56 (#[zI 1, zI 0, zI 0, zI 0]))] [b3] vl0 fun a31 w19 he31 m19 => ?_
     refine wl_end (wp_ret (ret_then ?_))
     exact bodyPost_ret (results_cell_t he31 m19 _ _ _ Try.results65 _ rfl 3 rfl 4 agg56 (by first | rfl | assumption) _ rfl) he31.defers ⟨rfl, m19.below⟩
  ·
   have hd2p := of_decide_eq_true hd2
   refine wr [1] he23 m12 [(45, zT)] [] (vb (hd2) vl0) fun a24 w13 he24 m13 => ?_
   refine wl_end (wp_condT (he := he24) rfl (wp_region_lit ?_))
   refine wm [0, 4, 0, 6] he24 m13 [(48, zP b4 0), (47, zN e), (46, zP b2 0)] [(4, zE b4 56 (#[zN e, zN b, zN (c ||| g), zN (d &&& h)]))] [b4, b2] vl0 fun a25 w14 he25 m14 => ?_
   refine wpList_nil (then_normal (wp_seq (wp_seqR ?_)))
   refine wr [0, 4, 0, 6] he25 m14 [(52, zN b), (51, zP b4 1), (50, zN f), (49, zP b2 1)] [b4, b2] vl0 fun a26 w15 he26 m15 => ?_
   cases hd3 : (decide (((f : Nat) : Int) < ((b : Nat) : Int)))
   ·
    have hd3p := of_decide_eq_false hd3
    refine wr [1] he26 m15 [(53, zF)] [] (vb (hd3) vl0) fun a27 w16 he27 m16 => ?_
    refine wl_end (wp_condF (he := he27) rfl (wp_skip (then_normal (wp_seq (wp_seqR ?_)))))
    refine wr [0, 6, 0, 6] he27 m16 [(60, zN b), (59, zP b4 1), (58, zN e), (57, zP b4 0)] [b4, b4] vl0 fun a28 w17 he28 m17 => ?_
    cases hd4 : (decide (((e : Nat) : Int) > ((b : Nat) : Int)))
    ·
     have hd4p := of_decide_eq_false hd4
     refine wr [1, 0, 6] he28 m17 [(63, .agg (#[zN e, zN b, zN (c ||| g), zN (d &&& h)])), (62, zF), (61, zF)] [b4] (vb (hd4) vl0) fun a29 w18 he29 m18 => ?_
     refine kc he29 m18 (v := zF) (l2some_no (m := e) (n := b) A B hn hd1 (by omega) (by omega) (by omega) _) fun a30 w19 he30 m19 => ?_
     refine wb 2 he30 [(66, zT), (65, zT)] fun a31 he31 => ?_
     refine wl_end (wp_condT (he := he31) rfl (wp_seqR ?_))
     refine kv he31 (.agg (#[zI 1, zI 0, zI 0, zI 0])) (rn_build _ _ rfl #[(0, .int .i64 (1))] (pmap1 rfl) _ (by kernel_rfl)) fun a32 he32 => ?_
     refine wm [5, 0] he32 m19 [(5, zF)] [(3, zE b3 56 (#[zI 1, zI 0, zI 0, zI 0]))] [b3] vl0 fun a33 w20 he33 m20 => ?_
     refine wl_end (wp_ret (ret_then ?_))
     exact bodyPost_ret (results_cell_t he33 m20 _ _ _ Try.results65 _ rfl 3 rfl 4 agg56 (by first | rfl | assumption) _ rfl) he33.defers ⟨rfl, m20.below⟩
    ·
     have hd4p := of_decide_eq_true hd4
     refine wr [1, 0, 0, 0, 0, 0] he28 m17 [(66, zT), (65, zU), (64, zU), (63, zU), (62, zT), (61, zT)] [] (vb (hd4) vl0) fun a29 w18 he29 m18 => ?_
     refine wl_end (wp_condT (he := he29) rfl (wp_seqR ?_))
     refine kv he29 (.agg (#[zI 1, zI 0, zI 0, zI 0])) (rn_build _ _ rfl #[(0, .int .i64 (1))] (pmap1 rfl) _ (by kernel_rfl)) fun a30 he30 => ?_
     refine wm [5, 0] he30 m18 [(5, zF)] [(3, zE b3 56 (#[zI 1, zI 0, zI 0, zI 0]))] [b3] vl0 fun a31 w19 he31 m19 => ?_
     refine wl_end (wp_ret (ret_then ?_))
     exact bodyPost_ret (results_cell_t he31 m19 _ _ _ Try.results65 _ rfl 3 rfl 4 agg56 (by first | rfl | assumption) _ rfl) he31.defers ⟨rfl, m19.below⟩
   ·
    have hd3p := of_decide_eq_true hd3
    refine wr [1] he26 m15 [(53, zT)] [] (vb (hd3) vl0) fun a27 w16 he27 m16 => ?_
    refine wl_end (wp_condT (he := he27) rfl (wp_region_lit ?_))
    refine wm [0, 4, 0, 6] he27 m16 [(56, zP b4 1), (55, zN f), (54, zP b2 1)] [(4, zE b4 56 (#[zN e, zN f, zN (c ||| g), zN (d &&& h)]))] [b4, b2] vl0 fun a28 w17 he28 m17 => ?_
    refine wpList_nil (then_normal (wp_seq (wp_seqR ?_)))
    refine wr [0, 6, 0, 6] he28 m17 [(60, zN f), (59, zP b4 1), (58, zN e), (57, zP b4 0)] [b4, b4] vl0 fun a29 w18 he29 m18 => ?_
    cases hd4 : (decide (((e : Nat) : Int) > ((f : Nat) : Int)))
    ·
     have hd4p := of_decide_eq_false hd4
     refine wr [1, 0, 6] he29 m18 [(63, .agg (#[zN e, zN f, zN (c ||| g), zN (d &&& h)])), (62, zF), (61, zF)] [b4] (vb (hd4) vl0) fun a30 w19 he30 m19 => ?_
     refine kc he30 m19 (v := zF) (l2some_no (m := e) (n := f) A B hn hd1 (by omega) (by omega) (by omega) _) fun a31 w20 he31 m20 => ?_
     refine wb 2 he31 [(66, zT), (65, zT)] fun a32 he32 => ?_
     refine wl_end (wp_condT (he := he32) rfl (wp_seqR ?_))
     refine kv he32 (.agg (#[zI 1, zI 0, zI 0, zI 0])) (rn_build _ _ rfl #[(0, .int .i64 (1))] (pmap1 rfl) _ (by kernel_rfl)) fun a33 he33 => ?_
     refine wm [5, 0] he33 m20 [(5, zF)] [(3, zE b3 56 (#[zI 1, zI 0, zI 0, zI 0]))] [b3] vl0 fun a34 w21 he34 m21 => ?_
     refine wl_end (wp_ret (ret_then ?_))
     exact bodyPost_ret (results_cell_t he34 m21 _ _ _ Try.results65 _ rfl 3 rfl 4 agg56 (by first | rfl | assumption) _ rfl) he34.defers ⟨rfl, m21.below⟩
    ·
     have hd4p := of_decide_eq_true hd4
     refine wr [1, 0, 0, 0, 0, 0] he29 m18 [(66, zT), (65, zU), (64, zU), (63, zU), (62, zT), (61, zT)] [] (vb (hd4) vl0) fun a30 w19 he30 m19 => ?_
     refine wl_end (wp_condT (he := he30) rfl (wp_seqR ?_))
     refine kv he30 (.agg (#[zI 1, zI 0, zI 0, zI 0])) (rn_build _ _ rfl #[(0, .int .i64 (1))] (pmap1 rfl) _ (by kernel_rfl)) fun a31 he31 => ?_
     refine wm [5, 0] he31 m19 [(5, zF)] [(3, zE b3 56 (#[zI 1, zI 0, zI 0, zI 0]))] [b3] vl0 fun a32 w20 he32 m20 => ?_
     refine wl_end (wp_ret (ret_then ?_))
     exact bodyPost_ret (results_cell_t he32 m20 _ _ _ Try.results65 _ rfl 3 rfl 4 agg56 (by first | rfl | assumption) _ rfl) he32.defers ⟨rfl, m20.below⟩
 ·
  have hd1p : ((clashN c d g h : Nat) : Int) ≠ 0 := by simpa using hd1
  refine wtd (fuel := 0) [(12, 1)] he14 m7 [(24, zT)] [] (vb (hd1) vl0) fun a15 he15 => ?_
  refine wpAnyH_done (by kernel_rfl) ?_ _
  refine then_normal (wp_condT (he := he15) rfl (wp_seqR ?_))
  refine kv he15 (.agg (#[zI 1, zI 0, zI 0, zI 0])) (rn_build _ _ rfl #[(0, .int .i64 (1))] (pmap1 rfl) _ (by kernel_rfl)) fun a16 he16 => ?_
  refine wm [5, 0] he16 m7 [(5, zF)] [(3, zE b3 56 (#[zI 1, zI 0, zI 0, zI 0]))] [b3] vl0 fun a17 w8 he17 m8 => ?_
  refine wl_end (wp_ret (ret_then ?_))
  exact bodyPost_ret (results_cell_t he17 m8 _ _ _ Try.results65 _ rfl 3 rfl 4 agg56 (by first | rfl | assumption) _ rfl) he17.defers ⟨rfl, m8.below⟩
theorem l2Meet_y (a b c d e f g h : Nat) (w : World) (A : OkN a b c d) (B : OkN e f g h) (hc : clashN c d g h = 0) (J : OkN (max a e) (min b f) (c ||| g) (d &&& h)) (hs : someN (max a e) (min b f) (c ||| g) (d &&& h) = true) :
 Calls Try.prog 65 #[.agg (#[.int .i64 (((a : Nat) : Int)), .int .i64 (((b : Nat) : Int)), .int .i64 (((c : Nat) : Int)), .int .i64 (((d : Nat) : Int))]), .agg (#[.int .i64 (((e : Nat) : Int)), .int .i64 (((f : Nat) : Int)), .int .i64 (((g : Nat) : Int)), .int .i64 (((h : Nat) : Int))])] w fun ee w' => ee = .returned (.tuple #[meetV a b c d e f g h, .bool true]) ∧ Below w.heap.size w w' := by
 refine calls_begin Try.func65 rfl 70 rfl (Nat.le_of_ble_eq_true rfl) [(0, .agg (#[zN a, zN b, zN c, zN d])), (1, .agg (#[zN e, zN f, zN g, zN h]))] ⟨rfl, rfl, trivial⟩ (fun a0 he0 m0 => ?_)
 have e0 := xor_top d A.o
 have l0 := not_le A.o
 have e1 := xor_top h B.o
 have l1 := not_le B.o
 have e2 := and_i64 (notB d) (notB h) (by omega) (by omega)
 have l2 : notB d &&& notB h ≤ 4294967295 := and_le _ l0
 have e3 := xor_i64 c g (by have := A.b; omega) (by have := B.b; omega)
 have l3 : c ^^^ g ≤ 4294967295 := xor_le A.b B.b
 have e4 := and_i64 (notB d &&& notB h) (c ^^^ g) (by omega) (by omega)
 rw [clash_spec A B] at e4
 have e5 := or_i64 c g (by have := A.b; omega) (by have := B.b; omega)
 have e6 := and_i64 d h (by have := A.o; omega) (by have := B.o; omega)
 have kab : decide (((a : Nat) : Int) > ((b : Nat) : Int)) = false := decide_eq_false (by have := J.le; omega)
 have kaf : decide (((a : Nat) : Int) > ((f : Nat) : Int)) = false := decide_eq_false (by have := J.le; omega)
 have keb : decide (((e : Nat) : Int) > ((b : Nat) : Int)) = false := decide_eq_false (by have := J.le; omega)
 have kef : decide (((e : Nat) : Int) > ((f : Nat) : Int)) = false := decide_eq_false (by have := J.le; omega)
 have hcl0 : (((clashN c d g h : Nat) : Int) != 0) = false := by rw [hc]; rfl
 refine wp_seqR ?_
 refine kx he0 m0 1 (.agg (#[zN a, zN b, zN c, zN d])) (#[zN a, zN b, zN c, zN d]) 56 fun a1 w1 b1 he1 m1 => ?_
 refine kx he1 m1 2 (.agg (#[zN e, zN f, zN g, zN h])) (#[zN e, zN f, zN g, zN h]) 56 fun a2 w2 b2 he2 m2 => ?_
 refine ka he2 m2 3 56 (.agg #[.int .i64 0, .int .i64 0, .int .i64 0, .int .i64 0]) (#[zI 0, zI 0, zI 0, zI 0]) fun a3 w3 b3 he3 m3 => ?_
 refine wb 1 he3 [(5, zF)] fun a4 he4 => ?_
 refine wl_end (wp_seq ?_)
 refine wh_begin (by kernel_rfl) m3 [(1, ⟨true, b1, 56, #[zN a, zN b, zN c, zN d]⟩), (2, ⟨true, b2, 56, #[zN e, zN f, zN g, zN h]⟩), (3, ⟨true, b3, 56, #[zI 0, zI 0, zI 0, zI 0]⟩)] ⟨rfl, rfl, rfl, trivial⟩ (fun w4 m4 => ?_)
 refine wtd (fuel := 3) [(1, 0), (2, 3)] he4 m4 [(10, zN d), (9, zP b1 3)] [b1] vl0 fun a5 he5 => ?_
 refine tc (fuel := 2) 0 rfl he5 m4 (v := zI 4294967295) (callsS (c_l2Top _)) fun a6 w5 he6 m5 => ?_
 refine tv (fuel := 1) 3 rfl he6 m5 (zN (notB d)) (fun wS hmS => rbit (he6.tmp 8 _ rfl) (he6.tmp 10 _ rfl) e0) fun a7 he7 => ?_
 refine wtb (fuel := 0) [4] he7 m5 [(6, zN (notB d))] fun a8 he8 => ?_
 refine wpAnyH_done (by kernel_rfl) ?_ _
 refine then_normal (wp_seq (wp_seq ?_))
 refine wh_begin (by kernel_rfl) m5 [(1, ⟨true, b1, 56, #[zN a, zN b, zN c, zN d]⟩), (2, ⟨true, b2, 56, #[zN e, zN f, zN g, zN h]⟩), (3, ⟨true, b3, 56, #[zI 0, zI 0, zI 0, zI 0]⟩)] ⟨rfl, rfl, rfl, trivial⟩ (fun w6 m6 => ?_)
 refine wtd (fuel := 6) [(0, 0), (2, 0), (3, 4), (6, 0), (7, 3), (8, 0), (9, 4)] he8 m6 [(21, zN g), (20, zP b2 2), (19, zN c), (18, zP b1 2), (15, zN h), (14, zP b2 3), (12, zN (notB d))] [b2, b1, b2] vl0 fun a9 he9 => ?_
 refine tv (fuel := 5) 10 rfl he9 m6 (zN (c ^^^ g)) (fun wS hmS => rbit (he9.tmp 19 _ rfl) (he9.tmp 21 _ rfl) e3) fun a10 he10 => ?_
 refine tc (fuel := 4) 1 rfl he10 m6 (v := zI 4294967295) (callsS (c_l2Top _)) fun a11 w7 he11 m7 => ?_
 refine tv (fuel := 3) 4 rfl he11 m7 (zN (notB h)) (fun wS hmS => rbit (he11.tmp 13 _ rfl) (he11.tmp 15 _ rfl) e1) fun a12 he12 => ?_
 refine tv (fuel := 2) 5 rfl he12 m7 (zN (notB d &&& notB h)) (fun wS hmS => rbit (he12.tmp 12 _ rfl) (he12.tmp 16 _ rfl) e2) fun a13 he13 => ?_
 refine tv (fuel := 1) 11 rfl he13 m7 (zN (clashN c d g h)) (fun wS hmS => rbit (he13.tmp 17 _ rfl) (he13.tmp 22 _ rfl) e4) fun a14 he14 => ?_
 refine wtd (fuel := 0) [(12, 1)] he14 m7 [(24, zF)] [] (vb (hcl0) vl0) fun a15 he15 => ?_
 refine wpAnyH_done (by kernel_rfl) ?_ _
 refine then_normal (wp_condF (he := he15) rfl (wp_skip (then_normal (wp_seqR ?_))))
 refine wr [0, 3, 0, 3, 0, 3, 0, 4] he15 m7 [(33, zN g), (32, zP b2 2), (31, zN c), (30, zP b1 2), (29, zN b), (28, zP b1 1), (27, zN a), (26, zP b1 0)] [b2, b1, b1, b1] vl0 fun a16 w8 he16 m8 => ?_
 refine kv he16 (zN (c ||| g)) (rbit (he16.tmp 31 _ rfl) (he16.tmp 33 _ rfl) e5) fun a17 he17 => ?_
 refine wr [0, 3, 0, 4] he17 m8 [(38, zN h), (37, zP b2 3), (36, zN d), (35, zP b1 3)] [b2, b1] vl0 fun a18 w9 he18 m9 => ?_
 refine kv he18 (zN (d &&& h)) (rbit (he18.tmp 36 _ rfl) (he18.tmp 38 _ rfl) e6) fun a19 he19 => ?_
 refine kv he19 (.agg (#[zN a, zN b, zN (c ||| g), zN (d &&& h)])) (rn_build _ _ rfl #[(0, .int .i64 (((a : Nat) : Int))), (1, .int .i64 (((b : Nat) : Int))), (2, .int .i64 (((c ||| g : Nat) : Int))), (3, .int .i64 (((d &&& h : Nat) : Int)))] (pmap4 (he19.tmp 27 _ rfl) (he19.tmp 29 _ rfl) (he19.tmp 34 _ rfl) (he19.tmp 39 _ rfl)) _ (by kernel_rfl)) fun a20 he20 => ?_
 refine ka he20 m9 4 56 (.agg #[.int .i64 0, .int .i64 0, .int .i64 0, .int .i64 0]) (#[zI 0, zI 0, zI 0, zI 0]) fun a21 w10 b4 he21 m10 => ?_
 refine wm [6] he21 m10 [] [(4, zE b4 56 (#[zN a, zN b, zN (c ||| g), zN (d &&& h)]))] [b4] vl0 fun a22 w11 he22 m11 => ?_
 refine wl_end (wp_seq (wp_seqR ?_))
 refine wr [0, 4, 0, 6] he22 m11 [(44, zN a), (43, zP b4 0), (42, zN e), (41, zP b2 0)] [b4, b2] vl0 fun a23 w12 he23 m12 => ?_
 cases hd1 : (decide (((e : Nat) : Int) > ((a : Nat) : Int)))
 ·
  have hd1p := of_decide_eq_false hd1
  refine wr [1] he23 m12 [(45, zF)] [] (vb (hd1) vl0) fun a24 w13 he24 m13 => ?_
  refine wl_end (wp_condF (he := he24) rfl (wp_skip (then_normal (wp_seq (wp_seqR ?_)))))
  refine wr [0, 4, 0, 6] he24 m13 [(52, zN b), (51, zP b4 1), (50, zN f), (49, zP b2 1)] [b4, b2] vl0 fun a25 w14 he25 m14 => ?_
  cases hd2 : (decide (((f : Nat) : Int) < ((b : Nat) : Int)))
  ·
   have hd2p := of_decide_eq_false hd2
   refine wr [1] he25 m14 [(53, zF)] [] (vb (hd2) vl0) fun a26 w15 he26 m15 => ?_
   refine wl_end (wp_condF (he := he26) rfl (wp_skip (then_normal (wp_seq (wp_seqR ?_)))))
   refine wr [0, 6, 0, 6, 1, 0, 6] he26 m15 [(63, .agg (#[zN a, zN b, zN (c ||| g), zN (d &&& h)])), (62, zF), (61, zF), (60, zN b), (59, zP b4 1), (58, zN a), (57, zP b4 0)] [b4, b4, b4] (vb (kab) vl0) fun a27 w16 he27 m16 => ?_
   refine kc he27 m16 (v := zT) (l2some_yes (m := a) (n := b) J hs (by omega) (by omega) _) fun a28 w17 he28 m17 => ?_
   refine wb 2 he28 [(66, zF), (65, zF)] fun a29 he29 => ?_
   refine wl_end (wp_condF (he := he29) rfl (wp_skip (then_normal (wp_seqR ?_))))
   refine wr [6] he29 m17 [(68, .agg (#[zN a, zN b, zN (c ||| g), zN (d &&& h)]))] [b4] vl0 fun a30 w18 he30 m18 => ?_
   refine kc he30 m18 (v := .agg (#[zN (tLo (max a e) (min b f) (c ||| g)), zN (tHi (max a e) (min b f) (c ||| g) (d &&& h)), zN (tB (max a e) (min b f) (c ||| g)), zN (tO (max a e) (min b f) (d &&& h))])) (l2tidy_m (m := a) (n := b) J (by omega) (by omega) _) fun a31 w19 he31 m19 => ?_
   refine wm [5, 0] he31 m19 [(5, zT)] [(3, zE b3 56 (#[zN (tLo (max a e) (min b f) (c ||| g)), zN (tHi (max a e) (min b f) (c ||| g) (d &&& h)), zN (tB (max a e) (min b f) (c ||| g)), zN (tO (max a e) (min b f) (d &&& h))]))] [b3] vl0 fun a32 w20 he32 m20 => ?_
   refine wl_end (wp_ret ?_)
   exact bodyPost_ret (results_cell_t he32 m20 _ _ _ Try.results65 _ rfl 3 rfl 4 agg56 (by first | rfl | assumption) _ rfl) he32.defers ⟨rfl, m20.below⟩
  ·
   have hd2p := of_decide_eq_true hd2
   refine wr [1] he25 m14 [(53, zT)] [] (vb (hd2) vl0) fun a26 w15 he26 m15 => ?_
   refine wl_end (wp_condT (he := he26) rfl (wp_region_lit ?_))
   refine wm [0, 4, 0, 6] he26 m15 [(56, zP b4 1), (55, zN f), (54, zP b2 1)] [(4, zE b4 56 (#[zN a, zN f, zN (c ||| g), zN (d &&& h)]))] [b4, b2] vl0 fun a27 w16 he27 m16 => ?_
   refine wpList_nil (then_normal (wp_seq (wp_seqR ?_)))
   refine wr [0, 6, 0, 6, 1, 0, 6] he27 m16 [(63, .agg (#[zN a, zN f, zN (c ||| g), zN (d &&& h)])), (62, zF), (61, zF), (60, zN f), (59, zP b4 1), (58, zN a), (57, zP b4 0)] [b4, b4, b4] (vb (kaf) vl0) fun a28 w17 he28 m17 => ?_
   refine kc he28 m17 (v := zT) (l2some_yes (m := a) (n := f) J hs (by omega) (by omega) _) fun a29 w18 he29 m18 => ?_
   refine wb 2 he29 [(66, zF), (65, zF)] fun a30 he30 => ?_
   refine wl_end (wp_condF (he := he30) rfl (wp_skip (then_normal (wp_seqR ?_))))
   refine wr [6] he30 m18 [(68, .agg (#[zN a, zN f, zN (c ||| g), zN (d &&& h)]))] [b4] vl0 fun a31 w19 he31 m19 => ?_
   refine kc he31 m19 (v := .agg (#[zN (tLo (max a e) (min b f) (c ||| g)), zN (tHi (max a e) (min b f) (c ||| g) (d &&& h)), zN (tB (max a e) (min b f) (c ||| g)), zN (tO (max a e) (min b f) (d &&& h))])) (l2tidy_m (m := a) (n := f) J (by omega) (by omega) _) fun a32 w20 he32 m20 => ?_
   refine wm [5, 0] he32 m20 [(5, zT)] [(3, zE b3 56 (#[zN (tLo (max a e) (min b f) (c ||| g)), zN (tHi (max a e) (min b f) (c ||| g) (d &&& h)), zN (tB (max a e) (min b f) (c ||| g)), zN (tO (max a e) (min b f) (d &&& h))]))] [b3] vl0 fun a33 w21 he33 m21 => ?_
   refine wl_end (wp_ret ?_)
   exact bodyPost_ret (results_cell_t he33 m21 _ _ _ Try.results65 _ rfl 3 rfl 4 agg56 (by first | rfl | assumption) _ rfl) he33.defers ⟨rfl, m21.below⟩
 ·
  have hd1p := of_decide_eq_true hd1
  refine wr [1] he23 m12 [(45, zT)] [] (vb (hd1) vl0) fun a24 w13 he24 m13 => ?_
  refine wl_end (wp_condT (he := he24) rfl (wp_region_lit ?_))
  refine wm [0, 4, 0, 6] he24 m13 [(48, zP b4 0), (47, zN e), (46, zP b2 0)] [(4, zE b4 56 (#[zN e, zN b, zN (c ||| g), zN (d &&& h)]))] [b4, b2] vl0 fun a25 w14 he25 m14 => ?_
  refine wpList_nil (then_normal (wp_seq (wp_seqR ?_)))
  refine wr [0, 4, 0, 6] he25 m14 [(52, zN b), (51, zP b4 1), (50, zN f), (49, zP b2 1)] [b4, b2] vl0 fun a26 w15 he26 m15 => ?_
  cases hd2 : (decide (((f : Nat) : Int) < ((b : Nat) : Int)))
  ·
   have hd2p := of_decide_eq_false hd2
   refine wr [1] he26 m15 [(53, zF)] [] (vb (hd2) vl0) fun a27 w16 he27 m16 => ?_
   refine wl_end (wp_condF (he := he27) rfl (wp_skip (then_normal (wp_seq (wp_seqR ?_)))))
   refine wr [0, 6, 0, 6, 1, 0, 6] he27 m16 [(63, .agg (#[zN e, zN b, zN (c ||| g), zN (d &&& h)])), (62, zF), (61, zF), (60, zN b), (59, zP b4 1), (58, zN e), (57, zP b4 0)] [b4, b4, b4] (vb (keb) vl0) fun a28 w17 he28 m17 => ?_
   refine kc he28 m17 (v := zT) (l2some_yes (m := e) (n := b) J hs (by omega) (by omega) _) fun a29 w18 he29 m18 => ?_
   refine wb 2 he29 [(66, zF), (65, zF)] fun a30 he30 => ?_
   refine wl_end (wp_condF (he := he30) rfl (wp_skip (then_normal (wp_seqR ?_))))
   refine wr [6] he30 m18 [(68, .agg (#[zN e, zN b, zN (c ||| g), zN (d &&& h)]))] [b4] vl0 fun a31 w19 he31 m19 => ?_
   refine kc he31 m19 (v := .agg (#[zN (tLo (max a e) (min b f) (c ||| g)), zN (tHi (max a e) (min b f) (c ||| g) (d &&& h)), zN (tB (max a e) (min b f) (c ||| g)), zN (tO (max a e) (min b f) (d &&& h))])) (l2tidy_m (m := e) (n := b) J (by omega) (by omega) _) fun a32 w20 he32 m20 => ?_
   refine wm [5, 0] he32 m20 [(5, zT)] [(3, zE b3 56 (#[zN (tLo (max a e) (min b f) (c ||| g)), zN (tHi (max a e) (min b f) (c ||| g) (d &&& h)), zN (tB (max a e) (min b f) (c ||| g)), zN (tO (max a e) (min b f) (d &&& h))]))] [b3] vl0 fun a33 w21 he33 m21 => ?_
   refine wl_end (wp_ret ?_)
   exact bodyPost_ret (results_cell_t he33 m21 _ _ _ Try.results65 _ rfl 3 rfl 4 agg56 (by first | rfl | assumption) _ rfl) he33.defers ⟨rfl, m21.below⟩
  ·
   have hd2p := of_decide_eq_true hd2
   refine wr [1] he26 m15 [(53, zT)] [] (vb (hd2) vl0) fun a27 w16 he27 m16 => ?_
   refine wl_end (wp_condT (he := he27) rfl (wp_region_lit ?_))
   refine wm [0, 4, 0, 6] he27 m16 [(56, zP b4 1), (55, zN f), (54, zP b2 1)] [(4, zE b4 56 (#[zN e, zN f, zN (c ||| g), zN (d &&& h)]))] [b4, b2] vl0 fun a28 w17 he28 m17 => ?_
   refine wpList_nil (then_normal (wp_seq (wp_seqR ?_)))
   refine wr [0, 6, 0, 6, 1, 0, 6] he28 m17 [(63, .agg (#[zN e, zN f, zN (c ||| g), zN (d &&& h)])), (62, zF), (61, zF), (60, zN f), (59, zP b4 1), (58, zN e), (57, zP b4 0)] [b4, b4, b4] (vb (kef) vl0) fun a29 w18 he29 m18 => ?_
   refine kc he29 m18 (v := zT) (l2some_yes (m := e) (n := f) J hs (by omega) (by omega) _) fun a30 w19 he30 m19 => ?_
   refine wb 2 he30 [(66, zF), (65, zF)] fun a31 he31 => ?_
   refine wl_end (wp_condF (he := he31) rfl (wp_skip (then_normal (wp_seqR ?_))))
   refine wr [6] he31 m19 [(68, .agg (#[zN e, zN f, zN (c ||| g), zN (d &&& h)]))] [b4] vl0 fun a32 w20 he32 m20 => ?_
   refine kc he32 m20 (v := .agg (#[zN (tLo (max a e) (min b f) (c ||| g)), zN (tHi (max a e) (min b f) (c ||| g) (d &&& h)), zN (tB (max a e) (min b f) (c ||| g)), zN (tO (max a e) (min b f) (d &&& h))])) (l2tidy_m (m := e) (n := f) J (by omega) (by omega) _) fun a33 w21 he33 m21 => ?_
   refine wm [5, 0] he33 m21 [(5, zT)] [(3, zE b3 56 (#[zN (tLo (max a e) (min b f) (c ||| g)), zN (tHi (max a e) (min b f) (c ||| g) (d &&& h)), zN (tB (max a e) (min b f) (c ||| g)), zN (tO (max a e) (min b f) (d &&& h))]))] [b3] vl0 fun a34 w22 he34 m22 => ?_
   refine wl_end (wp_ret ?_)
   exact bodyPost_ret (results_cell_t he34 m22 _ _ _ Try.results65 _ rfl 3 rfl 4 agg56 (by first | rfl | assumption) _ rfl) he34.defers ⟨rfl, m22.below⟩
theorem c_l2Meet_yes (a b c d e f g h : Nat) (w : World) (A : OkN a b c d) (B : OkN e f g h) (hy : meetB a b c d e f g h = true) :
 Calls Try.prog 65 #[rv a b c d, rv e f g h] w fun ee w' => ee = .returned (.tuple #[meetV a b c d e f g h, .bool true]) ∧ Below w.heap.size w w' :=
 l2Meet_y a b c d e f g h w A B (meet_yes A B hy).1 (meet_yes A B hy).2.1 (meet_yes A B hy).2.2
theorem c_Meet_no3 (a b c d e f g h : Nat) (w : World) (A : OkN a b c d) (B : OkN e f g h) (hc : clashN c d g h ≠ 0) :
 Calls Try.prog 62 #[.agg (#[.int .i64 (((a : Nat) : Int)), .int .i64 (((b : Nat) : Int)), .int .i64 (((c : Nat) : Int)), .int .i64 (((d : Nat) : Int))]), .agg (#[.int .i64 (((e : Nat) : Int)), .int .i64 (((f : Nat) : Int)), .int .i64 (((g : Nat) : Int)), .int .i64 (((h : Nat) : Int))])] w fun ee w' => ee = .returned (.tuple #[rv 1 0 0 0, .bool false]) ∧ Below w.heap.size w w' := by
 refine calls_begin Try.func62 rfl 54 rfl (Nat.le_of_ble_eq_true rfl) [(0, .agg (#[zN a, zN b, zN c, zN d])), (1, .agg (#[zN e, zN f, zN g, zN h]))] ⟨rfl, rfl, trivial⟩ (fun a0 he0 m0 => ?_)
 have e5 := or_i64 c g (by have := A.b; omega) (by have := B.b; omega)
 have e6 := and_i64 d h (by have := A.o; omega) (by have := B.o; omega)
 have l4 : c ||| g ≤ 4294967295 := or_le A.b B.b
 have l5 : c ||| d ≤ 4294967295 := or_le A.b A.o
 have l6 : g ||| h ≤ 4294967295 := or_le B.b B.o
 have f2 := and_i64 (c ||| d) (g ||| h) (by omega) (by omega)
 have l7 : (c ||| d) &&& (g ||| h) ≤ 4294967295 := and_le _ l5
 have f3 := andNot_i64 (c ||| g) ((c ||| d) &&& (g ||| h)) l4 l7
 have hcl : (c ||| g) &&& notB ((c ||| d) &&& (g ||| h)) = clashN c d g h := rfl
 rw [hcl] at f3
 have K1 := okB_of A
 have K2 := okB_of B
 have hcl1 : (((clashN c d g h : Nat) : Int) != 0) = true := by simp; omega
 refine wp_seqR ?_
 refine kx he0 m0 1 (.agg (#[zN a, zN b, zN c, zN d])) (#[zN a, zN b, zN c, zN d]) 56 fun a1 w1 b1 he1 m1 => ?_
 refine kx he1 m1 2 (.agg (#[zN e, zN f, zN g, zN h])) (#[zN e, zN f, zN g, zN h]) 56 fun a2 w2 b2 he2 m2 => ?_
 refine ka he2 m2 3 56 (.agg #[.int .i64 0, .int .i64 0, .int .i64 0, .int .i64 0]) (#[zI 0, zI 0, zI 0, zI 0]) fun a3 w3 b3 he3 m3 => ?_
 refine wb 1 he3 [(5, zF)] fun a4 he4 => ?_
 refine wl_end (wp_seq (wp_seqR ?_))
 refine wr [3] he4 m3 [(7, .agg (#[zN a, zN b, zN c, zN d]))] [b1] vl0 fun a5 w4 he5 m4 => ?_
 refine kc he5 m4 (v := zT) (callsV (congrArg Value.bool (K1)) (c_RangeOk ((a : Nat) : Int) ((b : Nat) : Int) ((c : Nat) : Int) ((d : Nat) : Int) _)) fun a6 w5 he6 m5 => ?_
 refine wr [0, 0, 4] he6 m5 [(11, .agg (#[zN e, zN f, zN g, zN h])), (10, zF), (9, zF)] [b2] vl0 fun a7 w6 he7 m6 => ?_
 refine kc he7 m6 (v := zT) (callsV (congrArg Value.bool (K2)) (c_RangeOk ((e : Nat) : Int) ((f : Nat) : Int) ((g : Nat) : Int) ((h : Nat) : Int) _)) fun a8 w7 he8 m7 => ?_
 refine wb 2 he8 [(14, zF), (13, zF)] fun a9 he9 => ?_
 refine wl_end (wp_condF (he := he9) rfl (wp_skip (then_normal (wp_seqR ?_))))
 refine wr [0, 3, 0, 4] he9 m7 [(19, zN e), (18, zP b2 0), (17, zN a), (16, zP b1 0)] [b2, b1] vl0 fun a10 w8 he10 m8 => ?_
 refine kv he10 (zI (max ((a : Nat) : Int) ((e : Nat) : Int))) (rn_builtin _ _ _ rfl #[.int .i64 (((a : Nat) : Int)), .int .i64 (((e : Nat) : Int))] (map2 (he10.tmp 17 _ rfl) (he10.tmp 19 _ rfl)) (.int .i64 (max ((a : Nat) : Int) ((e : Nat) : Int))) (by go_simp)) fun a11 he11 => ?_
 refine wr [0, 3, 0, 4] he11 m8 [(24, zN f), (23, zP b2 1), (22, zN b), (21, zP b1 1)] [b2, b1] vl0 fun a12 w9 he12 m9 => ?_
 refine kv he12 (zI (min ((b : Nat) : Int) ((f : Nat) : Int))) (rn_builtin _ _ _ rfl #[.int .i64 (((b : Nat) : Int)), .int .i64 (((f : Nat) : Int))] (map2 (he12.tmp 22 _ rfl) (he12.tmp 24 _ rfl)) (.int .i64 (min ((b : Nat) : Int) ((f : Nat) : Int))) (by go_simp)) fun a13 he13 => ?_
 refine wr [0, 3, 0, 4] he13 m9 [(29, zN g), (28, zP b2 2), (27, zN c), (26, zP b1 2)] [b2, b1] vl0 fun a14 w10 he14 m10 => ?_
 refine kv he14 (zN (c ||| g)) (rbit (he14.tmp 27 _ rfl) (he14.tmp 29 _ rfl) e5) fun a15 he15 => ?_
 refine wr [0, 3, 0, 4] he15 m10 [(34, zN h), (33, zP b2 3), (32, zN d), (31, zP b1 3)] [b2, b1] vl0 fun a16 w11 he16 m11 => ?_
 refine kv he16 (zN (d &&& h)) (rbit (he16.tmp 32 _ rfl) (he16.tmp 34 _ rfl) e6) fun a17 he17 => ?_
 refine kv he17 (.agg (#[zI (max ((a : Nat) : Int) ((e : Nat) : Int)), zI (min ((b : Nat) : Int) ((f : Nat) : Int)), zN (c ||| g), zN (d &&& h)])) (rn_build _ _ rfl #[(0, .int .i64 (max ((a : Nat) : Int) ((e : Nat) : Int))), (1, .int .i64 (min ((b : Nat) : Int) ((f : Nat) : Int))), (2, .int .i64 (((c ||| g : Nat) : Int))), (3, .int .i64 (((d &&& h : Nat) : Int)))] (pmap4 (he17.tmp 20 _ rfl) (he17.tmp 25 _ rfl) (he17.tmp 30 _ rfl) (he17.tmp 35 _ rfl)) _ (by kernel_rfl)) fun a18 he18 => ?_
 refine ka he18 m11 4 56 (.agg #[.int .i64 0, .int .i64 0, .int .i64 0, .int .i64 0]) (#[zI 0, zI 0, zI 0, zI 0]) fun a19 w12 b4 he19 m12 => ?_
 refine wm [6] he19 m12 [] [(4, zE b4 56 (#[zI (max ((a : Nat) : Int) ((e : Nat) : Int)), zI (min ((b : Nat) : Int) ((f : Nat) : Int)), zN (c ||| g), zN (d &&& h)]))] [b4] vl0 fun a20 w13 he20 m13 => ?_
 refine wl_end (wp_seq (wp_seq ?_))
 refine wh_begin (by kernel_rfl) m13 [(1, ⟨true, b1, 56, #[zN a, zN b, zN c, zN d]⟩), (2, ⟨true, b2, 56, #[zN e, zN f, zN g, zN h]⟩), (3, ⟨true, b3, 56, #[zI 0, zI 0, zI 0, zI 0]⟩), (4, ⟨true, b4, 56, #[zI (max ((a : Nat) : Int) ((e : Nat) : Int)), zI (min ((b : Nat) : Int) ((f : Nat) : Int)), zN (c ||| g), zN (d &&& h)]⟩)] ⟨rfl, rfl, rfl, rfl, trivial⟩ (fun w14 m14 => ?_)
 refine wtd (fuel := 10) [(0, 0), (1, 6), (2, 3), (4, 4)] he20 m14 [(41, .agg (#[zN e, zN f, zN g, zN h])), (39, .agg (#[zN a, zN b, zN c, zN d])), (38, zN (c ||| g)), (37, zP b4 2)] [b2, b1, b4] vl0 fun a21 he21 => ?_
 refine tc (fuel := 9) 3 rfl he21 m14 (v := zN (c ||| d)) (c_may ((a : Nat) : Int) ((b : Nat) : Int) c d _ A.b A.o) fun a22 w15 he22 m15 => ?_
 refine tc (fuel := 8) 5 rfl he22 m15 (v := zN (g ||| h)) (c_may ((e : Nat) : Int) ((f : Nat) : Int) g h _ B.b B.o) fun a23 w16 he23 m16 => ?_
 refine tv (fuel := 7) 6 rfl he23 m16 (zN ((c ||| d) &&& (g ||| h))) (fun wS hmS => rbit (he23.tmp 40 _ rfl) (he23.tmp 42 _ rfl) f2) fun a24 he24 => ?_
 refine tv (fuel := 6) 7 rfl he24 m16 (zN (clashN c d g h)) (fun wS hmS => rbit (he24.tmp 38 _ rfl) (he24.tmp 43 _ rfl) f3) fun a25 he25 => ?_
 refine wtd (fuel := 3) [(8, 1), (9, 0), (10, 0)] he25 m16 [(47, zU), (46, zT), (45, zT)] [] (vb (hcl1) vl0) fun a26 he26 => ?_
 refine tx (fuel := 2) 11 rfl he26 m16 fun a27 he27 => ?_
 refine wtb (fuel := 0) [12, 13] he27 m16 [(50, zT), (49, zU)] fun a28 he28 => ?_
 refine wpAnyH_done (by kernel_rfl) ?_ _
 refine then_normal (wp_condT (he := he28) rfl (wp_seqR ?_))
 refine kc he28 m16 (v := .agg (#[zI 1, zI 0, zI 0, zI 0])) (c_noRange _) fun a29 w17 he29 m17 => ?_
 refine wm [5, 0] he29 m17 [(5, zF)] [(3, zE b3 56 (#[zI 1, zI 0, zI 0, zI 0]))] [b3] vl0 fun a30 w18 he30 m18 => ?_
 refine wl_end (wp_ret (ret_then ?_))
 exact bodyPost_ret (results_cell_t he30 m18 _ _ _ Try.results62 _ rfl 3 rfl 4 agg56 (by first | rfl | assumption) _ rfl) he30.defers ⟨rfl, m18.below⟩
theorem c_Meet_no4 (a b c d e f g h : Nat) (w : World) (A : OkN a b c d) (B : OkN e f g h) (hc : clashN c d g h = 0) (hS : Hid (∀ w, Calls Try.prog 43 #[rv (max (a : Int) e) (min (b : Int) f) (c ||| g : Nat) (d &&& h : Nat)] w fun ee w' => ee = .returned (.bool false) ∧ Below w.heap.size w w')) :
 Calls Try.prog 62 #[.agg (#[.int .i64 (((a : Nat) : Int)), .int .i64 (((b : Nat) : Int)), .int .i64 (((c : Nat) : Int)), .int .i64 (((d : Nat) : Int))]), .agg (#[.int .i64 (((e : Nat) : Int)), .int .i64 (((f : Nat) : Int)), .int .i64 (((g : Nat) : Int)), .int .i64 (((h : Nat) : Int))])] w fun ee w' => ee = .returned (.tuple #[rv 1 0 0 0, .bool false]) ∧ Below w.heap.size w w' := by
 refine calls_begin Try.func62 rfl 54 rfl (Nat.le_of_ble_eq_true rfl) [(0, .agg (#[zN a, zN b, zN c, zN d])), (1, .agg (#[zN e, zN f, zN g, zN h]))] ⟨rfl, rfl, trivial⟩ (fun a0 he0 m0 => ?_)
 have e5 := or_i64 c g (by have := A.b; omega) (by have := B.b; omega)
 have e6 := and_i64 d h (by have := A.o; omega) (by have := B.o; omega)
 have l4 : c ||| g ≤ 4294967295 := or_le A.b B.b
 have l5 : c ||| d ≤ 4294967295 := or_le A.b A.o
 have l6 : g ||| h ≤ 4294967295 := or_le B.b B.o
 have f2 := and_i64 (c ||| d) (g ||| h) (by omega) (by omega)
 have l7 : (c ||| d) &&& (g ||| h) ≤ 4294967295 := and_le _ l5
 have f3 := andNot_i64 (c ||| g) ((c ||| d) &&& (g ||| h)) l4 l7
 have hcl : (c ||| g) &&& notB ((c ||| d) &&& (g ||| h)) = clashN c d g h := rfl
 rw [hcl] at f3
 have K1 := okB_of A
 have K2 := okB_of B
 have hcl0 : (((clashN c d g h : Nat) : Int) != 0) = false := by rw [hc]; rfl
 refine wp_seqR ?_
 refine kx he0 m0 1 (.agg (#[zN a, zN b, zN c, zN d])) (#[zN a, zN b, zN c, zN d]) 56 fun a1 w1 b1 he1 m1 => ?_
 refine kx he1 m1 2 (.agg (#[zN e, zN f, zN g, zN h])) (#[zN e, zN f, zN g, zN h]) 56 fun a2 w2 b2 he2 m2 => ?_
 refine ka he2 m2 3 56 (.agg #[.int .i64 0, .int .i64 0, .int .i64 0, .int .i64 0]) (#[zI 0, zI 0, zI 0, zI 0]) fun a3 w3 b3 he3 m3 => ?_
 refine wb 1 he3 [(5, zF)] fun a4 he4 => ?_
 refine wl_end (wp_seq (wp_seqR ?_))
 refine wr [3] he4 m3 [(7, .agg (#[zN a, zN b, zN c, zN d]))] [b1] vl0 fun a5 w4 he5 m4 => ?_
 refine kc he5 m4 (v := zT) (callsV (congrArg Value.bool (K1)) (c_RangeOk ((a : Nat) : Int) ((b : Nat) : Int) ((c : Nat) : Int) ((d : Nat) : Int) _)) fun a6 w5 he6 m5 => ?_
 refine wr [0, 0, 4] he6 m5 [(11, .agg (#[zN e, zN f, zN g, zN h])), (10, zF), (9, zF)] [b2] vl0 fun a7 w6 he7 m6 => ?_
 refine kc he7 m6 (v := zT) (callsV (congrArg Value.bool (K2)) (c_RangeOk ((e : Nat) : Int) ((f : Nat) : Int) ((g : Nat) : Int) ((h : Nat) : Int) _)) fun a8 w7 he8 m7 => ?_
 refine wb 2 he8 [(14, zF), (13, zF)] fun a9 he9 => ?_
 refine wl_end (wp_condF (he := he9) rfl (wp_skip (then_normal (wp_seqR ?_))))
 refine wr [0, 3, 0, 4] he9 m7 [(19, zN e), (18, zP b2 0), (17, zN a), (16, zP b1 0)] [b2, b1] vl0 fun a10 w8 he10 m8 => ?_
 refine kv he10 (zI (max ((a : Nat) : Int) ((e : Nat) : Int))) (rn_builtin _ _ _ rfl #[.int .i64 (((a : Nat) : Int)), .int .i64 (((e : Nat) : Int))] (map2 (he10.tmp 17 _ rfl) (he10.tmp 19 _ rfl)) (.int .i64 (max ((a : Nat) : Int) ((e : Nat) : Int))) (by go_simp)) fun a11 he11 => ?_
 refine wr [0, 3, 0, 4] he11 m8 [(24, zN f), (23, zP b2 1), (22, zN b), (21, zP b1 1)] [b2, b1] vl0 fun a12 w9 he12 m9 => ?_
 refine kv he12 (zI (min ((b : Nat) : Int) ((f : Nat) : Int))) (rn_builtin _ _ _ rfl #[.int .i64 (((b : Nat) : Int)), .int .i64 (((f : Nat) : Int))] (map2 (he12.tmp 22 _ rfl) (he12.tmp 24 _ rfl)) (.int .i64 (min ((b : Nat) : Int) ((f : Nat) : Int))) (by go_simp)) fun a13 he13 => ?_
 refine wr [0, 3, 0, 4] he13 m9 [(29, zN g), (28, zP b2 2), (27, zN c), (26, zP b1 2)] [b2, b1] vl0 fun a14 w10 he14 m10 => ?_
 refine kv he14 (zN (c ||| g)) (rbit (he14.tmp 27 _ rfl) (he14.tmp 29 _ rfl) e5) fun a15 he15 => ?_
 refine wr [0, 3, 0, 4] he15 m10 [(34, zN h), (33, zP b2 3), (32, zN d), (31, zP b1 3)] [b2, b1] vl0 fun a16 w11 he16 m11 => ?_
 refine kv he16 (zN (d &&& h)) (rbit (he16.tmp 32 _ rfl) (he16.tmp 34 _ rfl) e6) fun a17 he17 => ?_
 refine kv he17 (.agg (#[zI (max ((a : Nat) : Int) ((e : Nat) : Int)), zI (min ((b : Nat) : Int) ((f : Nat) : Int)), zN (c ||| g), zN (d &&& h)])) (rn_build _ _ rfl #[(0, .int .i64 (max ((a : Nat) : Int) ((e : Nat) : Int))), (1, .int .i64 (min ((b : Nat) : Int) ((f : Nat) : Int))), (2, .int .i64 (((c ||| g : Nat) : Int))), (3, .int .i64 (((d &&& h : Nat) : Int)))] (pmap4 (he17.tmp 20 _ rfl) (he17.tmp 25 _ rfl) (he17.tmp 30 _ rfl) (he17.tmp 35 _ rfl)) _ (by kernel_rfl)) fun a18 he18 => ?_
 refine ka he18 m11 4 56 (.agg #[.int .i64 0, .int .i64 0, .int .i64 0, .int .i64 0]) (#[zI 0, zI 0, zI 0, zI 0]) fun a19 w12 b4 he19 m12 => ?_
 refine wm [6] he19 m12 [] [(4, zE b4 56 (#[zI (max ((a : Nat) : Int) ((e : Nat) : Int)), zI (min ((b : Nat) : Int) ((f : Nat) : Int)), zN (c ||| g), zN (d &&& h)]))] [b4] vl0 fun a20 w13 he20 m13 => ?_
 refine wl_end (wp_seq (wp_seq ?_))
 refine wh_begin (by kernel_rfl) m13 [(1, ⟨true, b1, 56, #[zN a, zN b, zN c, zN d]⟩), (2, ⟨true, b2, 56, #[zN e, zN f, zN g, zN h]⟩), (3, ⟨true, b3, 56, #[zI 0, zI 0, zI 0, zI 0]⟩), (4, ⟨true, b4, 56, #[zI (max ((a : Nat) : Int) ((e : Nat) : Int)), zI (min ((b : Nat) : Int) ((f : Nat) : Int)), zN (c ||| g), zN (d &&& h)]⟩)] ⟨rfl, rfl, rfl, rfl, trivial⟩ (fun w14 m14 => ?_)
 refine wtd (fuel := 10) [(0, 0), (1, 6), (2, 3), (4, 4)] he20 m14 [(41, .agg (#[zN e, zN f, zN g, zN h])), (39, .agg (#[zN a, zN b, zN c, zN d])), (38, zN (c ||| g)), (37, zP b4 2)] [b2, b1, b4] vl0 fun a21 he21 => ?_
 refine tc (fuel := 9) 3 rfl he21 m14 (v := zN (c ||| d)) (c_may ((a : Nat) : Int) ((b : Nat) : Int) c d _ A.b A.o) fun a22 w15 he22 m15 => ?_
 refine tc (fuel := 8) 5 rfl he22 m15 (v := zN (g ||| h)) (c_may ((e : Nat) : Int) ((f : Nat) : Int) g h _ B.b B.o) fun a23 w16 he23 m16 => ?_
 refine tv (fuel := 7) 6 rfl he23 m16 (zN ((c ||| d) &&& (g ||| h))) (fun wS hmS => rbit (he23.tmp 40 _ rfl) (he23.tmp 42 _ rfl) f2) fun a24 he24 => ?_
 refine tv (fuel := 6) 7 rfl he24 m16 (zN (clashN c d g h)) (fun wS hmS => rbit (he24.tmp 38 _ rfl) (he24.tmp 43 _ rfl) f3) fun a25 he25 => ?_
 refine wtd (fuel := 3) [(8, 1), (9, 0), (10, 6)] he25 m16 [(47, .agg (#[zI (max ((a : Nat) : Int) ((e : Nat) : Int)), zI (min ((b : Nat) : Int) ((f : Nat) : Int)), zN (c ||| g), zN (d &&& h)])), (46, zF), (45, zF)] [b4] (vb (hcl0) vl0) fun a26 he26 => ?_
 refine tc (fuel := 2) 11 rfl he26 m16 (v := zF) (hS.out _) fun a27 w17 he27 m17 => ?_
 refine wtb (fuel := 0) [12, 13] he27 m17 [(50, zT), (49, zT)] fun a28 he28 => ?_
 refine wpAnyH_done (by kernel_rfl) ?_ _
 refine then_normal (wp_condT (he := he28) rfl (wp_seqR ?_))
 refine kc he28 m17 (v := .agg (#[zI 1, zI 0, zI 0, zI 0])) (c_noRange _) fun a29 w18 he29 m18 => ?_
 refine wm [5, 0] he29 m18 [(5, zF)] [(3, zE b3 56 (#[zI 1, zI 0, zI 0, zI 0]))] [b3] vl0 fun a30 w19 he30 m19 => ?_
 refine wl_end (wp_ret (ret_then ?_))
 exact bodyPost_ret (results_cell_t he30 m19 _ _ _ Try.results62 _ rfl 3 rfl 4 agg56 (by first | rfl | assumption) _ rfl) he30.defers ⟨rfl, m19.below⟩
theorem c_Meet_yes (a b c d e f g h : Nat) (w : World) (A : OkN a b c d) (B : OkN e f g h) (hc : clashN c d g h = 0) (J : OkN (max a e) (min b f) (c ||| g) (d &&& h)) (hs : someN (max a e) (min b f) (c ||| g) (d &&& h) = true) :
 Calls Try.prog 62 #[.agg (#[.int .i64 (((a : Nat) : Int)), .int .i64 (((b : Nat) : Int)), .int .i64 (((c : Nat) : Int)), .int .i64 (((d : Nat) : Int))]), .agg (#[.int .i64 (((e : Nat) : Int)), .int .i64 (((f : Nat) : Int)), .int .i64 (((g : Nat) : Int)), .int .i64 (((h : Nat) : Int))])] w fun ee w' => ee = .returned (.tuple #[meetV a b c d e f g h, .bool true]) ∧ Below w.heap.size w w' := by
 refine calls_begin Try.func62 rfl 54 rfl (Nat.le_of_ble_eq_true rfl) [(0, .agg (#[zN a, zN b, zN c, zN d])), (1, .agg (#[zN e, zN f, zN g, zN h]))] ⟨rfl, rfl, trivial⟩ (fun a0 he0 m0 => ?_)
 have e5 := or_i64 c g (by have := A.b; omega) (by have := B.b; omega)
 have e6 := and_i64 d h (by have := A.o; omega) (by have := B.o; omega)
 have l4 : c ||| g ≤ 4294967295 := or_le A.b B.b
 have l5 : c ||| d ≤ 4294967295 := or_le A.b A.o
 have l6 : g ||| h ≤ 4294967295 := or_le B.b B.o
 have f2 := and_i64 (c ||| d) (g ||| h) (by omega) (by omega)
 have l7 : (c ||| d) &&& (g ||| h) ≤ 4294967295 := and_le _ l5
 have f3 := andNot_i64 (c ||| g) ((c ||| d) &&& (g ||| h)) l4 l7
 have hcl : (c ||| g) &&& notB ((c ||| d) &&& (g ||| h)) = clashN c d g h := rfl
 rw [hcl] at f3
 have K1 := okB_of A
 have K2 := okB_of B
 have hcl0 : (((clashN c d g h : Nat) : Int) != 0) = false := by rw [hc]; rfl
 refine wp_seqR ?_
 refine kx he0 m0 1 (.agg (#[zN a, zN b, zN c, zN d])) (#[zN a, zN b, zN c, zN d]) 56 fun a1 w1 b1 he1 m1 => ?_
 refine kx he1 m1 2 (.agg (#[zN e, zN f, zN g, zN h])) (#[zN e, zN f, zN g, zN h]) 56 fun a2 w2 b2 he2 m2 => ?_
 refine ka he2 m2 3 56 (.agg #[.int .i64 0, .int .i64 0, .int .i64 0, .int .i64 0]) (#[zI 0, zI 0, zI 0, zI 0]) fun a3 w3 b3 he3 m3 => ?_
 refine wb 1 he3 [(5, zF)] fun a4 he4 => ?_
 refine wl_end (wp_seq (wp_seqR ?_))
 refine wr [3] he4 m3 [(7, .agg (#[zN a, zN b, zN c, zN d]))] [b1] vl0 fun a5 w4 he5 m4 => ?_
 refine kc he5 m4 (v := zT) (callsV (congrArg Value.bool (K1)) (c_RangeOk ((a : Nat) : Int) ((b : Nat) : Int) ((c : Nat) : Int) ((d : Nat) : Int) _)) fun a6 w5 he6 m5 => ?_
 refine wr [0, 0, 4] he6 m5 [(11, .agg (#[zN e, zN f, zN g, zN h])), (10, zF), (9, zF)] [b2] vl0 fun a7 w6 he7 m6 => ?_
 refine kc he7 m6 (v := zT) (callsV (congrArg Value.bool (K2)) (c_RangeOk ((e : Nat) : Int) ((f : Nat) : Int) ((g : Nat) : Int) ((h : Nat) : Int) _)) fun a8 w7 he8 m7 => ?_
 refine wb 2 he8 [(14, zF), (13, zF)] fun a9 he9 => ?_
 refine wl_end (wp_condF (he := he9) rfl (wp_skip (then_normal (wp_seqR ?_))))
 refine wr [0, 3, 0, 4] he9 m7 [(19, zN e), (18, zP b2 0), (17, zN a), (16, zP b1 0)] [b2, b1] vl0 fun a10 w8 he10 m8 => ?_
 refine kv he10 (zI (max ((a : Nat) : Int) ((e : Nat) : Int))) (rn_builtin _ _ _ rfl #[.int .i64 (((a : Nat) : Int)), .int .i64 (((e : Nat) : Int))] (map2 (he10.tmp 17 _ rfl) (he10.tmp 19 _ rfl)) (.int .i64 (max ((a : Nat) : Int) ((e : Nat) : Int))) (by go_simp)) fun a11 he11 => ?_
 refine wr [0, 3, 0, 4] he11 m8 [(24, zN f), (23, zP b2 1), (22, zN b), (21, zP b1 1)] [b2, b1] vl0 fun a12 w9 he12 m9 => ?_
 refine kv he12 (zI (min ((b : Nat) : Int) ((f : Nat) : Int))) (rn_builtin _ _ _ rfl #[.int .i64 (((b : Nat) : Int)), .int .i64 (((f : Nat) : Int))] (map2 (he12.tmp 22 _ rfl) (he12.tmp 24 _ rfl)) (.int .i64 (min ((b : Nat) : Int) ((f : Nat) : Int))) (by go_simp)) fun a13 he13 => ?_
 refine wr [0, 3, 0, 4] he13 m9 [(29, zN g), (28, zP b2 2), (27, zN c), (26, zP b1 2)] [b2, b1] vl0 fun a14 w10 he14 m10 => ?_
 refine kv he14 (zN (c ||| g)) (rbit (he14.tmp 27 _ rfl) (he14.tmp 29 _ rfl) e5) fun a15 he15 => ?_
 refine wr [0, 3, 0, 4] he15 m10 [(34, zN h), (33, zP b2 3), (32, zN d), (31, zP b1 3)] [b2, b1] vl0 fun a16 w11 he16 m11 => ?_
 refine kv he16 (zN (d &&& h)) (rbit (he16.tmp 32 _ rfl) (he16.tmp 34 _ rfl) e6) fun a17 he17 => ?_
 refine kv he17 (.agg (#[zI (max ((a : Nat) : Int) ((e : Nat) : Int)), zI (min ((b : Nat) : Int) ((f : Nat) : Int)), zN (c ||| g), zN (d &&& h)])) (rn_build _ _ rfl #[(0, .int .i64 (max ((a : Nat) : Int) ((e : Nat) : Int))), (1, .int .i64 (min ((b : Nat) : Int) ((f : Nat) : Int))), (2, .int .i64 (((c ||| g : Nat) : Int))), (3, .int .i64 (((d &&& h : Nat) : Int)))] (pmap4 (he17.tmp 20 _ rfl) (he17.tmp 25 _ rfl) (he17.tmp 30 _ rfl) (he17.tmp 35 _ rfl)) _ (by kernel_rfl)) fun a18 he18 => ?_
 refine ka he18 m11 4 56 (.agg #[.int .i64 0, .int .i64 0, .int .i64 0, .int .i64 0]) (#[zI 0, zI 0, zI 0, zI 0]) fun a19 w12 b4 he19 m12 => ?_
 refine wm [6] he19 m12 [] [(4, zE b4 56 (#[zI (max ((a : Nat) : Int) ((e : Nat) : Int)), zI (min ((b : Nat) : Int) ((f : Nat) : Int)), zN (c ||| g), zN (d &&& h)]))] [b4] vl0 fun a20 w13 he20 m13 => ?_
 refine wl_end (wp_seq (wp_seq ?_))
 refine wh_begin (by kernel_rfl) m13 [(1, ⟨true, b1, 56, #[zN a, zN b, zN c, zN d]⟩), (2, ⟨true, b2, 56, #[zN e, zN f, zN g, zN h]⟩), (3, ⟨true, b3, 56, #[zI 0, zI 0, zI 0, zI 0]⟩), (4, ⟨true, b4, 56, #[zI (max ((a : Nat) : Int) ((e : Nat) : Int)), zI (min ((b : Nat) : Int) ((f : Nat) : Int)), zN (c ||| g), zN (d &&& h)]⟩)] ⟨rfl, rfl, rfl, rfl, trivial⟩ (fun w14 m14 => ?_)
 refine wtd (fuel := 10) [(0, 0), (1, 6), (2, 3), (4, 4)] he20 m14 [(41, .agg (#[zN e, zN f, zN g, zN h])), (39, .agg (#[zN a, zN b, zN c, zN d])), (38, zN (c ||| g)), (37, zP b4 2)] [b2, b1, b4] vl0 fun a21 he21 => ?_
 refine tc (fuel := 9) 3 rfl he21 m14 (v := zN (c ||| d)) (c_may ((a : Nat) : Int) ((b : Nat) : Int) c d _ A.b A.o) fun a22 w15 he22 m15 => ?_
 refine tc (fuel := 8) 5 rfl he22 m15 (v := zN (g ||| h)) (c_may ((e : Nat) : Int) ((f : Nat) : Int) g h _ B.b B.o) fun a23 w16 he23 m16 => ?_
 refine tv (fuel := 7) 6 rfl he23 m16 (zN ((c ||| d) &&& (g ||| h))) (fun wS hmS => rbit (he23.tmp 40 _ rfl) (he23.tmp 42 _ rfl) f2) fun a24 he24 => ?_
 refine tv (fuel := 6) 7 rfl he24 m16 (zN (clashN c d g h)) (fun wS hmS => rbit (he24.tmp 38 _ rfl) (he24.tmp 43 _ rfl) f3) fun a25 he25 => ?_
 refine wtd (fuel := 3) [(8, 1), (9, 0), (10, 6)] he25 m16 [(47, .agg (#[zI (max ((a : Nat) : Int) ((e : Nat) : Int)), zI (min ((b : Nat) : Int) ((f : Nat) : Int)), zN (c ||| g), zN (d &&& h)])), (46, zF), (45, zF)] [b4] (vb (hcl0) vl0) fun a26 he26 => ?_
 refine tc (fuel := 2) 11 rfl he26 m16 (v := zT) (some_yes J hs _) fun a27 w17 he27 m17 => ?_
 refine wtb (fuel := 0) [12, 13] he27 m17 [(50, zF), (49, zF)] fun a28 he28 => ?_
 refine wpAnyH_done (by kernel_rfl) ?_ _
 refine then_normal (wp_condF (he := he28) rfl (wp_skip (then_normal (wp_seqR ?_))))
 refine wr [6] he28 m17 [(52, .agg (#[zI (max ((a : Nat) : Int) ((e : Nat) : Int)), zI (min ((b : Nat) : Int) ((f : Nat) : Int)), zN (c ||| g), zN (d &&& h)]))] [b4] vl0 fun a29 w18 he29 m18 => ?_
 refine kc he29 m18 (v := .agg (#[zN (tLo (max a e) (min b f) (c ||| g)), zN (tHi (max a e) (min b f) (c ||| g) (d &&& h)), zN (tB (max a e) (min b f) (c ||| g)), zN (tO (max a e) (min b f) (d &&& h))])) (tidy_yes J hs _) fun a30 w19 he30 m19 => ?_
 refine wm [5, 0] he30 m19 [(5, zT)] [(3, zE b3 56 (#[zN (tLo (max a e) (min b f) (c ||| g)), zN (tHi (max a e) (min b f) (c ||| g) (d &&& h)), zN (tB (max a e) (min b f) (c ||| g)), zN (tO (max a e) (min b f) (d &&& h))]))] [b3] vl0 fun a31 w20 he31 m20 => ?_
 refine wl_end (wp_ret ?_)
 exact bodyPost_ret (results_cell_t he31 m20 _ _ _ Try.results62 _ rfl 3 rfl 4 agg56 (by first | rfl | assumption) _ rfl) he31.defers ⟨rfl, m20.below⟩
end Go.Proofs.Ytkaekiodjjhjkaa.H
namespace Go.Proofs.Ytkaekiodjjhjkaa.H
open Go.RowKit
theorem fourA (w : World) (a b c d e f g h : Int) : RBox ((((w.alloc (cellsR4 a b c d)).alloc (cellsR4 e f g h)).alloc (cellsR4 0 0 0 0)).alloc (cellsR4 0 0 0 0)) w.heap.size a b c d := (twoA w a b c d e f g h).alloc _
theorem fourB (w : World) (a b c d e f g h : Int) : RBox ((((w.alloc (cellsR4 a b c d)).alloc (cellsR4 e f g h)).alloc (cellsR4 0 0 0 0)).alloc (cellsR4 0 0 0 0)) (w.heap.size + 1) e f g h := (twoB w a b c d e f g h).alloc _
theorem fourQ (w : World) (a b c d e f g h : Int) : RBox ((((w.alloc (cellsR4 a b c d)).alloc (cellsR4 e f g h)).alloc (cellsR4 0 0 0 0)).alloc (cellsR4 0 0 0 0)) (w.heap.size + 2) 0 0 0 0 := (twoQ w a b c d e f g h).alloc _
theorem fourR (w : World) (a b c d e f g h : Int) : RBox ((((w.alloc (cellsR4 a b c d)).alloc (cellsR4 e f g h)).alloc (cellsR4 0 0 0 0)).alloc (cellsR4 0 0 0 0)) (w.heap.size + 3) 0 0 0 0 := by
 have h0 := RBox.new (two w a b c d e f g h) 0 0 0 0
 simp only [World.size_alloc] at h0
 exact h0
theorem fourW (w : World) (a b c d e f g h : Int) : Below w.heap.size w ((((w.alloc (cellsR4 a b c d)).alloc (cellsR4 e f g h)).alloc (cellsR4 0 0 0 0)).alloc (cellsR4 0 0 0 0)) := (twoW w a b c d e f g h).alloc (by simp; omega) _
def tidyP (lo hi b o : Int) : Int × Int × Int × Int := if someI lo hi b o then (tLo lo.toNat hi.toNat b.toNat, tHi lo.toNat hi.toNat b.toNat o.toNat, tB lo.toNat hi.toNat b.toNat, tO lo.toNat hi.toNat o.toNat) else (1, 0, 0, 0)
theorem tidyP_no {lo hi b o : Int} (h : someI lo hi b o = false) : tidyP lo hi b o = (1, 0, 0, 0) := by rw [tidyP, h]; rfl
theorem tidyP_yes {L H B O : Nat} (h : OkN L H B O) (hs : someN L H B O = true) : tidyP L H B O = (((tLo L H B : Nat) : Int), ((tHi L H B O : Nat) : Int), ((tB L H B : Nat) : Int), ((tO L H O : Nat) : Int)) := by
 rw [tidyP, someI_nat h, hs]; simp
theorem c_RangeTidyI (lo hi b o : Int) (w : World) :
 Calls Try.prog 40 #[rv lo hi b o] w fun e w' => e = .returned (rv (tidyP lo hi b o).1 (tidyP lo hi b o).2.1 (tidyP lo hi b o).2.2.1 (tidyP lo hi b o).2.2.2) ∧ Below w.heap.size w w' := by
 cases hs : someI lo hi b o
 ·rw [tidyP_no hs]
  exact c_RangeTidy_no lo hi b o w (fun w => by have := c_RangeSomeI lo hi b o w; rw [hs] at this; exact this)
 ·obtain ⟨L, H, B, O, rfl, rfl, rfl, rfl, h, hs'⟩ := someI_yes hs
  rw [tidyP_yes h hs']
  exact c_RangeTidy L H B O w h hs'
theorem c_isKnown (lo hi b o : Int) (w : World) :
 Calls Try.prog 76 #[rv lo hi b o] w fun e w' => e = .returned (.bool (lo == hi)) ∧ Below w.heap.size w w' := by
 go_enter Try.func76, Try.ntmps76
 go_wp2
 go_ret
 exact ⟨rfl, (Below.refl _ _).alloc (Nat.le_refl _) _⟩
theorem w_below (a b c d e f g h : Int) (x y z u x' y' z' u' : Int) (w : World) (a0 : 0 ≤ a) (a1 : a ≤ 4294967295) (f0 : 0 ≤ f) (f1 : f ≤ 4294967295) (tA : Hid (∀ w, Calls Try.prog 40 #[rv a (min b (f - 1)) c d] w fun ee w' => ee = .returned (rv x y z u) ∧ Below w.heap.size w w')) (tB : Hid (∀ w, Calls Try.prog 40 #[rv (max e (a + 1)) f g h] w fun ee w' => ee = .returned (rv x' y' z' u') ∧ Below w.heap.size w w')) :
 Calls Try.prog 60 #[rv a b c d, rv e f g h] w fun ee w' => ee = .returned (.tuple #[rv x y z u, rv x' y' z' u']) ∧ Below w.heap.size w w' := by
 have bA0 : Hid (RBox ((((w.alloc (cellsR4 a (min b (f - 1)) c d)).alloc (cellsR4 (max e (a + 1)) f g h)).alloc (cellsR4 0 0 0 0)).alloc (cellsR4 0 0 0 0)) w.heap.size a (min b (f - 1)) c d) := fourA w a (min b (f - 1)) c d (max e (a + 1)) f g h
 have bB0 : Hid (RBox ((((w.alloc (cellsR4 a (min b (f - 1)) c d)).alloc (cellsR4 (max e (a + 1)) f g h)).alloc (cellsR4 0 0 0 0)).alloc (cellsR4 0 0 0 0)) (w.heap.size + 1) (max e (a + 1)) f g h) := fourB w a (min b (f - 1)) c d (max e (a + 1)) f g h
 have bQ0 : Hid (RBox ((((w.alloc (cellsR4 a (min b (f - 1)) c d)).alloc (cellsR4 (max e (a + 1)) f g h)).alloc (cellsR4 0 0 0 0)).alloc (cellsR4 0 0 0 0)) (w.heap.size + 2) 0 0 0 0) := fourQ w a (min b (f - 1)) c d (max e (a + 1)) f g h
 have bR0 : Hid (RBox ((((w.alloc (cellsR4 a (min b (f - 1)) c d)).alloc (cellsR4 (max e (a + 1)) f g h)).alloc (cellsR4 0 0 0 0)).alloc (cellsR4 0 0 0 0)) (w.heap.size + 3) 0 0 0 0) := fourR w a (min b (f - 1)) c d (max e (a + 1)) f g h
 have bel0 : Hid (Below w.heap.size w ((((w.alloc (cellsR4 a (min b (f - 1)) c d)).alloc (cellsR4 (max e (a + 1)) f g h)).alloc (cellsR4 0 0 0 0)).alloc (cellsR4 0 0 0 0))) := fourW w a (min b (f - 1)) c d (max e (a + 1)) f g h
 go_enter Try.func60, Try.ntmps60
 go_wp2_with fail
 generalize (((w.alloc (cellsR4 a (min b (f - 1)) c d)).alloc (cellsR4 (max e (a + 1)) f g h)).alloc (cellsR4 0 0 0 0)).alloc (cellsR4 0 0 0 0) = w0 at *
 obtain ⟨cA0, cA1, cA2, cA3⟩ := RBox.box bA0.out
 obtain ⟨cB0, cB1, cB2, cB3⟩ := RBox.box bB0.out
 refine wp_region_held_drew (S := (fun w' => w'.cell? ⟨w.heap.size, 0, none⟩ = some (.int .i64 (a)) ∧ w'.cell? ⟨w.heap.size, 1, none⟩ = some (.int .i64 ((min b (f - 1)))) ∧ w'.cell? ⟨w.heap.size, 2, none⟩ = some (.int .i64 (c)) ∧ w'.cell? ⟨w.heap.size, 3, none⟩ = some (.int .i64 (d)) ∧ w'.cell? ⟨w.heap.size + 1, 0, none⟩ = some (.int .i64 ((max e (a + 1)))) ∧ w'.cell? ⟨w.heap.size + 1, 1, none⟩ = some (.int .i64 (f)) ∧ w'.cell? ⟨w.heap.size + 1, 2, none⟩ = some (.int .i64 (g)) ∧ w'.cell? ⟨w.heap.size + 1, 3, none⟩ = some (.int .i64 (h)))) (by kernel_rfl) (by exact ⟨(RBox.box bA0.out).c0, (RBox.box bA0.out).c1, (RBox.box bA0.out).c2, (RBox.box bA0.out).c3, (RBox.box bB0.out).c0, (RBox.box bB0.out).c1, (RBox.box bB0.out).c2, (RBox.box bB0.out).c3⟩) (fun hHeld => ?_)
 have hA := hid (RBox.drew bA0.out)
 have hB := hid (RBox.drew bB0.out)
 have hQ := hid (RBox.drew bQ0.out)
 have hR := hid (RBox.drew bR0.out)
 have hbel := hid (Below.drew bel0.out)
 clear bA0 bB0 bQ0 bR0 bel0
 generalize w0.drew = W1 at *
 refine tkH 0 5 hHeld ?_
 try simp only [Act.put, sA, sB, sC]
 refine tkH 2 4 hHeld ?_
 try simp only [Act.put, sA, sB, sC]
 refine wpAnyH_ready (fuel := 3) (rs := [1]) (by kernel_rfl) (by simp) ?_
 refine AllReadyH.cons (by rw [List.getElem?_toArray]; rfl) (fun K hK => ?_) AllReadyH.nil
 go_simp
 refine (tA.out _).mono ?_
 rintro ee wr1 ⟨rfl, hbn⟩
 replace hA := hid (hA.out.below hbn)
 replace hB := hid (hB.out.below hbn)
 replace hQ := hid (hQ.out.below hbn)
 replace hR := hid (hR.out.below hbn)
 replace hbel := hid (hbel.out.trans (hbn.mono hbel.out.size))
 clear hbn
 go_wp2_with fail
 refine hK.out _ _ ?hS3 (fun hHeld => ?re3)
 case hS3 => exact ⟨(RBox.box hA.out).c0, (RBox.box hA.out).c1, (RBox.box hA.out).c2, (RBox.box hA.out).c3, (RBox.box hB.out).c0, (RBox.box hB.out).c1, (RBox.box hB.out).c2, (RBox.box hB.out).c3⟩
 clear hK K
 try simp only [Act.put, sA, sB, sC]
 refine wpAnyH_ready (fuel := 2) (rs := [3]) (by kernel_rfl) (by simp) ?_
 refine AllReadyH.cons (by rw [List.getElem?_toArray]; rfl) (fun K hK => ?_) AllReadyH.nil
 go_simp
 refine (tB.out _).mono ?_
 rintro ee wr3 ⟨rfl, hbn⟩
 replace hA := hid (hA.out.below hbn)
 replace hB := hid (hB.out.below hbn)
 replace hQ := hid (hQ.out.below hbn)
 replace hR := hid (hR.out.below hbn)
 replace hbel := hid (hbel.out.trans (hbn.mono hbel.out.size))
 clear hbn
 go_wp2_with fail
 refine hK.out _ _ ?hS4 (fun hHeld => ?re4)
 case hS4 => exact ⟨(RBox.box hA.out).c0, (RBox.box hA.out).c1, (RBox.box hA.out).c2, (RBox.box hA.out).c3, (RBox.box hB.out).c0, (RBox.box hB.out).c1, (RBox.box hB.out).c2, (RBox.box hB.out).c3⟩
 clear hK K
 try simp only [Act.put, sA, sB, sC]
 refine wpAnyH_ready (fuel := 1) (rs := [4]) (by kernel_rfl) (by simp) ?_
 refine AllReadyH.cons (by rw [List.getElem?_toArray]; rfl) (fun K hK => ?_) AllReadyH.nil
 obtain ⟨g0, g1, g2, g3⟩ := RBox.box hQ.out
 have fq := RBox.frozen hQ.out
 go_simp
 clear g0 g1 g2 g3 fq
 replace hA := hid (hA.out.st4o (k := w.heap.size + 2) (by first | omega | (have := RBox.lt hA.out; omega)) (x) (y) (z) (u))
 replace hB := hid (hB.out.st4o (k := w.heap.size + 2) (by first | omega | (have := RBox.lt hB.out; omega)) (x) (y) (z) (u))
 replace hR := hid (hR.out.st4o (k := w.heap.size + 2) (by first | omega | (have := RBox.lt hR.out; omega)) (x) (y) (z) (u))
 replace hQ := hid (hQ.out.st4 (x' := x) (y' := y) (z' := z) (u' := u))
 replace hbel := hid (st4_below (w.heap.size + 2) (x) (y) (z) (u) hbel.out (by omega))
 unfold Go.Proofs.Ytkaekiodjjhjkaa.H.st4 at hbel hA hB hQ hR
 generalize ((((wr3.setCell ⟨w.heap.size + 2, 0, none⟩ (.int .i64 (x))).setCell ⟨w.heap.size + 2, 1, none⟩ (.int .i64 (y))).setCell ⟨w.heap.size + 2, 2, none⟩ (.int .i64 (z))).setCell ⟨w.heap.size + 2, 3, none⟩ (.int .i64 (u))) = ws4 at *
 refine hK.out _ _ ?hS5 (fun hHeld => ?re5)
 case hS5 => exact ⟨(RBox.box hA.out).c0, (RBox.box hA.out).c1, (RBox.box hA.out).c2, (RBox.box hA.out).c3, (RBox.box hB.out).c0, (RBox.box hB.out).c1, (RBox.box hB.out).c2, (RBox.box hB.out).c3⟩
 clear hK K
 try simp only [Act.put, sA, sB, sC]
 refine wpAnyH_ready (fuel := 0) (rs := [5]) (by kernel_rfl) (by simp) ?_
 refine AllReadyH.cons (by rw [List.getElem?_toArray]; rfl) (fun K hK => ?_) AllReadyH.nil
 obtain ⟨g0, g1, g2, g3⟩ := RBox.box hR.out
 have fq := RBox.frozen hR.out
 go_simp
 clear g0 g1 g2 g3 fq
 replace hA := hid (hA.out.st4o (k := w.heap.size + 3) (by first | omega | (have := RBox.lt hA.out; omega)) (x') (y') (z') (u'))
 replace hB := hid (hB.out.st4o (k := w.heap.size + 3) (by first | omega | (have := RBox.lt hB.out; omega)) (x') (y') (z') (u'))
 replace hQ := hid (hQ.out.st4o (k := w.heap.size + 3) (by first | omega | (have := RBox.lt hQ.out; omega)) (x') (y') (z') (u'))
 replace hR := hid (hR.out.st4 (x' := x') (y' := y') (z' := z') (u' := u'))
 replace hbel := hid (st4_below (w.heap.size + 3) (x') (y') (z') (u') hbel.out (by omega))
 unfold Go.Proofs.Ytkaekiodjjhjkaa.H.st4 at hbel hA hB hQ hR
 generalize ((((ws4.setCell ⟨w.heap.size + 3, 0, none⟩ (.int .i64 (x'))).setCell ⟨w.heap.size + 3, 1, none⟩ (.int .i64 (y'))).setCell ⟨w.heap.size + 3, 2, none⟩ (.int .i64 (z'))).setCell ⟨w.heap.size + 3, 3, none⟩ (.int .i64 (u'))) = ws5 at *
 refine hK.out _ _ ?hS6 (fun hHeld => ?re6)
 case hS6 => exact ⟨(RBox.box hA.out).c0, (RBox.box hA.out).c1, (RBox.box hA.out).c2, (RBox.box hA.out).c3, (RBox.box hB.out).c0, (RBox.box hB.out).c1, (RBox.box hB.out).c2, (RBox.box hB.out).c3⟩
 clear hK K
 try simp only [Act.put, sA, sB, sC]
 refine wpAnyH_done (by kernel_rfl) ?_ _
 clear hHeld
 generalize ws5 = w1 at *
 have bA1 := hA
 have bB1 := hB
 have bQ1 := hQ
 have bR1 := hR
 have bel1 := hbel
 clear hbel hA hB hQ hR
 clear cA0 cA1 cA2 cA3 cB0 cB1 cB2 cB3
 obtain ⟨p0, p1, p2, p3⟩ := RBox.box bQ1.out
 obtain ⟨q0, q1, q2, q3⟩ := RBox.box bR1.out
 go_wp2_with fail
 refine bodyPost_ret (v := .tuple #[rv x y z u, rv x' y' z' u']) (by simp [results, Try.results60, go_sem, p0, p1, p2, p3, q0, q1, q2, q3]) rfl ⟨rfl, bel1.out⟩
theorem w_notBelow (a b c d e f g h : Int) (x y z u x' y' z' u' : Int) (w : World)  (tA : Hid (∀ w, Calls Try.prog 40 #[rv (max a e) b c d] w fun ee w' => ee = .returned (rv x y z u) ∧ Below w.heap.size w w')) (tB : Hid (∀ w, Calls Try.prog 40 #[rv e (min f b) g h] w fun ee w' => ee = .returned (rv x' y' z' u') ∧ Below w.heap.size w w')) :
 Calls Try.prog 61 #[rv a b c d, rv e f g h] w fun ee w' => ee = .returned (.tuple #[rv x y z u, rv x' y' z' u']) ∧ Below w.heap.size w w' := by
 have bA0 : Hid (RBox ((((w.alloc (cellsR4 (max a e) b c d)).alloc (cellsR4 e (min f b) g h)).alloc (cellsR4 0 0 0 0)).alloc (cellsR4 0 0 0 0)) w.heap.size (max a e) b c d) := fourA w (max a e) b c d e (min f b) g h
 have bB0 : Hid (RBox ((((w.alloc (cellsR4 (max a e) b c d)).alloc (cellsR4 e (min f b) g h)).alloc (cellsR4 0 0 0 0)).alloc (cellsR4 0 0 0 0)) (w.heap.size + 1) e (min f b) g h) := fourB w (max a e) b c d e (min f b) g h
 have bQ0 : Hid (RBox ((((w.alloc (cellsR4 (max a e) b c d)).alloc (cellsR4 e (min f b) g h)).alloc (cellsR4 0 0 0 0)).alloc (cellsR4 0 0 0 0)) (w.heap.size + 2) 0 0 0 0) := fourQ w (max a e) b c d e (min f b) g h
 have bR0 : Hid (RBox ((((w.alloc (cellsR4 (max a e) b c d)).alloc (cellsR4 e (min f b) g h)).alloc (cellsR4 0 0 0 0)).alloc (cellsR4 0 0 0 0)) (w.heap.size + 3) 0 0 0 0) := fourR w (max a e) b c d e (min f b) g h
 have bel0 : Hid (Below w.heap.size w ((((w.alloc (cellsR4 (max a e) b c d)).alloc (cellsR4 e (min f b) g h)).alloc (cellsR4 0 0 0 0)).alloc (cellsR4 0 0 0 0))) := fourW w (max a e) b c d e (min f b) g h
 go_enter Try.func61, Try.ntmps61
 go_wp2_with fail
 generalize (((w.alloc (cellsR4 (max a e) b c d)).alloc (cellsR4 e (min f b) g h)).alloc (cellsR4 0 0 0 0)).alloc (cellsR4 0 0 0 0) = w0 at *
 obtain ⟨cA0, cA1, cA2, cA3⟩ := RBox.box bA0.out
 obtain ⟨cB0, cB1, cB2, cB3⟩ := RBox.box bB0.out
 refine wp_region_held_drew (S := (fun w' => w'.cell? ⟨w.heap.size, 0, none⟩ = some (.int .i64 ((max a e))) ∧ w'.cell? ⟨w.heap.size, 1, none⟩ = some (.int .i64 (b)) ∧ w'.cell? ⟨w.heap.size, 2, none⟩ = some (.int .i64 (c)) ∧ w'.cell? ⟨w.heap.size, 3, none⟩ = some (.int .i64 (d)) ∧ w'.cell? ⟨w.heap.size + 1, 0, none⟩ = some (.int .i64 (e)) ∧ w'.cell? ⟨w.heap.size + 1, 1, none⟩ = some (.int .i64 ((min f b))) ∧ w'.cell? ⟨w.heap.size + 1, 2, none⟩ = some (.int .i64 (g)) ∧ w'.cell? ⟨w.heap.size + 1, 3, none⟩ = some (.int .i64 (h)))) (by kernel_rfl) (by exact ⟨(RBox.box bA0.out).c0, (RBox.box bA0.out).c1, (RBox.box bA0.out).c2, (RBox.box bA0.out).c3, (RBox.box bB0.out).c0, (RBox.box bB0.out).c1, (RBox.box bB0.out).c2, (RBox.box bB0.out).c3⟩) (fun hHeld => ?_)
 have hA := hid (RBox.drew bA0.out)
 have hB := hid (RBox.drew bB0.out)
 have hQ := hid (RBox.drew bQ0.out)
 have hR := hid (RBox.drew bR0.out)
 have hbel := hid (Below.drew bel0.out)
 clear bA0 bB0 bQ0 bR0 bel0
 generalize w0.drew = W1 at *
 refine tkH 0 5 hHeld ?_
 try simp only [Act.put, sA, sB, sC]
 refine tkH 2 4 hHeld ?_
 try simp only [Act.put, sA, sB, sC]
 refine wpAnyH_ready (fuel := 3) (rs := [1]) (by kernel_rfl) (by simp) ?_
 refine AllReadyH.cons (by rw [List.getElem?_toArray]; rfl) (fun K hK => ?_) AllReadyH.nil
 go_simp
 refine (tA.out _).mono ?_
 rintro ee wr1 ⟨rfl, hbn⟩
 replace hA := hid (hA.out.below hbn)
 replace hB := hid (hB.out.below hbn)
 replace hQ := hid (hQ.out.below hbn)
 replace hR := hid (hR.out.below hbn)
 replace hbel := hid (hbel.out.trans (hbn.mono hbel.out.size))
 clear hbn
 go_wp2_with fail
 refine hK.out _ _ ?hS9 (fun hHeld => ?re9)
 case hS9 => exact ⟨(RBox.box hA.out).c0, (RBox.box hA.out).c1, (RBox.box hA.out).c2, (RBox.box hA.out).c3, (RBox.box hB.out).c0, (RBox.box hB.out).c1, (RBox.box hB.out).c2, (RBox.box hB.out).c3⟩
 clear hK K
 try simp only [Act.put, sA, sB, sC]
 refine wpAnyH_ready (fuel := 2) (rs := [3]) (by kernel_rfl) (by simp) ?_
 refine AllReadyH.cons (by rw [List.getElem?_toArray]; rfl) (fun K hK => ?_) AllReadyH.nil
 go_simp
 refine (tB.out _).mono ?_
 rintro ee wr3 ⟨rfl, hbn⟩
 replace hA := hid (hA.out.below hbn)
 replace hB := hid (hB.out.below hbn)
 replace hQ := hid (hQ.out.below hbn)
 replace hR := hid (hR.out.below hbn)
 replace hbel := hid (hbel.out.trans (hbn.mono hbel.out.size))
 clear hbn
 go_wp2_with fail
 refine hK.out _ _ ?hS10 (fun hHeld => ?re10)
 case hS10 => exact ⟨(RBox.box hA.out).c0, (RBox.box hA.out).c1, (RBox.box hA.out).c2, (RBox.box hA.out).c3, (RBox.box hB.out).c0, (RBox.box hB.out).c1, (RBox.box hB.out).c2, (RBox.box hB.out).c3⟩
 clear hK K
 try simp only [Act.put, sA, sB, sC]
 refine wpAnyH_ready (fuel := 1) (rs := [4]) (by kernel_rfl) (by simp) ?_
 refine AllReadyH.cons (by rw [List.getElem?_toArray]; rfl) (fun K hK => ?_) AllReadyH.nil
 obtain ⟨g0, g1, g2, g3⟩ := RBox.box hQ.out
 have fq := RBox.frozen hQ.out
 go_simp
 clear g0 g1 g2 g3 fq
 replace hA := hid (hA.out.st4o (k := w.heap.size + 2) (by first | omega | (have := RBox.lt hA.out; omega)) (x) (y) (z) (u))
 replace hB := hid (hB.out.st4o (k := w.heap.size + 2) (by first | omega | (have := RBox.lt hB.out; omega)) (x) (y) (z) (u))
 replace hR := hid (hR.out.st4o (k := w.heap.size + 2) (by first | omega | (have := RBox.lt hR.out; omega)) (x) (y) (z) (u))
 replace hQ := hid (hQ.out.st4 (x' := x) (y' := y) (z' := z) (u' := u))
 replace hbel := hid (st4_below (w.heap.size + 2) (x) (y) (z) (u) hbel.out (by omega))
 unfold Go.Proofs.Ytkaekiodjjhjkaa.H.st4 at hbel hA hB hQ hR
 generalize ((((wr3.setCell ⟨w.heap.size + 2, 0, none⟩ (.int .i64 (x))).setCell ⟨w.heap.size + 2, 1, none⟩ (.int .i64 (y))).setCell ⟨w.heap.size + 2, 2, none⟩ (.int .i64 (z))).setCell ⟨w.heap.size + 2, 3, none⟩ (.int .i64 (u))) = ws4 at *
 refine hK.out _ _ ?hS11 (fun hHeld => ?re11)
 case hS11 => exact ⟨(RBox.box hA.out).c0, (RBox.box hA.out).c1, (RBox.box hA.out).c2, (RBox.box hA.out).c3, (RBox.box hB.out).c0, (RBox.box hB.out).c1, (RBox.box hB.out).c2, (RBox.box hB.out).c3⟩
 clear hK K
 try simp only [Act.put, sA, sB, sC]
 refine wpAnyH_ready (fuel := 0) (rs := [5]) (by kernel_rfl) (by simp) ?_
 refine AllReadyH.cons (by rw [List.getElem?_toArray]; rfl) (fun K hK => ?_) AllReadyH.nil
 obtain ⟨g0, g1, g2, g3⟩ := RBox.box hR.out
 have fq := RBox.frozen hR.out
 go_simp
 clear g0 g1 g2 g3 fq
 replace hA := hid (hA.out.st4o (k := w.heap.size + 3) (by first | omega | (have := RBox.lt hA.out; omega)) (x') (y') (z') (u'))
 replace hB := hid (hB.out.st4o (k := w.heap.size + 3) (by first | omega | (have := RBox.lt hB.out; omega)) (x') (y') (z') (u'))
 replace hQ := hid (hQ.out.st4o (k := w.heap.size + 3) (by first | omega | (have := RBox.lt hQ.out; omega)) (x') (y') (z') (u'))
 replace hR := hid (hR.out.st4 (x' := x') (y' := y') (z' := z') (u' := u'))
 replace hbel := hid (st4_below (w.heap.size + 3) (x') (y') (z') (u') hbel.out (by omega))
 unfold Go.Proofs.Ytkaekiodjjhjkaa.H.st4 at hbel hA hB hQ hR
 generalize ((((ws4.setCell ⟨w.heap.size + 3, 0, none⟩ (.int .i64 (x'))).setCell ⟨w.heap.size + 3, 1, none⟩ (.int .i64 (y'))).setCell ⟨w.heap.size + 3, 2, none⟩ (.int .i64 (z'))).setCell ⟨w.heap.size + 3, 3, none⟩ (.int .i64 (u'))) = ws5 at *
 refine hK.out _ _ ?hS12 (fun hHeld => ?re12)
 case hS12 => exact ⟨(RBox.box hA.out).c0, (RBox.box hA.out).c1, (RBox.box hA.out).c2, (RBox.box hA.out).c3, (RBox.box hB.out).c0, (RBox.box hB.out).c1, (RBox.box hB.out).c2, (RBox.box hB.out).c3⟩
 clear hK K
 try simp only [Act.put, sA, sB, sC]
 refine wpAnyH_done (by kernel_rfl) ?_ _
 clear hHeld
 generalize ws5 = w1 at *
 have bA1 := hA
 have bB1 := hB
 have bQ1 := hQ
 have bR1 := hR
 have bel1 := hbel
 clear hbel hA hB hQ hR
 clear cA0 cA1 cA2 cA3 cB0 cB1 cB2 cB3
 obtain ⟨p0, p1, p2, p3⟩ := RBox.box bQ1.out
 obtain ⟨q0, q1, q2, q3⟩ := RBox.box bR1.out
 go_wp2_with fail
 refine bodyPost_ret (v := .tuple #[rv x y z u, rv x' y' z' u']) (by simp [results, Try.results61, go_sem, p0, p1, p2, p3, q0, q1, q2, q3]) rfl ⟨rfl, bel1.out⟩
end Go.Proofs.Ytkaekiodjjhjkaa.H
namespace Go.Proofs.Ytkaekiodjjhjkaa.H
open Go.RowKit
theorem w_without_un (a b c d e f g h : Int) (w : World) (hk : (e == f) = false) :
 Calls Try.prog 63 #[rv a b c d, rv e f g h] w fun ee w' => ee = .returned (rv a b c d) ∧ Below w.heap.size w w' := by
 have bA0 := hid (twoA w a b c d e f g h)
 have bB0 := hid (twoB w a b c d e f g h)
 have bQ0 := hid (twoQ w a b c d e f g h)
 have bel0 := hid (twoW w a b c d e f g h)
 go_enter Try.func63, Try.ntmps63
 go_wp2_with fail
 refine (c_isKnown _ _ _ _ _).mono ?_
 rintro ee w1 ⟨rfl, hb1⟩
 have bA1 := hid (bA0.out.below hb1)
 have bB1 := hid (bB0.out.below hb1)
 have bQ1 := hid (bQ0.out.below hb1)
 have bel1 := hid (bel0.out.trans (hb1.mono bel0.out.size))
 clear hb1 bA0 bB0 bQ0 bel0
 rw [hk]
 obtain ⟨cA0, cA1, cA2, cA3⟩ := RBox.box bA1.out
 obtain ⟨g0, g1, g2, g3⟩ := RBox.box bQ1.out
 have fq := RBox.frozen bQ1.out
 have P5 := hid (RBox.box (bQ1.out.st4 (x' := a) (y' := b) (z' := c) (u' := d)))
 have B5 := hid (st4_below (w.heap.size + 2) a b c d bel1.out (by omega))
 go_wp2_with fail
 obtain ⟨p0, p1, p2, p3⟩ := P5.out
 unfold st4 at p0 p1 p2 p3
 refine bodyPost_ret (v := rv a b c d) (by simp [results, Try.results63, go_sem, p0, p1, p2, p3]) rfl ⟨rfl, B5.out⟩
theorem w_without_1 (a b c d e f g h : Int) (x y z u : Int) (w : World) (a0 : 0 ≤ a) (a1 : a ≤ 4294967295) (b0 : 0 ≤ b) (b1 : b ≤ 4294967295) (hk : (e == f) = true) (h1 : (a == e) = true) (h2 : (b == e) = true) (tA : Hid (∀ w, Calls Try.prog 40 #[rv (a + 1) (b - 1) c d] w fun ee w' => ee = .returned (rv x y z u) ∧ Below w.heap.size w w')) :
 Calls Try.prog 63 #[rv a b c d, rv e f g h] w fun ee w' => ee = .returned (rv x y z u) ∧ Below w.heap.size w w' := by
 have bA0 := hid (twoA w a b c d e f g h)
 have bB0 := hid (twoB w a b c d e f g h)
 have bQ0 := hid (twoQ w a b c d e f g h)
 have bel0 := hid (twoW w a b c d e f g h)
 go_enter Try.func63, Try.ntmps63
 go_wp2_with fail
 refine (c_isKnown _ _ _ _ _).mono ?_
 rintro ee w1 ⟨rfl, hb1⟩
 have bA1 := hid (bA0.out.below hb1)
 have bB1 := hid (bB0.out.below hb1)
 have bQ1 := hid (bQ0.out.below hb1)
 have bel1 := hid (bel0.out.trans (hb1.mono bel0.out.size))
 clear hb1 bA0 bB0 bQ0 bel0
 rw [hk]
 obtain ⟨cA0, cA1, cA2, cA3⟩ := RBox.box bA1.out
 obtain ⟨cB0, cB1, cB2, cB3⟩ := RBox.box bB1.out
 have frA := RBox.frozen bA1.out
 go_wp2_with fail
 have bA2 := hid (bA1.out.set0 (a + 1))
 have bB2 := hid (bB1.out.other ⟨w.heap.size, 0, none⟩ (.int .i64 (a + 1)) (by show w.heap.size + 1 ≠ w.heap.size; omega))
 have bQ2 := hid (bQ1.out.other ⟨w.heap.size, 0, none⟩ (.int .i64 (a + 1)) (by show w.heap.size + 2 ≠ w.heap.size; omega))
 have bel2 := hid (bel1.out.setCell (p := ⟨w.heap.size, 0, none⟩) (by show w.heap.size ≤ w.heap.size; omega) (.int .i64 (a + 1)))
 clear bA1 bB1 bQ1 bel1
 generalize w1.setCell ⟨w.heap.size, 0, none⟩ (.int .i64 (a + 1)) = w2 at *
 have bA3 := hid (bA2.out.set1 (b - 1))
 have bB3 := hid (bB2.out.other ⟨w.heap.size, 1, none⟩ (.int .i64 (b - 1)) (by show w.heap.size + 1 ≠ w.heap.size; omega))
 have bQ3 := hid (bQ2.out.other ⟨w.heap.size, 1, none⟩ (.int .i64 (b - 1)) (by show w.heap.size + 2 ≠ w.heap.size; omega))
 have bel3 := hid (bel2.out.setCell (p := ⟨w.heap.size, 1, none⟩) (by show w.heap.size ≤ w.heap.size; omega) (.int .i64 (b - 1)))
 clear bA2 bB2 bQ2 bel2
 generalize w2.setCell ⟨w.heap.size, 1, none⟩ (.int .i64 (b - 1)) = w3 at *
 clear cA0 cA1 cA2 cA3 cB0 cB1 cB2 cB3
 clear frA
 refine (tA.out _).mono ?_
 rintro ee w4 ⟨rfl, hb4⟩
 have bA4 := hid (bA3.out.below hb4)
 have bB4 := hid (bB3.out.below hb4)
 have bQ4 := hid (bQ3.out.below hb4)
 have bel4 := hid (bel3.out.trans (hb4.mono bel3.out.size))
 clear hb4 bA3 bB3 bQ3 bel3
 obtain ⟨g0, g1, g2, g3⟩ := RBox.box bQ4.out
 have fq := RBox.frozen bQ4.out
 have P5 := hid (RBox.box (bQ4.out.st4 (x' := x) (y' := y) (z' := z) (u' := u)))
 have B5 := hid (st4_below (w.heap.size + 2) (x) (y) (z) (u) bel4.out (by omega))
 go_wp2_with fail
 obtain ⟨p0, p1, p2, p3⟩ := P5.out
 unfold st4 at p0 p1 p2 p3
 refine bodyPost_ret (v := rv (x) (y) (z) (u)) (by simp [results, Try.results63, go_sem, p0, p1, p2, p3]) rfl ⟨rfl, B5.out⟩
theorem w_without_2 (a b c d e f g h : Int) (x y z u : Int) (w : World) (a0 : 0 ≤ a) (a1 : a ≤ 4294967295) (b0 : 0 ≤ b) (b1 : b ≤ 4294967295) (hk : (e == f) = true) (h1 : (a == e) = true) (h2 : (b == e) = false) (tA : Hid (∀ w, Calls Try.prog 40 #[rv (a + 1) b c d] w fun ee w' => ee = .returned (rv x y z u) ∧ Below w.heap.size w w')) :
 Calls Try.prog 63 #[rv a b c d, rv e f g h] w fun ee w' => ee = .returned (rv x y z u) ∧ Below w.heap.size w w' := by
 have bA0 := hid (twoA w a b c d e f g h)
 have bB0 := hid (twoB w a b c d e f g h)
 have bQ0 := hid (twoQ w a b c d e f g h)
 have bel0 := hid (twoW w a b c d e f g h)
 go_enter Try.func63, Try.ntmps63
 go_wp2_with fail
 refine (c_isKnown _ _ _ _ _).mono ?_
 rintro ee w1 ⟨rfl, hb1⟩
 have bA1 := hid (bA0.out.below hb1)
 have bB1 := hid (bB0.out.below hb1)
 have bQ1 := hid (bQ0.out.below hb1)
 have bel1 := hid (bel0.out.trans (hb1.mono bel0.out.size))
 clear hb1 bA0 bB0 bQ0 bel0
 rw [hk]
 obtain ⟨cA0, cA1, cA2, cA3⟩ := RBox.box bA1.out
 obtain ⟨cB0, cB1, cB2, cB3⟩ := RBox.box bB1.out
 have frA := RBox.frozen bA1.out
 go_wp2_with fail
 have bA2 := hid (bA1.out.set0 (a + 1))
 have bB2 := hid (bB1.out.other ⟨w.heap.size, 0, none⟩ (.int .i64 (a + 1)) (by show w.heap.size + 1 ≠ w.heap.size; omega))
 have bQ2 := hid (bQ1.out.other ⟨w.heap.size, 0, none⟩ (.int .i64 (a + 1)) (by show w.heap.size + 2 ≠ w.heap.size; omega))
 have bel2 := hid (bel1.out.setCell (p := ⟨w.heap.size, 0, none⟩) (by show w.heap.size ≤ w.heap.size; omega) (.int .i64 (a + 1)))
 clear bA1 bB1 bQ1 bel1
 generalize w1.setCell ⟨w.heap.size, 0, none⟩ (.int .i64 (a + 1)) = w2 at *
 clear cA0 cA1 cA2 cA3 cB0 cB1 cB2 cB3
 clear frA
 refine (tA.out _).mono ?_
 rintro ee w3 ⟨rfl, hb3⟩
 have bA3 := hid (bA2.out.below hb3)
 have bB3 := hid (bB2.out.below hb3)
 have bQ3 := hid (bQ2.out.below hb3)
 have bel3 := hid (bel2.out.trans (hb3.mono bel2.out.size))
 clear hb3 bA2 bB2 bQ2 bel2
 obtain ⟨g0, g1, g2, g3⟩ := RBox.box bQ3.out
 have fq := RBox.frozen bQ3.out
 have P5 := hid (RBox.box (bQ3.out.st4 (x' := x) (y' := y) (z' := z) (u' := u)))
 have B5 := hid (st4_below (w.heap.size + 2) (x) (y) (z) (u) bel3.out (by omega))
 go_wp2_with fail
 obtain ⟨p0, p1, p2, p3⟩ := P5.out
 unfold st4 at p0 p1 p2 p3
 refine bodyPost_ret (v := rv (x) (y) (z) (u)) (by simp [results, Try.results63, go_sem, p0, p1, p2, p3]) rfl ⟨rfl, B5.out⟩
theorem w_without_3 (a b c d e f g h : Int) (x y z u : Int) (w : World) (a0 : 0 ≤ a) (a1 : a ≤ 4294967295) (b0 : 0 ≤ b) (b1 : b ≤ 4294967295) (hk : (e == f) = true) (h1 : (a == e) = false) (h2 : (b == e) = true) (tA : Hid (∀ w, Calls Try.prog 40 #[rv a (b - 1) c d] w fun ee w' => ee = .returned (rv x y z u) ∧ Below w.heap.size w w')) :
 Calls Try.prog 63 #[rv a b c d, rv e f g h] w fun ee w' => ee = .returned (rv x y z u) ∧ Below w.heap.size w w' := by
 have bA0 := hid (twoA w a b c d e f g h)
 have bB0 := hid (twoB w a b c d e f g h)
 have bQ0 := hid (twoQ w a b c d e f g h)
 have bel0 := hid (twoW w a b c d e f g h)
 go_enter Try.func63, Try.ntmps63
 go_wp2_with fail
 refine (c_isKnown _ _ _ _ _).mono ?_
 rintro ee w1 ⟨rfl, hb1⟩
 have bA1 := hid (bA0.out.below hb1)
 have bB1 := hid (bB0.out.below hb1)
 have bQ1 := hid (bQ0.out.below hb1)
 have bel1 := hid (bel0.out.trans (hb1.mono bel0.out.size))
 clear hb1 bA0 bB0 bQ0 bel0
 rw [hk]
 obtain ⟨cA0, cA1, cA2, cA3⟩ := RBox.box bA1.out
 obtain ⟨cB0, cB1, cB2, cB3⟩ := RBox.box bB1.out
 have frA := RBox.frozen bA1.out
 go_wp2_with fail
 have bA2 := hid (bA1.out.set1 (b - 1))
 have bB2 := hid (bB1.out.other ⟨w.heap.size, 1, none⟩ (.int .i64 (b - 1)) (by show w.heap.size + 1 ≠ w.heap.size; omega))
 have bQ2 := hid (bQ1.out.other ⟨w.heap.size, 1, none⟩ (.int .i64 (b - 1)) (by show w.heap.size + 2 ≠ w.heap.size; omega))
 have bel2 := hid (bel1.out.setCell (p := ⟨w.heap.size, 1, none⟩) (by show w.heap.size ≤ w.heap.size; omega) (.int .i64 (b - 1)))
 clear bA1 bB1 bQ1 bel1
 generalize w1.setCell ⟨w.heap.size, 1, none⟩ (.int .i64 (b - 1)) = w2 at *
 clear cA0 cA1 cA2 cA3 cB0 cB1 cB2 cB3
 clear frA
 refine (tA.out _).mono ?_
 rintro ee w3 ⟨rfl, hb3⟩
 have bA3 := hid (bA2.out.below hb3)
 have bB3 := hid (bB2.out.below hb3)
 have bQ3 := hid (bQ2.out.below hb3)
 have bel3 := hid (bel2.out.trans (hb3.mono bel2.out.size))
 clear hb3 bA2 bB2 bQ2 bel2
 obtain ⟨g0, g1, g2, g3⟩ := RBox.box bQ3.out
 have fq := RBox.frozen bQ3.out
 have P5 := hid (RBox.box (bQ3.out.st4 (x' := x) (y' := y) (z' := z) (u' := u)))
 have B5 := hid (st4_below (w.heap.size + 2) (x) (y) (z) (u) bel3.out (by omega))
 go_wp2_with fail
 obtain ⟨p0, p1, p2, p3⟩ := P5.out
 unfold st4 at p0 p1 p2 p3
 refine bodyPost_ret (v := rv (x) (y) (z) (u)) (by simp [results, Try.results63, go_sem, p0, p1, p2, p3]) rfl ⟨rfl, B5.out⟩
theorem w_without_4 (a b c d e f g h : Int) (x y z u : Int) (w : World) (a0 : 0 ≤ a) (a1 : a ≤ 4294967295) (b0 : 0 ≤ b) (b1 : b ≤ 4294967295) (hk : (e == f) = true) (h1 : (a == e) = false) (h2 : (b == e) = false) (tA : Hid (∀ w, Calls Try.prog 40 #[rv a b c d] w fun ee w' => ee = .returned (rv x y z u) ∧ Below w.heap.size w w')) :
 Calls Try.prog 63 #[rv a b c d, rv e f g h] w fun ee w' => ee = .returned (rv x y z u) ∧ Below w.heap.size w w' := by
 have bA0 := hid (twoA w a b c d e f g h)
 have bB0 := hid (twoB w a b c d e f g h)
 have bQ0 := hid (twoQ w a b c d e f g h)
 have bel0 := hid (twoW w a b c d e f g h)
 go_enter Try.func63, Try.ntmps63
 go_wp2_with fail
 refine (c_isKnown _ _ _ _ _).mono ?_
 rintro ee w1 ⟨rfl, hb1⟩
 have bA1 := hid (bA0.out.below hb1)
 have bB1 := hid (bB0.out.below hb1)
 have bQ1 := hid (bQ0.out.below hb1)
 have bel1 := hid (bel0.out.trans (hb1.mono bel0.out.size))
 clear hb1 bA0 bB0 bQ0 bel0
 rw [hk]
 obtain ⟨cA0, cA1, cA2, cA3⟩ := RBox.box bA1.out
 obtain ⟨cB0, cB1, cB2, cB3⟩ := RBox.box bB1.out
 have frA := RBox.frozen bA1.out
 go_wp2_with fail
 clear cA0 cA1 cA2 cA3 cB0 cB1 cB2 cB3
 clear frA
 refine (tA.out _).mono ?_
 rintro ee w2 ⟨rfl, hb2⟩
 have bA2 := hid (bA1.out.below hb2)
 have bB2 := hid (bB1.out.below hb2)
 have bQ2 := hid (bQ1.out.below hb2)
 have bel2 := hid (bel1.out.trans (hb2.mono bel1.out.size))
 clear hb2 bA1 bB1 bQ1 bel1
 obtain ⟨g0, g1, g2, g3⟩ := RBox.box bQ2.out
 have fq := RBox.frozen bQ2.out
 have P5 := hid (RBox.box (bQ2.out.st4 (x' := x) (y' := y) (z' := z) (u' := u)))
 have B5 := hid (st4_below (w.heap.size + 2) (x) (y) (z) (u) bel2.out (by omega))
 go_wp2_with fail
 obtain ⟨p0, p1, p2, p3⟩ := P5.out
 unfold st4 at p0 p1 p2 p3
 refine bodyPost_ret (v := rv (x) (y) (z) (u)) (by simp [results, Try.results63, go_sem, p0, p1, p2, p3]) rfl ⟨rfl, B5.out⟩
end Go.Proofs.Ytkaekiodjjhjkaa.H
namespace Go.Proofs.Ytkaekiodjjhjkaa.H
open Go.RowKit
theorem w_part_less (a b c d e f g h : Int) (x y z u x' y' z' u' : Int) (w : World) (tP : Hid (∀ w, Calls Try.prog 60 #[rv a b c d, rv e f g h] w fun ee w' => ee = .returned (.tuple #[rv x y z u, rv x' y' z' u']) ∧ Below w.heap.size w w')) :
 Calls Try.prog 44 #[.int .i64 14, rv a b c d, rv e f g h, .bool true] w fun ee w' => ee = .returned (.tuple #[rv x y z u, rv x' y' z' u']) ∧ Below w.heap.size w w' := by
 refine calls_begin Try.func44 rfl 62 rfl (Nat.le_of_ble_eq_true rfl) [(0, .int .i64 (14)), (1, .agg (#[zI a, zI b, zI c, zI d])), (2, .agg (#[zI e, zI f, zI g, zI h])), (3, .bool true)] ⟨rfl, rfl, rfl, rfl, trivial⟩ (fun a0 he0 m0 => ?_)
 refine wp_seqR ?_
 refine kx he0 m0 1 (.agg (#[zI a, zI b, zI c, zI d])) (#[zI a, zI b, zI c, zI d]) 56 fun a1 w1 b1 he1 m1 => ?_
 refine kx he1 m1 2 (.agg (#[zI e, zI f, zI g, zI h])) (#[zI e, zI f, zI g, zI h]) 56 fun a2 w2 b2 he2 m2 => ?_
 refine ka he2 m2 3 56 (.agg #[.int .i64 0, .int .i64 0, .int .i64 0, .int .i64 0]) (#[zI 0, zI 0, zI 0, zI 0]) fun a3 w3 b3 he3 m3 => ?_
 refine ka he3 m3 4 56 (.agg #[.int .i64 0, .int .i64 0, .int .i64 0, .int .i64 0]) (#[zI 0, zI 0, zI 0, zI 0]) fun a4 w4 b4 he4 m4 => ?_
 refine wl_end (wp_seq (wp_block (wp_seqR ?_)))
 refine wr [0, 1, 0] he4 m4 [(12, zF), (14, zF), (13, zI 14)] [] (vlc (u := .bool ((14 == 15))) (v := .bool false) rfl vl0) fun a5 w5 he5 m5 => ?_
 refine wl_end (wp_condF (he := he5) rfl (wp_seqR ?_))
 refine wr [0, 1, 0, 0, 0, 0] he5 m5 [(24, zT), (29, zT), (28, zT), (27, zT), (26, zT), (25, zI 14)] [] (vlc (u := .bool ((14 == 14))) (v := .bool true) rfl vl0) fun a6 w6 he6 m6 => ?_
 refine wl_end (wp_condT (he := he6) rfl (wp_seqR ?_))
 refine wr [3, 4] he6 m6 [(31, .agg (#[zI e, zI f, zI g, zI h])), (30, .agg (#[zI a, zI b, zI c, zI d]))] [b2, b1] vl0 fun a7 w7 he7 m7 => ?_
 refine kc he7 m7 (v := .tuple #[.agg (#[zI x, zI y, zI z, zI u]), .agg (#[zI x', zI y', zI z', zI u'])]) (tP.out _) fun a8 w8 he8 m8 => ?_
 refine wm [0, 0, 5, 6] he8 m8 [(34, .agg (#[zI x', zI y', zI z', zI u'])), (33, .agg (#[zI x, zI y, zI z, zI u]))] [(4, zE b4 56 (#[zI x', zI y', zI z', zI u'])), (3, zE b3 56 (#[zI x, zI y, zI z, zI u]))] [b4, b3] vl0 fun a9 w9 he9 m9 => ?_
 refine wl_end (wp_ret (ret_in (ret_then ?_)))
 exact bodyPost_ret (results_cell_c he9 m9 _ _ _ _ Try.results44 _ rfl 3 rfl 4 agg56 rfl _ rfl 4 rfl 4 agg56 rfl) he9.defers ⟨rfl, m9.below⟩
theorem w_part_notless (a b c d e f g h : Int) (x y z u x' y' z' u' : Int) (w : World) (tP : Hid (∀ w, Calls Try.prog 61 #[rv a b c d, rv e f g h] w fun ee w' => ee = .returned (.tuple #[rv x y z u, rv x' y' z' u']) ∧ Below w.heap.size w w')) :
 Calls Try.prog 44 #[.int .i64 14, rv a b c d, rv e f g h, .bool false] w fun ee w' => ee = .returned (.tuple #[rv x y z u, rv x' y' z' u']) ∧ Below w.heap.size w w' := by
 refine calls_begin Try.func44 rfl 62 rfl (Nat.le_of_ble_eq_true rfl) [(0, .int .i64 (14)), (1, .agg (#[zI a, zI b, zI c, zI d])), (2, .agg (#[zI e, zI f, zI g, zI h])), (3, .bool false)] ⟨rfl, rfl, rfl, rfl, trivial⟩ (fun a0 he0 m0 => ?_)
 refine wp_seqR ?_
 refine kx he0 m0 1 (.agg (#[zI a, zI b, zI c, zI d])) (#[zI a, zI b, zI c, zI d]) 56 fun a1 w1 b1 he1 m1 => ?_
 refine kx he1 m1 2 (.agg (#[zI e, zI f, zI g, zI h])) (#[zI e, zI f, zI g, zI h]) 56 fun a2 w2 b2 he2 m2 => ?_
 refine ka he2 m2 3 56 (.agg #[.int .i64 0, .int .i64 0, .int .i64 0, .int .i64 0]) (#[zI 0, zI 0, zI 0, zI 0]) fun a3 w3 b3 he3 m3 => ?_
 refine ka he3 m3 4 56 (.agg #[.int .i64 0, .int .i64 0, .int .i64 0, .int .i64 0]) (#[zI 0, zI 0, zI 0, zI 0]) fun a4 w4 b4 he4 m4 => ?_
 refine wl_end (wp_seq (wp_block (wp_seqR ?_)))
 refine wr [0, 1, 0] he4 m4 [(12, zF), (14, zF), (13, zI 14)] [] (vlc (u := .bool ((14 == 15))) (v := .bool false) rfl vl0) fun a5 w5 he5 m5 => ?_
 refine wl_end (wp_condF (he := he5) rfl (wp_seqR ?_))
 refine wr [0, 1, 0, 0, 0, 0] he5 m5 [(24, zF), (29, zF), (28, zF), (27, zT), (26, zT), (25, zI 14)] [] (vlc (u := .bool ((14 == 14))) (v := .bool true) rfl vl0) fun a6 w6 he6 m6 => ?_
 refine wl_end (wp_condF (he := he6) rfl (wp_seqR ?_))
 refine wr [0, 1, 0] he6 m6 [(35, zT), (37, zT), (36, zI 14)] [] (vlc (u := .bool ((14 == 14))) (v := .bool true) rfl vl0) fun a7 w7 he7 m7 => ?_
 refine wl_end (wp_condT (he := he7) rfl (wp_seqR ?_))
 refine wr [3, 4] he7 m7 [(39, .agg (#[zI e, zI f, zI g, zI h])), (38, .agg (#[zI a, zI b, zI c, zI d]))] [b2, b1] vl0 fun a8 w8 he8 m8 => ?_
 refine kc he8 m8 (v := .tuple #[.agg (#[zI x, zI y, zI z, zI u]), .agg (#[zI x', zI y', zI z', zI u'])]) (tP.out _) fun a9 w9 he9 m9 => ?_
 refine wm [0, 0, 5, 6] he9 m9 [(42, .agg (#[zI x', zI y', zI z', zI u'])), (41, .agg (#[zI x, zI y, zI z, zI u]))] [(4, zE b4 56 (#[zI x', zI y', zI z', zI u'])), (3, zE b3 56 (#[zI x, zI y, zI z, zI u]))] [b4, b3] vl0 fun a10 w10 he10 m10 => ?_
 refine wl_end (wp_ret (ret_in (ret_then ?_)))
 exact bodyPost_ret (results_cell_c he10 m10 _ _ _ _ Try.results44 _ rfl 3 rfl 4 agg56 rfl _ rfl 4 rfl 4 agg56 rfl) he10.defers ⟨rfl, m10.below⟩
theorem w_part_more (a b c d e f g h : Int) (hl : Bool) (x y z u x' y' z' u' : Int) (w : World) (tP : Hid (∀ w, Calls Try.prog 44 #[.int .i64 14, rv e f g h, rv a b c d, .bool hl] w fun ee w' => ee = .returned (.tuple #[rv x y z u, rv x' y' z' u']) ∧ Below w.heap.size w w')) :
 Calls Try.prog 44 #[.int .i64 15, rv a b c d, rv e f g h, .bool hl] w fun ee w' => ee = .returned (.tuple #[rv x' y' z' u', rv x y z u]) ∧ Below w.heap.size w w' := by
 refine calls_begin Try.func44 rfl 62 rfl (Nat.le_of_ble_eq_true rfl) [(0, .int .i64 (15)), (1, .agg (#[zI a, zI b, zI c, zI d])), (2, .agg (#[zI e, zI f, zI g, zI h])), (3, .bool (hl))] ⟨rfl, rfl, rfl, rfl, trivial⟩ (fun a0 he0 m0 => ?_)
 refine wp_seqR ?_
 refine kx he0 m0 1 (.agg (#[zI a, zI b, zI c, zI d])) (#[zI a, zI b, zI c, zI d]) 56 fun a1 w1 b1 he1 m1 => ?_
 refine kx he1 m1 2 (.agg (#[zI e, zI f, zI g, zI h])) (#[zI e, zI f, zI g, zI h]) 56 fun a2 w2 b2 he2 m2 => ?_
 refine ka he2 m2 3 56 (.agg #[.int .i64 0, .int .i64 0, .int .i64 0, .int .i64 0]) (#[zI 0, zI 0, zI 0, zI 0]) fun a3 w3 b3 he3 m3 => ?_
 refine ka he3 m3 4 56 (.agg #[.int .i64 0, .int .i64 0, .int .i64 0, .int .i64 0]) (#[zI 0, zI 0, zI 0, zI 0]) fun a4 w4 b4 he4 m4 => ?_
 refine wl_end (wp_seq (wp_block (wp_seqR ?_)))
 refine wr [0, 1, 0] he4 m4 [(12, zT), (14, zT), (13, zI 15)] [] (vlc (u := .bool ((15 == 15))) (v := .bool true) rfl vl0) fun a5 w5 he5 m5 => ?_
 refine wl_end (wp_condT (he := he5) rfl (wp_seqR ?_))
 refine wr [4, 3, 0] he5 m5 [(18, .bool (hl)), (17, .agg (#[zI a, zI b, zI c, zI d])), (16, .agg (#[zI e, zI f, zI g, zI h]))] [b1, b2] vl0 fun a6 w6 he6 m6 => ?_
 refine kc he6 m6 (v := .tuple #[.agg (#[zI x, zI y, zI z, zI u]), .agg (#[zI x', zI y', zI z', zI u'])]) (tP.out _) fun a7 w7 he7 m7 => ?_
 refine wm [0, 0, 0, 4, 3] he7 m7 [(21, .agg (#[zI x', zI y', zI z', zI u'])), (20, .agg (#[zI x, zI y, zI z, zI u])), (15, .tuple #[.agg (#[zI x, zI y, zI z, zI u]), .agg (#[zI x', zI y', zI z', zI u'])])] [(1, zE b1 56 (#[zI x', zI y', zI z', zI u'])), (2, zE b2 56 (#[zI x, zI y, zI z, zI u]))] [b1, b2] vl0 fun a8 w8 he8 m8 => ?_
 refine wl_end (wp_seq ?_)
 refine wh_begin (by kernel_rfl) m8 [(1, ⟨true, b1, 56, #[zI x', zI y', zI z', zI u']⟩), (2, ⟨true, b2, 56, #[zI x, zI y, zI z, zI u]⟩)] ⟨rfl, rfl, trivial⟩ (fun w9 m9 => ?_)
 refine wtd (fuel := 2) [(0, 3), (1, 4)] he8 m9 [(23, .agg (#[zI x, zI y, zI z, zI u])), (22, .agg (#[zI x', zI y', zI z', zI u']))] [b2, b1] vl0 fun a9 he9 => ?_
 refine ts (fuel := 1) 2 rfl he9 m9 3 agg56.sz (0) (.agg (#[zI x', zI y', zI z', zI u'])) (#[zI x', zI y', zI z', zI u']) ⟨rfl, rfl, trivial⟩ (hin := (by simp)) (hA := (by kernel_rfl)) fun w10 m10 => ?_
 refine ts (fuel := 0) 3 rfl he9 m10 4 agg56.sz (0) (.agg (#[zI x, zI y, zI z, zI u])) (#[zI x, zI y, zI z, zI u]) ⟨rfl, rfl, trivial⟩ (hin := (by simp)) (hA := (by kernel_rfl)) fun w11 m11 => ?_
 refine wpAnyH_done (by kernel_rfl) ?_ _
 refine then_normal (wp_ret (ret_in (ret_then ?_)))
 exact bodyPost_ret (results_cell_c he9 m11 _ _ _ _ Try.results44 _ rfl 3 rfl 4 agg56 rfl _ rfl 4 rfl 4 agg56 rfl) he9.defers ⟨rfl, m11.below⟩
theorem w_part_same (a b c d e f g h : Int) (x y z u : Int) (q : Bool) (w : World) (tP : Hid (∀ w, Calls Try.prog 62 #[rv a b c d, rv e f g h] w fun ee w' => ee = .returned (.tuple #[rv x y z u, .bool q]) ∧ Below w.heap.size w w')) :
 Calls Try.prog 44 #[.int .i64 12, rv a b c d, rv e f g h, .bool true] w fun ee w' => ee = .returned (.tuple #[rv x y z u, rv x y z u]) ∧ Below w.heap.size w w' := by
 refine calls_begin Try.func44 rfl 62 rfl (Nat.le_of_ble_eq_true rfl) [(0, .int .i64 (12)), (1, .agg (#[zI a, zI b, zI c, zI d])), (2, .agg (#[zI e, zI f, zI g, zI h])), (3, .bool true)] ⟨rfl, rfl, rfl, rfl, trivial⟩ (fun a0 he0 m0 => ?_)
 refine wp_seqR ?_
 refine kx he0 m0 1 (.agg (#[zI a, zI b, zI c, zI d])) (#[zI a, zI b, zI c, zI d]) 56 fun a1 w1 b1 he1 m1 => ?_
 refine kx he1 m1 2 (.agg (#[zI e, zI f, zI g, zI h])) (#[zI e, zI f, zI g, zI h]) 56 fun a2 w2 b2 he2 m2 => ?_
 refine ka he2 m2 3 56 (.agg #[.int .i64 0, .int .i64 0, .int .i64 0, .int .i64 0]) (#[zI 0, zI 0, zI 0, zI 0]) fun a3 w3 b3 he3 m3 => ?_
 refine ka he3 m3 4 56 (.agg #[.int .i64 0, .int .i64 0, .int .i64 0, .int .i64 0]) (#[zI 0, zI 0, zI 0, zI 0]) fun a4 w4 b4 he4 m4 => ?_
 refine wl_end (wp_seq (wp_block (wp_seqR ?_)))
 refine wr [0, 1, 0] he4 m4 [(12, zF), (14, zF), (13, zI 12)] [] (vlc (u := .bool ((12 == 15))) (v := .bool false) rfl vl0) fun a5 w5 he5 m5 => ?_
 refine wl_end (wp_condF (he := he5) rfl (wp_seqR ?_))
 refine wr [0, 1, 0, 0, 0, 0] he5 m5 [(24, zF), (29, zF), (28, zU), (27, zF), (26, zF), (25, zI 12)] [] (vlc (u := .bool ((12 == 14))) (v := .bool false) rfl vl0) fun a6 w6 he6 m6 => ?_
 refine wl_end (wp_condF (he := he6) rfl (wp_seqR ?_))
 refine wr [0, 1, 0] he6 m6 [(35, zF), (37, zF), (36, zI 12)] [] (vlc (u := .bool ((12 == 14))) (v := .bool false) rfl vl0) fun a7 w7 he7 m7 => ?_
 refine wl_end (wp_condF (he := he7) rfl (wp_seqR ?_))
 refine wr [0, 1, 0] he7 m7 [(46, zT), (45, zT), (44, zI 12)] [] (vlc (u := .bool ((12 == 12))) (v := .bool true) rfl vl0) fun a8 w8 he8 m8 => ?_
 refine kv he8 (zT) (rn_binG _ _ _ _ _ rfl _ _ (he8.tmp 45 _ rfl) (he8.tmp 46 _ rfl) _ rfl (by first | kernel_rfl | (rw [← rfl (a := ())]; kernel_rfl))) fun a9 he9 => ?_
 refine wb 1 he9 [(43, zT)] fun a10 he10 => ?_
 refine wl_end (wp_condT (he := he10) rfl (wp_seqR ?_))
 refine wr [3, 4] he10 m8 [(50, .agg (#[zI e, zI f, zI g, zI h])), (49, .agg (#[zI a, zI b, zI c, zI d]))] [b2, b1] vl0 fun a11 w9 he11 m9 => ?_
 refine kc he11 m9 (v := .tuple #[.agg (#[zI x, zI y, zI z, zI u]), .bool (q)]) (tP.out _) fun a12 w10 he12 m10 => ?_
 refine wb 3 he12 [(53, .bool (q)), (52, .agg (#[zI x, zI y, zI z, zI u])), (48, .tuple #[.agg (#[zI x, zI y, zI z, zI u]), .bool (q)])] fun a13 he13 => ?_
 refine ka he13 m10 5 56 (.agg #[.int .i64 0, .int .i64 0, .int .i64 0, .int .i64 0]) (#[zI 0, zI 0, zI 0, zI 0]) fun a14 w11 b5 he14 m11 => ?_
 refine wm [7, 0] he14 m11 [(11, .bool (q))] [(5, zE b5 56 (#[zI x, zI y, zI z, zI u]))] [b5] vl0 fun a15 w12 he15 m12 => ?_
 refine wl_end (wp_seq ?_)
 refine wh_begin (by kernel_rfl) m12 [(1, ⟨true, b1, 56, #[zI a, zI b, zI c, zI d]⟩), (2, ⟨true, b2, 56, #[zI e, zI f, zI g, zI h]⟩), (5, ⟨true, b5, 56, #[zI x, zI y, zI z, zI u]⟩)] ⟨rfl, rfl, rfl, trivial⟩ (fun w13 m13 => ?_)
 refine wtd (fuel := 2) [(0, 7), (1, 7)] he15 m13 [(55, .agg (#[zI x, zI y, zI z, zI u])), (54, .agg (#[zI x, zI y, zI z, zI u]))] [b5, b5] vl0 fun a16 he16 => ?_
 refine ts (fuel := 1) 2 rfl he16 m13 3 agg56.sz (0) (.agg (#[zI x, zI y, zI z, zI u])) (#[zI x, zI y, zI z, zI u]) ⟨rfl, rfl, rfl, trivial⟩ (hin := (by simp)) (hA := (by kernel_rfl)) fun w14 m14 => ?_
 refine ts (fuel := 0) 3 rfl he16 m14 4 agg56.sz (0) (.agg (#[zI x, zI y, zI z, zI u])) (#[zI x, zI y, zI z, zI u]) ⟨rfl, rfl, rfl, trivial⟩ (hin := (by simp)) (hA := (by kernel_rfl)) fun w15 m15 => ?_
 refine wpAnyH_done (by kernel_rfl) ?_ _
 refine then_normal (wp_ret (ret_in (ret_then ?_)))
 exact bodyPost_ret (results_cell_c he16 m15 _ _ _ _ Try.results44 _ rfl 3 rfl 4 agg56 rfl _ rfl 4 rfl 4 agg56 rfl) he16.defers ⟨rfl, m15.below⟩
theorem w_part_same2 (a b c d e f g h : Int) (x y z u : Int) (q : Bool) (w : World) (tP : Hid (∀ w, Calls Try.prog 62 #[rv a b c d, rv e f g h] w fun ee w' => ee = .returned (.tuple #[rv x y z u, .bool q]) ∧ Below w.heap.size w w')) :
 Calls Try.prog 44 #[.int .i64 13, rv a b c d, rv e f g h, .bool false] w fun ee w' => ee = .returned (.tuple #[rv x y z u, rv x y z u]) ∧ Below w.heap.size w w' := by
 refine calls_begin Try.func44 rfl 62 rfl (Nat.le_of_ble_eq_true rfl) [(0, .int .i64 (13)), (1, .agg (#[zI a, zI b, zI c, zI d])), (2, .agg (#[zI e, zI f, zI g, zI h])), (3, .bool false)] ⟨rfl, rfl, rfl, rfl, trivial⟩ (fun a0 he0 m0 => ?_)
 refine wp_seqR ?_
 refine kx he0 m0 1 (.agg (#[zI a, zI b, zI c, zI d])) (#[zI a, zI b, zI c, zI d]) 56 fun a1 w1 b1 he1 m1 => ?_
 refine kx he1 m1 2 (.agg (#[zI e, zI f, zI g, zI h])) (#[zI e, zI f, zI g, zI h]) 56 fun a2 w2 b2 he2 m2 => ?_
 refine ka he2 m2 3 56 (.agg #[.int .i64 0, .int .i64 0, .int .i64 0, .int .i64 0]) (#[zI 0, zI 0, zI 0, zI 0]) fun a3 w3 b3 he3 m3 => ?_
 refine ka he3 m3 4 56 (.agg #[.int .i64 0, .int .i64 0, .int .i64 0, .int .i64 0]) (#[zI 0, zI 0, zI 0, zI 0]) fun a4 w4 b4 he4 m4 => ?_
 refine wl_end (wp_seq (wp_block (wp_seqR ?_)))
 refine wr [0, 1, 0] he4 m4 [(12, zF), (14, zF), (13, zI 13)] [] (vlc (u := .bool ((13 == 15))) (v := .bool false) rfl vl0) fun a5 w5 he5 m5 => ?_
 refine wl_end (wp_condF (he := he5) rfl (wp_seqR ?_))
 refine wr [0, 1, 0, 0, 0, 0] he5 m5 [(24, zF), (29, zF), (28, zU), (27, zF), (26, zF), (25, zI 13)] [] (vlc (u := .bool ((13 == 14))) (v := .bool false) rfl vl0) fun a6 w6 he6 m6 => ?_
 refine wl_end (wp_condF (he := he6) rfl (wp_seqR ?_))
 refine wr [0, 1, 0] he6 m6 [(35, zF), (37, zF), (36, zI 13)] [] (vlc (u := .bool ((13 == 14))) (v := .bool false) rfl vl0) fun a7 w7 he7 m7 => ?_
 refine wl_end (wp_condF (he := he7) rfl (wp_seqR ?_))
 refine wr [0, 1, 0] he7 m7 [(46, zF), (45, zF), (44, zI 13)] [] (vlc (u := .bool ((13 == 12))) (v := .bool false) rfl vl0) fun a8 w8 he8 m8 => ?_
 refine kv he8 (zT) (rn_binG _ _ _ _ _ rfl _ _ (he8.tmp 45 _ rfl) (he8.tmp 46 _ rfl) _ rfl (by first | kernel_rfl | (rw [← rfl (a := ())]; kernel_rfl))) fun a9 he9 => ?_
 refine wb 1 he9 [(43, zT)] fun a10 he10 => ?_
 refine wl_end (wp_condT (he := he10) rfl (wp_seqR ?_))
 refine wr [3, 4] he10 m8 [(50, .agg (#[zI e, zI f, zI g, zI h])), (49, .agg (#[zI a, zI b, zI c, zI d]))] [b2, b1] vl0 fun a11 w9 he11 m9 => ?_
 refine kc he11 m9 (v := .tuple #[.agg (#[zI x, zI y, zI z, zI u]), .bool (q)]) (tP.out _) fun a12 w10 he12 m10 => ?_
 refine wb 3 he12 [(53, .bool (q)), (52, .agg (#[zI x, zI y, zI z, zI u])), (48, .tuple #[.agg (#[zI x, zI y, zI z, zI u]), .bool (q)])] fun a13 he13 => ?_
 refine ka he13 m10 5 56 (.agg #[.int .i64 0, .int .i64 0, .int .i64 0, .int .i64 0]) (#[zI 0, zI 0, zI 0, zI 0]) fun a14 w11 b5 he14 m11 => ?_
 refine wm [7, 0] he14 m11 [(11, .bool (q))] [(5, zE b5 56 (#[zI x, zI y, zI z, zI u]))] [b5] vl0 fun a15 w12 he15 m12 => ?_
 refine wl_end (wp_seq ?_)
 refine wh_begin (by kernel_rfl) m12 [(1, ⟨true, b1, 56, #[zI a, zI b, zI c, zI d]⟩), (2, ⟨true, b2, 56, #[zI e, zI f, zI g, zI h]⟩), (5, ⟨true, b5, 56, #[zI x, zI y, zI z, zI u]⟩)] ⟨rfl, rfl, rfl, trivial⟩ (fun w13 m13 => ?_)
 refine wtd (fuel := 2) [(0, 7), (1, 7)] he15 m13 [(55, .agg (#[zI x, zI y, zI z, zI u])), (54, .agg (#[zI x, zI y, zI z, zI u]))] [b5, b5] vl0 fun a16 he16 => ?_
 refine ts (fuel := 1) 2 rfl he16 m13 3 agg56.sz (0) (.agg (#[zI x, zI y, zI z, zI u])) (#[zI x, zI y, zI z, zI u]) ⟨rfl, rfl, rfl, trivial⟩ (hin := (by simp)) (hA := (by kernel_rfl)) fun w14 m14 => ?_
 refine ts (fuel := 0) 3 rfl he16 m14 4 agg56.sz (0) (.agg (#[zI x, zI y, zI z, zI u])) (#[zI x, zI y, zI z, zI u]) ⟨rfl, rfl, rfl, trivial⟩ (hin := (by simp)) (hA := (by kernel_rfl)) fun w15 m15 => ?_
 refine wpAnyH_done (by kernel_rfl) ?_ _
 refine then_normal (wp_ret (ret_in (ret_then ?_)))
 exact bodyPost_ret (results_cell_c he16 m15 _ _ _ _ Try.results44 _ rfl 3 rfl 4 agg56 rfl _ rfl 4 rfl 4 agg56 rfl) he16.defers ⟨rfl, m15.below⟩
theorem w_part_other (a b c d e f g h : Int) (x y z u x' y' z' u' : Int) (w : World) (tP : Hid (∀ w, Calls Try.prog 63 #[rv a b c d, rv e f g h] w fun ee w' => ee = .returned (rv x y z u) ∧ Below w.heap.size w w')) (tQ : Hid (∀ w, Calls Try.prog 63 #[rv e f g h, rv a b c d] w fun ee w' => ee = .returned (rv x' y' z' u') ∧ Below w.heap.size w w')) :
 Calls Try.prog 44 #[.int .i64 12, rv a b c d, rv e f g h, .bool false] w fun ee w' => ee = .returned (.tuple #[rv x y z u, rv x' y' z' u']) ∧ Below w.heap.size w w' := by
 refine calls_begin Try.func44 rfl 62 rfl (Nat.le_of_ble_eq_true rfl) [(0, .int .i64 (12)), (1, .agg (#[zI a, zI b, zI c, zI d])), (2, .agg (#[zI e, zI f, zI g, zI h])), (3, .bool false)] ⟨rfl, rfl, rfl, rfl, trivial⟩ (fun a0 he0 m0 => ?_)
 refine wp_seqR ?_
 refine kx he0 m0 1 (.agg (#[zI a, zI b, zI c, zI d])) (#[zI a, zI b, zI c, zI d]) 56 fun a1 w1 b1 he1 m1 => ?_
 refine kx he1 m1 2 (.agg (#[zI e, zI f, zI g, zI h])) (#[zI e, zI f, zI g, zI h]) 56 fun a2 w2 b2 he2 m2 => ?_
 refine ka he2 m2 3 56 (.agg #[.int .i64 0, .int .i64 0, .int .i64 0, .int .i64 0]) (#[zI 0, zI 0, zI 0, zI 0]) fun a3 w3 b3 he3 m3 => ?_
 refine ka he3 m3 4 56 (.agg #[.int .i64 0, .int .i64 0, .int .i64 0, .int .i64 0]) (#[zI 0, zI 0, zI 0, zI 0]) fun a4 w4 b4 he4 m4 => ?_
 refine wl_end (wp_seq (wp_block (wp_seqR ?_)))
 refine wr [0, 1, 0] he4 m4 [(12, zF), (14, zF), (13, zI 12)] [] (vlc (u := .bool ((12 == 15))) (v := .bool false) rfl vl0) fun a5 w5 he5 m5 => ?_
 refine wl_end (wp_condF (he := he5) rfl (wp_seqR ?_))
 refine wr [0, 1, 0, 0, 0, 0] he5 m5 [(24, zF), (29, zF), (28, zU), (27, zF), (26, zF), (25, zI 12)] [] (vlc (u := .bool ((12 == 14))) (v := .bool false) rfl vl0) fun a6 w6 he6 m6 => ?_
 refine wl_end (wp_condF (he := he6) rfl (wp_seqR ?_))
 refine wr [0, 1, 0] he6 m6 [(35, zF), (37, zF), (36, zI 12)] [] (vlc (u := .bool ((12 == 14))) (v := .bool false) rfl vl0) fun a7 w7 he7 m7 => ?_
 refine wl_end (wp_condF (he := he7) rfl (wp_seqR ?_))
 refine wr [0, 1, 0] he7 m7 [(46, zF), (45, zT), (44, zI 12)] [] (vlc (u := .bool ((12 == 12))) (v := .bool true) rfl vl0) fun a8 w8 he8 m8 => ?_
 refine kv he8 (zF) (rn_binG _ _ _ _ _ rfl _ _ (he8.tmp 45 _ rfl) (he8.tmp 46 _ rfl) _ rfl (by first | kernel_rfl | (rw [← rfl (a := ())]; kernel_rfl))) fun a9 he9 => ?_
 refine wb 1 he9 [(43, zF)] fun a10 he10 => ?_
 refine wl_end (wp_condF (he := he10) rfl (wp_skip (in_normal (then_normal (wp_seq ?_)))))
 refine wh_begin (by kernel_rfl) m8 [(1, ⟨true, b1, 56, #[zI a, zI b, zI c, zI d]⟩), (2, ⟨true, b2, 56, #[zI e, zI f, zI g, zI h]⟩)] ⟨rfl, rfl, trivial⟩ (fun w9 m9 => ?_)
 refine wtd (fuel := 4) [(0, 3), (1, 4), (3, 4), (4, 3)] he10 m9 [(60, .agg (#[zI a, zI b, zI c, zI d])), (59, .agg (#[zI e, zI f, zI g, zI h])), (57, .agg (#[zI e, zI f, zI g, zI h])), (56, .agg (#[zI a, zI b, zI c, zI d]))] [b1, b2, b2, b1] vl0 fun a11 he11 => ?_
 refine tc (fuel := 3) 2 rfl he11 m9 (v := .agg (#[zI x, zI y, zI z, zI u])) (tP.out _) fun a12 w10 he12 m10 => ?_
 refine tc (fuel := 2) 5 rfl he12 m10 (v := .agg (#[zI x', zI y', zI z', zI u'])) (tQ.out _) fun a13 w11 he13 m11 => ?_
 refine ts (fuel := 1) 6 rfl he13 m11 3 agg56.sz (0) (.agg (#[zI x, zI y, zI z, zI u])) (#[zI x, zI y, zI z, zI u]) ⟨rfl, rfl, trivial⟩ (hin := (by simp)) (hA := (by kernel_rfl)) fun w12 m12 => ?_
 refine ts (fuel := 0) 7 rfl he13 m12 4 agg56.sz (0) (.agg (#[zI x', zI y', zI z', zI u'])) (#[zI x', zI y', zI z', zI u']) ⟨rfl, rfl, trivial⟩ (hin := (by simp)) (hA := (by kernel_rfl)) fun w13 m13 => ?_
 refine wpAnyH_done (by kernel_rfl) ?_ _
 refine then_normal (wp_ret ?_)
 exact bodyPost_ret (results_cell_c he13 m13 _ _ _ _ Try.results44 _ rfl 3 rfl 4 agg56 rfl _ rfl 4 rfl 4 agg56 rfl) he13.defers ⟨rfl, m13.below⟩
theorem w_part_other2 (a b c d e f g h : Int) (x y z u x' y' z' u' : Int) (w : World) (tP : Hid (∀ w, Calls Try.prog 63 #[rv a b c d, rv e f g h] w fun ee w' => ee = .returned (rv x y z u) ∧ Below w.heap.size w w')) (tQ : Hid (∀ w, Calls Try.prog 63 #[rv e f g h, rv a b c d] w fun ee w' => ee = .returned (rv x' y' z' u') ∧ Below w.heap.size w w')) :
 Calls Try.prog 44 #[.int .i64 13, rv a b c d, rv e f g h, .bool true] w fun ee w' => ee = .returned (.tuple #[rv x y z u, rv x' y' z' u']) ∧ Below w.heap.size w w' := by
 refine calls_begin Try.func44 rfl 62 rfl (Nat.le_of_ble_eq_true rfl) [(0, .int .i64 (13)), (1, .agg (#[zI a, zI b, zI c, zI d])), (2, .agg (#[zI e, zI f, zI g, zI h])), (3, .bool true)] ⟨rfl, rfl, rfl, rfl, trivial⟩ (fun a0 he0 m0 => ?_)
 refine wp_seqR ?_
 refine kx he0 m0 1 (.agg (#[zI a, zI b, zI c, zI d])) (#[zI a, zI b, zI c, zI d]) 56 fun a1 w1 b1 he1 m1 => ?_
 refine kx he1 m1 2 (.agg (#[zI e, zI f, zI g, zI h])) (#[zI e, zI f, zI g, zI h]) 56 fun a2 w2 b2 he2 m2 => ?_
 refine ka he2 m2 3 56 (.agg #[.int .i64 0, .int .i64 0, .int .i64 0, .int .i64 0]) (#[zI 0, zI 0, zI 0, zI 0]) fun a3 w3 b3 he3 m3 => ?_
 refine ka he3 m3 4 56 (.agg #[.int .i64 0, .int .i64 0, .int .i64 0, .int .i64 0]) (#[zI 0, zI 0, zI 0, zI 0]) fun a4 w4 b4 he4 m4 => ?_
 refine wl_end (wp_seq (wp_block (wp_seqR ?_)))
 refine wr [0, 1, 0] he4 m4 [(12, zF), (14, zF), (13, zI 13)] [] (vlc (u := .bool ((13 == 15))) (v := .bool false) rfl vl0) fun a5 w5 he5 m5 => ?_
 refine wl_end (wp_condF (he := he5) rfl (wp_seqR ?_))
 refine wr [0, 1, 0, 0, 0, 0] he5 m5 [(24, zF), (29, zF), (28, zU), (27, zF), (26, zF), (25, zI 13)] [] (vlc (u := .bool ((13 == 14))) (v := .bool false) rfl vl0) fun a6 w6 he6 m6 => ?_
 refine wl_end (wp_condF (he := he6) rfl (wp_seqR ?_))
 refine wr [0, 1, 0] he6 m6 [(35, zF), (37, zF), (36, zI 13)] [] (vlc (u := .bool ((13 == 14))) (v := .bool false) rfl vl0) fun a7 w7 he7 m7 => ?_
 refine wl_end (wp_condF (he := he7) rfl (wp_seqR ?_))
 refine wr [0, 1, 0] he7 m7 [(46, zT), (45, zF), (44, zI 13)] [] (vlc (u := .bool ((13 == 12))) (v := .bool false) rfl vl0) fun a8 w8 he8 m8 => ?_
 refine kv he8 (zF) (rn_binG _ _ _ _ _ rfl _ _ (he8.tmp 45 _ rfl) (he8.tmp 46 _ rfl) _ rfl (by first | kernel_rfl | (rw [← rfl (a := ())]; kernel_rfl))) fun a9 he9 => ?_
 refine wb 1 he9 [(43, zF)] fun a10 he10 => ?_
 refine wl_end (wp_condF (he := he10) rfl (wp_skip (in_normal (then_normal (wp_seq ?_)))))
 refine wh_begin (by kernel_rfl) m8 [(1, ⟨true, b1, 56, #[zI a, zI b, zI c, zI d]⟩), (2, ⟨true, b2, 56, #[zI e, zI f, zI g, zI h]⟩)] ⟨rfl, rfl, trivial⟩ (fun w9 m9 => ?_)
 refine wtd (fuel := 4) [(0, 3), (1, 4), (3, 4), (4, 3)] he10 m9 [(60, .agg (#[zI a, zI b, zI c, zI d])), (59, .agg (#[zI e, zI f, zI g, zI h])), (57, .agg (#[zI e, zI f, zI g, zI h])), (56, .agg (#[zI a, zI b, zI c, zI d]))] [b1, b2, b2, b1] vl0 fun a11 he11 => ?_
 refine tc (fuel := 3) 2 rfl he11 m9 (v := .agg (#[zI x, zI y, zI z, zI u])) (tP.out _) fun a12 w10 he12 m10 => ?_
 refine tc (fuel := 2) 5 rfl he12 m10 (v := .agg (#[zI x', zI y', zI z', zI u'])) (tQ.out _) fun a13 w11 he13 m11 => ?_
 refine ts (fuel := 1) 6 rfl he13 m11 3 agg56.sz (0) (.agg (#[zI x, zI y, zI z, zI u])) (#[zI x, zI y, zI z, zI u]) ⟨rfl, rfl, trivial⟩ (hin := (by simp)) (hA := (by kernel_rfl)) fun w12 m12 => ?_
 refine ts (fuel := 0) 7 rfl he13 m12 4 agg56.sz (0) (.agg (#[zI x', zI y', zI z', zI u'])) (#[zI x', zI y', zI z', zI u']) ⟨rfl, rfl, trivial⟩ (hin := (by simp)) (hA := (by kernel_rfl)) fun w13 m13 => ?_
 refine wpAnyH_done (by kernel_rfl) ?_ _
 refine then_normal (wp_ret ?_)
 exact bodyPost_ret (results_cell_c he13 m13 _ _ _ _ Try.results44 _ rfl 3 rfl 4 agg56 rfl _ rfl 4 rfl 4 agg56 rfl) he13.defers ⟨rfl, m13.below⟩
end Go.Proofs.Ytkaekiodjjhjkaa.H
