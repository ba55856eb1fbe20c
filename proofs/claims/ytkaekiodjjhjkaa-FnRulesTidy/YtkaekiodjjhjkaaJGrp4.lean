/- A range that lies in a block of its own. -/
import Derived.Test.YtkaekiodjjhjkaaJRH
import Derived.Test.YtkaekiodjjhjkaaJTk
import Derived.Deep.RegionHeld3
import Derived.RangeFuncRecord
import Derived.Test.YtkaekiodjjhjkaaJGrp3
set_option maxRecDepth 100000
set_option maxHeartbeats 4000000
set_option linter.unusedSimpArgs false
set_option linter.unusedVariables false
namespace Go.Proofs.Ytkaekiodjjhjkaa.H
open Go.RowKit
def RBox (W : World) (B : Nat) (x y z u : Int) : Prop := W.heap[B]? = some (.cells #[.int .i64 x, .int .i64 y, .int .i64 z, .int .i64 u] 56 (0, 0))
section
variable {W W' : World} {B B' : Nat} {x y z u : Int}
theorem RBox.lt (h : RBox W B x y z u) : B < W.heap.size := (Array.getElem?_eq_some_iff.1 h).1
theorem RBox.box (h : RBox W B x y z u) : Box4 B x y z u W := by
 refine ⟨?_, ?_, ?_, ?_⟩ <;> simp [World.cell?, show W.heap[B]? = _ from h]
theorem RBox.frozen (h : RBox W B x y z u) (j : Nat) : W.frozen? ⟨B, j, none⟩ = false := by simp [World.frozen?, show W.heap[B]? = _ from h]
theorem RBox.below (h : RBox W B x y z u) (hb : Below W.heap.size W W') : RBox W' B x y z u := (hb.block B (RBox.lt h)).trans h
theorem RBox.alloc (h : RBox W B x y z u) (obj : Obj) : RBox (W.alloc obj) B x y z u := (Below.heap_alloc W obj B (RBox.lt h)).trans h
theorem RBox.new (W : World) (x y z u : Int) : RBox (W.alloc (.cells #[.int .i64 x, .int .i64 y, .int .i64 z, .int .i64 u] 56)) W.heap.size x y z u := World.alloc_heap_new W _
theorem RBox.drewN (h : RBox W B x y z u) (n : Nat) : RBox (W.drewN n) B x y z u := h
theorem RBox.drew (h : RBox W B x y z u) : RBox W.drew B x y z u := h
theorem RBox.other (h : RBox W B x y z u) (a : Addr) (v : Value) (hne : B ≠ a.block) : RBox (W.setCell a v) B x y z u := (Below.heap_setCell W a v B hne).trans h
theorem RBox.set0 (h : RBox W B x y z u) (n : Int) : RBox (W.setCell ⟨B, 0, none⟩ (.int .i64 n)) B n y z u := by
 obtain ⟨hlt, hk⟩ := Array.getElem?_eq_some_iff.1 h
 show (W.heap.modify B _)[B]? = _
 rw [Array.getElem?_eq_getElem (by rw [Array.size_modify]; exact hlt), Array.getElem_modify_self, hk]
 rfl
theorem RBox.set1 (h : RBox W B x y z u) (n : Int) : RBox (W.setCell ⟨B, 1, none⟩ (.int .i64 n)) B x n z u := by
 obtain ⟨hlt, hk⟩ := Array.getElem?_eq_some_iff.1 h
 show (W.heap.modify B _)[B]? = _
 rw [Array.getElem?_eq_getElem (by rw [Array.size_modify]; exact hlt), Array.getElem_modify_self, hk]
 rfl
theorem RBox.set2 (h : RBox W B x y z u) (n : Int) : RBox (W.setCell ⟨B, 2, none⟩ (.int .i64 n)) B x y n u := by
 obtain ⟨hlt, hk⟩ := Array.getElem?_eq_some_iff.1 h
 show (W.heap.modify B _)[B]? = _
 rw [Array.getElem?_eq_getElem (by rw [Array.size_modify]; exact hlt), Array.getElem_modify_self, hk]
 rfl
theorem RBox.set3 (h : RBox W B x y z u) (n : Int) : RBox (W.setCell ⟨B, 3, none⟩ (.int .i64 n)) B x y z n := by
 obtain ⟨hlt, hk⟩ := Array.getElem?_eq_some_iff.1 h
 show (W.heap.modify B _)[B]? = _
 rw [Array.getElem?_eq_getElem (by rw [Array.size_modify]; exact hlt), Array.getElem_modify_self, hk]
 rfl
end
def st4 (W : World) (B : Nat) (x y z u : Int) : World := (((W.setCell ⟨B, 0, none⟩ (.int .i64 x)).setCell ⟨B, 1, none⟩ (.int .i64 y)).setCell ⟨B, 2, none⟩ (.int .i64 z)).setCell ⟨B, 3, none⟩ (.int .i64 u)
theorem RBox.st4 {W : World} {B : Nat} {x y z u x' y' z' u' : Int} (h : RBox W B x y z u) : RBox (st4 W B x' y' z' u') B x' y' z' u' := (((h.set0 x').set1 y').set2 z').set3 u'
theorem st4_below {W₀ W : World} {n₀ : Nat} (B : Nat) (x y z u : Int) (h : Below n₀ W₀ W) (hB : n₀ ≤ B) : Below n₀ W₀ (st4 W B x y z u) := (((h.setCell hB _).setCell hB _).setCell hB _).setCell hB _
end Go.Proofs.Ytkaekiodjjhjkaa.H
namespace Go.Proofs.Ytkaekiodjjhjkaa.H
open Go.RowKit
theorem c_RangeTidy (lo hi b o : Nat) (w : World) (h : OkN lo hi b o) (hs : someN lo hi b o = true) :
 Calls Try.prog 40 #[rv lo hi b o] w fun e w' => e = .returned (rv (tLo lo hi b) (tHi lo hi b o) (tB lo hi b) (tO lo hi o)) ∧ Below w.heap.size w w' := by
 obtain ⟨X, hX⟩ : ∃ X, lo ^^^ hi = X := ⟨_, rfl⟩
 have lX : X ≤ 4294967295 := by rw [← hX]; exact xor_le h.lo h.hi
 obtain ⟨L, hL⟩ : ∃ L, bitLen X = L := ⟨_, rfl⟩
 have lL : L ≤ 32 := by rw [← hL]; exact bitLen_le32 lX
 obtain ⟨P, hP⟩ : ∃ P, 2 ^ L = P := ⟨_, rfl⟩
 have hP0 : 0 < P := by rw [← hP]; exact Nat.two_pow_pos _
 have hPl : P ≤ 4294967296 := by rw [← hP]; exact Nat.pow_le_pow_right (n := 2) (j := 32) (by omega) (by omega)
 obtain ⟨M, hM⟩ : ∃ M, P - 1 = M := ⟨_, rfl⟩
 have hMm : maskOf X = M := by rw [maskOf, hL, hP, hM]
 have e1 := xor_i64 lo hi (by have := h.lo; omega) (by have := h.hi; omega)
 rw [hX] at e1
 have w1 : IntKind.u64.wrap (X : Int) = X := by rw [IntKind.wrap_u64]; omega
 have s1 := shl_one lL hP
 have d1 : (P : Int) - 1 = M := by omega
 have e2 := and_i64 o M (by have := h.o; omega) (by omega)
 have e3 := andNot_i64 lo M h.lo (by omega)
 have l3 : lo &&& notB M ≤ 4294967295 := and_le _ h.lo
 have e4 := or_i64 b (lo &&& notB M) (by have := h.b; omega) (by omega)
 have hB : b ||| (lo &&& notB M) = tB lo hi b := by rw [tB, hX, hMm]
 have hO : o &&& M = tO lo hi o := by rw [tO, hX, hMm]
 have hLo : tLo lo hi b = max lo (tB lo hi b) := rfl
 have hHi : tHi lo hi b o = min hi (tB lo hi b ||| tO lo hi o) := rfl
 have lB := tB_le (hi := hi) h.lo h.b
 have lO := tO_le (lo := lo) (hi := hi) h.o
 rw [hB] at e4
 rw [hO] at e2
 have Hlen : Hid (∀ w, Calls Try.prog 57 #[.int .u64 X] w fun e w' => e = .returned (.int .i64 L) ∧ w' = w) := by
  intro w; have := c_Len X w lX; rw [hL] at this; exact this
 have Hsome : Hid (∀ w, Calls Try.prog 43 #[rv lo hi b o] w fun e w' => e = .returned (.bool true) ∧ Below w.heap.size w w') := by
  intro w; have := c_RangeSome lo hi b o w h; rw [hs] at this; exact this
 have Hmay : Hid (∀ (x y : Int) w, Calls Try.prog 58 #[rv x y (tB lo hi b) (tO lo hi o)] w fun e w' => e = .returned (.int .i64 ((tB lo hi b ||| tO lo hi o : Nat) : Int)) ∧ Below w.heap.size w w') :=
  fun x y w => c_may x y _ _ w lB lO
 rw [hLo, hHi]
 clear hLo hHi hB hO hMm hM hP hL hX h hs
 generalize tB lo hi b = B1 at *
 generalize tO lo hi o = O1 at *
 generalize lo &&& notB M = B0 at *
 generalize B1 ||| O1 = U at *
 go_enter Try.func40, Try.ntmps40
 go_wp2_with fail
 refine (Hsome.out _).mono ?_
 rintro e w1 ⟨rfl, hb1⟩
 have r1 : RBox w1 w.heap.size lo hi b o := ((RBox.new w lo hi b o).alloc _).below hb1
 have q1 : RBox w1 (w.heap.size + 1) 0 0 0 0 := by
  have h0 := RBox.new (w.alloc (.cells #[.int .i64 lo, .int .i64 hi, .int .i64 b, .int .i64 o] 56)) 0 0 0 0
  simp only [World.size_alloc] at h0
  exact h0.below hb1
 have z1 : w.heap.size ≤ w1.heap.size := by have := hb1.size; simp at this; omega
 have bel1 : Below w.heap.size w w1 := (((Below.refl _ _).alloc (Nat.le_refl _) _).alloc (by simp) _).trans (hb1.mono (by simp; omega))
 have r3 : RBox (((w1.setCell ⟨w.heap.size, 3, none⟩ (.int .i64 O1)).setCell ⟨w.heap.size, 2, none⟩ (.int .i64 B1)).setCell ⟨w.heap.size, 0, none⟩ (.int .i64 (max (lo : Int) B1))) w.heap.size (max (lo : Int) B1) hi B1 O1 := ((r1.set3 _).set2 _).set0 _
 have q3 : RBox (((w1.setCell ⟨w.heap.size, 3, none⟩ (.int .i64 O1)).setCell ⟨w.heap.size, 2, none⟩ (.int .i64 B1)).setCell ⟨w.heap.size, 0, none⟩ (.int .i64 (max (lo : Int) B1))) (w.heap.size + 1) 0 0 0 0 := ((q1.other _ _ (by simp)).other _ _ (by simp)).other _ _ (by simp)
 have bel3 : Below w.heap.size w (((w1.setCell ⟨w.heap.size, 3, none⟩ (.int .i64 O1)).setCell ⟨w.heap.size, 2, none⟩ (.int .i64 B1)).setCell ⟨w.heap.size, 0, none⟩ (.int .i64 (max (lo : Int) B1))) := ((bel1.setCell (Nat.le_refl _) _).setCell (Nat.le_refl _) _).setCell (Nat.le_refl _) _
 have sz3 : w.heap.size ≤ (((w1.setCell ⟨w.heap.size, 3, none⟩ (.int .i64 O1)).setCell ⟨w.heap.size, 2, none⟩ (.int .i64 B1)).setCell ⟨w.heap.size, 0, none⟩ (.int .i64 (max (lo : Int) B1))).heap.size := bel3.size
 have hr := hid r3
 have hq := hid q3
 have hbel3 := hid bel3
 have hsz3 := hid sz3
 have fr1 := RBox.frozen r1
 obtain ⟨c0, c1, c2, c3⟩ := RBox.box r1
 clear r3 q3 bel3 sz3 hb1 r1 q1
 go_wp2_with fail
 refine (Hlen.out _).mono ?_
 rintro e w2 ⟨rfl, hw2⟩
 rw [hw2]; clear hw2 w2
 go_wp2_with fail
 generalize (((w1.setCell ⟨w.heap.size, 3, none⟩ (.int .i64 O1)).setCell ⟨w.heap.size, 2, none⟩ (.int .i64 B1)).setCell ⟨w.heap.size, 0, none⟩ (.int .i64 (max (lo : Int) B1))) = W3 at *
 clear c0 c1 c2 c3 fr1
 obtain ⟨d0, d1, d2, d3⟩ := RBox.box hr.out
 refine wp_region_held_drew (S := (fun _ => True)) (by kernel_rfl) (trivial) (fun hHeld => ?_)
 refine tkH 0 6 hHeld ?_
 try simp only [Act.put, sA, sB, sC]
 refine wpAnyH_ready (fuel := 5) (rs := [1, 2]) (by kernel_rfl) (by simp) ?_
 refine AllReadyH.cons (o := ?oi2) ?hi2 (fun K hK => ?st2) ?mo2
 case hi2 => rw [List.getElem?_toArray]; rfl
 case st2 =>
  go_simp
  refine hK.out _ _ ?hS2 (fun hHeld => ?re2)
  case hS2 => trivial
  clear hK K
  try simp only [Act.put, sA, sB, sC]
  refine wpAnyH_ready (fuel := 4) (rs := [2]) (by kernel_rfl) (by simp) ?_
  refine AllReadyH.cons (by rw [List.getElem?_toArray]; rfl) (fun K hK => ?_) AllReadyH.nil
  go_simp
  refine hK.out _ _ ?hS3 (fun hHeld => ?re3)
  case hS3 => trivial
  clear hK K
  try simp only [Act.put, sA, sB, sC]
  refine wpAnyH_ready (fuel := 3) (rs := [3]) (by kernel_rfl) (by simp) ?_
  refine AllReadyH.cons (by rw [List.getElem?_toArray]; rfl) (fun K hK => ?_) AllReadyH.nil
  go_simp
  refine (Hmay.out _ _ _).mono ?_
  rintro e w4 ⟨rfl, hb4⟩
  have hb4' : Below W3.heap.size W3 w4 := (Below.refl _ _).drew.trans hb4
  have rb4 := hid (RBox.below hr.out hb4')
  have rq4 := hid (RBox.below hq.out hb4')
  have bel4 := hid (hbel3.out.trans (hb4'.mono hsz3.out))
  clear d0 d1 d2 d3
  obtain ⟨d0, d1, d2, d3⟩ := RBox.box rb4.out
  have fr4 := RBox.frozen rb4.out
  have fq4 := RBox.frozen rq4.out
  go_wp2_with fail
  refine hK.out _ _ ?hS4 (fun hHeld => ?re4)
  case hS4 => trivial
  clear hK K
  try simp only [Act.put, sA, sB, sC]
  refine wpAnyH_ready (fuel := 2) (rs := [4]) (by kernel_rfl) (by simp) ?_
  refine AllReadyH.cons (by rw [List.getElem?_toArray]; rfl) (fun K hK => ?_) AllReadyH.nil
  go_simp
  refine hK.out _ _ ?hS5 (fun hHeld => ?re5)
  case hS5 => trivial
  clear hK K
  try simp only [Act.put, sA, sB, sC]
  refine wpAnyH_ready (fuel := 1) (rs := [5]) (by kernel_rfl) (by simp) ?_
  refine AllReadyH.cons (by rw [List.getElem?_toArray]; rfl) (fun K hK => ?_) AllReadyH.nil
  go_simp
  refine hK.out _ _ ?hS6 (fun hHeld => ?re6)
  case hS6 => trivial
  clear hK K
  try simp only [Act.put, sA, sB, sC]
  refine wpAnyH_ready (fuel := 0) (rs := [6]) (by kernel_rfl) (by simp) ?_
  refine AllReadyH.cons (by rw [List.getElem?_toArray]; rfl) (fun K hK => ?_) AllReadyH.nil
  go_simp
  refine hK.out _ _ ?hS7 (fun hHeld => ?re7)
  case hS7 => trivial
  clear hK K
  try simp only [Act.put, sA, sB, sC]
  refine wpAnyH_done (by kernel_rfl) ?_ _
  clear hHeld
  have r5 := hid (rb4.out.set1 (min (hi : Int) U))
  have q5 := hid (rq4.out.other ⟨w.heap.size, 1, none⟩ (.int .i64 (min (hi : Int) U)) (show w.heap.size + 1 ≠ w.heap.size by omega))
  have bel5 := hid (bel4.out.setCell (p := ⟨w.heap.size, 1, none⟩) (Nat.le_refl _) (.int .i64 (min (hi : Int) U)))
  generalize w4.setCell ⟨w.heap.size, 1, none⟩ (.int .i64 (min (hi : Int) U)) = w5 at *
  clear d0 d1 d2 d3 fr4 fq4
  obtain ⟨d0, d1, d2, d3⟩ := RBox.box r5.out
  have fq5 := RBox.frozen q5.out
  obtain ⟨g0, g1, g2, g3⟩ := RBox.box q5.out
  have P5 := hid (RBox.box (q5.out.st4 (x' := max (lo : Int) B1) (y' := min (hi : Int) U) (z' := B1) (u' := O1)))
  have B5 := hid (st4_below (w.heap.size + 1) (max (lo : Int) B1) (min (hi : Int) U) B1 O1 bel5.out (by omega))
  go_wp2_with fail
  obtain ⟨p0, p1, p2, p3⟩ := P5.out
  unfold st4 at p0 p1 p2 p3
  refine bodyPost_ret (v := rv (max (lo : Int) B1) (min (hi : Int) U) B1 O1) (by simp [results, Try.results40, go_sem, p0, p1, p2, p3]) rfl ⟨?_, B5.out⟩
  simp
  omega
 refine AllReadyH.cons (o := ?oi8) ?hi8 (fun K hK => ?st8) ?mo8
 case hi8 => rw [List.getElem?_toArray]; rfl
 case st8 =>
  go_simp
  refine hK.out _ _ ?hS8 (fun hHeld => ?re8)
  case hS8 => trivial
  clear hK K
  try simp only [Act.put, sA, sB, sC]
  refine wpAnyH_ready (fuel := 4) (rs := [1, 3]) (by kernel_rfl) (by simp) ?_
  refine AllReadyH.cons (o := ?oi9) ?hi9 (fun K hK => ?st9) ?mo9
  case hi9 => rw [List.getElem?_toArray]; rfl
  case st9 =>
   go_simp
   refine hK.out _ _ ?hS9 (fun hHeld => ?re9)
   case hS9 => trivial
   clear hK K
   try simp only [Act.put, sA, sB, sC]
   refine wpAnyH_ready (fuel := 3) (rs := [3]) (by kernel_rfl) (by simp) ?_
   refine AllReadyH.cons (by rw [List.getElem?_toArray]; rfl) (fun K hK => ?_) AllReadyH.nil
   go_simp
   refine (Hmay.out _ _ _).mono ?_
   rintro e w4 ⟨rfl, hb4⟩
   have hb4' : Below W3.heap.size W3 w4 := (Below.refl _ _).drew.trans hb4
   have rb4 := hid (RBox.below hr.out hb4')
   have rq4 := hid (RBox.below hq.out hb4')
   have bel4 := hid (hbel3.out.trans (hb4'.mono hsz3.out))
   clear d0 d1 d2 d3
   obtain ⟨d0, d1, d2, d3⟩ := RBox.box rb4.out
   have fr4 := RBox.frozen rb4.out
   have fq4 := RBox.frozen rq4.out
   go_wp2_with fail
   refine hK.out _ _ ?hS10 (fun hHeld => ?re10)
   case hS10 => trivial
   clear hK K
   try simp only [Act.put, sA, sB, sC]
   refine wpAnyH_ready (fuel := 2) (rs := [4]) (by kernel_rfl) (by simp) ?_
   refine AllReadyH.cons (by rw [List.getElem?_toArray]; rfl) (fun K hK => ?_) AllReadyH.nil
   go_simp
   refine hK.out _ _ ?hS11 (fun hHeld => ?re11)
   case hS11 => trivial
   clear hK K
   try simp only [Act.put, sA, sB, sC]
   refine wpAnyH_ready (fuel := 1) (rs := [5]) (by kernel_rfl) (by simp) ?_
   refine AllReadyH.cons (by rw [List.getElem?_toArray]; rfl) (fun K hK => ?_) AllReadyH.nil
   go_simp
   refine hK.out _ _ ?hS12 (fun hHeld => ?re12)
   case hS12 => trivial
   clear hK K
   try simp only [Act.put, sA, sB, sC]
   refine wpAnyH_ready (fuel := 0) (rs := [6]) (by kernel_rfl) (by simp) ?_
   refine AllReadyH.cons (by rw [List.getElem?_toArray]; rfl) (fun K hK => ?_) AllReadyH.nil
   go_simp
   refine hK.out _ _ ?hS13 (fun hHeld => ?re13)
   case hS13 => trivial
   clear hK K
   try simp only [Act.put, sA, sB, sC]
   refine wpAnyH_done (by kernel_rfl) ?_ _
   clear hHeld
   have r5 := hid (rb4.out.set1 (min (hi : Int) U))
   have q5 := hid (rq4.out.other ⟨w.heap.size, 1, none⟩ (.int .i64 (min (hi : Int) U)) (show w.heap.size + 1 ≠ w.heap.size by omega))
   have bel5 := hid (bel4.out.setCell (p := ⟨w.heap.size, 1, none⟩) (Nat.le_refl _) (.int .i64 (min (hi : Int) U)))
   generalize w4.setCell ⟨w.heap.size, 1, none⟩ (.int .i64 (min (hi : Int) U)) = w5 at *
   clear d0 d1 d2 d3 fr4 fq4
   obtain ⟨d0, d1, d2, d3⟩ := RBox.box r5.out
   have fq5 := RBox.frozen q5.out
   obtain ⟨g0, g1, g2, g3⟩ := RBox.box q5.out
   have P5 := hid (RBox.box (q5.out.st4 (x' := max (lo : Int) B1) (y' := min (hi : Int) U) (z' := B1) (u' := O1)))
   have B5 := hid (st4_below (w.heap.size + 1) (max (lo : Int) B1) (min (hi : Int) U) B1 O1 bel5.out (by omega))
   go_wp2_with fail
   obtain ⟨p0, p1, p2, p3⟩ := P5.out
   unfold st4 at p0 p1 p2 p3
   refine bodyPost_ret (v := rv (max (lo : Int) B1) (min (hi : Int) U) B1 O1) (by simp [results, Try.results40, go_sem, p0, p1, p2, p3]) rfl ⟨?_, B5.out⟩
   simp
   omega
  refine AllReadyH.cons (o := ?oi14) ?hi14 (fun K hK => ?st14) ?mo14
  case hi14 => rw [List.getElem?_toArray]; rfl
  case st14 =>
   go_simp
   refine (Hmay.out _ _ _).mono ?_
   rintro e w4 ⟨rfl, hb4⟩
   have hb4' : Below W3.heap.size W3 w4 := (Below.refl _ _).drew.trans hb4
   have rb4 := hid (RBox.below hr.out hb4')
   have rq4 := hid (RBox.below hq.out hb4')
   have bel4 := hid (hbel3.out.trans (hb4'.mono hsz3.out))
   clear d0 d1 d2 d3
   obtain ⟨d0, d1, d2, d3⟩ := RBox.box rb4.out
   have fr4 := RBox.frozen rb4.out
   have fq4 := RBox.frozen rq4.out
   go_wp2_with fail
   refine hK.out _ _ ?hS14 (fun hHeld => ?re14)
   case hS14 => trivial
   clear hK K
   try simp only [Act.put, sA, sB, sC]
   refine wpAnyH_ready (fuel := 3) (rs := [1]) (by kernel_rfl) (by simp) ?_
   refine AllReadyH.cons (by rw [List.getElem?_toArray]; rfl) (fun K hK => ?_) AllReadyH.nil
   go_simp
   refine hK.out _ _ ?hS15 (fun hHeld => ?re15)
   case hS15 => trivial
   clear hK K
   try simp only [Act.put, sA, sB, sC]
   refine wpAnyH_ready (fuel := 2) (rs := [4]) (by kernel_rfl) (by simp) ?_
   refine AllReadyH.cons (by rw [List.getElem?_toArray]; rfl) (fun K hK => ?_) AllReadyH.nil
   go_simp
   refine hK.out _ _ ?hS16 (fun hHeld => ?re16)
   case hS16 => trivial
   clear hK K
   try simp only [Act.put, sA, sB, sC]
   refine wpAnyH_ready (fuel := 1) (rs := [5]) (by kernel_rfl) (by simp) ?_
   refine AllReadyH.cons (by rw [List.getElem?_toArray]; rfl) (fun K hK => ?_) AllReadyH.nil
   go_simp
   refine hK.out _ _ ?hS17 (fun hHeld => ?re17)
   case hS17 => trivial
   clear hK K
   try simp only [Act.put, sA, sB, sC]
   refine wpAnyH_ready (fuel := 0) (rs := [6]) (by kernel_rfl) (by simp) ?_
   refine AllReadyH.cons (by rw [List.getElem?_toArray]; rfl) (fun K hK => ?_) AllReadyH.nil
   go_simp
   refine hK.out _ _ ?hS18 (fun hHeld => ?re18)
   case hS18 => trivial
   clear hK K
   try simp only [Act.put, sA, sB, sC]
   refine wpAnyH_done (by kernel_rfl) ?_ _
   clear hHeld
   have r5 := hid (rb4.out.set1 (min (hi : Int) U))
   have q5 := hid (rq4.out.other ⟨w.heap.size, 1, none⟩ (.int .i64 (min (hi : Int) U)) (show w.heap.size + 1 ≠ w.heap.size by omega))
   have bel5 := hid (bel4.out.setCell (p := ⟨w.heap.size, 1, none⟩) (Nat.le_refl _) (.int .i64 (min (hi : Int) U)))
   generalize w4.setCell ⟨w.heap.size, 1, none⟩ (.int .i64 (min (hi : Int) U)) = w5 at *
   clear d0 d1 d2 d3 fr4 fq4
   obtain ⟨d0, d1, d2, d3⟩ := RBox.box r5.out
   have fq5 := RBox.frozen q5.out
   obtain ⟨g0, g1, g2, g3⟩ := RBox.box q5.out
   have P5 := hid (RBox.box (q5.out.st4 (x' := max (lo : Int) B1) (y' := min (hi : Int) U) (z' := B1) (u' := O1)))
   have B5 := hid (st4_below (w.heap.size + 1) (max (lo : Int) B1) (min (hi : Int) U) B1 O1 bel5.out (by omega))
   go_wp2_with fail
   obtain ⟨p0, p1, p2, p3⟩ := P5.out
   unfold st4 at p0 p1 p2 p3
   refine bodyPost_ret (v := rv (max (lo : Int) B1) (min (hi : Int) U) B1 O1) (by simp [results, Try.results40, go_sem, p0, p1, p2, p3]) rfl ⟨?_, B5.out⟩
   simp
   omega
  exact AllReadyH.nil
 exact AllReadyH.nil
end Go.Proofs.Ytkaekiodjjhjkaa.H
namespace Go.Proofs.Ytkaekiodjjhjkaa.H
open Go.RowKit
theorem c_l2Tidy (lo hi b o : Nat) (w : World) (h : OkN lo hi b o) :
 Calls Try.prog 45 #[rv lo hi b o] w fun e w' => e = .returned (rv (tLo lo hi b) (tHi lo hi b o) (tB lo hi b) (tO lo hi o)) ∧ Below w.heap.size w w' := by
 obtain ⟨X, hX⟩ : ∃ X, lo ^^^ hi = X := ⟨_, rfl⟩
 have lX : X ≤ 4294967295 := by rw [← hX]; exact xor_le h.lo h.hi
 obtain ⟨M, hM⟩ : ∃ M, maskOf X = M := ⟨_, rfl⟩
 have lM : M ≤ 4294967295 := by rw [← hM]; exact maskOf_le lX
 have e2 := and_i64 o M (by have := h.o; omega) (by omega)
 have l3 : lo &&& notB M ≤ 4294967295 := and_le _ h.lo
 have e4 := or_i64 b (lo &&& notB M) (by have := h.b; omega) (by omega)
 have hB : b ||| (lo &&& notB M) = tB lo hi b := by rw [tB, hX, hM]
 have hO : o &&& M = tO lo hi o := by rw [tO, hX, hM]
 have lB := tB_le (hi := hi) h.lo h.b
 have lO := tO_le (lo := lo) (hi := hi) h.o
 rw [hB] at e4
 rw [hO] at e2
 have e5 := xor_top (tO lo hi o) lO
 have l5 := not_le lO
 have e6 := and_i64 (tB lo hi b) (notB (tO lo hi o)) (by omega) (by omega)
 have hB2 : tB lo hi b &&& notB (tO lo hi o) = tB lo hi b := tB_spec h
 rw [hB2] at e6
 have e7 := or_i64 (tB lo hi b) (tO lo hi o) (by omega) (by omega)
 have hLo : tLo lo hi b = max lo (tB lo hi b) := rfl
 have hHi : tHi lo hi b o = min hi (tB lo hi b ||| tO lo hi o) := rfl
 have Hbits : Hid (∀ w, Calls Try.prog 64 #[.int .i64 lo, .int .i64 hi] w fun e w' => e = .returned (.tuple #[.int .i64 ((lo &&& notB M : Nat) : Int), .int .i64 (M : Nat)]) ∧ w' = w) := by
  intro w; have := c_l2Bits lo hi w h.lo h.hi; rw [hX, hM] at this; exact this
 have lU : tB lo hi b ||| tO lo hi o ≤ 4294967295 := or_le lB lO
 rw [hLo, hHi]
 clear hLo hHi hB hB2 hO hM hX h
 generalize tB lo hi b = B1 at *
 generalize tO lo hi o = O1 at *
 generalize lo &&& notB M = B0 at *
 generalize B1 ||| O1 = U at *
 generalize notB O1 = NO at *
 have r0 : RBox ((w.alloc (.cells #[.int .i64 lo, .int .i64 hi, .int .i64 b, .int .i64 o] 56)).alloc (.cells #[.int .i64 0, .int .i64 0, .int .i64 0, .int .i64 0] 56)) w.heap.size lo hi b o := (RBox.new w lo hi b o).alloc _
 have q0 : RBox ((w.alloc (.cells #[.int .i64 lo, .int .i64 hi, .int .i64 b, .int .i64 o] 56)).alloc (.cells #[.int .i64 0, .int .i64 0, .int .i64 0, .int .i64 0] 56)) (w.heap.size + 1) 0 0 0 0 := by
  have h0 := RBox.new (w.alloc (.cells #[.int .i64 lo, .int .i64 hi, .int .i64 b, .int .i64 o] 56)) 0 0 0 0
  simp only [World.size_alloc] at h0
  exact h0
 have bel0 : Below w.heap.size w ((w.alloc (.cells #[.int .i64 lo, .int .i64 hi, .int .i64 b, .int .i64 o] 56)).alloc (.cells #[.int .i64 0, .int .i64 0, .int .i64 0, .int .i64 0] 56)) := (((Below.refl _ _).alloc (Nat.le_refl _) _).alloc (by simp) _)
 have R0 := hid r0
 have Q0 := hid q0
 have BEL0 := hid bel0
 clear r0 q0 bel0
 go_enter Try.func45, Try.ntmps45
 go_wp2_with fail
 refine (Hbits.out _).mono ?_
 rintro e w2 ⟨rfl, hw2⟩
 rw [hw2]; clear hw2 w2
 generalize (w.alloc (.cells #[.int .i64 lo, .int .i64 hi, .int .i64 b, .int .i64 o] 56)).alloc (.cells #[.int .i64 0, .int .i64 0, .int .i64 0, .int .i64 0] 56) = w2 at *
 obtain ⟨c0, c1, c2, c3⟩ := RBox.box R0.out
 have fr0 := RBox.frozen R0.out
 go_wp2_with fail
 have r2 := hid (R0.out.set3 (O1 : Int))
 have q2 := hid (Q0.out.other ⟨w.heap.size, 3, none⟩ (.int .i64 O1) (show w.heap.size + 1 ≠ w.heap.size by omega))
 have bel2 := hid (BEL0.out.setCell (p := ⟨w.heap.size, 3, none⟩) (Nat.le_refl _) (.int .i64 O1))
 generalize w2.setCell ⟨w.heap.size, 3, none⟩ (.int .i64 O1) = w3 at *
 clear c0 c1 c2 c3 fr0
 obtain ⟨c0, c1, c2, c3⟩ := RBox.box r2.out
 have fr0 := RBox.frozen r2.out
 refine wp_region_held_drew (S := (fun w' => w'.cell? ⟨w.heap.size, 3, none⟩ = some (.int .i64 O1))) (by kernel_rfl) (by simp [*]) (fun hHeld => ?_)
 refine tkH 0 10 hHeld ?_
 try simp only [Act.put, sA, sB, sC]
 refine tkH 2 9 hHeld ?_
 try simp only [Act.put, sA, sB, sC]
 refine tkH 5 8 hHeld ?_
 try simp only [Act.put, sA, sB, sC]
 refine tkH 6 7 hHeld ?_
 try simp only [Act.put, sA, sB, sC]
 refine wpAnyH_ready (fuel := 6) (rs := [1, 4]) (by kernel_rfl) (by simp) ?_
 refine AllReadyH.cons (o := ?oi5) ?hi5 (fun K hK => ?st5) ?mo5
 case hi5 => rw [List.getElem?_toArray]; rfl
 case st5 =>
  go_simp
  refine hK.out _ _ ?hS5 (fun hHeld => ?re5)
  case hS5 => first | (simp [*]; done) | exact (RBox.box (r2.out.set2 (B1 : Int))).c3
  clear hK K
  try simp only [Act.put, sA, sB, sC]
  refine tkH 3 5 hHeld ?_
  try simp only [Act.put, sA, sB, sC]
  refine wpAnyH_ready (fuel := 4) (rs := [4]) (by kernel_rfl) (by simp) ?_
  refine AllReadyH.cons (by rw [List.getElem?_toArray]; rfl) (fun K hK => ?_) AllReadyH.nil
  go_simp
  refine (c_l2Top _).mono ?_
  rintro e wt ⟨rfl, hwt⟩
  rw [hwt]; clear hwt wt
  go_wp2_with fail
  refine hK.out _ _ ?hS7 (fun hHeld => ?re7)
  case hS7 => first | (simp [*]; done) | exact (RBox.box (r2.out.set2 (B1 : Int))).c3
  clear hK K
  try simp only [Act.put, sA, sB, sC]
  refine tkH 7 3 hHeld ?_
  try simp only [Act.put, sA, sB, sC]
  refine tkH 8 2 hHeld ?_
  try simp only [Act.put, sA, sB, sC]
  refine tkH 9 1 hHeld ?_
  try simp only [Act.put, sA, sB, sC]
  refine wpAnyH_ready (fuel := 0) (rs := [10]) (by kernel_rfl) (by simp) ?_
  refine AllReadyH.cons (by rw [List.getElem?_toArray]; rfl) (fun K hK => ?_) AllReadyH.nil
  go_simp
  refine hK.out _ _ ?hS11 (fun hHeld => ?re11)
  case hS11 => first | (simp [*]; done) | exact (RBox.box (r2.out.set2 (B1 : Int))).c3
  clear hK K
  try simp only [Act.put, sA, sB, sC]
  refine wpAnyH_done (by kernel_rfl) ?_ _
  have r5 := hid (r2.out.set2 (B1 : Int))
  have q5 := hid (q2.out.other ⟨w.heap.size, 2, none⟩ (.int .i64 B1) (show w.heap.size + 1 ≠ w.heap.size by omega))
  have bel5 := hid (bel2.out.setCell (p := ⟨w.heap.size, 2, none⟩) (Nat.le_refl _) (.int .i64 B1))
  clear hHeld
  have r6 := hid (RBox.drew r5.out)
  have q6 := hid (RBox.drew q5.out)
  have bel6 := hid (Below.drew bel5.out)
  clear r5 q5 bel5 r2 q2 bel2
  try simp only [World.setCell_drew] at r6 q6 bel6 ⊢
  generalize (w3.setCell ⟨w.heap.size, 2, none⟩ (.int .i64 B1)).drew = w5 at *
  clear c0 c1 c2 c3 fr0
  obtain ⟨c0, c1, c2, c3⟩ := RBox.box r6.out
  obtain ⟨g0, g1, g2, g3⟩ := RBox.box q6.out
  have fr5 := RBox.frozen r6.out
  have fq5 := RBox.frozen q6.out
  by_cases k1 : (lo : Int) < B1
  ·by_cases k2 : (U : Int) < hi
   ·have P5 := hid (RBox.box (((q6.out.other ⟨w.heap.size, 0, none⟩ (.int .i64 B1) (show w.heap.size + 1 ≠ w.heap.size by omega)).other ⟨w.heap.size, 1, none⟩ (.int .i64 U) (show w.heap.size + 1 ≠ w.heap.size by omega)).st4 (x' := B1) (y' := U) (z' := B1) (u' := O1)))
    have B5 := hid (st4_below (w.heap.size + 1) B1 U B1 O1 ((bel6.out.setCell (p := ⟨w.heap.size, 0, none⟩) (Nat.le_refl _) (.int .i64 B1)).setCell (p := ⟨w.heap.size, 1, none⟩) (Nat.le_refl _) (.int .i64 U)) (by omega))
    go_wp2_with fail
    obtain ⟨p0, p1, p2, p3⟩ := P5.out
    unfold st4 at p0 p1 p2 p3
    refine bodyPost_ret (v := rv B1 U B1 O1) (by simp [results, Try.results45, go_sem, p0, p1, p2, p3]) rfl ⟨?_, B5.out⟩
    rw [show (max lo B1 : Nat) = B1 by omega, show (min hi U : Nat) = U by omega]
   ·have P5 := hid (RBox.box ((q6.out.other ⟨w.heap.size, 0, none⟩ (.int .i64 B1) (show w.heap.size + 1 ≠ w.heap.size by omega)).st4 (x' := B1) (y' := hi) (z' := B1) (u' := O1)))
    have B5 := hid (st4_below (w.heap.size + 1) B1 hi B1 O1 (bel6.out.setCell (p := ⟨w.heap.size, 0, none⟩) (Nat.le_refl _) (.int .i64 B1)) (by omega))
    go_wp2_with fail
    obtain ⟨p0, p1, p2, p3⟩ := P5.out
    unfold st4 at p0 p1 p2 p3
    refine bodyPost_ret (v := rv B1 hi B1 O1) (by simp [results, Try.results45, go_sem, p0, p1, p2, p3]) rfl ⟨?_, B5.out⟩
    rw [show (max lo B1 : Nat) = B1 by omega, show (min hi U : Nat) = hi by omega]
  ·by_cases k2 : (U : Int) < hi
   ·have P5 := hid (RBox.box ((q6.out.other ⟨w.heap.size, 1, none⟩ (.int .i64 U) (show w.heap.size + 1 ≠ w.heap.size by omega)).st4 (x' := lo) (y' := U) (z' := B1) (u' := O1)))
    have B5 := hid (st4_below (w.heap.size + 1) lo U B1 O1 (bel6.out.setCell (p := ⟨w.heap.size, 1, none⟩) (Nat.le_refl _) (.int .i64 U)) (by omega))
    go_wp2_with fail
    obtain ⟨p0, p1, p2, p3⟩ := P5.out
    unfold st4 at p0 p1 p2 p3
    refine bodyPost_ret (v := rv lo U B1 O1) (by simp [results, Try.results45, go_sem, p0, p1, p2, p3]) rfl ⟨?_, B5.out⟩
    rw [show (max lo B1 : Nat) = lo by omega, show (min hi U : Nat) = U by omega]
   ·have P5 := hid (RBox.box ((q6.out).st4 (x' := lo) (y' := hi) (z' := B1) (u' := O1)))
    have B5 := hid (st4_below (w.heap.size + 1) lo hi B1 O1 (bel6.out) (by omega))
    go_wp2_with fail
    obtain ⟨p0, p1, p2, p3⟩ := P5.out
    unfold st4 at p0 p1 p2 p3
    refine bodyPost_ret (v := rv lo hi B1 O1) (by simp [results, Try.results45, go_sem, p0, p1, p2, p3]) rfl ⟨?_, B5.out⟩
    rw [show (max lo B1 : Nat) = lo by omega, show (min hi U : Nat) = hi by omega]
 refine AllReadyH.cons (o := ?oi12) ?hi12 (fun K hK => ?st12) ?mo12
 case hi12 => rw [List.getElem?_toArray]; rfl
 case st12 =>
  go_simp
  refine (c_l2Top _).mono ?_
  rintro e wt ⟨rfl, hwt⟩
  rw [hwt]; clear hwt wt
  go_wp2_with fail
  refine hK.out _ _ ?hS12 (fun hHeld => ?re12)
  case hS12 => first | (simp [*]; done) | exact (RBox.box (r2.out.set2 (B1 : Int))).c3
  clear hK K
  try simp only [Act.put, sA, sB, sC]
  refine tkH 7 5 hHeld ?_
  try simp only [Act.put, sA, sB, sC]
  refine wpAnyH_ready (fuel := 4) (rs := [1]) (by kernel_rfl) (by simp) ?_
  refine AllReadyH.cons (by rw [List.getElem?_toArray]; rfl) (fun K hK => ?_) AllReadyH.nil
  go_simp
  refine hK.out _ _ ?hS14 (fun hHeld => ?re14)
  case hS14 => first | (simp [*]; done) | exact (RBox.box (r2.out.set2 (B1 : Int))).c3
  clear hK K
  try simp only [Act.put, sA, sB, sC]
  refine tkH 3 3 hHeld ?_
  try simp only [Act.put, sA, sB, sC]
  refine tkH 8 2 hHeld ?_
  try simp only [Act.put, sA, sB, sC]
  refine tkH 9 1 hHeld ?_
  try simp only [Act.put, sA, sB, sC]
  refine wpAnyH_ready (fuel := 0) (rs := [10]) (by kernel_rfl) (by simp) ?_
  refine AllReadyH.cons (by rw [List.getElem?_toArray]; rfl) (fun K hK => ?_) AllReadyH.nil
  go_simp
  refine hK.out _ _ ?hS18 (fun hHeld => ?re18)
  case hS18 => first | (simp [*]; done) | exact (RBox.box (r2.out.set2 (B1 : Int))).c3
  clear hK K
  try simp only [Act.put, sA, sB, sC]
  refine wpAnyH_done (by kernel_rfl) ?_ _
  have r5 := hid (r2.out.set2 (B1 : Int))
  have q5 := hid (q2.out.other ⟨w.heap.size, 2, none⟩ (.int .i64 B1) (show w.heap.size + 1 ≠ w.heap.size by omega))
  have bel5 := hid (bel2.out.setCell (p := ⟨w.heap.size, 2, none⟩) (Nat.le_refl _) (.int .i64 B1))
  clear hHeld
  have r6 := hid (RBox.drew r5.out)
  have q6 := hid (RBox.drew q5.out)
  have bel6 := hid (Below.drew bel5.out)
  clear r5 q5 bel5 r2 q2 bel2
  try simp only [World.setCell_drew] at r6 q6 bel6 ⊢
  generalize (w3.setCell ⟨w.heap.size, 2, none⟩ (.int .i64 B1)).drew = w5 at *
  clear c0 c1 c2 c3 fr0
  obtain ⟨c0, c1, c2, c3⟩ := RBox.box r6.out
  obtain ⟨g0, g1, g2, g3⟩ := RBox.box q6.out
  have fr5 := RBox.frozen r6.out
  have fq5 := RBox.frozen q6.out
  by_cases k1 : (lo : Int) < B1
  ·by_cases k2 : (U : Int) < hi
   ·have P5 := hid (RBox.box (((q6.out.other ⟨w.heap.size, 0, none⟩ (.int .i64 B1) (show w.heap.size + 1 ≠ w.heap.size by omega)).other ⟨w.heap.size, 1, none⟩ (.int .i64 U) (show w.heap.size + 1 ≠ w.heap.size by omega)).st4 (x' := B1) (y' := U) (z' := B1) (u' := O1)))
    have B5 := hid (st4_below (w.heap.size + 1) B1 U B1 O1 ((bel6.out.setCell (p := ⟨w.heap.size, 0, none⟩) (Nat.le_refl _) (.int .i64 B1)).setCell (p := ⟨w.heap.size, 1, none⟩) (Nat.le_refl _) (.int .i64 U)) (by omega))
    go_wp2_with fail
    obtain ⟨p0, p1, p2, p3⟩ := P5.out
    unfold st4 at p0 p1 p2 p3
    refine bodyPost_ret (v := rv B1 U B1 O1) (by simp [results, Try.results45, go_sem, p0, p1, p2, p3]) rfl ⟨?_, B5.out⟩
    rw [show (max lo B1 : Nat) = B1 by omega, show (min hi U : Nat) = U by omega]
   ·have P5 := hid (RBox.box ((q6.out.other ⟨w.heap.size, 0, none⟩ (.int .i64 B1) (show w.heap.size + 1 ≠ w.heap.size by omega)).st4 (x' := B1) (y' := hi) (z' := B1) (u' := O1)))
    have B5 := hid (st4_below (w.heap.size + 1) B1 hi B1 O1 (bel6.out.setCell (p := ⟨w.heap.size, 0, none⟩) (Nat.le_refl _) (.int .i64 B1)) (by omega))
    go_wp2_with fail
    obtain ⟨p0, p1, p2, p3⟩ := P5.out
    unfold st4 at p0 p1 p2 p3
    refine bodyPost_ret (v := rv B1 hi B1 O1) (by simp [results, Try.results45, go_sem, p0, p1, p2, p3]) rfl ⟨?_, B5.out⟩
    rw [show (max lo B1 : Nat) = B1 by omega, show (min hi U : Nat) = hi by omega]
  ·by_cases k2 : (U : Int) < hi
   ·have P5 := hid (RBox.box ((q6.out.other ⟨w.heap.size, 1, none⟩ (.int .i64 U) (show w.heap.size + 1 ≠ w.heap.size by omega)).st4 (x' := lo) (y' := U) (z' := B1) (u' := O1)))
    have B5 := hid (st4_below (w.heap.size + 1) lo U B1 O1 (bel6.out.setCell (p := ⟨w.heap.size, 1, none⟩) (Nat.le_refl _) (.int .i64 U)) (by omega))
    go_wp2_with fail
    obtain ⟨p0, p1, p2, p3⟩ := P5.out
    unfold st4 at p0 p1 p2 p3
    refine bodyPost_ret (v := rv lo U B1 O1) (by simp [results, Try.results45, go_sem, p0, p1, p2, p3]) rfl ⟨?_, B5.out⟩
    rw [show (max lo B1 : Nat) = lo by omega, show (min hi U : Nat) = U by omega]
   ·have P5 := hid (RBox.box ((q6.out).st4 (x' := lo) (y' := hi) (z' := B1) (u' := O1)))
    have B5 := hid (st4_below (w.heap.size + 1) lo hi B1 O1 (bel6.out) (by omega))
    go_wp2_with fail
    obtain ⟨p0, p1, p2, p3⟩ := P5.out
    unfold st4 at p0 p1 p2 p3
    refine bodyPost_ret (v := rv lo hi B1 O1) (by simp [results, Try.results45, go_sem, p0, p1, p2, p3]) rfl ⟨?_, B5.out⟩
    rw [show (max lo B1 : Nat) = lo by omega, show (min hi U : Nat) = hi by omega]
 exact AllReadyH.nil
end Go.Proofs.Ytkaekiodjjhjkaa.H
namespace Go.Proofs.Ytkaekiodjjhjkaa.H
open Go.RowKit
theorem newQ (w : World) (x y z u : Int) : RBox ((w.alloc (.cells #[.int .i64 x, .int .i64 y, .int .i64 z, .int .i64 u] 56)).alloc (.cells #[.int .i64 0, .int .i64 0, .int .i64 0, .int .i64 0] 56)) (w.heap.size + 1) 0 0 0 0 := by
 have h0 := RBox.new (w.alloc (.cells #[.int .i64 x, .int .i64 y, .int .i64 z, .int .i64 u] 56)) 0 0 0 0
 simp only [World.size_alloc] at h0
 exact h0
theorem newB (w : World) (o1 o2 : Obj) : Below w.heap.size w ((w.alloc o1).alloc o2) := ((Below.refl _ _).alloc (Nat.le_refl _) _).alloc (by simp) _
theorem c_RangeTidy_no (lo hi b o : Int) (w : World) (hS : Hid (∀ w, Calls Try.prog 43 #[rv lo hi b o] w fun e w' => e = .returned (.bool false) ∧ Below w.heap.size w w')) :
 Calls Try.prog 40 #[rv lo hi b o] w fun e w' => e = .returned (rv 1 0 0 0) ∧ Below w.heap.size w w' := by
 go_enter Try.func40, Try.ntmps40
 go_wp2_with fail
 refine (hS.out _).mono ?_
 rintro e w1 ⟨rfl, hb1⟩
 have q1 := (newQ w lo hi b o).below hb1
 have bel1 := (newB w _ _).trans (hb1.mono (by simp; omega))
 have Q1 := hid q1
 have BEL1 := hid bel1
 clear q1 bel1 hb1
 go_wp2_with fail
 refine (c_noRange _).mono ?_
 rintro e w2 ⟨rfl, hb2⟩
 have q2 := Q1.out.below hb2
 have bel2 := BEL1.out.trans (hb2.mono BEL1.out.size)
 obtain ⟨g0, g1, g2, g3⟩ := RBox.box q2
 have fq := RBox.frozen q2
 have P5 := hid (RBox.box (q2.st4 (x' := 1) (y' := 0) (z' := 0) (u' := 0)))
 have B5 := hid (st4_below (w.heap.size + 1) 1 0 0 0 bel2 (by omega))
 clear q2 bel2 hb2 Q1 BEL1
 go_wp2_with fail
 obtain ⟨p0, p1, p2, p3⟩ := P5.out
 unfold st4 at p0 p1 p2 p3
 exact bodyPost_ret (v := rv 1 0 0 0) (by simp [results, Try.results40, go_sem, p0, p1, p2, p3]) rfl ⟨rfl, B5.out⟩
end Go.Proofs.Ytkaekiodjjhjkaa.H
namespace Go.Proofs.Ytkaekiodjjhjkaa.H
open Go.RowKit
theorem Box4.alloc {k : Nat} {lo hi b o : Int} {w1 : World} (h : Box4 k lo hi b o w1) (hk : k < w1.heap.size) (obj : Obj) : Box4 k lo hi b o (w1.alloc obj) :=
 h.below ((Below.refl _ _).alloc (Nat.le_refl _) _) hk
end Go.Proofs.Ytkaekiodjjhjkaa.H
namespace Go.Proofs.Ytkaekiodjjhjkaa.H
open Go.RowKit
abbrev cellsR4 (x y z u : Int) : Obj := .cells #[.int .i64 x, .int .i64 y, .int .i64 z, .int .i64 u] 56
abbrev two (w : World) (a b c d e f g h : Int) : World := ((w.alloc (cellsR4 a b c d)).alloc (cellsR4 e f g h)).alloc (cellsR4 0 0 0 0)
theorem twoA (w : World) (a b c d e f g h : Int) : RBox (two w a b c d e f g h) w.heap.size a b c d := ((RBox.new w a b c d).alloc _).alloc _
theorem twoB (w : World) (a b c d e f g h : Int) : RBox (two w a b c d e f g h) (w.heap.size + 1) e f g h := by
 have h0 := (RBox.new (w.alloc (cellsR4 a b c d)) e f g h).alloc (cellsR4 0 0 0 0)
 simp only [World.size_alloc] at h0
 exact h0
theorem twoQ (w : World) (a b c d e f g h : Int) : RBox (two w a b c d e f g h) (w.heap.size + 2) 0 0 0 0 := by
 have h0 := RBox.new ((w.alloc (cellsR4 a b c d)).alloc (cellsR4 e f g h)) 0 0 0 0
 simp only [World.size_alloc] at h0
 exact h0
theorem twoW (w : World) (a b c d e f g h : Int) : Below w.heap.size w (two w a b c d e f g h) := (newB w _ _).alloc (by simp; omega) _
end Go.Proofs.Ytkaekiodjjhjkaa.H
namespace Go.Proofs.Ytkaekiodjjhjkaa.H
open Go.RowKit
def someI (lo hi b o : Int) : Bool := okB lo hi b o && someN lo.toNat hi.toNat b.toNat o.toNat
theorem someI_nat {L H B O : Nat} (h : OkN L H B O) : someI L H B O = someN L H B O := by
 rw [someI, okB_of h]; simp
theorem someI_bad {lo hi b o : Int} (h : okB lo hi b o = false) : someI lo hi b o = false := by simp [someI, h]
theorem someI_yes {lo hi b o : Int} (h : someI lo hi b o = true) : ∃ L H B O : Nat, lo = L ∧ hi = H ∧ b = B ∧ o = O ∧ OkN L H B O ∧ someN L H B O = true := by
 simp [someI] at h
 obtain ⟨L, H, B, O, rfl, rfl, rfl, rfl, k⟩ := ok_nat h.1
 exact ⟨L, H, B, O, rfl, rfl, rfl, rfl, k, by simpa using h.2⟩
theorem c_RangeSomeI (lo hi b o : Int) (w : World) :
 Calls Try.prog 43 #[rv lo hi b o] w fun e w' => e = .returned (.bool (someI lo hi b o)) ∧ Below w.heap.size w w' := by
 cases hok : okB lo hi b o
 ·rw [someI_bad hok]; exact c_RangeSome_bad lo hi b o w hok
 ·obtain ⟨L, H, B, O, rfl, rfl, rfl, rfl, h⟩ := ok_nat hok
  rw [someI_nat h]; exact c_RangeSome L H B O w h
end Go.Proofs.Ytkaekiodjjhjkaa.H
namespace Go.Proofs.Ytkaekiodjjhjkaa.H
open Go.RowKit
end Go.Proofs.Ytkaekiodjjhjkaa.H
namespace Go.Proofs.Ytkaekiodjjhjkaa.W
open Go.RowKit
theorem inR_place {a n : Int} {x y : Bool} (h1 : decide (a ≥ 0) = x) (h2 : x = true → decide (a < n) = y) (h3 : x = false → y = false) : y = inR a 0 (n - 1) := by
 subst h1
 unfold inR
 cases h : decide (a ≥ 0)
 ·rw [h3 h]; rfl
 ·rw [← h2 h, Bool.true_and]
  by_cases hq : a < n
  ·rw [decide_eq_true hq, decide_eq_true (by omega)]
  ·rw [decide_eq_false hq, decide_eq_false (by omega)]
theorem c_place (a n : Int) (w : World)  :
 Calls Try.prog 49 #[.int .i64 (a), .int .i64 (n)] w fun e w' => e = .returned (.bool (inR a 0 (n - 1))) ∧ Below w.heap.size w w' := by
 refine calls_begin Try.func49 rfl 12 rfl (Nat.le_of_ble_eq_true rfl) [(0, .int .i64 (a)), (1, .int .i64 (n))] ⟨rfl, rfl, trivial⟩ (fun a0 he0 m0 => ?_)
 refine wp_seqR ?_
 refine wb 1 he0 [(4, zF)] fun a1 he1 => ?_
 refine wl_end (wp_seqR ?_)
 refine wb 1 he1 [(5, zI a)] fun a2 he2 => ?_
 cases hd1 : (decide (a ≥ 0))
 ·
  have hd1p := of_decide_eq_false hd1
  refine wr [1, 0, 0, 0, 0, 0, 0] he2 m0 [(4, zF), (11, zF), (10, zU), (9, zU), (8, zU), (7, zF), (6, zF)] [] (vb (hd1) vl0) fun a3 w1 he3 m1 => ?_
  refine wl_end (wp_ret ?_)
  exact bodyPost_ret (results_tmp he3 _ Try.results49 (.bool false) rfl) he3.defers ⟨(by congr 2; exact inR_place hd1 (fun h => by first | exact hd2 | cases h) (fun h => by first | rfl | cases h)), m1.below⟩
 ·
  have hd1p := of_decide_eq_true hd1
  refine wr [1, 0, 0, 0] he2 m0 [(9, zI n), (8, zI a), (7, zT), (6, zT)] [] (vb (hd1) vl0) fun a3 w1 he3 m1 => ?_
  cases hd2 : (decide (a < n))
  ·
   have hd2p := of_decide_eq_false hd2
   refine wr [1, 0, 0] he3 m1 [(4, zF), (11, zF), (10, zF)] [] (vb (hd2) vl0) fun a4 w2 he4 m2 => ?_
   refine wl_end (wp_ret ?_)
   exact bodyPost_ret (results_tmp he4 _ Try.results49 (.bool false) rfl) he4.defers ⟨(by congr 2; exact inR_place hd1 (fun h => by first | exact hd2 | cases h) (fun h => by first | rfl | cases h)), m2.below⟩
  ·
   have hd2p := of_decide_eq_true hd2
   refine wr [1, 0, 0] he3 m1 [(4, zT), (11, zT), (10, zT)] [] (vb (hd2) vl0) fun a4 w2 he4 m2 => ?_
   refine wl_end (wp_ret ?_)
   exact bodyPost_ret (results_tmp he4 _ Try.results49 (.bool true) rfl) he4.defers ⟨(by congr 2; exact inR_place hd1 (fun h => by first | exact hd2 | cases h) (fun h => by first | rfl | cases h)), m2.below⟩
theorem c_asks (a : Int) (w : World)  :
 Calls Try.prog 42 #[.int .i64 (a)] w fun e w' => e = .returned (.bool (inR a 12 15)) ∧ Below w.heap.size w w' := by
 refine calls_begin Try.func42 rfl 9 rfl (Nat.le_of_ble_eq_true rfl) [(0, .int .i64 (a))] ⟨rfl, trivial⟩ (fun a0 he0 m0 => ?_)
 refine wp_seqR ?_
 refine wb 1 he0 [(2, zF)] fun a1 he1 => ?_
 refine wl_end (wp_seqR ?_)
 refine wb 1 he1 [(3, zI a)] fun a2 he2 => ?_
 cases hd1 : (decide (a ≥ 12))
 ·
  have hd1p := of_decide_eq_false hd1
  refine wr [1, 0, 0, 0, 0, 0] he2 m0 [(2, zF), (8, zF), (7, zU), (6, zU), (5, zF), (4, zF)] [] (vb (hd1) vl0) fun a3 w1 he3 m1 => ?_
  refine wl_end (wp_ret ?_)
  exact bodyPost_ret (results_tmp he3 _ Try.results42 (.bool false) rfl) he3.defers ⟨(by simp only [inR, hd1, Bool.false_and, Bool.true_and]), m1.below⟩
 ·
  have hd1p := of_decide_eq_true hd1
  refine wr [1, 0, 0] he2 m0 [(6, zI a), (5, zT), (4, zT)] [] (vb (hd1) vl0) fun a3 w1 he3 m1 => ?_
  cases hd2 : (decide (a ≤ 15))
  ·
   have hd2p := of_decide_eq_false hd2
   refine wr [1, 0, 0] he3 m1 [(2, zF), (8, zF), (7, zF)] [] (vb (hd2) vl0) fun a4 w2 he4 m2 => ?_
   refine wl_end (wp_ret ?_)
   exact bodyPost_ret (results_tmp he4 _ Try.results42 (.bool false) rfl) he4.defers ⟨(by simp only [inR, hd1, hd2, Bool.false_and, Bool.true_and]), m2.below⟩
  ·
   have hd2p := of_decide_eq_true hd2
   refine wr [1, 0, 0] he3 m1 [(2, zT), (8, zT), (7, zT)] [] (vb (hd2) vl0) fun a4 w2 he4 m2 => ?_
   refine wl_end (wp_ret ?_)
   exact bodyPost_ret (results_tmp he4 _ Try.results42 (.bool true) rfl) he4.defers ⟨(by simp only [inR, hd1, hd2, Bool.false_and, Bool.true_and]), m2.below⟩
theorem c_isnum (a : Int) (w : World)  :
 Calls Try.prog 21 #[.int .i64 (a)] w fun e w' => e = .returned (.bool (inR a 0 4294967295)) ∧ Below w.heap.size w w' := by
 refine calls_begin Try.func21 rfl 9 rfl (Nat.le_of_ble_eq_true rfl) [(0, .int .i64 (a))] ⟨rfl, trivial⟩ (fun a0 he0 m0 => ?_)
 refine wp_seqR ?_
 refine wb 1 he0 [(2, zF)] fun a1 he1 => ?_
 refine wl_end (wp_seqR ?_)
 refine wb 1 he1 [(3, zI a)] fun a2 he2 => ?_
 cases hd1 : (decide (a ≥ 0))
 ·
  have hd1p := of_decide_eq_false hd1
  refine wr [1, 0, 0, 0, 0, 0] he2 m0 [(2, zF), (8, zF), (7, zU), (6, zU), (5, zF), (4, zF)] [] (vb (hd1) vl0) fun a3 w1 he3 m1 => ?_
  refine wl_end (wp_ret ?_)
  exact bodyPost_ret (results_tmp he3 _ Try.results21 (.bool false) rfl) he3.defers ⟨(by simp only [inR, hd1, Bool.false_and, Bool.true_and]), m1.below⟩
 ·
  have hd1p := of_decide_eq_true hd1
  refine wr [1, 0, 0] he2 m0 [(6, zI a), (5, zT), (4, zT)] [] (vb (hd1) vl0) fun a3 w1 he3 m1 => ?_
  cases hd2 : (decide (a ≤ 4294967295))
  ·
   have hd2p := of_decide_eq_false hd2
   refine wr [1, 0, 0] he3 m1 [(2, zF), (8, zF), (7, zF)] [] (vb (hd2) vl0) fun a4 w2 he4 m2 => ?_
   refine wl_end (wp_ret ?_)
   exact bodyPost_ret (results_tmp he4 _ Try.results21 (.bool false) rfl) he4.defers ⟨(by simp only [inR, hd1, hd2, Bool.false_and, Bool.true_and]), m2.below⟩
  ·
   have hd2p := of_decide_eq_true hd2
   refine wr [1, 0, 0] he3 m1 [(2, zT), (8, zT), (7, zT)] [] (vb (hd2) vl0) fun a4 w2 he4 m2 => ?_
   refine wl_end (wp_ret ?_)
   exact bodyPost_ret (results_tmp he4 _ Try.results21 (.bool true) rfl) he4.defers ⟨(by simp only [inR, hd1, hd2, Bool.false_and, Bool.true_and]), m2.below⟩
theorem c_rOk (r : Ru) (w : World)  :
 Calls Try.prog 27 #[.agg (Ru.arr (r))] w fun e w' => e = .returned (.bool (ruOk r)) ∧ Below w.heap.size w w' := by
 refine calls_begin Try.func27 rfl 41 rfl (Nat.le_of_ble_eq_true rfl) [(0, .agg (Ru.arr (r)))] ⟨rfl, trivial⟩ (fun a0 he0 m0 => ?_)
 have hnum : inR r.num 0 255 = (decide (r.num ≥ 0) && decide (r.num ≤ 255)) := rfl
 refine wp_seqR ?_
 refine kx he0 m0 1 (.agg (Ru.arr (r))) (Ru.arr (r)) 30 fun a1 w1 b1 he1 m1 => ?_
 refine wb 1 he1 [(2, zF)] fun a2 he2 => ?_
 refine wl_end (wp_seqR ?_)
 refine wr [0, 3] he2 m1 [(4, zI ((r).at_)), (3, zP b1 0)] [b1] vl0 fun a3 w2 he3 m2 => ?_
 cases hd1 : (inR ((r).at_) 0 11)
 ·
  refine kc he3 m2 (v := zF) (callsV (congrArg Value.bool (hd1)) (c_place ((r).at_) 12 _)) fun a4 w3 he4 m3 => ?_
  refine wb 36 he4 [(2, zF), (40, zF), (39, zU), (38, zU), (37, zU), (36, zU), (35, zU), (34, zU), (33, zU), (32, zU), (31, zF), (30, zF), (29, zU), (28, zU), (27, zU), (26, zF), (25, zF), (24, zU), (23, zU), (22, zU), (21, zF), (20, zF), (19, zU), (18, zU), (17, zU), (16, zF), (15, zF), (14, zU), (13, zU), (12, zU), (11, zF), (10, zF), (9, zU), (8, zU), (7, zU), (6, zF)] fun a5 he5 => ?_
  refine wl_end (wp_ret ?_)
  exact bodyPost_ret (results_tmp he5 _ Try.results27 (.bool false) rfl) he5.defers ⟨(by simp [ruOk, hnum, hd1]), m3.below⟩
 ·
  refine kc he3 m2 (v := zT) (callsV (congrArg Value.bool (hd1)) (c_place ((r).at_) 12 _)) fun a4 w3 he4 m3 => ?_
  refine wr [0, 0, 3] he4 m3 [(8, zI ((r).op)), (7, zP b1 1), (6, zT)] [b1] vl0 fun a5 w4 he5 m4 => ?_
  cases hd2 : (inR ((r).op) 12 15)
  ·
   refine kc he5 m4 (v := zF) (callsV (congrArg Value.bool (hd2)) (c_asks _ _)) fun a6 w5 he6 m5 => ?_
   refine wb 32 he6 [(2, zF), (40, zF), (39, zU), (38, zU), (37, zU), (36, zU), (35, zU), (34, zU), (33, zU), (32, zU), (31, zF), (30, zF), (29, zU), (28, zU), (27, zU), (26, zF), (25, zF), (24, zU), (23, zU), (22, zU), (21, zF), (20, zF), (19, zU), (18, zU), (17, zU), (16, zF), (15, zF), (14, zU), (13, zU), (12, zU), (11, zF), (10, zF)] fun a7 he7 => ?_
   refine wl_end (wp_ret ?_)
   exact bodyPost_ret (results_tmp he7 _ Try.results27 (.bool false) rfl) he7.defers ⟨(by simp [ruOk, hnum, hd1, hd2]), m5.below⟩
  ·
   refine kc he5 m4 (v := zT) (callsV (congrArg Value.bool (hd2)) (c_asks _ _)) fun a6 w5 he6 m5 => ?_
   refine wr [0, 0, 0, 3] he6 m5 [(13, zI ((r).num)), (12, zP b1 2), (11, zT), (10, zT)] [b1] vl0 fun a7 w6 he7 m6 => ?_
   cases hd3 : (decide ((r).num ≥ 0))
   ·
    have hd3p := of_decide_eq_false hd3
    refine wr [1, 0, 0, 0, 0, 0, 0, 0, 0, 0, 0, 0, 0, 0, 0, 0, 0, 0, 0, 0, 0, 0, 0, 0, 0, 0, 0, 0] he7 m6 [(2, zF), (40, zF), (39, zU), (38, zU), (37, zU), (36, zU), (35, zU), (34, zU), (33, zU), (32, zU), (31, zF), (30, zF), (29, zU), (28, zU), (27, zU), (26, zF), (25, zF), (24, zU), (23, zU), (22, zU), (21, zF), (20, zF), (19, zU), (18, zU), (17, zU), (16, zF), (15, zF), (14, zF)] [] (vb (hd3) vl0) fun a8 w7 he8 m7 => ?_
    refine wl_end (wp_ret ?_)
    exact bodyPost_ret (results_tmp he8 _ Try.results27 (.bool false) rfl) he8.defers ⟨(by simp [ruOk, hnum, hd1, hd2, hd3]), m7.below⟩
   ·
    have hd3p := of_decide_eq_true hd3
    refine wr [1, 0, 0, 0, 3] he7 m6 [(18, zI ((r).num)), (17, zP b1 2), (16, zT), (15, zT), (14, zT)] [b1] (vb (hd3) vl0) fun a8 w7 he8 m7 => ?_
    cases hd4 : (decide ((r).num ≤ 255))
    ·
     have hd4p := of_decide_eq_false hd4
     refine wr [1, 0, 0, 0, 0, 0, 0, 0, 0, 0, 0, 0, 0, 0, 0, 0, 0, 0, 0, 0, 0, 0, 0] he8 m7 [(2, zF), (40, zF), (39, zU), (38, zU), (37, zU), (36, zU), (35, zU), (34, zU), (33, zU), (32, zU), (31, zF), (30, zF), (29, zU), (28, zU), (27, zU), (26, zF), (25, zF), (24, zU), (23, zU), (22, zU), (21, zF), (20, zF), (19, zF)] [] (vb (hd4) vl0) fun a9 w8 he9 m8 => ?_
     refine wl_end (wp_ret ?_)
     exact bodyPost_ret (results_tmp he9 _ Try.results27 (.bool false) rfl) he9.defers ⟨(by simp [ruOk, hnum, hd1, hd2, hd3, hd4]), m8.below⟩
    ·
     have hd4p := of_decide_eq_true hd4
     refine wr [1, 0, 0, 0, 3] he8 m7 [(23, zI ((r).ver)), (22, zP b1 3), (21, zT), (20, zT), (19, zT)] [b1] (vb (hd4) vl0) fun a9 w8 he9 m8 => ?_
     cases hd5 : (inR ((r).ver) 0 2)
     ·
      refine kc he9 m8 (v := zF) (callsV (congrArg Value.bool (hd5)) (c_place ((r).ver) 3 _)) fun a10 w9 he10 m9 => ?_
      refine wb 17 he10 [(2, zF), (40, zF), (39, zU), (38, zU), (37, zU), (36, zU), (35, zU), (34, zU), (33, zU), (32, zU), (31, zF), (30, zF), (29, zU), (28, zU), (27, zU), (26, zF), (25, zF)] fun a11 he11 => ?_
      refine wl_end (wp_ret ?_)
      exact bodyPost_ret (results_tmp he11 _ Try.results27 (.bool false) rfl) he11.defers ⟨(by simp [ruOk, hnum, hd1, hd2, hd3, hd4, hd5]), m9.below⟩
     ·
      refine kc he9 m8 (v := zT) (callsV (congrArg Value.bool (hd5)) (c_place ((r).ver) 3 _)) fun a10 w9 he10 m9 => ?_
      refine wr [0, 0, 0, 3] he10 m9 [(28, zI ((r).key)), (27, zP b1 4), (26, zT), (25, zT)] [b1] vl0 fun a11 w10 he11 m10 => ?_
      cases hd6 : (inR ((r).key) 0 4294967295)
      ·
       refine kc he11 m10 (v := zF) (callsV (congrArg Value.bool (hd6)) (c_isnum _ _)) fun a12 w11 he12 m11 => ?_
       refine wb 12 he12 [(2, zF), (40, zF), (39, zU), (38, zU), (37, zU), (36, zU), (35, zU), (34, zU), (33, zU), (32, zU), (31, zF), (30, zF)] fun a13 he13 => ?_
       refine wl_end (wp_ret ?_)
       exact bodyPost_ret (results_tmp he13 _ Try.results27 (.bool false) rfl) he13.defers ⟨(by simp [ruOk, hnum, hd1, hd2, hd3, hd4, hd5, hd6]), m11.below⟩
      ·
       refine kc he11 m10 (v := zT) (callsV (congrArg Value.bool (hd6)) (c_isnum _ _)) fun a12 w11 he12 m11 => ?_
       refine wr [0, 0, 0, 3] he12 m11 [(33, zI ((r).key)), (32, zP b1 4), (31, zT), (30, zT)] [b1] vl0 fun a13 w12 he13 m12 => ?_
       cases hd7 : (((r).key == 0))
       ·
        have hd7p : (r).key ≠ 0 := by simpa using hd7
        refine wr [1, 0, 0, 3] he13 m12 [(37, zI ((r).ver)), (36, zP b1 3), (35, zF), (34, zF)] [b1] (vb (hd7) vl0) fun a14 w13 he14 m13 => ?_
        cases hd8 : (((r).ver == 2))
        ·
         have hd8p : (r).ver ≠ 2 := by simpa using hd8
         refine wr [1, 0, 0, 0] he14 m13 [(2, zF), (40, zF), (39, zF), (38, zF)] [] (vb (hd8) vl0) fun a15 w14 he15 m14 => ?_
         refine wl_end (wp_ret ?_)
         exact bodyPost_ret (results_tmp he15 _ Try.results27 (.bool false) rfl) he15.defers ⟨(by simp [ruOk, hnum, hd1, hd2, hd3, hd4, hd5, hd6, hd7, hd8]), m14.below⟩
        ·
         have hd8p : (r).ver = 2 := by simpa using hd8
         refine wr [1, 0, 0, 0] he14 m13 [(2, zT), (40, zT), (39, zT), (38, zT)] [] (vb (hd8) vl0) fun a15 w14 he15 m14 => ?_
         refine wl_end (wp_ret ?_)
         exact bodyPost_ret (results_tmp he15 _ Try.results27 (.bool true) rfl) he15.defers ⟨(by simp [ruOk, hnum, hd1, hd2, hd3, hd4, hd5, hd6, hd7, hd8]), m14.below⟩
       ·
        have hd7p : (r).key = 0 := by simpa using hd7
        refine wr [1, 0, 0, 0, 0, 0, 0, 0] he13 m12 [(2, zT), (40, zT), (39, zT), (38, zU), (37, zU), (36, zU), (35, zT), (34, zT)] [] (vb (hd7) vl0) fun a14 w13 he14 m13 => ?_
        refine wl_end (wp_ret ?_)
        exact bodyPost_ret (results_tmp he14 _ Try.results27 (.bool true) rfl) he14.defers ⟨(by simp [ruOk, hnum, hd1, hd2, hd3, hd4, hd5, hd6, hd7]), m13.below⟩
theorem c_Oks (f : Nat → Ru) (b p n c : Nat) (w : World) (hR : RowAt w b p n 5 fun i => (f i).arr) (hn : n ≤ 1048576) :
 Calls Try.prog 13 #[.slice (some ⟨b, p, none⟩) (n) (c)] w fun e w' => e = .returned (.bool (ruOks f n)) ∧ Below w.heap.size w w' := by
 refine calls_begin Try.func13 rfl 18 rfl (Nat.le_of_ble_eq_true rfl) [(0, .slice (some ⟨b, p, none⟩) (n) (c))] ⟨rfl, trivial⟩ (fun a0 he0 m0 => ?_)
 refine wp_seqR ?_
 refine wb 1 he0 [(2, zF)] fun a1 he1 => ?_
 refine wl_end (wp_seq (wp_seqR ?_))
 refine wb 1 he1 [(5, .slice (some ⟨b, p, none⟩) (n) (c))] fun a2 he2 => ?_
 refine kv he2 (zN n) (rn_builtin _ _ _ rfl #[.slice (some ⟨b, p, none⟩) (n) (c)] (map1 (he2.tmp 5 _ rfl)) (.int .i64 (((n : Nat) : Int))) (by kernel_rfl)) fun a3 he3 => ?_
 refine wb 1 he3 [(7, zI 0)] fun a4 he4 => ?_
 refine wl_end (wp_block ?_)
 refine wp_loopN (fun mz az wz => ∃ (i : Nat), mz = n - (i) ∧ (i ≤ n ∧ ∀ j, j < i → ruOk (f j) = true) ∧ EV az 18 [] [(0, .slice (some ⟨b, p, none⟩) (n) (c)), (5, .slice (some ⟨b, p, none⟩) (n) (c)), (6, .int .i64 (((n : Nat) : Int))), (7, .int .i64 (((i : Nat) : Int)))] ∧ MM [] w wz []) ⟨_, 0, rfl, ⟨by omega, fun j hj => by omega⟩, he4.sb, m0.sub _ trivial⟩ ?_
 rintro mz1 a5 w1 ⟨i, rfl, hrel1, he5, m1⟩
 have hrel1a := hrel1.1
 refine wp_seqR ?_
 cases hd1 : (decide (((i : Nat) : Int) < ((n : Nat) : Int)))
 ·
  have hd1p := of_decide_eq_false hd1
  refine wr [1] he5 m1 [(8, zF)] [] (vb (hd1) vl0) fun a6 w2 he6 m2 => ?_
  refine wl_end (wp_seq (wp_condF (he := he6) rfl (wp_exit (exit_then (exit_then (exit_here (then_normal (wp_seqR ?_))))))))
  refine wb 1 he6 [(15, .slice (some ⟨b, p, none⟩) (n) (c))] fun a7 he7 => ?_
  refine kv he7 (zN n) (rn_builtin _ _ _ rfl #[.slice (some ⟨b, p, none⟩) (n) (c)] (map1 (he7.tmp 15 _ rfl)) (.int .i64 (((n : Nat) : Int))) (by kernel_rfl)) fun a8 he8 => ?_
  cases hd2 : (decide (((n : Nat) : Int) ≤ 6))
  ·
   have hd2p := of_decide_eq_false hd2
   refine wr [1, 0] he8 m2 [(2, zF), (17, zF)] [] (vb (hd2) vl0) fun a9 w3 he9 m3 => ?_
   refine wl_end (wp_ret ?_)
   exact bodyPost_ret (results_tmp he9 _ Try.results13 (.bool false) rfl) he9.defers ⟨(by first | rw [ruOks, ruAll_no (i := i) (by omega) (by assumption)]; rfl | rw [ruOks, ruAll_yes fun j hj => hrel1.2 j (by omega)]; simp; try omega), m3.below⟩
  ·
   have hd2p := of_decide_eq_true hd2
   refine wr [1, 0] he8 m2 [(2, zT), (17, zT)] [] (vb (hd2) vl0) fun a9 w3 he9 m3 => ?_
   refine wl_end (wp_ret ?_)
   exact bodyPost_ret (results_tmp he9 _ Try.results13 (.bool true) rfl) he9.defers ⟨(by first | rw [ruOks, ruAll_no (i := i) (by omega) (by assumption)]; rfl | rw [ruOks, ruAll_yes fun j hj => hrel1.2 j (by omega)]; simp; try omega), m3.below⟩
 ·
  have hd1p := of_decide_eq_true hd1
  refine wr [1] he5 m1 [(8, zT)] [] (vb (hd1) vl0) fun a6 w2 he6 m2 => ?_
  refine wl_end (wp_seq (wp_condT (he := he6) rfl (wp_skip (then_normal (wp_seq (wp_block (wp_seqR ?_)))))))
  refine kv he6 (.pointer (some ⟨b, p + i * 5, none⟩)) (rn_indexA _ _ _ rfl _ _ (.pointer (some ⟨b, p + i * 5, none⟩)) (he6.tmp 5 _ rfl) (he6.tmp 7 _ rfl) (ixS 30 5 (by kernel_rfl) (fun w => by kernel_rfl) (b) (p) (n) (c) (i) (by omega) _)) fun a7 he7 => ?_
  refine krA he7 m2 agg30 hR (i) fun a8 he8 => ?_
  refine ka he8 m2 1 30 (.agg #[.int .i64 0, .int .i64 0, .int .i64 0, .int .i64 0, .int .i64 0]) (#[zI 0, zI 0, zI 0, zI 0, zI 0]) fun a9 w3 b1 he9 m3 => ?_
  refine ks he9 m3 1 agg30.sz (0) (.agg (Ru.arr (f i))) (Ru.arr (f i)) (hc := (Ru.one _)) (hA := (by kernel_rfl)) fun w4 m4 => ?_
  refine wl_end (wp_seqR ?_)
  refine wr [3] he9 m4 [(11, .agg (Ru.arr (f i)))] [b1] vl0 fun a10 w5 he10 m5 => ?_
  cases hd2 : (ruOk (f i))
  ·
   refine kc he10 m5 (v := zF) (callsV (congrArg Value.bool (hd2)) (c_rOk _ _)) fun a11 w6 he11 m6 => ?_
   refine wb 1 he11 [(13, zT)] fun a12 he12 => ?_
   refine wl_end (wp_condT (he := he12) rfl (wp_seqR ?_))
   refine wb 1 he12 [(2, zF)] fun a13 he13 => ?_
   refine wl_end (wp_ret (ret_in (ret_then (ret_then (ret_in (ret_then ?_))))))
   exact bodyPost_ret (results_tmp he13 _ Try.results13 (.bool false) rfl) he13.defers ⟨(by first | rw [ruOks, ruAll_no (i := i) (by omega) (by assumption)]; rfl | rw [ruOks, ruAll_yes fun j hj => hrel1.2 j (by omega)]; simp; try omega), m6.below⟩
  ·
   refine kc he10 m5 (v := zT) (callsV (congrArg Value.bool (hd2)) (c_rOk _ _)) fun a11 w6 he11 m6 => ?_
   refine wb 1 he11 [(13, zF)] fun a12 he12 => ?_
   refine wl_end (wp_condF (he := he12) rfl (wp_skip (in_normal (then_normal (wp_region_lit ?_)))))
   refine wr [1, 0] he12 m6 [(7, zN (i + 1)), (14, zN (i + 1))] [] (vn i 1 vl0) fun a13 w7 he13 m7 => ?_
   refine wpList_nil ?_
   exact ⟨n - (i + 1), by omega, i + 1, rfl, ⟨by omega, fun j hj => by rcases Nat.lt_or_ge j i with hh | hh; exact hrel1.2 j hh; rw [show j = i by omega]; assumption⟩, he13.sb, m7.sub _ trivial⟩
end Go.Proofs.Ytkaekiodjjhjkaa.W
namespace Go.Proofs.Ytkaekiodjjhjkaa.W
open Go.RowKit
end Go.Proofs.Ytkaekiodjjhjkaa.W
