/- Contracts: RangeJoin of both. -/
import Derived.Test.YteiglpijjffneaaRQ
namespace Go.Proofs.Yteiglpijjffneaa
open Go.RowKit
set_option linter.unusedVariables false
set_option linter.unusedSimpArgs false

/-- There is a number of the range, whatever it is. -/
def someI (lo hi b o : Int) : Bool := okB lo hi b o && someN lo.toNat hi.toNat b.toNat o.toNat
theorem someI_nat {L H B O : Nat} (h : OkN L H B O) : someI L H B O = someN L H B O := by
  rw [someI, okB_of h]; simp
theorem someI_bad {lo hi b o : Int} (h : okB lo hi b o = false) : someI lo hi b o = false := by simp [someI, h]
theorem someI_yes {lo hi b o : Int} (h : someI lo hi b o = true) : ∃ L H B O : Nat, lo = L ∧ hi = H ∧ b = B ∧ o = O ∧ OkN L H B O ∧ someN L H B O = true := by
  simp [someI] at h
  obtain ⟨L, H, B, O, rfl, rfl, rfl, rfl, k⟩ := ok_nat h.1
  exact ⟨L, H, B, O, rfl, rfl, rfl, rfl, k, by simpa using h.2⟩
theorem c_RangeSomeI (lo hi b o : Int) (w : World) :
    Calls Try.prog 24 #[rv lo hi b o] w fun e w' => e = .returned (.bool (someI lo hi b o)) ∧ Below w.heap.size w w' := by
  cases hok : okB lo hi b o
  · rw [someI_bad hok]; exact c_RangeSome_bad lo hi b o w hok
  · obtain ⟨L, H, B, O, rfl, rfl, rfl, rfl, h⟩ := ok_nat hok
    rw [someI_nat h]; exact c_RangeSome L H B O w h

set_option maxRecDepth 100000 in
set_option maxHeartbeats 2000000 in
theorem c_Join_no1 (a b c d e f g h : Int) (w : World) (h1 : someI a b c d = false) :
    Calls Try.prog 35 #[rv a b c d, rv e f g h] w fun ee w' => ee = .returned (rv 1 0 0 0) ∧ Below w.heap.size w w' := by
  have bA0 := hid (twoA w a b c d e f g h)
  have bB0 := hid (twoB w a b c d e f g h)
  have bQ0 := hid (twoQ w a b c d e f g h)
  have bel0 := hid (twoW w a b c d e f g h)
  go_enter Try.func35, Try.ntmps35
  go_wp2_with fail
  refine (c_RangeSomeI _ _ _ _ _).mono ?_
  rintro ee w1 ⟨rfl, hb1⟩
  have bA1 := hid (bA0.out.below hb1)
  have bB1 := hid (bB0.out.below hb1)
  have bQ1 := hid (bQ0.out.below hb1)
  have bel1 := hid (bel0.out.trans (hb1.mono bel0.out.size))
  clear hb1 bA0 bB0 bQ0 bel0
  rw [h1]
  go_wp2_with fail
  refine (c_noRange _).mono ?_
  rintro ee w2 ⟨rfl, hb2⟩
  have bA2 := hid (bA1.out.below hb2)
  have bB2 := hid (bB1.out.below hb2)
  have bQ2 := hid (bQ1.out.below hb2)
  have bel2 := hid (bel1.out.trans (hb2.mono bel1.out.size))
  clear hb2 bA1 bB1 bQ1 bel1
  obtain ⟨g0, g1, g2, g3⟩ := RBox.box bQ2.out
  have fq := RBox.frozen bQ2.out
  have P5 := hid (RBox.box (bQ2.out.st4 (x' := 1) (y' := 0) (z' := 0) (u' := 0)))
  have B5 := hid (st4_below (w.heap.size + 2) (1) (0) (0) (0) bel2.out (by omega))
  go_wp2_with fail
  obtain ⟨p0, p1, p2, p3⟩ := P5.out
  unfold st4 at p0 p1 p2 p3
  refine bodyPost_ret (v := rv (1) (0) (0) (0)) (by simp [results, Try.results35, go_sem, p0, p1, p2, p3]) rfl ⟨rfl, B5.out⟩

set_option maxRecDepth 100000 in
set_option maxHeartbeats 2000000 in
theorem c_Join_no2 (a b c d e f g h : Int) (w : World) (h1 : someI a b c d = true) (h2 : someI e f g h = false) :
    Calls Try.prog 35 #[rv a b c d, rv e f g h] w fun ee w' => ee = .returned (rv 1 0 0 0) ∧ Below w.heap.size w w' := by
  have bA0 := hid (twoA w a b c d e f g h)
  have bB0 := hid (twoB w a b c d e f g h)
  have bQ0 := hid (twoQ w a b c d e f g h)
  have bel0 := hid (twoW w a b c d e f g h)
  go_enter Try.func35, Try.ntmps35
  go_wp2_with fail
  refine (c_RangeSomeI _ _ _ _ _).mono ?_
  rintro ee w1 ⟨rfl, hb1⟩
  have bA1 := hid (bA0.out.below hb1)
  have bB1 := hid (bB0.out.below hb1)
  have bQ1 := hid (bQ0.out.below hb1)
  have bel1 := hid (bel0.out.trans (hb1.mono bel0.out.size))
  clear hb1 bA0 bB0 bQ0 bel0
  rw [h1]
  obtain ⟨cB0, cB1, cB2, cB3⟩ := RBox.box bB1.out
  go_wp2_with fail
  refine (c_RangeSomeI _ _ _ _ _).mono ?_
  rintro ee w2 ⟨rfl, hb2⟩
  have bA2 := hid (bA1.out.below hb2)
  have bB2 := hid (bB1.out.below hb2)
  have bQ2 := hid (bQ1.out.below hb2)
  have bel2 := hid (bel1.out.trans (hb2.mono bel1.out.size))
  clear hb2 bA1 bB1 bQ1 bel1
  rw [h2]
  clear cB0 cB1 cB2 cB3
  go_wp2_with fail
  refine (c_noRange _).mono ?_
  rintro ee w3 ⟨rfl, hb3⟩
  have bA3 := hid (bA2.out.below hb3)
  have bB3 := hid (bB2.out.below hb3)
  have bQ3 := hid (bQ2.out.below hb3)
  have bel3 := hid (bel2.out.trans (hb3.mono bel2.out.size))
  clear hb3 bA2 bB2 bQ2 bel2
  obtain ⟨g0, g1, g2, g3⟩ := RBox.box bQ3.out
  have fq := RBox.frozen bQ3.out
  have P5 := hid (RBox.box (bQ3.out.st4 (x' := 1) (y' := 0) (z' := 0) (u' := 0)))
  have B5 := hid (st4_below (w.heap.size + 2) (1) (0) (0) (0) bel3.out (by omega))
  go_wp2_with fail
  obtain ⟨p0, p1, p2, p3⟩ := P5.out
  unfold st4 at p0 p1 p2 p3
  refine bodyPost_ret (v := rv (1) (0) (0) (0)) (by simp [results, Try.results35, go_sem, p0, p1, p2, p3]) rfl ⟨rfl, B5.out⟩

set_option maxRecDepth 100000 in
set_option maxHeartbeats 2000000 in
theorem c_Join_yes (a b c d e f g h : Nat) (w : World) (A : OkN a b c d) (B : OkN e f g h) (h1 : someN a b c d = true) (h2 : someN e f g h = true) {n : Nat} (hn : OfN a b c d n) :
    Calls Try.prog 35 #[rv a b c d, rv e f g h] w fun ee w' => ee = .returned (rv (tLo (min a e) (max b f) (c &&& g)) (tHi (min a e) (max b f) (c &&& g) (d ||| h ||| (c ^^^ g))) (tB (min a e) (max b f) (c &&& g)) (tO (min a e) (max b f) (d ||| h ||| (c ^^^ g)))) ∧ Below w.heap.size w w' := by
  have s1 := someI_nat A
  have s2 := someI_nat B
  rw [h1] at s1
  rw [h2] at s2
  have S1 := hid s1
  have S2 := hid s2
  clear s1 s2 h1 h2
  have e0 := and_i64 c g (by have := A.b; omega) (by have := B.b; omega)
  have e1 := or_i64 d h (by have := A.o; omega) (by have := B.o; omega)
  have l1 : d ||| h ≤ 4294967295 := or_le A.o B.o
  have e2 := xor_i64 c g (by have := A.b; omega) (by have := B.b; omega)
  have l2 : c ^^^ g ≤ 4294967295 := xor_le A.b B.b
  have e3 := or_i64 (d ||| h) (c ^^^ g) (by omega) (by omega)
  have Ht : Hid (∀ w, Calls Try.prog 21 #[rv (min (a : Int) e) (max (b : Int) f) (c &&& g : Nat) (d ||| h ||| (c ^^^ g) : Nat)] w fun ee w' => ee = .returned (rv (tLo (min a e) (max b f) (c &&& g)) (tHi (min a e) (max b f) (c &&& g) (d ||| h ||| (c ^^^ g))) (tB (min a e) (max b f) (c &&& g)) (tO (min a e) (max b f) (d ||| h ||| (c ^^^ g)))) ∧ Below w.heap.size w w') := by
    intro w
    have := c_RangeTidy (min a e) (max b f) (c &&& g) (d ||| h ||| (c ^^^ g)) w (join_ok A B) (some_of (join_ok A B) (join_of A B hn))
    rw [show ((min a e : Nat) : Int) = min (a : Int) e by omega, show ((max b f : Nat) : Int) = max (b : Int) f by omega] at this
    exact this
  generalize c &&& g = D0 at *
  generalize d ||| h ||| (c ^^^ g) = D3 at *
  generalize d ||| h = D1 at *
  generalize c ^^^ g = D2 at *
  clear A B hn
  have bA0 := hid (twoA w a b c d e f g h)
  have bB0 := hid (twoB w a b c d e f g h)
  have bQ0 := hid (twoQ w a b c d e f g h)
  have bel0 := hid (twoW w a b c d e f g h)
  go_enter Try.func35, Try.ntmps35
  go_wp2_with fail
  refine (c_RangeSomeI _ _ _ _ _).mono ?_
  rintro ee w1 ⟨rfl, hb1⟩
  have bA1 := hid (bA0.out.below hb1)
  have bB1 := hid (bB0.out.below hb1)
  have bQ1 := hid (bQ0.out.below hb1)
  have bel1 := hid (bel0.out.trans (hb1.mono bel0.out.size))
  clear hb1 bA0 bB0 bQ0 bel0
  rw [S1.out]
  obtain ⟨cA0, cA1, cA2, cA3⟩ := RBox.box bA1.out
  obtain ⟨cB0, cB1, cB2, cB3⟩ := RBox.box bB1.out
  go_wp2_with fail
  refine (c_RangeSomeI _ _ _ _ _).mono ?_
  rintro ee w2 ⟨rfl, hb2⟩
  have bA2 := hid (bA1.out.below hb2)
  have bB2 := hid (bB1.out.below hb2)
  have bQ2 := hid (bQ1.out.below hb2)
  have bel2 := hid (bel1.out.trans (hb2.mono bel1.out.size))
  clear hb2 bA1 bB1 bQ1 bel1
  rw [S2.out]
  clear cA0 cA1 cA2 cA3 cB0 cB1 cB2 cB3
  obtain ⟨cA0, cA1, cA2, cA3⟩ := RBox.box bA2.out
  obtain ⟨cB0, cB1, cB2, cB3⟩ := RBox.box bB2.out
  go_wp2_with fail
  refine (Ht.out _).mono ?_
  rintro ee w3 ⟨rfl, hb3⟩
  have bA3 := hid (bA2.out.below hb3)
  have bB3 := hid (bB2.out.below hb3)
  have bQ3 := hid (bQ2.out.below hb3)
  have bel3 := hid (bel2.out.trans (hb3.mono bel2.out.size))
  clear hb3 bA2 bB2 bQ2 bel2
  clear cA0 cA1 cA2 cA3 cB0 cB1 cB2 cB3
  obtain ⟨g0, g1, g2, g3⟩ := RBox.box bQ3.out
  have fq := RBox.frozen bQ3.out
  have P5 := hid (RBox.box (bQ3.out.st4 (x' := tLo (min a e) (max b f) D0) (y' := tHi (min a e) (max b f) D0 D3) (z' := tB (min a e) (max b f) D0) (u' := tO (min a e) (max b f) D3)))
  have B5 := hid (st4_below (w.heap.size + 2) (tLo (min a e) (max b f) D0) (tHi (min a e) (max b f) D0 D3) (tB (min a e) (max b f) D0) (tO (min a e) (max b f) D3) bel3.out (by omega))
  go_wp2_with fail
  obtain ⟨p0, p1, p2, p3⟩ := P5.out
  unfold st4 at p0 p1 p2 p3
  refine bodyPost_ret (v := rv (tLo (min a e) (max b f) D0) (tHi (min a e) (max b f) D0 D3) (tB (min a e) (max b f) D0) (tO (min a e) (max b f) D3)) (by simp [results, Try.results35, go_sem, p0, p1, p2, p3]) rfl ⟨rfl, B5.out⟩

set_option maxRecDepth 100000 in
set_option maxHeartbeats 2000000 in
theorem c_specJoin_no1 (a b c d e f g h : Int) (w : World) (h1 : okB a b c d = false) :
    Calls Try.prog 36 #[rv a b c d, rv e f g h] w fun ee w' => ee = .returned (rv 1 0 0 0) ∧ Below w.heap.size w w' := by
  have bA0 := hid (twoA w a b c d e f g h)
  have bB0 := hid (twoB w a b c d e f g h)
  have bQ0 := hid (twoQ w a b c d e f g h)
  have bel0 := hid (twoW w a b c d e f g h)
  go_enter Try.func36, Try.ntmps36
  go_wp2_with fail
  refine (c_l2Ok _ _ _ _ _).mono ?_
  rintro ee w1 ⟨rfl, hb1⟩
  have bA1 := hid (bA0.out.below hb1)
  have bB1 := hid (bB0.out.below hb1)
  have bQ1 := hid (bQ0.out.below hb1)
  have bel1 := hid (bel0.out.trans (hb1.mono bel0.out.size))
  clear hb1 bA0 bB0 bQ0 bel0
  rw [h1]
  obtain ⟨g0, g1, g2, g3⟩ := RBox.box bQ1.out
  have fq := RBox.frozen bQ1.out
  have P5 := hid (RBox.box (bQ1.out.st4 (x' := 1) (y' := 0) (z' := 0) (u' := 0)))
  have B5 := hid (st4_below (w.heap.size + 2) (1) (0) (0) (0) bel1.out (by omega))
  go_wp2_with fail
  obtain ⟨p0, p1, p2, p3⟩ := P5.out
  unfold st4 at p0 p1 p2 p3
  refine bodyPost_ret (v := rv (1) (0) (0) (0)) (by simp [results, Try.results36, go_sem, p0, p1, p2, p3]) rfl ⟨rfl, B5.out⟩

set_option maxRecDepth 100000 in
set_option maxHeartbeats 2000000 in
theorem c_specJoin_no2 (a b c d e f g h : Int) (w : World) (h1 : okB a b c d = true) (h2 : okB e f g h = false) :
    Calls Try.prog 36 #[rv a b c d, rv e f g h] w fun ee w' => ee = .returned (rv 1 0 0 0) ∧ Below w.heap.size w w' := by
  have bA0 := hid (twoA w a b c d e f g h)
  have bB0 := hid (twoB w a b c d e f g h)
  have bQ0 := hid (twoQ w a b c d e f g h)
  have bel0 := hid (twoW w a b c d e f g h)
  go_enter Try.func36, Try.ntmps36
  go_wp2_with fail
  refine (c_l2Ok _ _ _ _ _).mono ?_
  rintro ee w1 ⟨rfl, hb1⟩
  have bA1 := hid (bA0.out.below hb1)
  have bB1 := hid (bB0.out.below hb1)
  have bQ1 := hid (bQ0.out.below hb1)
  have bel1 := hid (bel0.out.trans (hb1.mono bel0.out.size))
  clear hb1 bA0 bB0 bQ0 bel0
  rw [h1]
  obtain ⟨cB0, cB1, cB2, cB3⟩ := RBox.box bB1.out
  go_wp2_with fail
  refine (c_l2Ok _ _ _ _ _).mono ?_
  rintro ee w2 ⟨rfl, hb2⟩
  have bA2 := hid (bA1.out.below hb2)
  have bB2 := hid (bB1.out.below hb2)
  have bQ2 := hid (bQ1.out.below hb2)
  have bel2 := hid (bel1.out.trans (hb2.mono bel1.out.size))
  clear hb2 bA1 bB1 bQ1 bel1
  rw [h2]
  clear cB0 cB1 cB2 cB3
  obtain ⟨g0, g1, g2, g3⟩ := RBox.box bQ2.out
  have fq := RBox.frozen bQ2.out
  have P5 := hid (RBox.box (bQ2.out.st4 (x' := 1) (y' := 0) (z' := 0) (u' := 0)))
  have B5 := hid (st4_below (w.heap.size + 2) (1) (0) (0) (0) bel2.out (by omega))
  go_wp2_with fail
  obtain ⟨p0, p1, p2, p3⟩ := P5.out
  unfold st4 at p0 p1 p2 p3
  refine bodyPost_ret (v := rv (1) (0) (0) (0)) (by simp [results, Try.results36, go_sem, p0, p1, p2, p3]) rfl ⟨rfl, B5.out⟩

set_option maxRecDepth 100000 in
set_option maxHeartbeats 2000000 in
theorem c_specJoin_no3 (a b c d e f g h : Nat) (w : World) (A : OkN a b c d) (B : OkN e f g h) (h3 : someN a b c d = false) :
    Calls Try.prog 36 #[rv a b c d, rv e f g h] w fun ee w' => ee = .returned (rv 1 0 0 0) ∧ Below w.heap.size w w' := by
  have K1 := hid (okB_of A)
  have K2 := hid (okB_of B)
  have HA := hid A
  have HB := hid B
  have H3 := hid h3
  clear A B h3
  have bA0 := hid (twoA w a b c d e f g h)
  have bB0 := hid (twoB w a b c d e f g h)
  have bQ0 := hid (twoQ w a b c d e f g h)
  have bel0 := hid (twoW w a b c d e f g h)
  go_enter Try.func36, Try.ntmps36
  go_wp2_with fail
  refine (c_l2Ok _ _ _ _ _).mono ?_
  rintro ee w1 ⟨rfl, hb1⟩
  have bA1 := hid (bA0.out.below hb1)
  have bB1 := hid (bB0.out.below hb1)
  have bQ1 := hid (bQ0.out.below hb1)
  have bel1 := hid (bel0.out.trans (hb1.mono bel0.out.size))
  clear hb1 bA0 bB0 bQ0 bel0
  rw [K1.out]
  obtain ⟨cA0, cA1, cA2, cA3⟩ := RBox.box bA1.out
  obtain ⟨cB0, cB1, cB2, cB3⟩ := RBox.box bB1.out
  go_wp2_with fail
  refine (c_l2Ok _ _ _ _ _).mono ?_
  rintro ee w2 ⟨rfl, hb2⟩
  have bA2 := hid (bA1.out.below hb2)
  have bB2 := hid (bB1.out.below hb2)
  have bQ2 := hid (bQ1.out.below hb2)
  have bel2 := hid (bel1.out.trans (hb2.mono bel1.out.size))
  clear hb2 bA1 bB1 bQ1 bel1
  rw [K2.out]
  clear cA0 cA1 cA2 cA3 cB0 cB1 cB2 cB3
  obtain ⟨cA0, cA1, cA2, cA3⟩ := RBox.box bA2.out
  obtain ⟨cB0, cB1, cB2, cB3⟩ := RBox.box bB2.out
  go_wp2_with fail
  refine (c_l2Some a b c d _ HA.out).mono ?_
  rintro ee w3 ⟨rfl, hb3⟩
  have bA3 := hid (bA2.out.below hb3)
  have bB3 := hid (bB2.out.below hb3)
  have bQ3 := hid (bQ2.out.below hb3)
  have bel3 := hid (bel2.out.trans (hb3.mono bel2.out.size))
  clear hb3 bA2 bB2 bQ2 bel2
  rw [H3.out]
  clear cA0 cA1 cA2 cA3 cB0 cB1 cB2 cB3
  obtain ⟨g0, g1, g2, g3⟩ := RBox.box bQ3.out
  have fq := RBox.frozen bQ3.out
  have P5 := hid (RBox.box (bQ3.out.st4 (x' := 1) (y' := 0) (z' := 0) (u' := 0)))
  have B5 := hid (st4_below (w.heap.size + 2) (1) (0) (0) (0) bel3.out (by omega))
  go_wp2_with fail
  obtain ⟨p0, p1, p2, p3⟩ := P5.out
  unfold st4 at p0 p1 p2 p3
  refine bodyPost_ret (v := rv (1) (0) (0) (0)) (by simp [results, Try.results36, go_sem, p0, p1, p2, p3]) rfl ⟨rfl, B5.out⟩

set_option maxRecDepth 100000 in
set_option maxHeartbeats 2000000 in
theorem c_specJoin_no4 (a b c d e f g h : Nat) (w : World) (A : OkN a b c d) (B : OkN e f g h) (h3 : someN a b c d = true) (h4 : someN e f g h = false) :
    Calls Try.prog 36 #[rv a b c d, rv e f g h] w fun ee w' => ee = .returned (rv 1 0 0 0) ∧ Below w.heap.size w w' := by
  have K1 := hid (okB_of A)
  have K2 := hid (okB_of B)
  have HA := hid A
  have HB := hid B
  have H3 := hid h3
  have H4 := hid h4
  clear A B h3 h4
  have bA0 := hid (twoA w a b c d e f g h)
  have bB0 := hid (twoB w a b c d e f g h)
  have bQ0 := hid (twoQ w a b c d e f g h)
  have bel0 := hid (twoW w a b c d e f g h)
  go_enter Try.func36, Try.ntmps36
  go_wp2_with fail
  refine (c_l2Ok _ _ _ _ _).mono ?_
  rintro ee w1 ⟨rfl, hb1⟩
  have bA1 := hid (bA0.out.below hb1)
  have bB1 := hid (bB0.out.below hb1)
  have bQ1 := hid (bQ0.out.below hb1)
  have bel1 := hid (bel0.out.trans (hb1.mono bel0.out.size))
  clear hb1 bA0 bB0 bQ0 bel0
  rw [K1.out]
  obtain ⟨cA0, cA1, cA2, cA3⟩ := RBox.box bA1.out
  obtain ⟨cB0, cB1, cB2, cB3⟩ := RBox.box bB1.out
  go_wp2_with fail
  refine (c_l2Ok _ _ _ _ _).mono ?_
  rintro ee w2 ⟨rfl, hb2⟩
  have bA2 := hid (bA1.out.below hb2)
  have bB2 := hid (bB1.out.below hb2)
  have bQ2 := hid (bQ1.out.below hb2)
  have bel2 := hid (bel1.out.trans (hb2.mono bel1.out.size))
  clear hb2 bA1 bB1 bQ1 bel1
  rw [K2.out]
  clear cA0 cA1 cA2 cA3 cB0 cB1 cB2 cB3
  obtain ⟨cA0, cA1, cA2, cA3⟩ := RBox.box bA2.out
  obtain ⟨cB0, cB1, cB2, cB3⟩ := RBox.box bB2.out
  go_wp2_with fail
  refine (c_l2Some a b c d _ HA.out).mono ?_
  rintro ee w3 ⟨rfl, hb3⟩
  have bA3 := hid (bA2.out.below hb3)
  have bB3 := hid (bB2.out.below hb3)
  have bQ3 := hid (bQ2.out.below hb3)
  have bel3 := hid (bel2.out.trans (hb3.mono bel2.out.size))
  clear hb3 bA2 bB2 bQ2 bel2
  rw [H3.out]
  clear cA0 cA1 cA2 cA3 cB0 cB1 cB2 cB3
  obtain ⟨cA0, cA1, cA2, cA3⟩ := RBox.box bA3.out
  obtain ⟨cB0, cB1, cB2, cB3⟩ := RBox.box bB3.out
  go_wp2_with fail
  refine (c_l2Some e f g h _ HB.out).mono ?_
  rintro ee w4 ⟨rfl, hb4⟩
  have bA4 := hid (bA3.out.below hb4)
  have bB4 := hid (bB3.out.below hb4)
  have bQ4 := hid (bQ3.out.below hb4)
  have bel4 := hid (bel3.out.trans (hb4.mono bel3.out.size))
  clear hb4 bA3 bB3 bQ3 bel3
  rw [H4.out]
  clear cA0 cA1 cA2 cA3 cB0 cB1 cB2 cB3
  obtain ⟨g0, g1, g2, g3⟩ := RBox.box bQ4.out
  have fq := RBox.frozen bQ4.out
  have P5 := hid (RBox.box (bQ4.out.st4 (x' := 1) (y' := 0) (z' := 0) (u' := 0)))
  have B5 := hid (st4_below (w.heap.size + 2) (1) (0) (0) (0) bel4.out (by omega))
  go_wp2_with fail
  obtain ⟨p0, p1, p2, p3⟩ := P5.out
  unfold st4 at p0 p1 p2 p3
  refine bodyPost_ret (v := rv (1) (0) (0) (0)) (by simp [results, Try.results36, go_sem, p0, p1, p2, p3]) rfl ⟨rfl, B5.out⟩

set_option maxRecDepth 100000 in
set_option maxHeartbeats 2000000 in
theorem c_specJoin_yes (a b c d e f g h : Nat) (w : World) (A : OkN a b c d) (B : OkN e f g h) (h3 : someN a b c d = true) (h4 : someN e f g h = true) :
    Calls Try.prog 36 #[rv a b c d, rv e f g h] w fun ee w' => ee = .returned (rv (tLo (min a e) (max b f) (c &&& g)) (tHi (min a e) (max b f) (c &&& g) (d ||| h ||| (c ^^^ g))) (tB (min a e) (max b f) (c &&& g)) (tO (min a e) (max b f) (d ||| h ||| (c ^^^ g)))) ∧ Below w.heap.size w w' := by
  have K1 := hid (okB_of A)
  have K2 := hid (okB_of B)
  have HA := hid A
  have HB := hid B
  have H3 := hid h3
  have H4 := hid h4
  clear A B h3 h4
  have bA0 := hid (twoA w a b c d e f g h)
  have bB0 := hid (twoB w a b c d e f g h)
  have bQ0 := hid (twoQ w a b c d e f g h)
  have bel0 := hid (twoW w a b c d e f g h)
  go_enter Try.func36, Try.ntmps36
  go_wp2_with fail
  refine (c_l2Ok _ _ _ _ _).mono ?_
  rintro ee w1 ⟨rfl, hb1⟩
  have bA1 := hid (bA0.out.below hb1)
  have bB1 := hid (bB0.out.below hb1)
  have bQ1 := hid (bQ0.out.below hb1)
  have bel1 := hid (bel0.out.trans (hb1.mono bel0.out.size))
  clear hb1 bA0 bB0 bQ0 bel0
  rw [K1.out]
  obtain ⟨cA0, cA1, cA2, cA3⟩ := RBox.box bA1.out
  obtain ⟨cB0, cB1, cB2, cB3⟩ := RBox.box bB1.out
  go_wp2_with fail
  refine (c_l2Ok _ _ _ _ _).mono ?_
  rintro ee w2 ⟨rfl, hb2⟩
  have bA2 := hid (bA1.out.below hb2)
  have bB2 := hid (bB1.out.below hb2)
  have bQ2 := hid (bQ1.out.below hb2)
  have bel2 := hid (bel1.out.trans (hb2.mono bel1.out.size))
  clear hb2 bA1 bB1 bQ1 bel1
  rw [K2.out]
  clear cA0 cA1 cA2 cA3 cB0 cB1 cB2 cB3
  obtain ⟨cA0, cA1, cA2, cA3⟩ := RBox.box bA2.out
  obtain ⟨cB0, cB1, cB2, cB3⟩ := RBox.box bB2.out
  go_wp2_with fail
  refine (c_l2Some a b c d _ HA.out).mono ?_
  rintro ee w3 ⟨rfl, hb3⟩
  have bA3 := hid (bA2.out.below hb3)
  have bB3 := hid (bB2.out.below hb3)
  have bQ3 := hid (bQ2.out.below hb3)
  have bel3 := hid (bel2.out.trans (hb3.mono bel2.out.size))
  clear hb3 bA2 bB2 bQ2 bel2
  rw [H3.out]
  clear cA0 cA1 cA2 cA3 cB0 cB1 cB2 cB3
  obtain ⟨cA0, cA1, cA2, cA3⟩ := RBox.box bA3.out
  obtain ⟨cB0, cB1, cB2, cB3⟩ := RBox.box bB3.out
  go_wp2_with fail
  refine (c_l2Some e f g h _ HB.out).mono ?_
  rintro ee w4 ⟨rfl, hb4⟩
  have bA4 := hid (bA3.out.below hb4)
  have bB4 := hid (bB3.out.below hb4)
  have bQ4 := hid (bQ3.out.below hb4)
  have bel4 := hid (bel3.out.trans (hb4.mono bel3.out.size))
  clear hb4 bA3 bB3 bQ3 bel3
  rw [H4.out]
  clear cA0 cA1 cA2 cA3 cB0 cB1 cB2 cB3
  obtain ⟨cA0, cA1, cA2, cA3⟩ := RBox.box bA4.out
  obtain ⟨cB0, cB1, cB2, cB3⟩ := RBox.box bB4.out
  go_wp2_with fail
  refine (c_l2Join a b c d e f g h _ HA.out HB.out).mono ?_
  rintro ee w5 ⟨rfl, hb5⟩
  have bA5 := hid (bA4.out.below hb5)
  have bB5 := hid (bB4.out.below hb5)
  have bQ5 := hid (bQ4.out.below hb5)
  have bel5 := hid (bel4.out.trans (hb5.mono bel4.out.size))
  clear hb5 bA4 bB4 bQ4 bel4
  clear cA0 cA1 cA2 cA3 cB0 cB1 cB2 cB3
  obtain ⟨g0, g1, g2, g3⟩ := RBox.box bQ5.out
  have fq := RBox.frozen bQ5.out
  have P5 := hid (RBox.box (bQ5.out.st4 (x' := tLo (min a e) (max b f) (c &&& g)) (y' := tHi (min a e) (max b f) (c &&& g) (d ||| h ||| (c ^^^ g))) (z' := tB (min a e) (max b f) (c &&& g)) (u' := tO (min a e) (max b f) (d ||| h ||| (c ^^^ g)))))
  have B5 := hid (st4_below (w.heap.size + 2) (tLo (min a e) (max b f) (c &&& g)) (tHi (min a e) (max b f) (c &&& g) (d ||| h ||| (c ^^^ g))) (tB (min a e) (max b f) (c &&& g)) (tO (min a e) (max b f) (d ||| h ||| (c ^^^ g))) bel5.out (by omega))
  go_wp2_with fail
  obtain ⟨p0, p1, p2, p3⟩ := P5.out
  unfold st4 at p0 p1 p2 p3
  refine bodyPost_ret (v := rv (tLo (min a e) (max b f) (c &&& g)) (tHi (min a e) (max b f) (c &&& g) (d ||| h ||| (c ^^^ g))) (tB (min a e) (max b f) (c &&& g)) (tO (min a e) (max b f) (d ||| h ||| (c ^^^ g)))) (by simp [results, Try.results36, go_sem, p0, p1, p2, p3]) rfl ⟨rfl, B5.out⟩

theorem c_specJoin_no (a b c d e f g h : Int) (w : World) (hn : (someI a b c d && someI e f g h) = false) :
    Calls Try.prog 36 #[rv a b c d, rv e f g h] w fun ee w' => ee = .returned (rv 1 0 0 0) ∧ Below w.heap.size w w' := by
  cases k1 : okB a b c d
  · exact c_specJoin_no1 a b c d e f g h w k1
  cases k2 : okB e f g h
  · exact c_specJoin_no2 a b c d e f g h w k1 k2
  obtain ⟨a, b, c, d, rfl, rfl, rfl, rfl, A⟩ := ok_nat k1
  obtain ⟨e, f, g, h, rfl, rfl, rfl, rfl, B⟩ := ok_nat k2
  rw [someI_nat A, someI_nat B] at hn
  cases h3 : someN a b c d
  · exact c_specJoin_no3 a b c d e f g h w A B h3
  · rw [h3, Bool.true_and] at hn
    exact c_specJoin_no4 a b c d e f g h w A B h3 hn
theorem c_Join_no (a b c d e f g h : Int) (w : World) (hn : (someI a b c d && someI e f g h) = false) :
    Calls Try.prog 35 #[rv a b c d, rv e f g h] w fun ee w' => ee = .returned (rv 1 0 0 0) ∧ Below w.heap.size w w' := by
  cases h1 : someI a b c d
  · exact c_Join_no1 a b c d e f g h w h1
  · rw [h1, Bool.true_and] at hn
    exact c_Join_no2 a b c d e f g h w h1 hn
end Go.Proofs.Yteiglpijjffneaa
