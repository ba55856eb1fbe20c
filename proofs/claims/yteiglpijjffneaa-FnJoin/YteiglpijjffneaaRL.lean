/- Contracts: the specification's RangeTidy; equal ranges. -/
import Derived.Test.YteiglpijjffneaaRK
namespace Go.Proofs.Yteiglpijjffneaa
open Go.RowKit
set_option linter.unusedVariables false
set_option linter.unusedSimpArgs false

set_option maxRecDepth 100000 in
set_option maxHeartbeats 1000000 in
theorem c_specTidy_bad (lo hi b o : Int) (w : World) (h : okB lo hi b o = false) :
    Calls Try.prog 26 #[rv lo hi b o] w fun e w' => e = .returned (rv 1 0 0 0) ∧ Below w.heap.size w w' := by
  go_enter Try.func26, Try.ntmps26
  go_wp2_with fail
  refine (c_l2Ok lo hi b o _).mono ?_
  rintro e w1 ⟨rfl, hb1⟩
  have q1 := (newQ w lo hi b o).below hb1
  have bel1 := (newB w _ _).trans (hb1.mono (by simp; omega))
  obtain ⟨g0, g1, g2, g3⟩ := RBox.box q1
  have fq := RBox.frozen q1
  have P5 := hid (RBox.box (q1.st4 (x' := 1) (y' := 0) (z' := 0) (u' := 0)))
  have B5 := hid (st4_below (w.heap.size + 1) 1 0 0 0 bel1 (by omega))
  clear q1 bel1 hb1
  rw [h]
  go_wp2_with fail
  obtain ⟨p0, p1, p2, p3⟩ := P5.out
  unfold st4 at p0 p1 p2 p3
  exact bodyPost_ret (v := rv 1 0 0 0) (by simp [results, Try.results26, go_sem, p0, p1, p2, p3]) rfl ⟨rfl, B5.out⟩

set_option maxRecDepth 100000 in
set_option maxHeartbeats 1000000 in
theorem c_specTidy_none (lo hi b o : Nat) (w : World) (h : OkN lo hi b o) (hs : someN lo hi b o = false) :
    Calls Try.prog 26 #[rv lo hi b o] w fun e w' => e = .returned (rv 1 0 0 0) ∧ Below w.heap.size w w' := by
  have Hok := hid (okB_of h)
  have Hn := hid h
  have Hs := hid hs
  clear h hs
  go_enter Try.func26, Try.ntmps26
  go_wp2_with fail
  refine (c_l2Ok lo hi b o _).mono ?_
  rintro e w1 ⟨rfl, hb1⟩
  have q1 := (newQ w lo hi b o).below hb1
  have r1 := (newR w lo hi b o).below hb1
  have bel1 := (newB w _ _).trans (hb1.mono (by simp; omega))
  obtain ⟨c0, c1, c2, c3⟩ := RBox.box r1
  have Q1 := hid q1
  have BEL1 := hid bel1
  clear q1 bel1 hb1
  rw [Hok.out]
  go_wp2_with fail
  refine (c_l2Some lo hi b o _ Hn.out).mono ?_
  rintro e w2 ⟨rfl, hb2⟩
  have q2 := Q1.out.below hb2
  have bel2 := BEL1.out.trans (hb2.mono BEL1.out.size)
  obtain ⟨g0, g1, g2, g3⟩ := RBox.box q2
  have fq := RBox.frozen q2
  have P5 := hid (RBox.box (q2.st4 (x' := 1) (y' := 0) (z' := 0) (u' := 0)))
  have B5 := hid (st4_below (w.heap.size + 1) 1 0 0 0 bel2 (by omega))
  clear q2 bel2 hb2 Q1 BEL1
  rw [Hs.out]
  go_wp2_with fail
  obtain ⟨p0, p1, p2, p3⟩ := P5.out
  unfold st4 at p0 p1 p2 p3
  exact bodyPost_ret (v := rv 1 0 0 0) (by simp [results, Try.results26, go_sem, p0, p1, p2, p3]) rfl ⟨rfl, B5.out⟩

set_option maxRecDepth 100000 in
set_option maxHeartbeats 1000000 in
theorem c_specTidy (lo hi b o : Nat) (w : World) (h : OkN lo hi b o) (hs : someN lo hi b o = true) :
    Calls Try.prog 26 #[rv lo hi b o] w fun e w' => e = .returned (rv (tLo lo hi b) (tHi lo hi b o) (tB lo hi b) (tO lo hi o)) ∧ Below w.heap.size w w' := by
  have Hok := hid (okB_of h)
  have Hn := hid h
  have Hs := hid hs
  clear h hs
  go_enter Try.func26, Try.ntmps26
  go_wp2_with fail
  refine (c_l2Ok lo hi b o _).mono ?_
  rintro e w1 ⟨rfl, hb1⟩
  have q1 := (newQ w lo hi b o).below hb1
  have r1 := (newR w lo hi b o).below hb1
  have bel1 := (newB w _ _).trans (hb1.mono (by simp; omega))
  obtain ⟨c0, c1, c2, c3⟩ := RBox.box r1
  have Q1 := hid q1
  have R1 := hid r1
  have BEL1 := hid bel1
  clear q1 r1 bel1 hb1
  rw [Hok.out]
  go_wp2_with fail
  refine (c_l2Some lo hi b o _ Hn.out).mono ?_
  rintro e w2 ⟨rfl, hb2⟩
  have q2 := Q1.out.below hb2
  have r2 := R1.out.below hb2
  have bel2 := BEL1.out.trans (hb2.mono BEL1.out.size)
  clear c0 c1 c2 c3
  obtain ⟨c0, c1, c2, c3⟩ := RBox.box r2
  have Q2 := hid q2
  have BEL2 := hid bel2
  clear q2 r2 bel2 hb2 Q1 R1 BEL1
  rw [Hs.out]
  go_wp2_with fail
  refine (c_l2Tidy lo hi b o _ Hn.out).mono ?_
  rintro e w3 ⟨rfl, hb3⟩
  have q3 := Q2.out.below hb3
  have bel3 := BEL2.out.trans (hb3.mono BEL2.out.size)
  obtain ⟨g0, g1, g2, g3⟩ := RBox.box q3
  have fq := RBox.frozen q3
  have P5 := hid (RBox.box (q3.st4 (x' := tLo lo hi b) (y' := tHi lo hi b o) (z' := tB lo hi b) (u' := tO lo hi o)))
  have B5 := hid (st4_below (w.heap.size + 1) (tLo lo hi b) (tHi lo hi b o) (tB lo hi b) (tO lo hi o) bel3 (by omega))
  clear q3 bel3 hb3 Q2 BEL2 c0 c1 c2 c3
  go_wp2_with fail
  obtain ⟨p0, p1, p2, p3⟩ := P5.out
  unfold st4 at p0 p1 p2 p3
  exact bodyPost_ret (v := rv (tLo lo hi b) (tHi lo hi b o) (tB lo hi b) (tO lo hi o)) (by simp [results, Try.results26, go_sem, p0, p1, p2, p3]) rfl ⟨rfl, B5.out⟩
end Go.Proofs.Yteiglpijjffneaa
