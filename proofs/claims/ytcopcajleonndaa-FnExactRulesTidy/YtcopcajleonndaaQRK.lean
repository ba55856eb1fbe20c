/- Contracts: RangeTidy where no number is; the specification's RangeTidy, RangeSome, RangeLeast; copies and comparisons of the laws. -/
import Derived.Test.YtcopcajleonndaaQRJ
namespace Go.Proofs.Ytcopcajleonndaa
open Go.RowKit
set_option linter.unusedVariables false
set_option linter.unusedSimpArgs false

theorem newQ (w : World) (x y z u : Int) : RBox ((w.alloc (.cells #[.int .i64 x, .int .i64 y, .int .i64 z, .int .i64 u] 54)).alloc (.cells #[.int .i64 0, .int .i64 0, .int .i64 0, .int .i64 0] 54)) (w.heap.size + 1) 0 0 0 0 := by
  have h0 := RBox.new (w.alloc (.cells #[.int .i64 x, .int .i64 y, .int .i64 z, .int .i64 u] 54)) 0 0 0 0
  simp only [World.size_alloc] at h0
  exact h0
theorem newB (w : World) (o1 o2 : Obj) : Below w.heap.size w ((w.alloc o1).alloc o2) := ((Below.refl _ _).alloc (Nat.le_refl _) _).alloc (by simp) _

set_option maxRecDepth 100000 in
set_option maxHeartbeats 1000000 in
theorem c_RangeTidy_no (lo hi b o : Int) (w : World) (hS : Hid (∀ w, Calls Try.prog 53 #[rv lo hi b o] w fun e w' => e = .returned (.bool false) ∧ Below w.heap.size w w')) :
    Calls Try.prog 51 #[rv lo hi b o] w fun e w' => e = .returned (rv 1 0 0 0) ∧ Below w.heap.size w w' := by
  go_enter Try.func51, Try.ntmps51
  go_wp2_with fail
  refine (hS.out _).mono ?_
  rintro e w1 ⟨rfl, hb1⟩
  have q1 := (newQ w lo hi b o).below hb1
  have bel1 := (newB w _ _).trans (hb1.mono (by simp; omega))
  have Q1 := hid q1
  have BEL1 := hid bel1
  clear q1 bel1 hb1
  go_wp2_with fail
  refine (c_noRange _).mono ?_
  rintro e w2 ⟨rfl, hb2⟩
  have q2 := Q1.out.below hb2
  have bel2 := BEL1.out.trans (hb2.mono BEL1.out.size)
  obtain ⟨g0, g1, g2, g3⟩ := RBox.box q2
  have fq := RBox.frozen q2
  have P5 := hid (RBox.box (q2.st4 (x' := 1) (y' := 0) (z' := 0) (u' := 0)))
  have B5 := hid (st4_below (w.heap.size + 1) 1 0 0 0 bel2 (by omega))
  clear q2 bel2 hb2 Q1 BEL1
  go_wp2_with fail
  obtain ⟨p0, p1, p2, p3⟩ := P5.out
  unfold st4 at p0 p1 p2 p3
  exact bodyPost_ret (v := rv 1 0 0 0) (by simp [results, Try.results51, go_sem, p0, p1, p2, p3]) rfl ⟨rfl, B5.out⟩

end Go.Proofs.Ytcopcajleonndaa
