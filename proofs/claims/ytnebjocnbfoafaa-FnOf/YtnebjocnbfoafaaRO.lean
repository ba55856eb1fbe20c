/- Contracts: RangeOne of both, and the walk of its law. -/
import Derived.Test.YtnebjocnbfoafaaRM
namespace Go.Proofs.Ytnebjocnbfoafaa
open Go.RowKit
set_option linter.unusedVariables false
set_option linter.unusedSimpArgs false

theorem st4_new (w w1 : World) (x y z u : Int) (h : RBox w1 w.heap.size 0 0 0 0) (hb : Below w.heap.size w w1) : Box4 w.heap.size x y z u (st4 w1 w.heap.size x y z u) ∧ Below w.heap.size w (st4 w1 w.heap.size x y z u) :=
  ⟨RBox.box h.st4, st4_below _ _ _ _ _ hb (Nat.le_refl _)⟩

set_option maxRecDepth 100000 in
set_option maxHeartbeats 1000000 in
theorem c_RangeOne_bad (n : Int) (w : World) (h : inB n 0 4294967295 = false) :
    Calls Try.prog 13 #[.int .i64 n] w fun e w' => e = .returned (rv 1 0 0 0) ∧ Below w.heap.size w w' := by
  go_enter Try.func13, Try.ntmps13
  go_wp2_with (go_at_call 29; refine (c_isNumber _ _).mono ?_; rintro e w' ⟨rfl, rfl⟩)
  refine (c_noRange _).mono ?_
  rintro e w1 ⟨rfl, hb1⟩
  have q1 := (RBox.new w 0 0 0 0).below hb1
  have bel1 : Below w.heap.size w w1 := ((Below.refl _ _).alloc (Nat.le_refl _) _).trans (hb1.mono (by simp))
  obtain ⟨g0, g1, g2, g3⟩ := RBox.box q1
  have fq := RBox.frozen q1
  have P5 := hid (st4_new w w1 1 0 0 0 q1 bel1)
  clear q1 bel1 hb1
  go_wp2_with fail
  obtain ⟨⟨p0, p1, p2, p3⟩, B5⟩ := P5.out
  unfold st4 at p0 p1 p2 p3
  exact bodyPost_ret (v := rv 1 0 0 0) (by simp [results, Try.results13, go_sem, p0, p1, p2, p3]) rfl ⟨rfl, B5⟩

set_option maxRecDepth 100000 in
set_option maxHeartbeats 1000000 in
theorem c_RangeOne (n : Int) (w : World) (h : inB n 0 4294967295 = true) :
    Calls Try.prog 13 #[.int .i64 n] w fun e w' => e = .returned (rv n n n 0) ∧ Below w.heap.size w w' := by
  go_enter Try.func13, Try.ntmps13
  go_wp2_with (go_at_call 29; refine (c_isNumber _ _).mono ?_; rintro e w' ⟨rfl, rfl⟩)
  refine bodyPost_ret (v := rv n n n 0) (by simp [results, Try.results13, go_sem]) rfl ⟨rfl, ?_⟩
  repeat (first | exact (Below.refl _ _).alloc (Nat.le_refl _) _ | refine Below.setCell ?_ (by simp) _)

set_option maxRecDepth 100000 in
set_option maxHeartbeats 1000000 in
theorem c_l2One (n : Int) (w : World) :
    Calls Try.prog 35 #[.int .i64 n] w fun e w' => e = .returned (rv n n n 0) ∧ Below w.heap.size w w' := by
  go_enter Try.func35, Try.ntmps35
  go_wp2_with fail
  refine bodyPost_ret (v := rv n n n 0) (by simp [results, Try.results35, go_sem]) rfl ⟨rfl, ?_⟩
  repeat (first | exact (Below.refl _ _).alloc (Nat.le_refl _) _ | refine Below.setCell ?_ (by simp) _)

end Go.Proofs.Ytnebjocnbfoafaa
