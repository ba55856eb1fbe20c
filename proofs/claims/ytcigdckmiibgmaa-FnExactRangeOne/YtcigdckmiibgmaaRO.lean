/- Contracts: RangeOne of both, and the walk of its law. -/
import Derived.Test.YtcigdckmiibgmaaRM
namespace Go.Proofs.Ytcigdckmiibgmaa
open Go.RowKit
set_option linter.unusedVariables false
set_option linter.unusedSimpArgs false

theorem st4_new (w w1 : World) (x y z u : Int) (h : RBox w1 w.heap.size 0 0 0 0) (hb : Below w.heap.size w w1) : Box4 w.heap.size x y z u (st4 w1 w.heap.size x y z u) ∧ Below w.heap.size w (st4 w1 w.heap.size x y z u) :=
  ⟨RBox.box h.st4, st4_below _ _ _ _ _ hb (Nat.le_refl _)⟩

set_option maxRecDepth 100000 in
set_option maxHeartbeats 1000000 in
theorem c_RangeOne_bad (n : Int) (w : World) (h : inB n 0 4294967295 = false) :
    Calls Try.prog 19 #[.int .i64 n] w fun e w' => e = .returned (rv 1 0 0 0) ∧ Below w.heap.size w w' := by
  go_enter Try.func19, Try.ntmps19
  go_wp2_with (go_at_call 28; refine (c_isNumber _ _).mono ?_; rintro e w' ⟨rfl, rfl⟩)
  refine (c_noRange _).mono ?_
  rintro e w1 ⟨rfl, hb1⟩
  have q1 := (RBox.new w 0 0 0 0).below hb1
  have bel1 : Below w.heap.size w w1 := ((Below.refl _ _).alloc (Nat.le_refl _) _).trans (hb1.mono (by simp))
  obtain ⟨g0, g1, g2, g3⟩ := RBox.box q1
  have fq := RBox.frozen q1
  have P5 := hid (st4_new w w1 1 0 0 0 q1 bel1)
  clear q1 bel1 hb1
  go_wp2_with fail
  obtain ⟨⟨p0, p1, p2, p3⟩, B5⟩ := P5.out
  unfold st4 at p0 p1 p2 p3
  exact bodyPost_ret (v := rv 1 0 0 0) (by simp [results, Try.results19, go_sem, p0, p1, p2, p3]) rfl ⟨rfl, B5⟩

set_option maxRecDepth 100000 in
set_option maxHeartbeats 1000000 in
theorem c_RangeOne (n : Int) (w : World) (h : inB n 0 4294967295 = true) :
    Calls Try.prog 19 #[.int .i64 n] w fun e w' => e = .returned (rv n n n 0) ∧ Below w.heap.size w w' := by
  go_enter Try.func19, Try.ntmps19
  go_wp2_with (go_at_call 28; refine (c_isNumber _ _).mono ?_; rintro e w' ⟨rfl, rfl⟩)
  refine bodyPost_ret (v := rv n n n 0) (by simp [results, Try.results19, go_sem]) rfl ⟨rfl, ?_⟩
  repeat (first | exact (Below.refl _ _).alloc (Nat.le_refl _) _ | refine Below.setCell ?_ (by simp) _)

set_option maxRecDepth 100000 in
set_option maxHeartbeats 1000000 in
theorem c_l2One (n : Int) (w : World) :
    Calls Try.prog 36 #[.int .i64 n] w fun e w' => e = .returned (rv n n n 0) ∧ Below w.heap.size w w' := by
  go_enter Try.func36, Try.ntmps36
  go_wp2_with fail
  refine bodyPost_ret (v := rv n n n 0) (by simp [results, Try.results36, go_sem]) rfl ⟨rfl, ?_⟩
  repeat (first | exact (Below.refl _ _).alloc (Nat.le_refl _) _ | refine Below.setCell ?_ (by simp) _)

set_option maxRecDepth 100000 in
set_option maxHeartbeats 1000000 in
theorem c_specOne_bad (n : Int) (w : World) (h : inB n 0 4294967295 = false) :
    Calls Try.prog 18 #[.int .i64 n] w fun e w' => e = .returned (rv 1 0 0 0) ∧ Below w.heap.size w w' := by
  go_enter Try.func18, Try.ntmps18
  go_wp2_with (first | (go_at_call 25; refine (c_l2Top _).mono ?_; rintro e w' ⟨rfl, rfl⟩) | (go_at_call 24; refine (c_l1In _ _ _ _).mono ?_; rintro e w' ⟨rfl, rfl⟩))
  refine bodyPost_ret (v := rv 1 0 0 0) (by simp [results, Try.results18, go_sem]) rfl ⟨rfl, ?_⟩
  repeat (first | exact (Below.refl _ _).alloc (Nat.le_refl _) _ | refine Below.setCell ?_ (by simp) _)

set_option maxRecDepth 100000 in
set_option maxHeartbeats 1000000 in
theorem c_specOne (n : Int) (w : World) (h : inB n 0 4294967295 = true) :
    Calls Try.prog 18 #[.int .i64 n] w fun e w' => e = .returned (rv n n n 0) ∧ Below w.heap.size w w' := by
  go_enter Try.func18, Try.ntmps18
  go_wp2_with (first | (go_at_call 25; refine (c_l2Top _).mono ?_; rintro e w' ⟨rfl, rfl⟩) | (go_at_call 24; refine (c_l1In _ _ _ _).mono ?_; rintro e w' ⟨rfl, rfl⟩))
  refine (c_l2One _ _).mono ?_
  rintro e w1 ⟨rfl, hb1⟩
  have q1 := (RBox.new w 0 0 0 0).below hb1
  have bel1 : Below w.heap.size w w1 := ((Below.refl _ _).alloc (Nat.le_refl _) _).trans (hb1.mono (by simp))
  obtain ⟨g0, g1, g2, g3⟩ := RBox.box q1
  have fq := RBox.frozen q1
  have P5 := hid (st4_new w w1 n n n 0 q1 bel1)
  clear q1 bel1 hb1
  go_wp2_with fail
  obtain ⟨⟨p0, p1, p2, p3⟩, B5⟩ := P5.out
  unfold st4 at p0 p1 p2 p3
  exact bodyPost_ret (v := rv n n n 0) (by simp [results, Try.results18, go_sem, p0, p1, p2, p3]) rfl ⟨rfl, B5⟩

set_option maxRecDepth 100000 in
set_option maxHeartbeats 1000000 in
theorem law_one' (n x y z u : Int) (w : World)
    (hs : Hid (∀ w, Calls Try.prog 18 #[.int .i64 n] w fun e w' => e = .returned (rv x y z u) ∧ Below w.heap.size w w'))
    (hp : Hid (∀ w, Calls Try.prog 19 #[.int .i64 n] w fun e w' => e = .returned (rv x y z u) ∧ Below w.heap.size w w')) :
    Calls Try.prog 7 #[.int .i64 n] w fun e w' => e = .returned (.bool true) ∧ Below w.heap.size w w' := by
  go_enter Try.func7, Try.ntmps7
  go_wp2_with fail
  refine (hs.out _).mono ?_
  rintro e w1 ⟨rfl, hb1⟩
  go_wp2_with fail
  refine (hp.out _).mono ?_
  rintro e w2 ⟨rfl, hb2⟩
  have b2 := (Box4.new w1 x y z u 27).below hb2 (by simp)
  have l2 : w1.heap.size < w2.heap.size := by have := hb2.size; simp at this; omega
  obtain ⟨c0, c1, c2, c3⟩ := b2
  go_wp2_with fail
  refine (c_eqRange x y z u _).mono ?_
  rintro e w3 ⟨rfl, hb3⟩
  have h1 := hb1.size
  have bel2 := (hb1.alloc hb1.size _).trans (hb2.mono (by simp; omega))
  have bel3 := (bel2.alloc bel2.size _).trans (hb3.mono (by have := bel2.size; simp; omega))
  go_wp2_with fail
  go_ret
  exact ⟨rfl, bel3⟩

theorem law_one (n : Int) (w : World) : Calls Try.prog 7 #[.int .i64 n] w fun e w' => e = .returned (.bool true) ∧ Below w.heap.size w w' := by
  cases h : inB n 0 4294967295
  · exact law_one' n 1 0 0 0 w (fun w => c_specOne_bad n w h) (fun w => c_RangeOne_bad n w h)
  · exact law_one' n n n n 0 w (fun w => c_specOne n w h) (fun w => c_RangeOne n w h)
end Go.Proofs.Ytcigdckmiibgmaa
