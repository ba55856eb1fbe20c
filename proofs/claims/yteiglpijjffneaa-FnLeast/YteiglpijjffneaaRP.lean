/- Contracts: the specification's RangeSome and RangeLeast. -/
import Derived.Test.YteiglpijjffneaaEQ
namespace Go.Proofs.Yteiglpijjffneaa
open Go.RowKit
set_option linter.unusedVariables false
set_option linter.unusedSimpArgs false

theorem one1 (w : World) (o1 : Obj) {w1 : World} (hb1 : Below (w.alloc o1).heap.size (w.alloc o1) w1) : Below w.heap.size w w1 := ((Below.refl _ _).alloc (Nat.le_refl _) _).trans (hb1.mono (by simp))

set_option maxRecDepth 100000 in
set_option maxHeartbeats 1000000 in
theorem c_specSome_bad (lo hi b o : Int) (w : World) (h : okB lo hi b o = false) :
    Calls Try.prog 28 #[rv lo hi b o] w fun e w' => e = .returned (.bool false) ∧ Below w.heap.size w w' := by
  go_enter Try.func28, Try.ntmps28
  go_wp2_with fail
  refine (c_l2Ok lo hi b o _).mono ?_
  rintro e w1 ⟨rfl, hb1⟩
  rw [h]
  go_wp2_with fail
  go_ret
  exact ⟨rfl, one1 w _ hb1⟩

set_option maxRecDepth 100000 in
set_option maxHeartbeats 1000000 in
theorem c_specSome (lo hi b o : Nat) (w : World) (h : OkN lo hi b o) :
    Calls Try.prog 28 #[rv lo hi b o] w fun e w' => e = .returned (.bool (someN lo hi b o)) ∧ Below w.heap.size w w' := by
  have Hok := hid (okB_of h)
  have Hn := hid h
  clear h
  go_enter Try.func28, Try.ntmps28
  go_wp2_with fail
  refine (c_l2Ok lo hi b o _).mono ?_
  rintro e w1 ⟨rfl, hb1⟩
  rw [Hok.out]
  have b1 := (Box4.new w lo hi b o 29).below hb1 (by simp)
  have bel1 := one1 w _ hb1
  obtain ⟨c0, c1, c2, c3⟩ := b1
  go_wp2_with fail
  refine (c_l2Some lo hi b o _ Hn.out).mono ?_
  rintro e w2 ⟨rfl, hb2⟩
  go_wp2_with fail
  go_ret
  exact ⟨rfl, bel1.trans (hb2.mono bel1.size)⟩

set_option maxRecDepth 100000 in
set_option maxHeartbeats 1000000 in
theorem c_specLeast_bad (lo hi b o : Int) (w : World) (h : okB lo hi b o = false) :
    Calls Try.prog 29 #[rv lo hi b o] w fun e w' => e = .returned (.int .i64 (-1)) ∧ Below w.heap.size w w' := by
  go_enter Try.func29, Try.ntmps29
  go_wp2_with fail
  refine (c_l2Ok lo hi b o _).mono ?_
  rintro e w1 ⟨rfl, hb1⟩
  rw [h]
  go_wp2_with fail
  go_ret
  exact ⟨rfl, one1 w _ hb1⟩

set_option maxRecDepth 100000 in
set_option maxHeartbeats 1000000 in
theorem c_specLeast (lo hi b o : Nat) (w : World) (h : OkN lo hi b o) :
    Calls Try.prog 29 #[rv lo hi b o] w fun e w' => e = .returned (.int .i64 (leastR lo hi b o)) ∧ Below w.heap.size w w' := by
  have Hok := hid (okB_of h)
  have Hn := hid h
  clear h
  cases hs : someN lo hi b o
  · have Hl : Hid (leastR lo hi b o = -1) := by show leastR lo hi b o = -1; rw [leastR, hs, if_neg (by simp)]
    have Hs := hid hs
    clear hs
    go_enter Try.func29, Try.ntmps29
    go_wp2_with fail
    refine (c_l2Ok lo hi b o _).mono ?_
    rintro e w1 ⟨rfl, hb1⟩
    rw [Hok.out]
    have b1 := (Box4.new w lo hi b o 29).below hb1 (by simp)
    have bel1 := one1 w _ hb1
    obtain ⟨c0, c1, c2, c3⟩ := b1
    go_wp2_with fail
    refine (c_l2Some lo hi b o _ Hn.out).mono ?_
    rintro e w2 ⟨rfl, hb2⟩
    rw [Hs.out]
    go_wp2_with fail
    go_ret
    exact ⟨ret_int Hl.out.symm, bel1.trans (hb2.mono bel1.size)⟩
  · have Hl : Hid (leastR lo hi b o = nextN lo b o) := by show leastR lo hi b o = _; rw [leastR, hs, if_pos rfl]
    have Hs := hid hs
    clear hs
    go_enter Try.func29, Try.ntmps29
    go_wp2_with fail
    refine (c_l2Ok lo hi b o _).mono ?_
    rintro e w1 ⟨rfl, hb1⟩
    rw [Hok.out]
    have b1 := (Box4.new w lo hi b o 29).below hb1 (by simp)
    have bel1 := one1 w _ hb1
    have l1 : w.heap.size < w1.heap.size := by have := hb1.size; simp at this; omega
    obtain ⟨c0, c1, c2, c3⟩ := b1
    go_wp2_with fail
    refine (c_l2Some lo hi b o _ Hn.out).mono ?_
    rintro e w2 ⟨rfl, hb2⟩
    rw [Hs.out]
    have b2 := Box4.below ⟨c0, c1, c2, c3⟩ hb2 l1
    have bel2 := bel1.trans (hb2.mono bel1.size)
    clear c0 c1 c2 c3
    obtain ⟨c0, c1, c2, c3⟩ := b2
    go_wp2_with fail
    refine (c_l2Next _ _ b o lo _ Hn.out.b Hn.out.o Hn.out.lo Hn.out.d).mono ?_
    rintro e w3 ⟨rfl, hb3⟩
    go_wp2_with fail
    go_ret
    exact ⟨ret_int Hl.out.symm, bel2.trans (hb3.mono bel2.size)⟩
end Go.Proofs.Yteiglpijjffneaa
