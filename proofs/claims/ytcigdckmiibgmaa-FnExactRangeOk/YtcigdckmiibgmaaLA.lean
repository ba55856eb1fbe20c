/- The walk of the law FnExactRangeTidy. -/
import Derived.Test.YtcigdckmiibgmaaRM
namespace Go.Proofs.Ytcigdckmiibgmaa
open Go.RowKit
set_option linter.unusedVariables false
set_option linter.unusedSimpArgs false

set_option maxRecDepth 100000 in
set_option maxHeartbeats 1000000 in
theorem law_tidy (lo hi b o : Int) (x y z u : Int) (w : World)
    (hs : Hid (∀ w, Calls Try.prog 21 #[rv lo hi b o] w fun e w' => e = .returned (rv x y z u) ∧ Below w.heap.size w w'))
    (hp : Hid (∀ w, Calls Try.prog 22 #[rv lo hi b o] w fun e w' => e = .returned (rv x y z u) ∧ Below w.heap.size w w')) :
    Calls Try.prog 8 #[rv lo hi b o] w fun e w' => e = .returned (.bool true) ∧ Below w.heap.size w w' := by
  go_enter Try.func8, Try.ntmps8
  go_wp2_with fail
  refine (c_toRange _ _ _ _ _).mono ?_
  rintro e w1 ⟨rfl, hb1⟩
  have bA1 := (Box4.new w lo hi b o 25).below hb1 (by simp <;> omega)
  have bel1 : Below w.heap.size w w1 := ((Below.refl _ _).alloc (Nat.le_refl _) _).trans (hb1.mono (by simp <;> omega))
  have lA1 : w.heap.size < w1.heap.size := by have := hb1.size; simp at this; omega
  clear hb1
  go_wp2_with fail
  refine (hs.out _).mono ?_
  rintro e w2 ⟨rfl, hb2⟩
  have bA2 := bA1.below hb2 lA1
  have bel2 := bel1.trans (hb2.mono bel1.size)
  have lA2 : w.heap.size < w2.heap.size := by have := hb2.size; omega
  clear bA1 lA1 bel1
  clear hb2
  have cA0 := bA2.c0
  have cA1 := bA2.c1
  have cA2 := bA2.c2
  have cA3 := bA2.c3
  go_wp2_with fail
  refine (c_toRange _ _ _ _ _).mono ?_
  rintro e w3 ⟨rfl, hb3⟩
  have bA3 := (bA2.alloc lA2 _).below hb3 (by simp; omega)
  have bG3 := (Box4.new w2 (x) (y) (z) (u) 27).below hb3 (by simp)
  have bel3 := (bel2.alloc bel2.size _).trans (hb3.mono (by have := bel2.size; simp; omega))
  have lA3 : w.heap.size < w3.heap.size := by have := hb3.size; simp at this; omega
  have lG3 : w2.heap.size < w3.heap.size := by have := hb3.size; simp at this; omega
  clear bA2 lA2 bel2
  clear hb3
  clear cA0 cA1 cA2 cA3
  go_wp2_with fail
  refine (hp.out _).mono ?_
  rintro e w4 ⟨rfl, hb4⟩
  have bA4 := bA3.below hb4 lA3
  have bG4 := bG3.below hb4 lG3
  have bel4 := bel3.trans (hb4.mono bel3.size)
  have lA4 : w.heap.size < w4.heap.size := by have := hb4.size; omega
  have lG4 : w2.heap.size < w4.heap.size := by have := hb4.size; omega
  clear bA3 lA3 bG3 lG3 bel3
  clear hb4
  have cG0 := bG4.c0
  have cG1 := bG4.c1
  have cG2 := bG4.c2
  have cG3 := bG4.c3
  go_wp2_with fail
  refine (c_eqRange x y z u _).mono ?_
  rintro e w5 ⟨rfl, hb5⟩
  have bA5 := (bA4.alloc lA4 _).below hb5 (by simp; omega)
  have bG5 := (bG4.alloc lG4 _).below hb5 (by simp; omega)
  have bH5 := (Box4.new w4 (x) (y) (z) (u) 27).below hb5 (by simp)
  have bel5 := (bel4.alloc bel4.size _).trans (hb5.mono (by have := bel4.size; simp; omega))
  have lA5 : w.heap.size < w5.heap.size := by have := hb5.size; simp at this; omega
  have lG5 : w2.heap.size < w5.heap.size := by have := hb5.size; simp at this; omega
  have lH5 : w4.heap.size < w5.heap.size := by have := hb5.size; simp at this; omega
  clear bA4 lA4 bG4 lG4 bel4
  clear hb5
  go_wp2_with fail
  go_ret
  exact ⟨rfl, bel5⟩

set_option maxRecDepth 100000 in
set_option maxHeartbeats 1000000 in
theorem law_ok (lo hi b o : Int) (q : Bool) (w : World)
    (hs : Hid (∀ w, Calls Try.prog 13 #[rv lo hi b o] w fun e w' => e = .returned (.bool q) ∧ Below w.heap.size w w'))
    (hp : Hid (∀ w, Calls Try.prog 15 #[rv lo hi b o] w fun e w' => e = .returned (.bool q) ∧ Below w.heap.size w w')) :
    Calls Try.prog 5 #[rv lo hi b o] w fun e w' => e = .returned (.bool true) ∧ Below w.heap.size w w' := by
  go_enter Try.func5, Try.ntmps5
  go_wp2_with fail
  refine (c_toRange _ _ _ _ _).mono ?_
  rintro e w1 ⟨rfl, hb1⟩
  have bA1 := (Box4.new w lo hi b o 25).below hb1 (by simp <;> omega)
  have bel1 : Below w.heap.size w w1 := ((Below.refl _ _).alloc (Nat.le_refl _) _).trans (hb1.mono (by simp <;> omega))
  have lA1 : w.heap.size < w1.heap.size := by have := hb1.size; simp at this; omega
  clear hb1
  go_wp2_with fail
  refine (hs.out _).mono ?_
  rintro e w2 ⟨rfl, hb2⟩
  have bA2 := bA1.below hb2 lA1
  have bel2 := bel1.trans (hb2.mono bel1.size)
  have lA2 : w.heap.size < w2.heap.size := by have := hb2.size; omega
  clear bA1 lA1 bel1
  clear hb2
  have cA0 := bA2.c0
  have cA1 := bA2.c1
  have cA2 := bA2.c2
  have cA3 := bA2.c3
  go_wp2_with fail
  refine (c_toRange _ _ _ _ _).mono ?_
  rintro e w3 ⟨rfl, hb3⟩
  have bA3 := bA2.below hb3 lA2
  have bel3 := bel2.trans (hb3.mono bel2.size)
  have lA3 : w.heap.size < w3.heap.size := by have := hb3.size; omega
  clear bA2 lA2 bel2
  clear hb3
  clear cA0 cA1 cA2 cA3
  go_wp2_with fail
  refine (hp.out _).mono ?_
  rintro e w4 ⟨rfl, hb4⟩
  have bA4 := bA3.below hb4 lA3
  have bel4 := bel3.trans (hb4.mono bel3.size)
  have lA4 : w.heap.size < w4.heap.size := by have := hb4.size; omega
  clear bA3 lA3 bel3
  clear hb4
  go_wp2_with fail
  go_ret
  exact ⟨rfl, bel4⟩

set_option maxRecDepth 100000 in
set_option maxHeartbeats 1000000 in
theorem law_has (lo hi b o : Int) (n : Int) (q : Bool) (w : World)
    (hs : Hid (∀ w, Calls Try.prog 16 #[rv lo hi b o, .int .i64 n] w fun e w' => e = .returned (.bool q) ∧ Below w.heap.size w w'))
    (hp : Hid (∀ w, Calls Try.prog 17 #[rv lo hi b o, .int .i64 n] w fun e w' => e = .returned (.bool q) ∧ Below w.heap.size w w')) :
    Calls Try.prog 6 #[rv lo hi b o, .int .i64 n] w fun e w' => e = .returned (.bool true) ∧ Below w.heap.size w w' := by
  go_enter Try.func6, Try.ntmps6
  go_wp2_with fail
  refine (c_toRange _ _ _ _ _).mono ?_
  rintro e w1 ⟨rfl, hb1⟩
  have bA1 := (Box4.new w lo hi b o 25).below hb1 (by simp <;> omega)
  have bel1 : Below w.heap.size w w1 := ((Below.refl _ _).alloc (Nat.le_refl _) _).trans (hb1.mono (by simp <;> omega))
  have lA1 : w.heap.size < w1.heap.size := by have := hb1.size; simp at this; omega
  clear hb1
  go_wp2_with fail
  refine (hs.out _).mono ?_
  rintro e w2 ⟨rfl, hb2⟩
  have bA2 := bA1.below hb2 lA1
  have bel2 := bel1.trans (hb2.mono bel1.size)
  have lA2 : w.heap.size < w2.heap.size := by have := hb2.size; omega
  clear bA1 lA1 bel1
  clear hb2
  have cA0 := bA2.c0
  have cA1 := bA2.c1
  have cA2 := bA2.c2
  have cA3 := bA2.c3
  go_wp2_with fail
  refine (c_toRange _ _ _ _ _).mono ?_
  rintro e w3 ⟨rfl, hb3⟩
  have bA3 := bA2.below hb3 lA2
  have bel3 := bel2.trans (hb3.mono bel2.size)
  have lA3 : w.heap.size < w3.heap.size := by have := hb3.size; omega
  clear bA2 lA2 bel2
  clear hb3
  clear cA0 cA1 cA2 cA3
  go_wp2_with fail
  refine (hp.out _).mono ?_
  rintro e w4 ⟨rfl, hb4⟩
  have bA4 := bA3.below hb4 lA3
  have bel4 := bel3.trans (hb4.mono bel3.size)
  have lA4 : w.heap.size < w4.heap.size := by have := hb4.size; omega
  clear bA3 lA3 bel3
  clear hb4
  go_wp2_with fail
  go_ret
  exact ⟨rfl, bel4⟩

end Go.Proofs.Ytcigdckmiibgmaa
