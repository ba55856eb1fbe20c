/- The walk of the law FnExactRangeSome. -/
import Derived.Test.YtcigdckmiibgmabEQ
namespace Go.Proofs.Ytcigdckmiibgmab
open Go.RowKit
set_option linter.unusedVariables false
set_option linter.unusedSimpArgs false

set_option maxRecDepth 100000 in
set_option maxHeartbeats 1000000 in
theorem law_some (lo hi b o : Int) (q : Bool) (w : World)
    (hs : Hid (∀ w, Calls Try.prog 9 #[rv lo hi b o] w fun e w' => e = .returned (.bool q) ∧ Below w.heap.size w w'))
    (hp : Hid (∀ w, Calls Try.prog 11 #[rv lo hi b o] w fun e w' => e = .returned (.bool q) ∧ Below w.heap.size w w')) :
    Calls Try.prog 3 #[rv lo hi b o] w fun e w' => e = .returned (.bool true) ∧ Below w.heap.size w w' := by
  go_enter Try.func3, Try.ntmps3
  go_wp2_with fail
  refine (c_toRange _ _ _ _ _).mono ?_
  rintro e w1 ⟨rfl, hb1⟩
  have bA1 := (Box4.new w lo hi b o 23).below hb1 (by simp <;> omega)
  have bel1 : Below w.heap.size w w1 := ((Below.refl _ _).alloc (Nat.le_refl _) _).trans (hb1.mono (by simp <;> omega))
  have lA1 : w.heap.size < w1.heap.size := by have := hb1.size; simp at this; omega
  clear hb1
  go_wp2_with fail
  refine (hs.out _).mono ?_
  rintro e w2 ⟨rfl, hb2⟩
  have bA2 := bA1.below hb2 lA1
  have bel2 := bel1.trans (hb2.mono bel1.size)
  have lA2 : w.heap.size < w2.heap.size := by have := hb2.size; omega
  clear bA1 lA1 bel1
  clear hb2
  have cA0 := bA2.c0
  have cA1 := bA2.c1
  have cA2 := bA2.c2
  have cA3 := bA2.c3
  go_wp2_with fail
  refine (c_toRange _ _ _ _ _).mono ?_
  rintro e w3 ⟨rfl, hb3⟩
  have bA3 := bA2.below hb3 lA2
  have bel3 := bel2.trans (hb3.mono bel2.size)
  have lA3 : w.heap.size < w3.heap.size := by have := hb3.size; omega
  clear bA2 lA2 bel2
  clear hb3
  clear cA0 cA1 cA2 cA3
  go_wp2_with fail
  refine (hp.out _).mono ?_
  rintro e w4 ⟨rfl, hb4⟩
  have bA4 := bA3.below hb4 lA3
  have bel4 := bel3.trans (hb4.mono bel3.size)
  have lA4 : w.heap.size < w4.heap.size := by have := hb4.size; omega
  clear bA3 lA3 bel3
  clear hb4
  go_wp2_with fail
  go_ret
  exact ⟨rfl, bel4⟩

set_option maxRecDepth 100000 in
set_option maxHeartbeats 1000000 in
theorem law_least (lo hi b o : Int) (q : Int) (w : World)
    (hs : Hid (∀ w, Calls Try.prog 12 #[rv lo hi b o] w fun e w' => e = .returned (.int .i64 q) ∧ Below w.heap.size w w'))
    (hp : Hid (∀ w, Calls Try.prog 13 #[rv lo hi b o] w fun e w' => e = .returned (.int .i64 q) ∧ Below w.heap.size w w')) :
    Calls Try.prog 4 #[rv lo hi b o] w fun e w' => e = .returned (.bool true) ∧ Below w.heap.size w w' := by
  go_enter Try.func4, Try.ntmps4
  go_wp2_with fail
  refine (c_toRange _ _ _ _ _).mono ?_
  rintro e w1 ⟨rfl, hb1⟩
  have bA1 := (Box4.new w lo hi b o 23).below hb1 (by simp <;> omega)
  have bel1 : Below w.heap.size w w1 := ((Below.refl _ _).alloc (Nat.le_refl _) _).trans (hb1.mono (by simp <;> omega))
  have lA1 : w.heap.size < w1.heap.size := by have := hb1.size; simp at this; omega
  clear hb1
  go_wp2_with fail
  refine (hs.out _).mono ?_
  rintro e w2 ⟨rfl, hb2⟩
  have bA2 := bA1.below hb2 lA1
  have bel2 := bel1.trans (hb2.mono bel1.size)
  have lA2 : w.heap.size < w2.heap.size := by have := hb2.size; omega
  clear bA1 lA1 bel1
  clear hb2
  have cA0 := bA2.c0
  have cA1 := bA2.c1
  have cA2 := bA2.c2
  have cA3 := bA2.c3
  go_wp2_with fail
  refine (c_toRange _ _ _ _ _).mono ?_
  rintro e w3 ⟨rfl, hb3⟩
  have bA3 := bA2.below hb3 lA2
  have bel3 := bel2.trans (hb3.mono bel2.size)
  have lA3 : w.heap.size < w3.heap.size := by have := hb3.size; omega
  clear bA2 lA2 bel2
  clear hb3
  clear cA0 cA1 cA2 cA3
  go_wp2_with fail
  refine (hp.out _).mono ?_
  rintro e w4 ⟨rfl, hb4⟩
  have bA4 := bA3.below hb4 lA3
  have bel4 := bel3.trans (hb4.mono bel3.size)
  have lA4 : w.heap.size < w4.heap.size := by have := hb4.size; omega
  clear bA3 lA3 bel3
  clear hb4
  go_wp2_with fail
  go_ret
  exact ⟨rfl, bel4⟩

end Go.Proofs.Ytcigdckmiibgmab
