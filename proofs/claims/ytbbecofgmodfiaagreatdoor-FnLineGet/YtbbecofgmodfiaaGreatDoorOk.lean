/- Contracts of InsOk of the program and of the specification. -/
import Derived.Test.YtbbecofgmodfiaaGreatDoorLeaf
namespace Go.Proofs.YtbbecofgmodfiaaGreatDoor
open Go.RowKit

def insOkB (o d s f i z : Int) : Bool := inB o 1 20 && dstFitsB o d && srcFitsB o s i && offFitsB o f && sizeFitsB o z
def bareB (o d s f i z : Int) : Bool :=
  if inB o 1 11 then isB f 0 && isB z 0 && (decide (s < 0) || isB i 0)
  else if inB o 12 15 then isB z 0 && (decide (s < 0) || isB i 0)
  else if isB o 16 then isB d 0 && isB s (-1) && isB i 0 && isB z 0
  else if isB o 17 then decide (0 ≤ s) && isB i 0 && (isB z 1 || isB z 2 || isB z 4)
  else if isB o 18 then (decide (s < 0) || isB i 0) && (isB z 1 || isB z 2 || isB z 4)
  else if isB o 19 then isB d 0 && isB s (-1) && isB f 0 && isB z 0 && inB i 1 6
  else if isB o 20 then isB d 0 && isB s (-1) && isB f 0 && isB i 0 && isB z 0
  else false
def sokB (o d s f i z : Int) : Bool := inB d 0 10 && inB s (-1) 10 && inB f (-128) 127 && inB i 0 4294967295 && bareB o d s f i z

set_option maxHeartbeats 400000 in
theorem f11 (o d s f i z : Int) (w : World) :
    Calls Tryz.prog 13 #[.agg #[.int .i64 o, .int .i64 d, .int .i64 s, .int .i64 f, .int .i64 i, .int .i64 z]] w fun e w' => e = .returned (.bool (insOkB o d s f i z)) ∧ Below w.heap.size w w' := by
  go_enter Tryz.func13, Tryz.ntmps13
  go_wp2_with (first | (go_at_call 27; refine (f29 _ _).mono ?_; rintro e w' ⟨rfl, rfl⟩) | (go_at_call 28; refine (f30 _ _ _).mono ?_; rintro e w' ⟨rfl, rfl⟩) | (go_at_call 29; refine (f31 _ _ _ _).mono ?_; rintro e w' ⟨rfl, rfl⟩) | (go_at_call 30; refine (f32 _ _ _).mono ?_; rintro e w' ⟨rfl, rfl⟩) | (go_at_call 31; refine (f33 _ _ _).mono ?_; rintro e w' ⟨rfl, rfl⟩))
  all_goals (go_ret; exact ⟨ret_bool (by simp_all [insOkB]), (Below.refl _ _).alloc (Nat.le_refl _) _⟩)

theorem ok_same (o d s f i z : Int) : insOkB o d s f i z = sokB o d s f i z := by
  rw [Bool.eq_iff_iff]
  unfold insOkB sokB bareB dstFitsB srcFitsB offFitsB sizeFitsB
  rcases (by omega : o = 1 ∨ o = 2 ∨ o = 3 ∨ o = 4 ∨ o = 5 ∨ o = 6 ∨ o = 7 ∨ o = 8 ∨ o = 9 ∨ o = 10 ∨ o = 11 ∨ o = 12 ∨ o = 13 ∨ o = 14 ∨ o = 15 ∨ o = 16 ∨ o = 17 ∨ o = 18 ∨ o = 19 ∨ o = 20 ∨ o < 1 ∨ 20 < o) with rfl | rfl | rfl | rfl | rfl | rfl | rfl | rfl | rfl | rfl | rfl | rfl | rfl | rfl | rfl | rfl | rfl | rfl | rfl | rfl | h | h
  case inr.inr.inr.inr.inr.inr.inr.inr.inr.inr.inr.inr.inr.inr.inr.inr.inr.inr.inr.inr.inl =>
    have e1 : inB o 1 20 = false := by simp [inB]; omega
    have e2 : inB o 1 11 = false := by simp [inB]; omega
    have e3 : inB o 12 15 = false := by simp [inB]; omega
    have e4 : isB o 16 = false ∧ isB o 17 = false ∧ isB o 18 = false ∧ isB o 19 = false ∧ isB o 20 = false := by simp [isB]; omega
    simp [e1, e2, e3, e4]
  case inr.inr.inr.inr.inr.inr.inr.inr.inr.inr.inr.inr.inr.inr.inr.inr.inr.inr.inr.inr.inr =>
    have e1 : inB o 1 20 = false := by simp [inB]; omega
    have e2 : inB o 1 11 = false := by simp [inB]; omega
    have e3 : inB o 12 15 = false := by simp [inB]; omega
    have e4 : isB o 16 = false ∧ isB o 17 = false ∧ isB o 18 = false ∧ isB o 19 = false ∧ isB o 20 = false := by simp [isB]; omega
    simp [e1, e2, e3, e4]
  all_goals (simp [inB, isB, reachesB, jumpsB]; try split)
  all_goals omega

set_option maxRecDepth 100000 in
set_option maxHeartbeats 400000 in
theorem f41a (o d s f i z : Int) (w : World) (h1 : inB o 1 11 = true) :
    Calls Tryz.prog 38 #[.agg #[.int .i64 o, .int .i64 d, .int .i64 s, .int .i64 f, .int .i64 i, .int .i64 z]] w fun e w' => e = .returned (.bool (bareB o d s f i z)) ∧ Below w.heap.size w w' := by
  go_enter Tryz.func38, Tryz.ntmps38
  go_wp2_with (first | (go_at_call 41; refine (f49 _ _).mono ?_; rintro e w' ⟨rfl, rfl⟩) | (go_at_call 43; refine (f48 _ _).mono ?_; rintro e w' ⟨rfl, rfl⟩) | (go_at_call 37; refine (f40 _ _ _ _).mono ?_; rintro e w' ⟨rfl, rfl⟩))
  all_goals (go_ret; refine ⟨ret_bool ?_, (Below.refl _ _).alloc (Nat.le_refl _) _⟩; first | (simp_all [bareB, isB]; done) | (simp_all [bareB, isB]; omega))

set_option maxRecDepth 100000 in
set_option maxHeartbeats 400000 in
theorem f41b (o d s f i z : Int) (w : World) (h1 : inB o 1 11 = false) (h2 : inB o 12 15 = true) :
    Calls Tryz.prog 38 #[.agg #[.int .i64 o, .int .i64 d, .int .i64 s, .int .i64 f, .int .i64 i, .int .i64 z]] w fun e w' => e = .returned (.bool (bareB o d s f i z)) ∧ Below w.heap.size w w' := by
  go_enter Tryz.func38, Tryz.ntmps38
  go_wp2_with (first | (go_at_call 41; refine (f49 _ _).mono ?_; rintro e w' ⟨rfl, rfl⟩) | (go_at_call 43; refine (f48 _ _).mono ?_; rintro e w' ⟨rfl, rfl⟩) | (go_at_call 37; refine (f40 _ _ _ _).mono ?_; rintro e w' ⟨rfl, rfl⟩))
  all_goals (go_ret; refine ⟨ret_bool ?_, (Below.refl _ _).alloc (Nat.le_refl _) _⟩; first | (simp_all [bareB, isB]; done) | (simp_all [bareB, isB]; omega))

set_option maxRecDepth 100000 in
set_option maxHeartbeats 400000 in
theorem f41c (d s f i z : Int) (w : World) :
    Calls Tryz.prog 38 #[.agg #[.int .i64 16, .int .i64 d, .int .i64 s, .int .i64 f, .int .i64 i, .int .i64 z]] w fun e w' => e = .returned (.bool (bareB 16 d s f i z)) ∧ Below w.heap.size w w' := by
  have h1 : inB 16 1 11 = false := by decide
  have h2 : inB 16 12 15 = false := by decide
  go_enter Tryz.func38, Tryz.ntmps38
  go_wp2_with (first | (go_at_call 41; refine (f49 _ _).mono ?_; rintro e w' ⟨rfl, rfl⟩) | (go_at_call 43; refine (f48 _ _).mono ?_; rintro e w' ⟨rfl, rfl⟩) | (go_at_call 37; refine (f40 _ _ _ _).mono ?_; rintro e w' ⟨rfl, rfl⟩))
  all_goals (go_ret; refine ⟨ret_bool ?_, (Below.refl _ _).alloc (Nat.le_refl _) _⟩; first | (simp_all [bareB, isB]; done) | (simp_all [bareB, isB]; omega))

set_option maxRecDepth 100000 in
set_option maxHeartbeats 400000 in
theorem f41d (d s f i z : Int) (w : World) :
    Calls Tryz.prog 38 #[.agg #[.int .i64 17, .int .i64 d, .int .i64 s, .int .i64 f, .int .i64 i, .int .i64 z]] w fun e w' => e = .returned (.bool (bareB 17 d s f i z)) ∧ Below w.heap.size w w' := by
  have h1 : inB 17 1 11 = false := by decide
  have h2 : inB 17 12 15 = false := by decide
  go_enter Tryz.func38, Tryz.ntmps38
  go_wp2_with (first | (go_at_call 41; refine (f49 _ _).mono ?_; rintro e w' ⟨rfl, rfl⟩) | (go_at_call 43; refine (f48 _ _).mono ?_; rintro e w' ⟨rfl, rfl⟩) | (go_at_call 37; refine (f40 _ _ _ _).mono ?_; rintro e w' ⟨rfl, rfl⟩))
  all_goals (go_ret; refine ⟨ret_bool ?_, (Below.refl _ _).alloc (Nat.le_refl _) _⟩; first | (simp_all [bareB, isB]; done) | (simp_all [bareB, isB]; omega))

set_option maxRecDepth 100000 in
set_option maxHeartbeats 400000 in
theorem f41e (d s f i z : Int) (w : World) :
    Calls Tryz.prog 38 #[.agg #[.int .i64 18, .int .i64 d, .int .i64 s, .int .i64 f, .int .i64 i, .int .i64 z]] w fun e w' => e = .returned (.bool (bareB 18 d s f i z)) ∧ Below w.heap.size w w' := by
  have h1 : inB 18 1 11 = false := by decide
  have h2 : inB 18 12 15 = false := by decide
  go_enter Tryz.func38, Tryz.ntmps38
  go_wp2_with (first | (go_at_call 41; refine (f49 _ _).mono ?_; rintro e w' ⟨rfl, rfl⟩) | (go_at_call 43; refine (f48 _ _).mono ?_; rintro e w' ⟨rfl, rfl⟩) | (go_at_call 37; refine (f40 _ _ _ _).mono ?_; rintro e w' ⟨rfl, rfl⟩))
  all_goals (go_ret; refine ⟨ret_bool ?_, (Below.refl _ _).alloc (Nat.le_refl _) _⟩; first | (simp_all [bareB, isB]; done) | (simp_all [bareB, isB]; omega))

set_option maxRecDepth 100000 in
set_option maxHeartbeats 400000 in
theorem f41f (d s f i z : Int) (w : World) :
    Calls Tryz.prog 38 #[.agg #[.int .i64 19, .int .i64 d, .int .i64 s, .int .i64 f, .int .i64 i, .int .i64 z]] w fun e w' => e = .returned (.bool (bareB 19 d s f i z)) ∧ Below w.heap.size w w' := by
  have h1 : inB 19 1 11 = false := by decide
  have h2 : inB 19 12 15 = false := by decide
  go_enter Tryz.func38, Tryz.ntmps38
  go_wp2_with (first | (go_at_call 41; refine (f49 _ _).mono ?_; rintro e w' ⟨rfl, rfl⟩) | (go_at_call 43; refine (f48 _ _).mono ?_; rintro e w' ⟨rfl, rfl⟩) | (go_at_call 37; refine (f40 _ _ _ _).mono ?_; rintro e w' ⟨rfl, rfl⟩))
  all_goals (go_ret; refine ⟨ret_bool ?_, (Below.refl _ _).alloc (Nat.le_refl _) _⟩; first | (simp_all [bareB, isB]; done) | (simp_all [bareB, isB]; omega))

set_option maxRecDepth 100000 in
set_option maxHeartbeats 400000 in
theorem f41h (o d s f i z : Int) (w : World) (h1 : inB o 1 11 = false) (h2 : inB o 12 15 = false) (h3 : (o == 16) = false) (h4 : (o == 17) = false) (h5 : (o == 18) = false) (h6 : (o == 19) = false) (h7 : (o == 20) = false) :
    Calls Tryz.prog 38 #[.agg #[.int .i64 o, .int .i64 d, .int .i64 s, .int .i64 f, .int .i64 i, .int .i64 z]] w fun e w' => e = .returned (.bool (bareB o d s f i z)) ∧ Below w.heap.size w w' := by
  go_enter Tryz.func38, Tryz.ntmps38
  go_wp2_with (first | (go_at_call 41; refine (f49 _ _).mono ?_; rintro e w' ⟨rfl, rfl⟩) | (go_at_call 43; refine (f48 _ _).mono ?_; rintro e w' ⟨rfl, rfl⟩) | (go_at_call 37; refine (f40 _ _ _ _).mono ?_; rintro e w' ⟨rfl, rfl⟩))
  all_goals (go_ret; refine ⟨ret_bool ?_, (Below.refl _ _).alloc (Nat.le_refl _) _⟩; first | (simp_all [bareB, isB]; done) | (simp_all [bareB, isB]; omega))

set_option maxRecDepth 100000 in
set_option maxHeartbeats 400000 in
theorem f41g (d s f i z : Int) (w : World) :
    Calls Tryz.prog 38 #[.agg #[.int .i64 20, .int .i64 d, .int .i64 s, .int .i64 f, .int .i64 i, .int .i64 z]] w fun e w' => e = .returned (.bool (bareB 20 d s f i z)) ∧ Below w.heap.size w w' := by
  have h1 : inB 20 1 11 = false := by decide
  have h2 : inB 20 12 15 = false := by decide
  go_enter Tryz.func38, Tryz.ntmps38
  go_wp2_with (first | (go_at_call 41; refine (f49 _ _).mono ?_; rintro e w' ⟨rfl, rfl⟩) | (go_at_call 43; refine (f48 _ _).mono ?_; rintro e w' ⟨rfl, rfl⟩) | (go_at_call 37; refine (f40 _ _ _ _).mono ?_; rintro e w' ⟨rfl, rfl⟩))
  all_goals (go_ret; refine ⟨ret_bool ?_, (Below.refl _ _).alloc (Nat.le_refl _) _⟩; first | (simp_all [bareB, isB]; done) | (simp_all [bareB, isB]; omega))

theorem f41 (o d s f i z : Int) (w : World) :
    Calls Tryz.prog 38 #[.agg #[.int .i64 o, .int .i64 d, .int .i64 s, .int .i64 f, .int .i64 i, .int .i64 z]] w fun e w' => e = .returned (.bool (bareB o d s f i z)) ∧ Below w.heap.size w w' := by
  cases h1 : inB o 1 11
  · cases h2 : inB o 12 15
    · by_cases h3 : o = 16
      · subst h3; exact f41c d s f i z w
      by_cases h4 : o = 17
      · subst h4; exact f41d d s f i z w
      by_cases h5 : o = 18
      · subst h5; exact f41e d s f i z w
      by_cases h6 : o = 19
      · subst h6; exact f41f d s f i z w
      by_cases h7 : o = 20
      · subst h7; exact f41g d s f i z w
      exact f41h o d s f i z w h1 h2 (by simpa using h3) (by simpa using h4) (by simpa using h5) (by simpa using h6) (by simpa using h7)
    · exact f41b o d s f i z w h1 h2
  · exact f41a o d s f i z w h1

end Go.Proofs.YtbbecofgmodfiaaGreatDoor
