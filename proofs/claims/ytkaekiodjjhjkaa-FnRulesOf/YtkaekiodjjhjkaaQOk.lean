/- Contracts of InsOk of the program and of the specification. -/
import Derived.Test.YtkaekiodjjhjkaaQLeaf
namespace Go.Proofs.Ytkaekiodjjhjkaa
open Go.RowKit

def bareB (o d s f i z : Int) : Bool :=
  if inB o 1 11 then isB f 0 && isB z 0 && (decide (s < 0) || isB i 0)
  else if inB o 12 15 then isB z 0 && (decide (s < 0) || isB i 0)
  else if isB o 16 then isB d 0 && isB s (-1) && isB i 0 && isB z 0
  else if isB o 17 then decide (0 ≤ s) && isB i 0 && (isB z 1 || isB z 2 || isB z 4)
  else if isB o 18 then (decide (s < 0) || isB i 0) && (isB z 1 || isB z 2 || isB z 4)
  else if isB o 19 then isB d 0 && isB s (-1) && isB f 0 && isB z 0 && inB i 1 6
  else if isB o 20 then isB d 0 && isB s (-1) && isB f 0 && isB i 0 && isB z 0
  else false
def sokB (o d s f i z : Int) : Bool := inB d 0 10 && inB s (-1) 10 && inB f (-128) 127 && inB i 0 4294967295 && bareB o d s f i z

set_option maxRecDepth 100000 in
set_option maxHeartbeats 400000 in
theorem f41a (o d s f i z : Int) (w : World) (h1 : inB o 1 11 = true) :
    Calls Try.prog 98 #[.agg #[.int .i64 o, .int .i64 d, .int .i64 s, .int .i64 f, .int .i64 i, .int .i64 z]] w fun e w' => e = .returned (.bool (bareB o d s f i z)) ∧ Below w.heap.size w w' := by
  go_enter Try.func98, Try.ntmps98
  go_wp2_with (first | (go_at_call 93; refine (f49 _ _).mono ?_; rintro e w' ⟨rfl, rfl⟩) | (go_at_call 94; refine (f48 _ _).mono ?_; rintro e w' ⟨rfl, rfl⟩) | (go_at_call 56; refine (f40 _ _ _ _).mono ?_; rintro e w' ⟨rfl, rfl⟩))
  all_goals (go_ret; refine ⟨ret_bool ?_, (Below.refl _ _).alloc (Nat.le_refl _) _⟩; first | (simp_all [bareB, isB]; done) | (simp_all [bareB, isB]; omega))

set_option maxRecDepth 100000 in
set_option maxHeartbeats 400000 in
theorem f41b (o d s f i z : Int) (w : World) (h1 : inB o 1 11 = false) (h2 : inB o 12 15 = true) :
    Calls Try.prog 98 #[.agg #[.int .i64 o, .int .i64 d, .int .i64 s, .int .i64 f, .int .i64 i, .int .i64 z]] w fun e w' => e = .returned (.bool (bareB o d s f i z)) ∧ Below w.heap.size w w' := by
  go_enter Try.func98, Try.ntmps98
  go_wp2_with (first | (go_at_call 93; refine (f49 _ _).mono ?_; rintro e w' ⟨rfl, rfl⟩) | (go_at_call 94; refine (f48 _ _).mono ?_; rintro e w' ⟨rfl, rfl⟩) | (go_at_call 56; refine (f40 _ _ _ _).mono ?_; rintro e w' ⟨rfl, rfl⟩))
  all_goals (go_ret; refine ⟨ret_bool ?_, (Below.refl _ _).alloc (Nat.le_refl _) _⟩; first | (simp_all [bareB, isB]; done) | (simp_all [bareB, isB]; omega))

set_option maxRecDepth 100000 in
set_option maxHeartbeats 400000 in
theorem f41c (d s f i z : Int) (w : World) :
    Calls Try.prog 98 #[.agg #[.int .i64 16, .int .i64 d, .int .i64 s, .int .i64 f, .int .i64 i, .int .i64 z]] w fun e w' => e = .returned (.bool (bareB 16 d s f i z)) ∧ Below w.heap.size w w' := by
  have h1 : inB 16 1 11 = false := by decide
  have h2 : inB 16 12 15 = false := by decide
  go_enter Try.func98, Try.ntmps98
  go_wp2_with (first | (go_at_call 93; refine (f49 _ _).mono ?_; rintro e w' ⟨rfl, rfl⟩) | (go_at_call 94; refine (f48 _ _).mono ?_; rintro e w' ⟨rfl, rfl⟩) | (go_at_call 56; refine (f40 _ _ _ _).mono ?_; rintro e w' ⟨rfl, rfl⟩))
  all_goals (go_ret; refine ⟨ret_bool ?_, (Below.refl _ _).alloc (Nat.le_refl _) _⟩; first | (simp_all [bareB, isB]; done) | (simp_all [bareB, isB]; omega))

set_option maxRecDepth 100000 in
set_option maxHeartbeats 400000 in
theorem f41d (d s f i z : Int) (w : World) :
    Calls Try.prog 98 #[.agg #[.int .i64 17, .int .i64 d, .int .i64 s, .int .i64 f, .int .i64 i, .int .i64 z]] w fun e w' => e = .returned (.bool (bareB 17 d s f i z)) ∧ Below w.heap.size w w' := by
  have h1 : inB 17 1 11 = false := by decide
  have h2 : inB 17 12 15 = false := by decide
  go_enter Try.func98, Try.ntmps98
  go_wp2_with (first | (go_at_call 93; refine (f49 _ _).mono ?_; rintro e w' ⟨rfl, rfl⟩) | (go_at_call 94; refine (f48 _ _).mono ?_; rintro e w' ⟨rfl, rfl⟩) | (go_at_call 56; refine (f40 _ _ _ _).mono ?_; rintro e w' ⟨rfl, rfl⟩))
  all_goals (go_ret; refine ⟨ret_bool ?_, (Below.refl _ _).alloc (Nat.le_refl _) _⟩; first | (simp_all [bareB, isB]; done) | (simp_all [bareB, isB]; omega))

set_option maxRecDepth 100000 in
set_option maxHeartbeats 400000 in
theorem f41e (d s f i z : Int) (w : World) :
    Calls Try.prog 98 #[.agg #[.int .i64 18, .int .i64 d, .int .i64 s, .int .i64 f, .int .i64 i, .int .i64 z]] w fun e w' => e = .returned (.bool (bareB 18 d s f i z)) ∧ Below w.heap.size w w' := by
  have h1 : inB 18 1 11 = false := by decide
  have h2 : inB 18 12 15 = false := by decide
  go_enter Try.func98, Try.ntmps98
  go_wp2_with (first | (go_at_call 93; refine (f49 _ _).mono ?_; rintro e w' ⟨rfl, rfl⟩) | (go_at_call 94; refine (f48 _ _).mono ?_; rintro e w' ⟨rfl, rfl⟩) | (go_at_call 56; refine (f40 _ _ _ _).mono ?_; rintro e w' ⟨rfl, rfl⟩))
  all_goals (go_ret; refine ⟨ret_bool ?_, (Below.refl _ _).alloc (Nat.le_refl _) _⟩; first | (simp_all [bareB, isB]; done) | (simp_all [bareB, isB]; omega))

set_option maxRecDepth 100000 in
set_option maxHeartbeats 400000 in
theorem f41f (d s f i z : Int) (w : World) :
    Calls Try.prog 98 #[.agg #[.int .i64 19, .int .i64 d, .int .i64 s, .int .i64 f, .int .i64 i, .int .i64 z]] w fun e w' => e = .returned (.bool (bareB 19 d s f i z)) ∧ Below w.heap.size w w' := by
  have h1 : inB 19 1 11 = false := by decide
  have h2 : inB 19 12 15 = false := by decide
  go_enter Try.func98, Try.ntmps98
  go_wp2_with (first | (go_at_call 93; refine (f49 _ _).mono ?_; rintro e w' ⟨rfl, rfl⟩) | (go_at_call 94; refine (f48 _ _).mono ?_; rintro e w' ⟨rfl, rfl⟩) | (go_at_call 56; refine (f40 _ _ _ _).mono ?_; rintro e w' ⟨rfl, rfl⟩))
  all_goals (go_ret; refine ⟨ret_bool ?_, (Below.refl _ _).alloc (Nat.le_refl _) _⟩; first | (simp_all [bareB, isB]; done) | (simp_all [bareB, isB]; omega))

set_option maxRecDepth 100000 in
set_option maxHeartbeats 400000 in
theorem f41h (o d s f i z : Int) (w : World) (h1 : inB o 1 11 = false) (h2 : inB o 12 15 = false) (h3 : (o == 16) = false) (h4 : (o == 17) = false) (h5 : (o == 18) = false) (h6 : (o == 19) = false) (h7 : (o == 20) = false) :
    Calls Try.prog 98 #[.agg #[.int .i64 o, .int .i64 d, .int .i64 s, .int .i64 f, .int .i64 i, .int .i64 z]] w fun e w' => e = .returned (.bool (bareB o d s f i z)) ∧ Below w.heap.size w w' := by
  go_enter Try.func98, Try.ntmps98
  go_wp2_with (first | (go_at_call 93; refine (f49 _ _).mono ?_; rintro e w' ⟨rfl, rfl⟩) | (go_at_call 94; refine (f48 _ _).mono ?_; rintro e w' ⟨rfl, rfl⟩) | (go_at_call 56; refine (f40 _ _ _ _).mono ?_; rintro e w' ⟨rfl, rfl⟩))
  all_goals (go_ret; refine ⟨ret_bool ?_, (Below.refl _ _).alloc (Nat.le_refl _) _⟩; first | (simp_all [bareB, isB]; done) | (simp_all [bareB, isB]; omega))

set_option maxRecDepth 100000 in
set_option maxHeartbeats 400000 in
theorem f41g (d s f i z : Int) (w : World) :
    Calls Try.prog 98 #[.agg #[.int .i64 20, .int .i64 d, .int .i64 s, .int .i64 f, .int .i64 i, .int .i64 z]] w fun e w' => e = .returned (.bool (bareB 20 d s f i z)) ∧ Below w.heap.size w w' := by
  have h1 : inB 20 1 11 = false := by decide
  have h2 : inB 20 12 15 = false := by decide
  go_enter Try.func98, Try.ntmps98
  go_wp2_with (first | (go_at_call 93; refine (f49 _ _).mono ?_; rintro e w' ⟨rfl, rfl⟩) | (go_at_call 94; refine (f48 _ _).mono ?_; rintro e w' ⟨rfl, rfl⟩) | (go_at_call 56; refine (f40 _ _ _ _).mono ?_; rintro e w' ⟨rfl, rfl⟩))
  all_goals (go_ret; refine ⟨ret_bool ?_, (Below.refl _ _).alloc (Nat.le_refl _) _⟩; first | (simp_all [bareB, isB]; done) | (simp_all [bareB, isB]; omega))

theorem f41 (o d s f i z : Int) (w : World) :
    Calls Try.prog 98 #[.agg #[.int .i64 o, .int .i64 d, .int .i64 s, .int .i64 f, .int .i64 i, .int .i64 z]] w fun e w' => e = .returned (.bool (bareB o d s f i z)) ∧ Below w.heap.size w w' := by
  cases h1 : inB o 1 11
  · cases h2 : inB o 12 15
    · by_cases h3 : o = 16
      · subst h3; exact f41c d s f i z w
      by_cases h4 : o = 17
      · subst h4; exact f41d d s f i z w
      by_cases h5 : o = 18
      · subst h5; exact f41e d s f i z w
      by_cases h6 : o = 19
      · subst h6; exact f41f d s f i z w
      by_cases h7 : o = 20
      · subst h7; exact f41g d s f i z w
      exact f41h o d s f i z w h1 h2 (by simpa using h3) (by simpa using h4) (by simpa using h5) (by simpa using h6) (by simpa using h7)
    · exact f41b o d s f i z w h1 h2
  · exact f41a o d s f i z w h1

end Go.Proofs.Ytkaekiodjjhjkaa
