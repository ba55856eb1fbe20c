/- Contracts of the leaf functions (bounds on plain integers): each answers as its Lean function, and leaves the world as it was. -/
import Derived.Test.YtkaekiodjjhjkaaRows
import Derived.WalkKit
import Derived.WalkSpells
import Derived.WalkLawsBesides
set_option maxHeartbeats 400000
set_option maxRecDepth 100000
namespace Go.Proofs.Ytkaekiodjjhjkaa
open Go.RowKit
theorem ret_bool {a b : Bool} (h : a = b) : Ending.returned (.bool a) = .returned (.bool b) := by rw [h]
def inB (n a b : Int) : Bool := decide (a ≤ n) && decide (n ≤ b)
def isB (n a : Int) : Bool := n == a
theorem f40 (n a b : Int) (w : World) :
 Calls Try.prog 56 #[.int .i64 n, .int .i64 a, .int .i64 b] w fun e w' => e = .returned (.bool (inB n a b)) ∧ w' = w := by
 go_enter Try.func56, Try.ntmps56
 go_wp2
 all_goals (go_ret; exact ⟨ret_bool (by rw [Bool.eq_iff_iff]; simp [inB]; omega), rfl⟩)
theorem f48 (k : Int) (w : World) :
 Calls Try.prog 94 #[.int .i64 k] w fun e w' => e = .returned (.bool (inB k 12 15)) ∧ w' = w := by
 go_enter Try.func94, Try.ntmps94
 go_wp2_with (go_at_call 56; refine (f40 _ _ _ _).mono ?_; rintro e w' ⟨rfl, rfl⟩)
 all_goals (go_ret; exact ⟨rfl, rfl⟩)
theorem f49 (k : Int) (w : World) :
 Calls Try.prog 93 #[.int .i64 k] w fun e w' => e = .returned (.bool (inB k 1 11)) ∧ w' = w := by
 go_enter Try.func93, Try.ntmps93
 go_wp2_with (go_at_call 56; refine (f40 _ _ _ _).mono ?_; rintro e w' ⟨rfl, rfl⟩)
 all_goals (go_ret; exact ⟨rfl, rfl⟩)
end Go.Proofs.Ytkaekiodjjhjkaa
namespace Go.Proofs.Ytkaekiodjjhjkaa
open Go.RowKit
def bareB (o d s f i z : Int) : Bool :=
 if inB o 1 11 then isB f 0 && isB z 0 && (decide (s < 0) || isB i 0)
 else if inB o 12 15 then isB z 0 && (decide (s < 0) || isB i 0)
 else if isB o 16 then isB d 0 && isB s (-1) && isB i 0 && isB z 0
 else if isB o 17 then decide (0 ≤ s) && isB i 0 && (isB z 1 || isB z 2 || isB z 4)
 else if isB o 18 then (decide (s < 0) || isB i 0) && (isB z 1 || isB z 2 || isB z 4)
 else if isB o 19 then isB d 0 && isB s (-1) && isB f 0 && isB z 0 && inB i 1 6
 else if isB o 20 then isB d 0 && isB s (-1) && isB f 0 && isB i 0 && isB z 0
 else false
def sokB (o d s f i z : Int) : Bool := inB d 0 10 && inB s (-1) 10 && inB f (-128) 127 && inB i 0 4294967295 && bareB o d s f i z
theorem f41a (o d s f i z : Int) (w : World) (h1 : inB o 1 11 = true) :
 Calls Try.prog 98 #[.agg #[.int .i64 o, .int .i64 d, .int .i64 s, .int .i64 f, .int .i64 i, .int .i64 z]] w fun e w' => e = .returned (.bool (bareB o d s f i z)) ∧ Below w.heap.size w w' := by
 go_enter Try.func98, Try.ntmps98
 go_wp2_with (first | (go_at_call 93; refine (f49 _ _).mono ?_; rintro e w' ⟨rfl, rfl⟩) | (go_at_call 94; refine (f48 _ _).mono ?_; rintro e w' ⟨rfl, rfl⟩) | (go_at_call 56; refine (f40 _ _ _ _).mono ?_; rintro e w' ⟨rfl, rfl⟩))
 all_goals (go_ret; refine ⟨ret_bool ?_, (Below.refl _ _).alloc (Nat.le_refl _) _⟩; first | (simp_all [bareB, isB]; done) | (simp_all [bareB, isB]; omega))
theorem f41b (o d s f i z : Int) (w : World) (h1 : inB o 1 11 = false) (h2 : inB o 12 15 = true) :
 Calls Try.prog 98 #[.agg #[.int .i64 o, .int .i64 d, .int .i64 s, .int .i64 f, .int .i64 i, .int .i64 z]] w fun e w' => e = .returned (.bool (bareB o d s f i z)) ∧ Below w.heap.size w w' := by
 go_enter Try.func98, Try.ntmps98
 go_wp2_with (first | (go_at_call 93; refine (f49 _ _).mono ?_; rintro e w' ⟨rfl, rfl⟩) | (go_at_call 94; refine (f48 _ _).mono ?_; rintro e w' ⟨rfl, rfl⟩) | (go_at_call 56; refine (f40 _ _ _ _).mono ?_; rintro e w' ⟨rfl, rfl⟩))
 all_goals (go_ret; refine ⟨ret_bool ?_, (Below.refl _ _).alloc (Nat.le_refl _) _⟩; first | (simp_all [bareB, isB]; done) | (simp_all [bareB, isB]; omega))
theorem f41c (d s f i z : Int) (w : World) :
 Calls Try.prog 98 #[.agg #[.int .i64 16, .int .i64 d, .int .i64 s, .int .i64 f, .int .i64 i, .int .i64 z]] w fun e w' => e = .returned (.bool (bareB 16 d s f i z)) ∧ Below w.heap.size w w' := by
 have h1 : inB 16 1 11 = false := by decide
 have h2 : inB 16 12 15 = false := by decide
 go_enter Try.func98, Try.ntmps98
 go_wp2_with (first | (go_at_call 93; refine (f49 _ _).mono ?_; rintro e w' ⟨rfl, rfl⟩) | (go_at_call 94; refine (f48 _ _).mono ?_; rintro e w' ⟨rfl, rfl⟩) | (go_at_call 56; refine (f40 _ _ _ _).mono ?_; rintro e w' ⟨rfl, rfl⟩))
 all_goals (go_ret; refine ⟨ret_bool ?_, (Below.refl _ _).alloc (Nat.le_refl _) _⟩; first | (simp_all [bareB, isB]; done) | (simp_all [bareB, isB]; omega))
theorem f41d (d s f i z : Int) (w : World) :
 Calls Try.prog 98 #[.agg #[.int .i64 17, .int .i64 d, .int .i64 s, .int .i64 f, .int .i64 i, .int .i64 z]] w fun e w' => e = .returned (.bool (bareB 17 d s f i z)) ∧ Below w.heap.size w w' := by
 have h1 : inB 17 1 11 = false := by decide
 have h2 : inB 17 12 15 = false := by decide
 go_enter Try.func98, Try.ntmps98
 go_wp2_with (first | (go_at_call 93; refine (f49 _ _).mono ?_; rintro e w' ⟨rfl, rfl⟩) | (go_at_call 94; refine (f48 _ _).mono ?_; rintro e w' ⟨rfl, rfl⟩) | (go_at_call 56; refine (f40 _ _ _ _).mono ?_; rintro e w' ⟨rfl, rfl⟩))
 all_goals (go_ret; refine ⟨ret_bool ?_, (Below.refl _ _).alloc (Nat.le_refl _) _⟩; first | (simp_all [bareB, isB]; done) | (simp_all [bareB, isB]; omega))
theorem f41e (d s f i z : Int) (w : World) :
 Calls Try.prog 98 #[.agg #[.int .i64 18, .int .i64 d, .int .i64 s, .int .i64 f, .int .i64 i, .int .i64 z]] w fun e w' => e = .returned (.bool (bareB 18 d s f i z)) ∧ Below w.heap.size w w' := by
 have h1 : inB 18 1 11 = false := by decide
 have h2 : inB 18 12 15 = false := by decide
 go_enter Try.func98, Try.ntmps98
 go_wp2_with (first | (go_at_call 93; refine (f49 _ _).mono ?_; rintro e w' ⟨rfl, rfl⟩) | (go_at_call 94; refine (f48 _ _).mono ?_; rintro e w' ⟨rfl, rfl⟩) | (go_at_call 56; refine (f40 _ _ _ _).mono ?_; rintro e w' ⟨rfl, rfl⟩))
 all_goals (go_ret; refine ⟨ret_bool ?_, (Below.refl _ _).alloc (Nat.le_refl _) _⟩; first | (simp_all [bareB, isB]; done) | (simp_all [bareB, isB]; omega))
theorem f41f (d s f i z : Int) (w : World) :
 Calls Try.prog 98 #[.agg #[.int .i64 19, .int .i64 d, .int .i64 s, .int .i64 f, .int .i64 i, .int .i64 z]] w fun e w' => e = .returned (.bool (bareB 19 d s f i z)) ∧ Below w.heap.size w w' := by
 have h1 : inB 19 1 11 = false := by decide
 have h2 : inB 19 12 15 = false := by decide
 go_enter Try.func98, Try.ntmps98
 go_wp2_with (first | (go_at_call 93; refine (f49 _ _).mono ?_; rintro e w' ⟨rfl, rfl⟩) | (go_at_call 94; refine (f48 _ _).mono ?_; rintro e w' ⟨rfl, rfl⟩) | (go_at_call 56; refine (f40 _ _ _ _).mono ?_; rintro e w' ⟨rfl, rfl⟩))
 all_goals (go_ret; refine ⟨ret_bool ?_, (Below.refl _ _).alloc (Nat.le_refl _) _⟩; first | (simp_all [bareB, isB]; done) | (simp_all [bareB, isB]; omega))
theorem f41h (o d s f i z : Int) (w : World) (h1 : inB o 1 11 = false) (h2 : inB o 12 15 = false) (h3 : (o == 16) = false) (h4 : (o == 17) = false) (h5 : (o == 18) = false) (h6 : (o == 19) = false) (h7 : (o == 20) = false) :
 Calls Try.prog 98 #[.agg #[.int .i64 o, .int .i64 d, .int .i64 s, .int .i64 f, .int .i64 i, .int .i64 z]] w fun e w' => e = .returned (.bool (bareB o d s f i z)) ∧ Below w.heap.size w w' := by
 go_enter Try.func98, Try.ntmps98
 go_wp2_with (first | (go_at_call 93; refine (f49 _ _).mono ?_; rintro e w' ⟨rfl, rfl⟩) | (go_at_call 94; refine (f48 _ _).mono ?_; rintro e w' ⟨rfl, rfl⟩) | (go_at_call 56; refine (f40 _ _ _ _).mono ?_; rintro e w' ⟨rfl, rfl⟩))
 all_goals (go_ret; refine ⟨ret_bool ?_, (Below.refl _ _).alloc (Nat.le_refl _) _⟩; first | (simp_all [bareB, isB]; done) | (simp_all [bareB, isB]; omega))
theorem f41g (d s f i z : Int) (w : World) :
 Calls Try.prog 98 #[.agg #[.int .i64 20, .int .i64 d, .int .i64 s, .int .i64 f, .int .i64 i, .int .i64 z]] w fun e w' => e = .returned (.bool (bareB 20 d s f i z)) ∧ Below w.heap.size w w' := by
 have h1 : inB 20 1 11 = false := by decide
 have h2 : inB 20 12 15 = false := by decide
 go_enter Try.func98, Try.ntmps98
 go_wp2_with (first | (go_at_call 93; refine (f49 _ _).mono ?_; rintro e w' ⟨rfl, rfl⟩) | (go_at_call 94; refine (f48 _ _).mono ?_; rintro e w' ⟨rfl, rfl⟩) | (go_at_call 56; refine (f40 _ _ _ _).mono ?_; rintro e w' ⟨rfl, rfl⟩))
 all_goals (go_ret; refine ⟨ret_bool ?_, (Below.refl _ _).alloc (Nat.le_refl _) _⟩; first | (simp_all [bareB, isB]; done) | (simp_all [bareB, isB]; omega))
theorem f41 (o d s f i z : Int) (w : World) :
 Calls Try.prog 98 #[.agg #[.int .i64 o, .int .i64 d, .int .i64 s, .int .i64 f, .int .i64 i, .int .i64 z]] w fun e w' => e = .returned (.bool (bareB o d s f i z)) ∧ Below w.heap.size w w' := by
 cases h1 : inB o 1 11
 ·cases h2 : inB o 12 15
  ·by_cases h3 : o = 16
   ·subst h3; exact f41c d s f i z w
   by_cases h4 : o = 17
   ·subst h4; exact f41d d s f i z w
   by_cases h5 : o = 18
   ·subst h5; exact f41e d s f i z w
   by_cases h6 : o = 19
   ·subst h6; exact f41f d s f i z w
   by_cases h7 : o = 20
   ·subst h7; exact f41g d s f i z w
   exact f41h o d s f i z w h1 h2 (by simpa using h3) (by simpa using h4) (by simpa using h5) (by simpa using h6) (by simpa using h7)
  ·exact f41b o d s f i z w h1 h2
 ·exact f41a o d s f i z w h1
end Go.Proofs.Ytkaekiodjjhjkaa
namespace Go.Proofs.Ytkaekiodjjhjkaa
open Go.RowKit
theorem bcell {W w1 : World} (hb : Below W.heap.size W w1) : (∀ b o, b < W.heap.size → w1.cell? ⟨b, o, none⟩ = W.cell? ⟨b, o, none⟩) ∧ (∀ b o, b < W.heap.size → w1.frozen? ⟨b, o, none⟩ = W.frozen? ⟨b, o, none⟩) :=
 ⟨fun b o h => hb.cell (p := ⟨b, o, none⟩) h, fun b o h => hb.frozen (p := ⟨b, o, none⟩) h⟩
theorem f28 (o d s f i z : Int) (w : World) :
 Calls Try.prog 82 #[.agg #[.int .i64 o, .int .i64 d, .int .i64 s, .int .i64 f, .int .i64 i, .int .i64 z]] w fun e w' => e = .returned (.bool (sokB o d s f i z)) ∧ Below w.heap.size w w' := by
 go_enter Try.func82, Try.ntmps82
 go_wp2_with (first | (go_at_call 56; refine (f40 _ _ _ _).mono ?_; rintro e w' ⟨rfl, rfl⟩) | (go_at_call 98; refine (f41 _ _ _ _ _ _ _).mono ?_; rintro e w' ⟨rfl, hb⟩))
 all_goals (go_ret; refine ⟨ret_bool ?_, ?_⟩)
 all_goals first | (simp_all [sokB]; done) | exact (Below.refl _ _).alloc (Nat.le_refl _) _ | exact ((Below.refl _ _).alloc (Nat.le_refl _) _).trans (Below.mono hb (by simp))
end Go.Proofs.Ytkaekiodjjhjkaa
