/- Contracts of the leaf functions (bounds on plain integers): each answers as its Lean function, and leaves the world as it was. -/
import Derived.Test.YtbbecofgmodfiaaGreatDoorRows
import Derived.WalkKit
import Derived.WalkSpells
import Derived.WalkLawsBesides
namespace Go.Proofs.YtbbecofgmodfiaaGreatDoor
open Go.RowKit

theorem ret_bool {a b : Bool} (h : a = b) : Ending.returned (.bool a) = .returned (.bool b) := by rw [h]

/-- 'n' lies between 'a' and 'b'. -/
def inB (n a b : Int) : Bool := decide (a ≤ n) && decide (n ≤ b)
def isB (n a : Int) : Bool := n == a
def reachesB (k : Int) : Bool := isB k 17 || isB k 18
def jumpsB (k : Int) : Bool := inB k 12 15 || isB k 16
def closesB (k : Int) : Bool := isB k 20 || isB k 16
def dstFitsB (k d : Int) : Bool := if inB k 1 11 || inB k 12 15 || reachesB k then inB d 0 10 else isB d 0
def srcFitsB (k s i : Int) : Bool :=
  if isB k 16 || isB k 20 then isB s (-1) && isB i 0
  else if isB k 19 then isB s (-1) && inB i 1 6
  else if inB s 0 10 then isB i 0
  else isB s (-1) && !isB k 17 && inB i 0 4294967295
def offFitsB (k o : Int) : Bool := if jumpsB k || reachesB k then inB o (-128) 127 else isB o 0
def sizeFitsB (k z : Int) : Bool := if reachesB k then isB z 1 || isB z 2 || isB z 4 else isB z 0

set_option maxHeartbeats 400000 in
theorem f40 (n a b : Int) (w : World) :
    Calls Tryz.prog 37 #[.int .i64 n, .int .i64 a, .int .i64 b] w fun e w' => e = .returned (.bool (inB n a b)) ∧ w' = w := by
  go_enter Tryz.func37, Tryz.ntmps37
  go_wp2
  all_goals (go_ret; exact ⟨ret_bool (by rw [Bool.eq_iff_iff]; simp [inB]; omega), rfl⟩)

set_option maxHeartbeats 400000 in
theorem f42 (k : Int) (w : World) :
    Calls Tryz.prog 34 #[.int .i64 k] w fun e w' => e = .returned (.bool (inB k 1 11)) ∧ w' = w := by
  go_enter Tryz.func34, Tryz.ntmps34
  go_wp2
  all_goals (go_ret; exact ⟨ret_bool (by rw [Bool.eq_iff_iff]; simp [inB]; omega), rfl⟩)

set_option maxHeartbeats 400000 in
theorem f43 (k : Int) (w : World) :
    Calls Tryz.prog 35 #[.int .i64 k] w fun e w' => e = .returned (.bool (inB k 12 15)) ∧ w' = w := by
  go_enter Tryz.func35, Tryz.ntmps35
  go_wp2
  all_goals (go_ret; exact ⟨ret_bool (by rw [Bool.eq_iff_iff]; simp [inB]; omega), rfl⟩)

set_option maxHeartbeats 400000 in
theorem f44 (k : Int) (w : World) :
    Calls Tryz.prog 32 #[.int .i64 k] w fun e w' => e = .returned (.bool (reachesB k)) ∧ w' = w := by
  go_enter Tryz.func32, Tryz.ntmps32
  go_wp2
  all_goals (go_ret; exact ⟨ret_bool (by simp_all [reachesB, isB]), rfl⟩)

set_option maxHeartbeats 400000 in
theorem f45 (k : Int) (w : World) :
    Calls Tryz.prog 59 #[.int .i64 k] w fun e w' => e = .returned (.bool (inB k 0 10)) ∧ w' = w := by
  go_enter Tryz.func59, Tryz.ntmps59
  go_wp2
  all_goals (go_ret; exact ⟨ret_bool (by rw [Bool.eq_iff_iff]; simp [inB]; omega), rfl⟩)

set_option maxHeartbeats 400000 in
theorem f46 (k : Int) (w : World) :
    Calls Tryz.prog 60 #[.int .i64 k] w fun e w' => e = .returned (.bool (inB k 0 4294967295)) ∧ w' = w := by
  go_enter Tryz.func60, Tryz.ntmps60
  go_wp2
  all_goals (go_ret; exact ⟨ret_bool (by rw [Bool.eq_iff_iff]; simp [inB]; omega), rfl⟩)

set_option maxHeartbeats 400000 in
theorem f48 (k : Int) (w : World) :
    Calls Tryz.prog 43 #[.int .i64 k] w fun e w' => e = .returned (.bool (inB k 12 15)) ∧ w' = w := by
  go_enter Tryz.func43, Tryz.ntmps43
  go_wp2_with (go_at_call 37; refine (f40 _ _ _ _).mono ?_; rintro e w' ⟨rfl, rfl⟩)
  all_goals (go_ret; exact ⟨rfl, rfl⟩)

set_option maxHeartbeats 400000 in
theorem f49 (k : Int) (w : World) :
    Calls Tryz.prog 41 #[.int .i64 k] w fun e w' => e = .returned (.bool (inB k 1 11)) ∧ w' = w := by
  go_enter Tryz.func41, Tryz.ntmps41
  go_wp2_with (go_at_call 37; refine (f40 _ _ _ _).mono ?_; rintro e w' ⟨rfl, rfl⟩)
  all_goals (go_ret; exact ⟨rfl, rfl⟩)

set_option maxHeartbeats 400000 in
theorem f29 (k : Int) (w : World) :
    Calls Tryz.prog 27 #[.int .i64 k] w fun e w' => e = .returned (.bool (inB k 1 20)) ∧ w' = w := by
  go_enter Tryz.func27, Tryz.ntmps27
  go_wp2
  all_goals (go_ret; exact ⟨ret_bool (by rw [Bool.eq_iff_iff]; simp [inB]; omega), rfl⟩)

set_option maxHeartbeats 400000 in
theorem f37 (k : Int) (w : World) :
    Calls Tryz.prog 61 #[.int .i64 k] w fun e w' => e = .returned (.bool (jumpsB k)) ∧ w' = w := by
  go_enter Tryz.func61, Tryz.ntmps61
  go_wp2_with (go_at_call 35; refine (f43 _ _).mono ?_; rintro e w' ⟨rfl, rfl⟩)
  all_goals (go_ret; exact ⟨ret_bool (by simp_all [jumpsB, isB]), rfl⟩)

set_option maxHeartbeats 400000 in
theorem f30 (k d : Int) (w : World) :
    Calls Tryz.prog 28 #[.int .i64 k, .int .i64 d] w fun e w' => e = .returned (.bool (dstFitsB k d)) ∧ w' = w := by
  go_enter Tryz.func28, Tryz.ntmps28
  go_wp2_with (first | (go_at_call 34; refine (f42 _ _).mono ?_; rintro e w' ⟨rfl, rfl⟩) | (go_at_call 35; refine (f43 _ _).mono ?_; rintro e w' ⟨rfl, rfl⟩) | (go_at_call 32; refine (f44 _ _).mono ?_; rintro e w' ⟨rfl, rfl⟩) | (go_at_call 59; refine (f45 _ _).mono ?_; rintro e w' ⟨rfl, rfl⟩))
  all_goals (go_ret; exact ⟨ret_bool (by simp_all [dstFitsB, isB]), rfl⟩)

set_option maxHeartbeats 400000 in
theorem f31 (k s i : Int) (w : World) :
    Calls Tryz.prog 29 #[.int .i64 k, .int .i64 s, .int .i64 i] w fun e w' => e = .returned (.bool (srcFitsB k s i)) ∧ w' = w := by
  go_enter Tryz.func29, Tryz.ntmps29
  go_wp2_with (first | (go_at_call 59; refine (f45 _ _).mono ?_; rintro e w' ⟨rfl, rfl⟩) | (go_at_call 60; refine (f46 _ _).mono ?_; rintro e w' ⟨rfl, rfl⟩))
  all_goals (go_ret; refine ⟨ret_bool ?_, rfl⟩; first | (simp_all [srcFitsB, isB]; done) | (simp_all [srcFitsB, isB, inB, bne]; done) | (simp_all [srcFitsB, isB, inB]; omega))

set_option maxHeartbeats 400000 in
theorem f32 (k o : Int) (w : World) :
    Calls Tryz.prog 30 #[.int .i64 k, .int .i64 o] w fun e w' => e = .returned (.bool (offFitsB k o)) ∧ w' = w := by
  go_enter Tryz.func30, Tryz.ntmps30
  go_wp2_with (first | (go_at_call 61; refine (f37 _ _).mono ?_; rintro e w' ⟨rfl, rfl⟩) | (go_at_call 32; refine (f44 _ _).mono ?_; rintro e w' ⟨rfl, rfl⟩))
  all_goals (go_ret; refine ⟨ret_bool ?_, rfl⟩; first | (simp_all [offFitsB, isB]; done) | (simp_all [offFitsB, inB]; done) | (simp_all [offFitsB, inB]; omega))

set_option maxHeartbeats 400000 in
theorem f33 (k z : Int) (w : World) :
    Calls Tryz.prog 31 #[.int .i64 k, .int .i64 z] w fun e w' => e = .returned (.bool (sizeFitsB k z)) ∧ w' = w := by
  go_enter Tryz.func31, Tryz.ntmps31
  go_wp2_with (first | (go_at_call 32; refine (f44 _ _).mono ?_; rintro e w' ⟨rfl, rfl⟩))
  all_goals (go_ret; exact ⟨ret_bool (by simp_all [sizeFitsB, isB]), rfl⟩)

end Go.Proofs.YtbbecofgmodfiaaGreatDoor
