/- Contracts: bits.Len, may, no range, the bits that ends share. -/
import Derived.Test.YtkaekiodjjhjkaaJGrp0
import Derived.Test.YtkaekiodjjhjkaaJLN
set_option maxRecDepth 100000
set_option maxHeartbeats 1000000
set_option linter.unusedSimpArgs false
set_option linter.unusedVariables false
namespace Go.Proofs.Ytkaekiodjjhjkaa.H
open Go.RowKit
theorem len_same : ∀ (x : Nat), x < 2 ^ 64 → Lib.bitLen x = bitLen x := by
 intro x
 induction x using Nat.strongRecOn with
 | ind x ih =>
   intro hx
   by_cases h0 : x = 0
   ·subst h0; rfl
   ·rw [Lib.bitLen_half x h0 hx, ih (x / 2) (by omega) (by omega)]
    unfold bitLen
    rw [if_neg h0]
    by_cases h1 : x / 2 = 0
    ·have : x = 1 := by omega
     subst this; decide
    ·rw [if_neg h1, Nat.log2_def x, if_pos (by omega)]
     omega
theorem c_Len (x : Nat) (w : World) (h1 : x ≤ 4294967295) :
 Calls Try.prog 57 #[.int .u64 x] w fun e w' => e = .returned (.int .i64 (bitLen x)) ∧ w' = w := by
 have Hs : Hid _ := len_same x (by omega)
 go_enter Try.func57, Try.ntmps57
 go_wp2_with (go_at_call 73; refine (c_Len64 x _ (by omega) (by omega)).mono ?_; rintro e w' ⟨rfl, rfl⟩)
 go_ret
 exact ⟨ret_int (by first | rw [Int.toNat_natCast, Hs.out] | rw [Hs.out]), rfl⟩
theorem c_may (lo hi : Int) (b o : Nat) (w : World) (hb : b ≤ 4294967295) (ho : o ≤ 4294967295) :
 Calls Try.prog 58 #[rv lo hi b o] w fun e w' => e = .returned (.int .i64 ((b ||| o : Nat) : Int)) ∧ Below w.heap.size w w' := by
 have H := or_i64 b o (by omega) (by omega)
 go_enter Try.func58, Try.ntmps58
 go_wp2
 go_ret
 exact ⟨rfl, (Below.refl _ _).alloc (Nat.le_refl _) _⟩
theorem c_noRange (w : World) :
 Calls Try.prog 41 #[] w fun e w' => e = .returned (rv 1 0 0 0) ∧ Below w.heap.size w w' := by
 go_enter Try.func41, Try.ntmps41
 go_wp2
 refine bodyPost_ret (v := rv 1 0 0 0) (by simp [results, Try.results41, go_sem]) rfl ⟨rfl, ?_⟩
 repeat (first | exact (Below.refl _ _).alloc (Nat.le_refl _) _ | refine Below.setCell ?_ (by simp) _)
theorem c_l2Bits (lo hi : Nat) (w : World) (hl : lo ≤ 4294967295) (hh : hi ≤ 4294967295) :
 Calls Try.prog 64 #[.int .i64 lo, .int .i64 hi] w fun e w' => e = .returned (.tuple #[.int .i64 ((lo &&& notB (maskOf (lo ^^^ hi)) : Nat) : Int), .int .i64 (maskOf (lo ^^^ hi) : Nat)]) ∧ w' = w := by
 have e1 := xor_i64 lo hi (by omega) (by omega)
 have l1 : lo ^^^ hi ≤ 4294967295 := xor_le hl hh
 have l2 := maskOf_le l1
 have e2 := xor_top (maskOf (lo ^^^ hi)) l2
 have l3 := not_le l2
 have e3 := and_i64 lo (notB (maskOf (lo ^^^ hi))) (by omega) (by omega)
 generalize lo ^^^ hi = X at *
 have hc : Hid (∀ w, Calls Try.prog 77 #[.int .i64 X] w fun e w' => e = .returned (.int .i64 (maskOf X)) ∧ w' = w) := fun w => c_l2Mask X w l1
 generalize maskOf X = M at *
 go_enter Try.func64, Try.ntmps64
 go_wp2_with fail
 refine (hc.out _).mono ?_
 rintro e w' ⟨rfl, rfl⟩
 go_wp2_with (go_at_call 46; refine (c_l2Top _).mono ?_; rintro e w' ⟨rfl, rfl⟩)
 go_ret2
 exact ⟨rfl, rfl⟩
end Go.Proofs.Ytkaekiodjjhjkaa.H
