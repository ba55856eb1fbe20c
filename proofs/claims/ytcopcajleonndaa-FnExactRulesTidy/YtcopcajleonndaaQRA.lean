/- Contracts of the leaves, and of RangeOk of the program and of the specification. -/
import Derived.Test.YtcopcajleonndaaRows
import Derived.Test.YtcopcajleonndaaQMB
import Derived.Deep.QuietTactic
import Derived.BigQuiet
namespace Go.Proofs.Ytcopcajleonndaa
open Go.RowKit
set_option linter.unusedVariables false
set_option linter.unusedSimpArgs false

theorem ret_bool {a b : Bool} (h : a = b) : Ending.returned (.bool a) = .returned (.bool b) := by rw [h]
theorem ret_int {k : IntKind} {a b : Int} (h : a = b) : Ending.returned (.int k a) = .returned (.int k b) := by rw [h]
def inB (n a b : Int) : Bool := decide (a ≤ n) && decide (n ≤ b)
abbrev rv (lo hi b o : Int) : Value := .agg #[.int .i64 lo, .int .i64 hi, .int .i64 b, .int .i64 o]

def okB (lo hi b o : Int) : Bool := inB lo 0 hi && decide (hi ≤ 4294967295) && inB b 0 4294967295 && inB o 0 4294967295 && (bits .and .i64 b o == 0)

theorem ok_nat {lo hi b o : Int} (h : okB lo hi b o = true) : ∃ L H B O : Nat, lo = L ∧ hi = H ∧ b = B ∧ o = O ∧ OkN L H B O := by
  simp [okB, inB] at h
  obtain ⟨⟨⟨⟨⟨h1, h2⟩, h3⟩, h4, h5⟩, h6, h7⟩, h8⟩ := h
  obtain ⟨L, rfl⟩ := Int.eq_ofNat_of_zero_le h1
  obtain ⟨B, rfl⟩ := Int.eq_ofNat_of_zero_le h4
  obtain ⟨O, rfl⟩ := Int.eq_ofNat_of_zero_le h6
  obtain ⟨H, rfl⟩ := Int.eq_ofNat_of_zero_le (show (0 : Int) ≤ hi by omega)
  rw [and_i64 B O (by omega) (by omega)] at h8
  exact ⟨L, H, B, O, rfl, rfl, rfl, rfl, by omega, by omega, by omega, by omega, by omega⟩
theorem okB_of {L H B O : Nat} (h : OkN L H B O) : okB L H B O = true := by
  have h1 := h.le; have h2 := h.hi; have h3 := h.b; have h4 := h.o; have h5 := h.d
  simp [okB, inB]
  rw [and_i64 B O (by omega) (by omega), h5]
  omega

set_option maxHeartbeats 400000 in
theorem c_isNumber (k : Int) (w : World) :
    Calls Try.prog 41 #[.int .i64 k] w fun e w' => e = .returned (.bool (inB k 0 4294967295)) ∧ w' = w := by
  go_enter Try.func41, Try.ntmps41
  go_wp2
  all_goals (go_ret; exact ⟨ret_bool (by rw [Bool.eq_iff_iff]; simp [inB]; omega), rfl⟩)

set_option maxHeartbeats 400000 in
theorem c_l2Top (w : World) :
    Calls Try.prog 48 #[] w fun e w' => e = .returned (.int .i64 4294967295) ∧ w' = w := by
  go_enter Try.func48, Try.ntmps48
  go_wp2
  go_ret
  exact ⟨rfl, rfl⟩

set_option maxRecDepth 100000 in
set_option maxHeartbeats 1000000 in
theorem c_RangeOk (lo hi b o : Int) (w : World) :
    Calls Try.prog 77 #[rv lo hi b o] w fun e w' => e = .returned (.bool (okB lo hi b o)) ∧ Below w.heap.size w w' := by
  have key : okB lo hi b o = (inB lo 0 4294967295 && inB hi 0 4294967295 && decide (lo ≤ hi) && inB b 0 4294967295 && inB o 0 4294967295 && (bits .and .i64 b o == 0)) := by
    rw [Bool.eq_iff_iff]; simp [okB, inB]; omega
  have H := key
  rw [H]; clear H key
  go_enter Try.func77, Try.ntmps77
  go_wp2_with (first | (go_at_call 41; refine (c_isNumber _ _).mono ?_; rintro e w' ⟨rfl, rfl⟩))
  all_goals (go_ret; refine ⟨ret_bool ?_, (Below.refl _ _).alloc (Nat.le_refl _) _⟩; first | (simp_all; done) | (simp_all; omega))

theorem drewN_below {B : Nat} {a w : World} (h : Below B a w) : ∀ n, Below B a (w.drewN n)
  | 0 => h
  | n + 1 => (drewN_below h n).drew

end Go.Proofs.Ytcopcajleonndaa
