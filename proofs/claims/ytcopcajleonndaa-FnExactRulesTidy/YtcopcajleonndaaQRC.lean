/- Contracts: l2Over. -/
import Derived.Test.YtcopcajleonndaaQRB
namespace Go.Proofs.Ytcopcajleonndaa
open Go.RowKit
set_option linter.unusedVariables false
set_option linter.unusedSimpArgs false

set_option maxRecDepth 100000 in
set_option maxHeartbeats 1000000 in
theorem c_l2OverS (j : Nat) (hj : j < 32) (w : World) :
    Calls Try.prog 82 #[.int .i64 (j + 1)] w fun e w' => e = .returned (.int .i64 (notB (2 ^ j - 1) : Nat)) ∧ ∃ m, w' = w.drewN m := by
  obtain ⟨P, hP⟩ : ∃ P, 2 ^ j = P := ⟨_, rfl⟩
  have hPl : P ≤ 4294967295 := by rw [← hP]; exact pow_le hj
  have hP0 : 0 < P := by rw [← hP]; exact Nat.two_pow_pos j
  have hw : IntKind.i64.wrap (j : Int) = j := wrap_id (by omega) (by omega)
  have hs := shl_one (by omega) hP
  have hd : IntKind.i64.wrap ((P : Int) - 1) = ((P - 1 : Nat) : Int) := by rw [wrap_id (by omega) (by omega)]; omega
  have hm : maskOf (P - 1) = P - 1 := by rw [← hP]; exact mask_pow j
  have hx : bits .xor .i64 4294967295 ((P - 1 : Nat) : Int) = (notB (P - 1) : Nat) := xor_top (P - 1) (by omega)
  have hc : Hid (∀ w, Calls Try.prog 72 #[.int .i64 ((P - 1 : Nat) : Int)] w fun e w' => e = .returned (.int .i64 ((P - 1 : Nat) : Int)) ∧ w' = w) := by
    intro w; have := c_l2Mask (P - 1) w (by omega); rw [hm] at this; exact this
  rw [hP]
  have HP : Hid _ := hP
  clear hm hP
  generalize P - 1 = M at *
  go_enter Try.func82, Try.ntmps82
  go_wp2_with fail
  go_quiet ((first | (go_at_call 48; exact Calls.quiet_of_same (c_l2Top _)) | (go_at_call 72; exact Calls.quiet_of_same (hc.out _))))
  go_wp2
  go_ret
  exact ⟨rfl, nq, rfl⟩
end Go.Proofs.Ytcopcajleonndaa
