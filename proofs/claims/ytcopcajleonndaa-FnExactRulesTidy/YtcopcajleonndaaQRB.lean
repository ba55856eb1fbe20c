/- Contracts: bits that are known, masks. -/
import Derived.Test.YtcopcajleonndaaQRA
namespace Go.Proofs.Ytcopcajleonndaa
open Go.RowKit
set_option linter.unusedVariables false
set_option linter.unusedSimpArgs false

set_option maxRecDepth 100000 in
set_option maxHeartbeats 1000000 in
theorem c_hasBits (lo hi : Int) (b o n : Nat) (w : World) (hb : b ≤ 4294967295) (ho : o ≤ 4294967295) (hn : n ≤ 4294967295) :
    Calls Try.prog 81 #[rv lo hi b o, .int .i64 n] w fun e w' => e = .returned (.bool (hasN b o n)) ∧ Below w.heap.size w w' := by
  have H := andNot_i64 n o hn ho
  go_enter Try.func81, Try.ntmps81
  go_wp2
  go_ret
  refine ⟨ret_bool ?_, (Below.refl _ _).alloc (Nat.le_refl _) _⟩
  rw [Bool.eq_iff_iff]; simp [hasN]; omega

theorem mask_step {n j : Nat} (h : 2 ^ j - 1 < n) : j < bitLen n := by
  by_cases hc : j < bitLen n
  · exact hc
  · have h1 := (bitLen_spec n).1
    have h2 : 2 ^ bitLen n ≤ 2 ^ j := Nat.pow_le_pow_right (by omega) (by omega)
    omega
theorem mask_end {n j : Nat} (hj : j ≤ bitLen n) (h : ¬ 2 ^ j - 1 < n) : maskOf n = 2 ^ j - 1 := by
  by_cases hc : j = bitLen n
  · rw [hc]; rfl
  · by_cases h0 : n = 0
    · subst h0; have : bitLen 0 = 0 := rfl; omega
    · have h1 := (bitLen_spec n).2 h0
      have h2 : 2 ^ j ≤ 2 ^ (bitLen n - 1) := Nat.pow_le_pow_right (by omega) (by omega)
      have h3 : 0 < 2 ^ j := Nat.two_pow_pos j
      omega

set_option maxRecDepth 100000 in
set_option maxHeartbeats 1000000 in
theorem c_l2Mask (n : Nat) (w : World) (hn : n ≤ 4294967295) :
    Calls Try.prog 72 #[.int .i64 n] w fun e w' => e = .returned (.int .i64 (maskOf n)) ∧ w' = w := by
  go_enter Try.func72, Try.ntmps72
  go_wp2
  go_loop [3] (fun t => ∃ m j : Nat, m = 2 ^ j - 1 ∧ j ≤ bitLen n ∧ t = .int .i64 m) (fun t => n - (intOf t).toNat)
  case atStart => exact ⟨0, 0, rfl, Nat.zero_le _, rfl⟩
  case round =>
    obtain ⟨m, j, hm, hj, rfl⟩ := hrel
    by_cases hlt : m < n
    · have Hs : Hid (2 * m + 1 = 2 ^ (j + 1) - 1 ∧ j + 1 ≤ bitLen n) := ⟨by rw [hm, Nat.pow_succ]; have := Nat.two_pow_pos j; omega, mask_step (by omega)⟩
      clear hm hj
      go_wp2
      go_round
      case rel => exact ⟨2 * m + 1, j + 1, Hs.out.1, Hs.out.2, by go_num⟩
      case measure => simp [intOf]; omega
    · have He : Hid (maskOf n = m) := by
        have := mask_end hj (by rw [← hm]; exact hlt)
        rw [hm]; exact this
      clear hm hj
      go_wp2
      go_ret
      exact ⟨ret_int (by rw [He.out]), rfl⟩

theorem mask_pow (j : Nat) : maskOf (2 ^ j - 1) = 2 ^ j - 1 := by
  by_cases h0 : j = 0
  · subst h0; decide
  · have hp : 0 < 2 ^ j := Nat.two_pow_pos j
    have h1 := bitLen_spec (2 ^ j - 1)
    have e : bitLen (2 ^ j - 1) = j := by
      have a : ¬ bitLen (2 ^ j - 1) < j := by
        intro h
        have h2 : 2 ^ bitLen (2 ^ j - 1) ≤ 2 ^ (j - 1) := Nat.pow_le_pow_right (by omega) (by omega)
        have h3 : 2 ^ j = 2 ^ (j - 1) * 2 := by rw [← Nat.pow_succ]; congr 1; omega
        omega
      have b : ¬ j < bitLen (2 ^ j - 1) := by
        intro h
        have h2 : 2 ^ j ≤ 2 ^ (bitLen (2 ^ j - 1) - 1) := Nat.pow_le_pow_right (by omega) (by omega)
        have h3 : 2 ^ j - 1 ≠ 0 := by
          have : 2 ^ 1 ≤ 2 ^ j := Nat.pow_le_pow_right (by omega) (by omega)
          omega
        have := h1.2 h3
        omega
      omega
    rw [maskOf, e]

set_option maxRecDepth 100000 in
set_option maxHeartbeats 1000000 in
theorem c_l2Over0 (w : World) :
    Calls Try.prog 82 #[.int .i64 0] w fun e w' => e = .returned (.int .i64 4294967295) ∧ ∃ m, w' = w.drewN m := by
  go_enter Try.func82, Try.ntmps82
  go_wp2_with (go_at_call 48; refine (c_l2Top _).mono ?_; rintro e w' ⟨rfl, rfl⟩)
  go_ret
  exact ⟨rfl, 0, rfl⟩

theorem wrap_id {x : Int} (h0 : -9223372036854775808 ≤ x) (h1 : x ≤ 9223372036854775807) : IntKind.i64.wrap x = x := by rw [IntKind.wrap_i64]; omega
theorem shl_one {j P : Nat} (hj : j ≤ 32) (hP : 2 ^ j = P) : IntKind.i64.wrap ((2 : Int) ^ j) = (P : Int) := by
  have h2 : 2 ^ j ≤ 2 ^ 32 := Nat.pow_le_pow_right (by omega) hj
  rw [show (2 : Int) ^ j = ((2 ^ j : Nat) : Int) by simp, hP, wrap_id (by omega) (by omega)]
end Go.Proofs.Ytcopcajleonndaa
