/- Contracts: RangeDo of both, and the walk of its law. -/
import Derived.Test.YtnebjocnbfoafaaDP
namespace Go.Proofs.Ytnebjocnbfoafaa
open Go.RowKit Go.MapKept
set_option linter.unusedVariables false
set_option linter.unusedSimpArgs false

theorem find_some2 (op : Int) (h : inB op 1 11 = true) : ∃ i v, Instr.findNow (.int .i64) (.int .i64 op) doEs.toList 0 = some (some (i, v)) := by
  have hn : 1 ≤ op ∧ op ≤ 11 := by simp [inB] at h; omega
  rcases (by omega : op = 1 ∨ op = 2 ∨ op = 3 ∨ op = 4 ∨ op = 5 ∨ op = 6 ∨ op = 7 ∨ op = 8 ∨ op = 9 ∨ op = 10 ∨ op = 11) with rfl | rfl | rfl | rfl | rfl | rfl | rfl | rfl | rfl | rfl | rfl <;> exact ⟨_, _, rfl⟩

set_option maxRecDepth 100000 in
set_option maxHeartbeats 1000000 in
theorem c_Do_no1 (op a b : Int) (w : World) (h : inB op 1 11 = false) :
    Calls Try.prog 11 #[.int .i64 op, .int .i64 a, .int .i64 b] w fun e w' => e = .returned (.int .i64 (-1)) ∧ Below w.heap.size w w' := by
  go_enter Try.func11, Try.ntmps11
  go_wp2_with fail
  refine (c_makers _).mono ?_
  rintro e w1 ⟨rfl, hm, hb1⟩
  have hl := look_none (T := 55) Try.underlying55 Try.underlying3 hm op _ (zeroMk w1) (find_none2 op h)
  clear hm h
  go_wp2_with fail
  go_ret
  exact ⟨rfl, hb1⟩

set_option maxRecDepth 100000 in
set_option maxHeartbeats 1000000 in
theorem c_Do_no2 (op a b : Int) (w : World) (h : inB op 1 11 = true) (h2 : (inB a 0 4294967295 && inB b 0 4294967295) = false) :
    Calls Try.prog 11 #[.int .i64 op, .int .i64 a, .int .i64 b] w fun e w' => e = .returned (.int .i64 (-1)) ∧ Below w.heap.size w w' := by
  obtain ⟨i, v, hf⟩ := find_some2 op h
  have HF : Hid _ := hf
  clear hf h
  cases h1 : inB a 0 4294967295
  · go_enter Try.func11, Try.ntmps11
    go_wp2_with fail
    refine (c_makers _).mono ?_
    rintro e w1 ⟨rfl, hm, hb1⟩
    have hl := look_at (T := 55) Try.underlying55 Try.underlying3 hm op i v HF.out
    clear hm h2
    go_wp2_with (first | (go_at_call 29; refine (c_isNumber _ _).mono ?_; rintro e w' ⟨rfl, rfl⟩))
    go_ret
    exact ⟨rfl, hb1⟩
  · rw [h1, Bool.true_and] at h2
    go_enter Try.func11, Try.ntmps11
    go_wp2_with fail
    refine (c_makers _).mono ?_
    rintro e w1 ⟨rfl, hm, hb1⟩
    have hl := look_at (T := 55) Try.underlying55 Try.underlying3 hm op i v HF.out
    clear hm
    go_wp2_with (first | (go_at_call 29; refine (c_isNumber _ _).mono ?_; rintro e w' ⟨rfl, rfl⟩))
    go_ret
    exact ⟨rfl, hb1⟩

theorem nums {a b : Int} (h : (inB a 0 4294967295 && inB b 0 4294967295) = true) : ∃ A B : Nat, a = A ∧ b = B ∧ A ≤ 4294967295 ∧ B ≤ 4294967295 := by
  simp [inB] at h
  obtain ⟨A, rfl⟩ := Int.eq_ofNat_of_zero_le h.1.1
  obtain ⟨B, rfl⟩ := Int.eq_ofNat_of_zero_le h.2.1
  exact ⟨A, B, rfl, rfl, by omega, by omega⟩


theorem and31 (b : Nat) (hb : b ≤ 4294967295) : bits .and .i64 (b : Int) 31 = ((b % 32 : Nat) : Int) := by
  have e := and_i64 b 31 (by omega) (by omega)
  rw [show (31 : Nat) = 2 ^ 5 - 1 from rfl, Nat.and_two_pow_sub_one_eq_mod] at e
  exact e

set_option maxHeartbeats 400000 in
theorem c_l1Alu (k : Int) (w : World) :
    Calls Try.prog 24 #[.int .i64 k] w fun e w' => e = .returned (.bool (inB k 1 11)) ∧ w' = w := by
  go_enter Try.func24, Try.ntmps24
  go_wp2_with (go_at_call 54; refine (c_l1In _ _ _ _).mono ?_; rintro e w' ⟨rfl, rfl⟩)
  all_goals (go_ret; exact ⟨rfl, rfl⟩)

set_option maxRecDepth 100000 in
set_option maxHeartbeats 1000000 in
theorem c_l2Do_1 (a b : Nat) (w : World) (ha : a ≤ 4294967295) (hb : b ≤ 4294967295) :
    Calls Try.prog 56 #[.int .i64 1, .int .i64 a, .int .i64 b] w fun e w' => e = .returned (.int .i64 ((b : Int))) ∧ w' = w := by
  have ha' : (a : Int) ≤ 4294967295 := by omega
  have hb' : (b : Int) ≤ 4294967295 := by omega
  have ha0 : (0 : Int) ≤ a := by omega
  have hb0 : (0 : Int) ≤ b := by omega
  go_enter Try.func56, Try.ntmps56
  go_wp2_with (first | (go_at_call 81; refine (c_l2Wrap _ _).mono ?_; rintro e w' ⟨rfl, rfl⟩))
  go_ret
  exact ⟨rfl, rfl⟩

set_option maxRecDepth 100000 in
set_option maxHeartbeats 1000000 in
theorem c_l2Do_2 (a b : Nat) (w : World) (ha : a ≤ 4294967295) (hb : b ≤ 4294967295) :
    Calls Try.prog 56 #[.int .i64 2, .int .i64 a, .int .i64 b] w fun e w' => e = .returned (.int .i64 (bits .and .i64 ((a : Int) + b) 4294967295)) ∧ w' = w := by
  have ha' : (a : Int) ≤ 4294967295 := by omega
  have hb' : (b : Int) ≤ 4294967295 := by omega
  have ha0 : (0 : Int) ≤ a := by omega
  have hb0 : (0 : Int) ≤ b := by omega
  go_enter Try.func56, Try.ntmps56
  go_wp2_with (first | (go_at_call 81; refine (c_l2Wrap _ _).mono ?_; rintro e w' ⟨rfl, rfl⟩))
  go_ret
  exact ⟨rfl, rfl⟩

set_option maxRecDepth 100000 in
set_option maxHeartbeats 1000000 in
theorem c_l2Do_3 (a b : Nat) (w : World) (ha : a ≤ 4294967295) (hb : b ≤ 4294967295) :
    Calls Try.prog 56 #[.int .i64 3, .int .i64 a, .int .i64 b] w fun e w' => e = .returned (.int .i64 (bits .and .i64 ((a : Int) - b) 4294967295)) ∧ w' = w := by
  have ha' : (a : Int) ≤ 4294967295 := by omega
  have hb' : (b : Int) ≤ 4294967295 := by omega
  have ha0 : (0 : Int) ≤ a := by omega
  have hb0 : (0 : Int) ≤ b := by omega
  go_enter Try.func56, Try.ntmps56
  go_wp2_with (first | (go_at_call 81; refine (c_l2Wrap _ _).mono ?_; rintro e w' ⟨rfl, rfl⟩))
  go_ret
  exact ⟨rfl, rfl⟩

set_option maxRecDepth 100000 in
set_option maxHeartbeats 1000000 in
theorem c_l2Do_4 (a b : Nat) (w : World) (ha : a ≤ 4294967295) (hb : b ≤ 4294967295) :
    Calls Try.prog 56 #[.int .i64 4, .int .i64 a, .int .i64 b] w fun e w' => e = .returned (.int .i64 (bits .and .i64 (wrap64 ((a : Int) * b)) 4294967295)) ∧ w' = w := by
  have ha' : (a : Int) ≤ 4294967295 := by omega
  have hb' : (b : Int) ≤ 4294967295 := by omega
  have ha0 : (0 : Int) ≤ a := by omega
  have hb0 : (0 : Int) ≤ b := by omega
  go_enter Try.func56, Try.ntmps56
  go_wp2_with (first | (go_at_call 81; refine (c_l2Wrap _ _).mono ?_; rintro e w' ⟨rfl, rfl⟩))
  go_ret
  exact ⟨rfl, rfl⟩

set_option maxRecDepth 100000 in
set_option maxHeartbeats 1000000 in
theorem c_l2Do_5 (a b : Nat) (w : World) (ha : a ≤ 4294967295) (hb : b ≤ 4294967295) :
    Calls Try.prog 56 #[.int .i64 5, .int .i64 a, .int .i64 b] w fun e w' => e = .returned (.int .i64 (((a &&& b : Nat) : Int))) ∧ w' = w := by
  have ha' : (a : Int) ≤ 4294967295 := by omega
  have hb' : (b : Int) ≤ 4294967295 := by omega
  have ha0 : (0 : Int) ≤ a := by omega
  have hb0 : (0 : Int) ≤ b := by omega
  have e := and_i64 a b (by omega) (by omega)
  go_enter Try.func56, Try.ntmps56
  go_wp2_with (first | (go_at_call 81; refine (c_l2Wrap _ _).mono ?_; rintro e w' ⟨rfl, rfl⟩))
  go_ret
  exact ⟨rfl, rfl⟩

set_option maxRecDepth 100000 in
set_option maxHeartbeats 1000000 in
theorem c_l2Do_6 (a b : Nat) (w : World) (ha : a ≤ 4294967295) (hb : b ≤ 4294967295) :
    Calls Try.prog 56 #[.int .i64 6, .int .i64 a, .int .i64 b] w fun e w' => e = .returned (.int .i64 (((a ||| b : Nat) : Int))) ∧ w' = w := by
  have ha' : (a : Int) ≤ 4294967295 := by omega
  have hb' : (b : Int) ≤ 4294967295 := by omega
  have ha0 : (0 : Int) ≤ a := by omega
  have hb0 : (0 : Int) ≤ b := by omega
  have e := or_i64 a b (by omega) (by omega)
  go_enter Try.func56, Try.ntmps56
  go_wp2_with (first | (go_at_call 81; refine (c_l2Wrap _ _).mono ?_; rintro e w' ⟨rfl, rfl⟩))
  go_ret
  exact ⟨rfl, rfl⟩

set_option maxRecDepth 100000 in
set_option maxHeartbeats 1000000 in
theorem c_l2Do_7 (a b : Nat) (w : World) (ha : a ≤ 4294967295) (hb : b ≤ 4294967295) :
    Calls Try.prog 56 #[.int .i64 7, .int .i64 a, .int .i64 b] w fun e w' => e = .returned (.int .i64 (((a ^^^ b : Nat) : Int))) ∧ w' = w := by
  have ha' : (a : Int) ≤ 4294967295 := by omega
  have hb' : (b : Int) ≤ 4294967295 := by omega
  have ha0 : (0 : Int) ≤ a := by omega
  have hb0 : (0 : Int) ≤ b := by omega
  have e := xor_i64 a b (by omega) (by omega)
  go_enter Try.func56, Try.ntmps56
  go_wp2_with (first | (go_at_call 81; refine (c_l2Wrap _ _).mono ?_; rintro e w' ⟨rfl, rfl⟩))
  go_ret
  exact ⟨rfl, rfl⟩

set_option maxRecDepth 100000 in
set_option maxHeartbeats 1000000 in
theorem c_l2Do_8 (a b : Nat) (w : World) (ha : a ≤ 4294967295) (hb : b ≤ 4294967295) :
    Calls Try.prog 56 #[.int .i64 8, .int .i64 a, .int .i64 b] w fun e w' => e = .returned (.int .i64 (bits .and .i64 ((a * 2 ^ (b % 32) : Nat) : Int) 4294967295)) ∧ w' = w := by
  have ha' : (a : Int) ≤ 4294967295 := by omega
  have hb' : (b : Int) ≤ 4294967295 := by omega
  have ha0 : (0 : Int) ≤ a := by omega
  have hb0 : (0 : Int) ≤ b := by omega
  have e1 := and31 b hb
  have HS : b % 32 < 32 := by omega
  generalize b % 32 = S at *
  have hS0 : (0 : Int) ≤ S := by omega
  have hS1 : (S : Int) < 32 := by omega
  have e2 := shl_nat a S ha HS
  go_enter Try.func56, Try.ntmps56
  go_wp2_with (first | (go_at_call 81; refine (c_l2Wrap _ _).mono ?_; rintro e w' ⟨rfl, rfl⟩))
  go_ret
  exact ⟨rfl, rfl⟩

set_option maxRecDepth 100000 in
set_option maxHeartbeats 1000000 in
theorem c_l2Do_9 (a b : Nat) (w : World) (ha : a ≤ 4294967295) (hb : b ≤ 4294967295) :
    Calls Try.prog 56 #[.int .i64 9, .int .i64 a, .int .i64 b] w fun e w' => e = .returned (.int .i64 (((a / 2 ^ (b % 32) : Nat) : Int))) ∧ w' = w := by
  have ha' : (a : Int) ≤ 4294967295 := by omega
  have hb' : (b : Int) ≤ 4294967295 := by omega
  have ha0 : (0 : Int) ≤ a := by omega
  have hb0 : (0 : Int) ≤ b := by omega
  have e1 := and31 b hb
  have HS : b % 32 < 32 := by omega
  generalize b % 32 = S at *
  have hS0 : (0 : Int) ≤ S := by omega
  have hS1 : (S : Int) < 32 := by omega
  have E : Hid _ := shr_nat a S
  go_enter Try.func56, Try.ntmps56
  go_wp2_with (first | (go_at_call 81; refine (c_l2Wrap _ _).mono ?_; rintro e w' ⟨rfl, rfl⟩))
  go_ret
  exact ⟨ret_int E.out, rfl⟩

set_option maxRecDepth 100000 in
set_option maxHeartbeats 1000000 in
theorem c_l2Do_10 (a b : Nat) (w : World) (ha : a ≤ 4294967295) (hb : b ≤ 4294967295) :
    Calls Try.prog 56 #[.int .i64 10, .int .i64 a, .int .i64 b] w fun e w' => e = .returned (.int .i64 (((a / b : Nat) : Int))) ∧ w' = w := by
  by_cases h0 : b = 0
  · subst h0
    have hz : ((0 : Nat) : Int) = 0 := rfl
    rw [hz, Nat.div_zero, hz]
    go_enter Try.func56, Try.ntmps56
    go_wp2
    go_ret
    exact ⟨rfl, rfl⟩
  · have h1 : ((b : Int) == 0) = false := by simp; omega
    have hb0 : (0 : Int) < b := by omega
    have ha0 : (0 : Int) ≤ a := by omega
    have ha1 : (a : Int) ≤ 4294967295 := by omega
    have hd : Hid (wrap64 ((a : Int) / b) = ((a / b : Nat) : Int)) := by
      show wrap64 ((a : Int) / b) = ((a / b : Nat) : Int)
      have h2 := Nat.div_le_self a b
      rw [show (a : Int) / b = ((a / b : Nat) : Int) by simp]
      generalize a / b = D at *
      unfold wrap64; omega
    go_enter Try.func56, Try.ntmps56
    go_wp2
    all_goals (go_ret; exact ⟨ret_int hd.out, rfl⟩)

set_option maxRecDepth 100000 in
set_option maxHeartbeats 1000000 in
theorem c_l2Do_11 (a b : Nat) (w : World) (ha : a ≤ 4294967295) (hb : b ≤ 4294967295) :
    Calls Try.prog 56 #[.int .i64 11, .int .i64 a, .int .i64 b] w fun e w' => e = .returned (.int .i64 (((a % b : Nat) : Int))) ∧ w' = w := by
  by_cases h0 : b = 0
  · subst h0
    have hz : ((0 : Nat) : Int) = 0 := rfl
    rw [hz, Nat.mod_zero]
    go_enter Try.func56, Try.ntmps56
    go_wp2
    go_ret
    exact ⟨rfl, rfl⟩
  · have h1 : ((b : Int) == 0) = false := by simp; omega
    have hb0 : (0 : Int) < b := by omega
    have ha0 : (0 : Int) ≤ a := by omega
    have ha1 : (a : Int) ≤ 4294967295 := by omega
    have hd : Hid ((a : Int) % b = ((a % b : Nat) : Int)) := by
      show (a : Int) % b = ((a % b : Nat) : Int)
      simp
    go_enter Try.func56, Try.ntmps56
    go_wp2
    all_goals (go_ret; exact ⟨ret_int hd.out, rfl⟩)

end Go.Proofs.Ytnebjocnbfoafaa
