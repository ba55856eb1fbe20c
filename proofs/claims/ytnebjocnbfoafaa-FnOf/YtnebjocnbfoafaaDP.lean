/- Contracts: what ops make (RangeDo) of both, and the walk of its law. -/
import Derived.Test.YtnebjocnbfoafaaDO
import Derived.Test.YtnebjocnbfoafaaRE
namespace Go.Proofs.Ytnebjocnbfoafaa
open Go.RowKit Go.MapKept
set_option linter.unusedVariables false
set_option linter.unusedSimpArgs false

def doEs : Array MapEntry := #[{ key := .int .i64 1, val := fnV 63, born := 0 }, { key := .int .i64 2, val := fnV 64, born := 1 }, { key := .int .i64 3, val := fnV 65, born := 2 }, { key := .int .i64 4, val := fnV 66, born := 3 }, { key := .int .i64 5, val := fnV 67, born := 4 }, { key := .int .i64 6, val := fnV 68, born := 5 }, { key := .int .i64 7, val := fnV 69, born := 6 }, { key := .int .i64 8, val := fnV 70, born := 7 }, { key := .int .i64 9, val := fnV 72, born := 8 }, { key := .int .i64 10, val := fnV 73, born := 9 }, { key := .int .i64 11, val := fnV 74, born := 10 }]

set_option maxRecDepth 100000 in
set_option maxHeartbeats 1000000 in
theorem c_makers (w : World) :
    Calls Try.prog 31 #[] w fun e w' => e = .returned (.map (some w.heap.size)) ∧ w'.heap[w.heap.size]? = some (.map doEs 11) ∧ Below w.heap.size w w' := by
  have hmm := @run_makeMap Try.prog
  have u1 := upd_new (T := 55) Try.underlying55 Try.underlying3 w #[] 0 1 (fnV 63) rfl
  have u2 := upd_new (T := 55) Try.underlying55 Try.underlying3 w #[{ key := .int .i64 1, val := fnV 63, born := 0 }] 1 2 (fnV 64) rfl
  have u3 := upd_new (T := 55) Try.underlying55 Try.underlying3 w #[{ key := .int .i64 1, val := fnV 63, born := 0 }, { key := .int .i64 2, val := fnV 64, born := 1 }] 2 3 (fnV 65) rfl
  have u4 := upd_new (T := 55) Try.underlying55 Try.underlying3 w #[{ key := .int .i64 1, val := fnV 63, born := 0 }, { key := .int .i64 2, val := fnV 64, born := 1 }, { key := .int .i64 3, val := fnV 65, born := 2 }] 3 4 (fnV 66) rfl
  have u5 := upd_new (T := 55) Try.underlying55 Try.underlying3 w #[{ key := .int .i64 1, val := fnV 63, born := 0 }, { key := .int .i64 2, val := fnV 64, born := 1 }, { key := .int .i64 3, val := fnV 65, born := 2 }, { key := .int .i64 4, val := fnV 66, born := 3 }] 4 5 (fnV 67) rfl
  have u6 := upd_new (T := 55) Try.underlying55 Try.underlying3 w #[{ key := .int .i64 1, val := fnV 63, born := 0 }, { key := .int .i64 2, val := fnV 64, born := 1 }, { key := .int .i64 3, val := fnV 65, born := 2 }, { key := .int .i64 4, val := fnV 66, born := 3 }, { key := .int .i64 5, val := fnV 67, born := 4 }] 5 6 (fnV 68) rfl
  have u7 := upd_new (T := 55) Try.underlying55 Try.underlying3 w #[{ key := .int .i64 1, val := fnV 63, born := 0 }, { key := .int .i64 2, val := fnV 64, born := 1 }, { key := .int .i64 3, val := fnV 65, born := 2 }, { key := .int .i64 4, val := fnV 66, born := 3 }, { key := .int .i64 5, val := fnV 67, born := 4 }, { key := .int .i64 6, val := fnV 68, born := 5 }] 6 7 (fnV 69) rfl
  have u8 := upd_new (T := 55) Try.underlying55 Try.underlying3 w #[{ key := .int .i64 1, val := fnV 63, born := 0 }, { key := .int .i64 2, val := fnV 64, born := 1 }, { key := .int .i64 3, val := fnV 65, born := 2 }, { key := .int .i64 4, val := fnV 66, born := 3 }, { key := .int .i64 5, val := fnV 67, born := 4 }, { key := .int .i64 6, val := fnV 68, born := 5 }, { key := .int .i64 7, val := fnV 69, born := 6 }] 7 8 (fnV 70) rfl
  have u9 := upd_new (T := 55) Try.underlying55 Try.underlying3 w #[{ key := .int .i64 1, val := fnV 63, born := 0 }, { key := .int .i64 2, val := fnV 64, born := 1 }, { key := .int .i64 3, val := fnV 65, born := 2 }, { key := .int .i64 4, val := fnV 66, born := 3 }, { key := .int .i64 5, val := fnV 67, born := 4 }, { key := .int .i64 6, val := fnV 68, born := 5 }, { key := .int .i64 7, val := fnV 69, born := 6 }, { key := .int .i64 8, val := fnV 70, born := 7 }] 8 9 (fnV 72) rfl
  have u10 := upd_new (T := 55) Try.underlying55 Try.underlying3 w #[{ key := .int .i64 1, val := fnV 63, born := 0 }, { key := .int .i64 2, val := fnV 64, born := 1 }, { key := .int .i64 3, val := fnV 65, born := 2 }, { key := .int .i64 4, val := fnV 66, born := 3 }, { key := .int .i64 5, val := fnV 67, born := 4 }, { key := .int .i64 6, val := fnV 68, born := 5 }, { key := .int .i64 7, val := fnV 69, born := 6 }, { key := .int .i64 8, val := fnV 70, born := 7 }, { key := .int .i64 9, val := fnV 72, born := 8 }] 9 10 (fnV 73) rfl
  have u11 := upd_new (T := 55) Try.underlying55 Try.underlying3 w #[{ key := .int .i64 1, val := fnV 63, born := 0 }, { key := .int .i64 2, val := fnV 64, born := 1 }, { key := .int .i64 3, val := fnV 65, born := 2 }, { key := .int .i64 4, val := fnV 66, born := 3 }, { key := .int .i64 5, val := fnV 67, born := 4 }, { key := .int .i64 6, val := fnV 68, born := 5 }, { key := .int .i64 7, val := fnV 69, born := 6 }, { key := .int .i64 8, val := fnV 70, born := 7 }, { key := .int .i64 9, val := fnV 72, born := 8 }, { key := .int .i64 10, val := fnV 73, born := 9 }] 10 11 (fnV 74) rfl
  simp only [List.push_toArray, List.cons_append, List.nil_append, Nat.zero_add, Nat.reduceAdd] at u1 u2 u3 u4 u5 u6 u7 u8 u9 u10 u11
  go_enter Try.func31, Try.ntmps31
  go_wp2
  go_ret
  exact ⟨rfl, (heap_alloc w _).1, (Below.refl _ _).alloc (Nat.le_refl _) _⟩

theorem find_none2 (op : Int) (h : inB op 1 11 = false) : Instr.findNow (.int .i64) (.int .i64 op) doEs.toList 0 = some none := by
  have hn : ¬ (1 ≤ op ∧ op ≤ 11) := by simp [inB] at h; omega
  have e1 : (op == 1) = false := by simp; omega
  have e2 : (op == 2) = false := by simp; omega
  have e3 : (op == 3) = false := by simp; omega
  have e4 : (op == 4) = false := by simp; omega
  have e5 : (op == 5) = false := by simp; omega
  have e6 : (op == 6) = false := by simp; omega
  have e7 : (op == 7) = false := by simp; omega
  have e8 : (op == 8) = false := by simp; omega
  have e9 : (op == 9) = false := by simp; omega
  have e10 : (op == 10) = false := by simp; omega
  have e11 : (op == 11) = false := by simp; omega
  simp [doEs, Instr.findNow, Instr.sameNow, e1, e2, e3, e4, e5, e6, e7, e8, e9, e10, e11]

set_option maxRecDepth 100000 in
set_option maxHeartbeats 1000000 in
theorem c_wrapped (a : Int) (w : World) :
    Calls Try.prog 32 #[.int .i64 a] w fun e w' => e = .returned (.int .i64 (bits .and .i64 a 4294967295)) ∧ w' = w := by
  go_enter Try.func32, Try.ntmps32
  go_wp2
  all_goals (go_ret; exact ⟨rfl, rfl⟩)

set_option maxRecDepth 100000 in
set_option maxHeartbeats 1000000 in
theorem c_l2Wrap (a : Int) (w : World) :
    Calls Try.prog 81 #[.int .i64 a] w fun e w' => e = .returned (.int .i64 (bits .and .i64 a 4294967295)) ∧ w' = w := by
  go_enter Try.func81, Try.ntmps81
  go_wp2
  all_goals (go_ret; exact ⟨rfl, rfl⟩)

set_option maxRecDepth 100000 in
set_option maxHeartbeats 1000000 in
theorem c_mk1 (a b : Int) (w : World) :
    Calls Try.prog 63 #[.int .i64 a, .int .i64 b] w fun e w' => e = .returned (.int .i64 (b)) ∧ w' = w := by
  go_enter Try.func63, Try.ntmps63
  go_wp2
  all_goals (go_ret; exact ⟨rfl, rfl⟩)

set_option maxRecDepth 100000 in
set_option maxHeartbeats 1000000 in
theorem c_mk2 (a b : Nat) (w : World) (ha : a ≤ 4294967295) (hb : b ≤ 4294967295) :
    Calls Try.prog 64 #[.int .i64 a, .int .i64 b] w fun e w' => e = .returned (.int .i64 ((a : Int) + b)) ∧ w' = w := by
  have ha' : (a : Int) ≤ 4294967295 := by omega
  have hb' : (b : Int) ≤ 4294967295 := by omega
  have ha0 : (0 : Int) ≤ a := by omega
  have hb0 : (0 : Int) ≤ b := by omega
  go_enter Try.func64, Try.ntmps64
  go_wp2
  all_goals (go_ret; exact ⟨rfl, rfl⟩)

set_option maxRecDepth 100000 in
set_option maxHeartbeats 1000000 in
theorem c_mk3 (a b : Nat) (w : World) (ha : a ≤ 4294967295) (hb : b ≤ 4294967295) :
    Calls Try.prog 65 #[.int .i64 a, .int .i64 b] w fun e w' => e = .returned (.int .i64 ((a : Int) - b)) ∧ w' = w := by
  have ha' : (a : Int) ≤ 4294967295 := by omega
  have hb' : (b : Int) ≤ 4294967295 := by omega
  have ha0 : (0 : Int) ≤ a := by omega
  have hb0 : (0 : Int) ≤ b := by omega
  go_enter Try.func65, Try.ntmps65
  go_wp2
  all_goals (go_ret; exact ⟨rfl, rfl⟩)

set_option maxRecDepth 100000 in
set_option maxHeartbeats 1000000 in
theorem c_mk4 (a b : Nat) (w : World) (ha : a ≤ 4294967295) (hb : b ≤ 4294967295) :
    Calls Try.prog 66 #[.int .i64 a, .int .i64 b] w fun e w' => e = .returned (.int .i64 (wrap64 ((a : Int) * b))) ∧ w' = w := by
  have ha' : (a : Int) ≤ 4294967295 := by omega
  have hb' : (b : Int) ≤ 4294967295 := by omega
  have ha0 : (0 : Int) ≤ a := by omega
  have hb0 : (0 : Int) ≤ b := by omega
  go_enter Try.func66, Try.ntmps66
  go_wp2
  all_goals (go_ret; exact ⟨rfl, rfl⟩)

set_option maxRecDepth 100000 in
set_option maxHeartbeats 1000000 in
theorem c_mk5 (a b : Nat) (w : World) (ha : a ≤ 4294967295) (hb : b ≤ 4294967295) :
    Calls Try.prog 67 #[.int .i64 a, .int .i64 b] w fun e w' => e = .returned (.int .i64 (((a &&& b : Nat) : Int))) ∧ w' = w := by
  have e := and_i64 a b (by omega) (by omega)
  go_enter Try.func67, Try.ntmps67
  go_wp2
  all_goals (go_ret; exact ⟨rfl, rfl⟩)

set_option maxRecDepth 100000 in
set_option maxHeartbeats 1000000 in
theorem c_mk6 (a b : Nat) (w : World) (ha : a ≤ 4294967295) (hb : b ≤ 4294967295) :
    Calls Try.prog 68 #[.int .i64 a, .int .i64 b] w fun e w' => e = .returned (.int .i64 (((a ||| b : Nat) : Int))) ∧ w' = w := by
  have e := or_i64 a b (by omega) (by omega)
  go_enter Try.func68, Try.ntmps68
  go_wp2
  all_goals (go_ret; exact ⟨rfl, rfl⟩)

set_option maxRecDepth 100000 in
set_option maxHeartbeats 1000000 in
theorem c_mk7 (a b : Nat) (w : World) (ha : a ≤ 4294967295) (hb : b ≤ 4294967295) :
    Calls Try.prog 69 #[.int .i64 a, .int .i64 b] w fun e w' => e = .returned (.int .i64 (((a ^^^ b : Nat) : Int))) ∧ w' = w := by
  have e := xor_i64 a b (by omega) (by omega)
  go_enter Try.func69, Try.ntmps69
  go_wp2
  all_goals (go_ret; exact ⟨rfl, rfl⟩)

set_option maxRecDepth 100000 in
set_option maxHeartbeats 1000000 in
theorem c_shiftOf (b : Nat) (w : World) (hb : b ≤ 4294967295) :
    Calls Try.prog 71 #[.int .i64 b] w fun e w' => e = .returned (.int .i64 (((b % 32 : Nat) : Int))) ∧ w' = w := by
  have hb' : (b : Int) ≤ 4294967295 := by omega
  have hb0 : (0 : Int) ≤ b := by omega
  go_enter Try.func71, Try.ntmps71
  go_wp2
  all_goals (go_ret; exact ⟨ret_int (by omega), rfl⟩)

theorem pow_le32 {S : Nat} (h : S < 32) : 2 ^ S ≤ 2147483648 := Nat.pow_le_pow_right (n := 2) (j := 31) (by omega) (by omega)
theorem shl_nat (a S : Nat) (ha : a ≤ 4294967295) (hS : S < 32) : IntKind.i64.wrap ((a : Int) * 2 ^ S) = ((a * 2 ^ S : Nat) : Int) := by
  have h1 := pow_le32 hS
  have h2 : a * 2 ^ S ≤ 4294967295 * 2147483648 := Nat.mul_le_mul ha h1
  rw [show (a : Int) * 2 ^ S = ((a * 2 ^ S : Nat) : Int) by simp, wrap_id (by omega) (by omega)]

set_option maxRecDepth 100000 in
set_option maxHeartbeats 1000000 in
theorem c_mk8 (a b : Nat) (w : World) (ha : a ≤ 4294967295) (hb : b ≤ 4294967295) :
    Calls Try.prog 70 #[.int .i64 a, .int .i64 b] w fun e w' => e = .returned (.int .i64 ((a * 2 ^ (b % 32) : Nat) : Int)) ∧ w' = w := by
  have Hc := c_shiftOf b
  have HS : b % 32 < 32 := by omega
  have hc : Hid (∀ w, Calls Try.prog 71 #[.int .i64 b] w fun e w' => e = .returned (.int .i64 ((b % 32 : Nat) : Int)) ∧ w' = w) := fun w => c_shiftOf b w hb
  clear Hc
  generalize b % 32 = S at *
  have hS0 : (0 : Int) ≤ S := by omega
  have hS1 : (S : Int) < 32 := by omega
  have e := shl_nat a S ha HS
  go_enter Try.func70, Try.ntmps70
  go_wp2_with fail
  refine (hc.out _).mono ?_
  rintro e w' ⟨rfl, hw'⟩
  rw [hw']; clear hw' w'
  go_wp2
  go_ret
  exact ⟨rfl, rfl⟩

set_option maxRecDepth 100000 in
set_option maxHeartbeats 1000000 in
theorem c_mk9 (a b : Nat) (w : World) (ha : a ≤ 4294967295) (hb : b ≤ 4294967295) :
    Calls Try.prog 72 #[.int .i64 a, .int .i64 b] w fun e w' => e = .returned (.int .i64 ((a / 2 ^ (b % 32) : Nat) : Int)) ∧ w' = w := by
  have HS : b % 32 < 32 := by omega
  have hc : Hid (∀ w, Calls Try.prog 71 #[.int .i64 b] w fun e w' => e = .returned (.int .i64 ((b % 32 : Nat) : Int)) ∧ w' = w) := fun w => c_shiftOf b w hb
  generalize b % 32 = S at *
  have hS0 : (0 : Int) ≤ S := by omega
  have hS1 : (S : Int) < 32 := by omega
  have E : Hid _ := shr_nat a S
  go_enter Try.func72, Try.ntmps72
  go_wp2_with fail
  refine (hc.out _).mono ?_
  rintro e w' ⟨rfl, hw'⟩
  rw [hw']; clear hw' w'
  go_wp2
  go_ret
  exact ⟨ret_int E.out, rfl⟩

set_option maxRecDepth 100000 in
set_option maxHeartbeats 1000000 in
theorem c_mk10 (a b : Nat) (w : World) (ha : a ≤ 4294967295) (hb : b ≤ 4294967295) :
    Calls Try.prog 73 #[.int .i64 a, .int .i64 b] w fun e w' => e = .returned (.int .i64 ((a / b : Nat) : Int)) ∧ w' = w := by
  by_cases h0 : b = 0
  · subst h0
    have hz : ((0 : Nat) : Int) = 0 := rfl
    rw [hz, Nat.div_zero, hz]
    go_enter Try.func73, Try.ntmps73
    go_wp2
    go_ret
    exact ⟨rfl, rfl⟩
  · have h1 : ((b : Int) == 0) = false := by simp; omega
    have hb0 : (0 : Int) < b := by omega
    have ha0 : (0 : Int) ≤ a := by omega
    have ha1 : (a : Int) ≤ 4294967295 := by omega
    have hd : Hid (wrap64 ((a : Int) / b) = ((a / b : Nat) : Int)) := by
      show wrap64 ((a : Int) / b) = ((a / b : Nat) : Int)
      have h2 := Nat.div_le_self a b
      rw [show (a : Int) / b = ((a / b : Nat) : Int) by simp]
      generalize a / b = D at *
      unfold wrap64; omega
    go_enter Try.func73, Try.ntmps73
    go_wp2
    all_goals (go_ret; exact ⟨ret_int hd.out, rfl⟩)

set_option maxRecDepth 100000 in
set_option maxHeartbeats 1000000 in
theorem c_mk11 (a b : Nat) (w : World) (ha : a ≤ 4294967295) (hb : b ≤ 4294967295) :
    Calls Try.prog 74 #[.int .i64 a, .int .i64 b] w fun e w' => e = .returned (.int .i64 ((a % b : Nat) : Int)) ∧ w' = w := by
  by_cases h0 : b = 0
  · subst h0
    have hz : ((0 : Nat) : Int) = 0 := rfl
    rw [hz, Nat.mod_zero]
    go_enter Try.func74, Try.ntmps74
    go_wp2
    go_ret
    exact ⟨rfl, rfl⟩
  · have h1 : ((b : Int) == 0) = false := by simp; omega
    have hb0 : (0 : Int) < b := by omega
    have ha0 : (0 : Int) ≤ a := by omega
    have ha1 : (a : Int) ≤ 4294967295 := by omega
    have hd : Hid ((a : Int) % b = ((a % b : Nat) : Int)) := by show (a : Int) % b = ((a % b : Nat) : Int); simp
    go_enter Try.func74, Try.ntmps74
    go_wp2
    all_goals (go_ret; exact ⟨ret_int hd.out, rfl⟩)
theorem zeroMk (w : World) : (zeroValue 53).run Try.prog w = .ok .nilFunc w := by kernel_rfl

set_option maxRecDepth 100000 in
set_option maxHeartbeats 1000000 in
theorem c_Do_1 (a b : Nat) (w : World) (ha : a ≤ 4294967295) (hb : b ≤ 4294967295) :
    Calls Try.prog 11 #[.int .i64 1, .int .i64 a, .int .i64 b] w fun e w' => e = .returned (.int .i64 ((b : Int))) ∧ Below w.heap.size w w' := by
  have hi1 : inB (a : Int) 0 4294967295 = true := by simp [inB]; omega
  have hi2 : inB (b : Int) 0 4294967295 = true := by simp [inB]; omega
  have hc : Hid (∀ w, Calls Try.prog 63 #[.int .i64 a, .int .i64 b] w fun e w' => e = .returned (.int .i64 ((b : Int))) ∧ w' = w) := fun w => c_mk1 a b w
  have hv : Hid (bits .and .i64 ((b : Int)) 4294967295 = (b : Int)) := and_top (hb)
  go_enter Try.func11, Try.ntmps11
  go_wp2_with fail
  refine (c_makers _).mono ?_
  rintro e w1 ⟨rfl, hm, hb1⟩
  have hl := look_at (T := 55) Try.underlying55 Try.underlying3 hm 1 0 (fnV 63) rfl
  clear hm
  go_wp2_with (first | (go_at_call 29; refine (c_isNumber _ _).mono ?_; rintro e w' ⟨rfl, rfl⟩))
  refine (hc.out _).mono ?_
  rintro e w2 ⟨rfl, hw2⟩
  rw [hw2]; clear hw2 w2
  go_wp2_with fail
  refine (c_wrapped _ _).mono ?_
  rintro e w2 ⟨rfl, hw2⟩
  rw [hw2]; clear hw2 w2
  go_wp2_with fail
  go_ret
  exact ⟨ret_int hv.out, hb1⟩

set_option maxRecDepth 100000 in
set_option maxHeartbeats 1000000 in
theorem c_Do_2 (a b : Nat) (w : World) (ha : a ≤ 4294967295) (hb : b ≤ 4294967295) :
    Calls Try.prog 11 #[.int .i64 2, .int .i64 a, .int .i64 b] w fun e w' => e = .returned (.int .i64 (bits .and .i64 ((a : Int) + b) 4294967295)) ∧ Below w.heap.size w w' := by
  have hi1 : inB (a : Int) 0 4294967295 = true := by simp [inB]; omega
  have hi2 : inB (b : Int) 0 4294967295 = true := by simp [inB]; omega
  have hc : Hid (∀ w, Calls Try.prog 64 #[.int .i64 a, .int .i64 b] w fun e w' => e = .returned (.int .i64 ((a : Int) + b)) ∧ w' = w) := fun w => c_mk2 a b w ha hb
  generalize (a : Int) + b = R at *
  go_enter Try.func11, Try.ntmps11
  go_wp2_with fail
  refine (c_makers _).mono ?_
  rintro e w1 ⟨rfl, hm, hb1⟩
  have hl := look_at (T := 55) Try.underlying55 Try.underlying3 hm 2 1 (fnV 64) rfl
  clear hm
  go_wp2_with (first | (go_at_call 29; refine (c_isNumber _ _).mono ?_; rintro e w' ⟨rfl, rfl⟩))
  refine (hc.out _).mono ?_
  rintro e w2 ⟨rfl, hw2⟩
  rw [hw2]; clear hw2 w2
  go_wp2_with fail
  refine (c_wrapped _ _).mono ?_
  rintro e w2 ⟨rfl, hw2⟩
  rw [hw2]; clear hw2 w2
  go_wp2_with fail
  go_ret
  exact ⟨rfl, hb1⟩

set_option maxRecDepth 100000 in
set_option maxHeartbeats 1000000 in
theorem c_Do_3 (a b : Nat) (w : World) (ha : a ≤ 4294967295) (hb : b ≤ 4294967295) :
    Calls Try.prog 11 #[.int .i64 3, .int .i64 a, .int .i64 b] w fun e w' => e = .returned (.int .i64 (bits .and .i64 ((a : Int) - b) 4294967295)) ∧ Below w.heap.size w w' := by
  have hi1 : inB (a : Int) 0 4294967295 = true := by simp [inB]; omega
  have hi2 : inB (b : Int) 0 4294967295 = true := by simp [inB]; omega
  have hc : Hid (∀ w, Calls Try.prog 65 #[.int .i64 a, .int .i64 b] w fun e w' => e = .returned (.int .i64 ((a : Int) - b)) ∧ w' = w) := fun w => c_mk3 a b w ha hb
  generalize (a : Int) - b = R at *
  go_enter Try.func11, Try.ntmps11
  go_wp2_with fail
  refine (c_makers _).mono ?_
  rintro e w1 ⟨rfl, hm, hb1⟩
  have hl := look_at (T := 55) Try.underlying55 Try.underlying3 hm 3 2 (fnV 65) rfl
  clear hm
  go_wp2_with (first | (go_at_call 29; refine (c_isNumber _ _).mono ?_; rintro e w' ⟨rfl, rfl⟩))
  refine (hc.out _).mono ?_
  rintro e w2 ⟨rfl, hw2⟩
  rw [hw2]; clear hw2 w2
  go_wp2_with fail
  refine (c_wrapped _ _).mono ?_
  rintro e w2 ⟨rfl, hw2⟩
  rw [hw2]; clear hw2 w2
  go_wp2_with fail
  go_ret
  exact ⟨rfl, hb1⟩

set_option maxRecDepth 100000 in
set_option maxHeartbeats 1000000 in
theorem c_Do_4 (a b : Nat) (w : World) (ha : a ≤ 4294967295) (hb : b ≤ 4294967295) :
    Calls Try.prog 11 #[.int .i64 4, .int .i64 a, .int .i64 b] w fun e w' => e = .returned (.int .i64 (bits .and .i64 (wrap64 ((a : Int) * b)) 4294967295)) ∧ Below w.heap.size w w' := by
  have hi1 : inB (a : Int) 0 4294967295 = true := by simp [inB]; omega
  have hi2 : inB (b : Int) 0 4294967295 = true := by simp [inB]; omega
  have hc : Hid (∀ w, Calls Try.prog 66 #[.int .i64 a, .int .i64 b] w fun e w' => e = .returned (.int .i64 (wrap64 ((a : Int) * b))) ∧ w' = w) := fun w => c_mk4 a b w ha hb
  generalize wrap64 ((a : Int) * b) = R at *
  go_enter Try.func11, Try.ntmps11
  go_wp2_with fail
  refine (c_makers _).mono ?_
  rintro e w1 ⟨rfl, hm, hb1⟩
  have hl := look_at (T := 55) Try.underlying55 Try.underlying3 hm 4 3 (fnV 66) rfl
  clear hm
  go_wp2_with (first | (go_at_call 29; refine (c_isNumber _ _).mono ?_; rintro e w' ⟨rfl, rfl⟩))
  refine (hc.out _).mono ?_
  rintro e w2 ⟨rfl, hw2⟩
  rw [hw2]; clear hw2 w2
  go_wp2_with fail
  refine (c_wrapped _ _).mono ?_
  rintro e w2 ⟨rfl, hw2⟩
  rw [hw2]; clear hw2 w2
  go_wp2_with fail
  go_ret
  exact ⟨rfl, hb1⟩

set_option maxRecDepth 100000 in
set_option maxHeartbeats 1000000 in
theorem c_Do_5 (a b : Nat) (w : World) (ha : a ≤ 4294967295) (hb : b ≤ 4294967295) :
    Calls Try.prog 11 #[.int .i64 5, .int .i64 a, .int .i64 b] w fun e w' => e = .returned (.int .i64 (((a &&& b : Nat) : Int))) ∧ Below w.heap.size w w' := by
  have hi1 : inB (a : Int) 0 4294967295 = true := by simp [inB]; omega
  have hi2 : inB (b : Int) 0 4294967295 = true := by simp [inB]; omega
  have hc : Hid (∀ w, Calls Try.prog 67 #[.int .i64 a, .int .i64 b] w fun e w' => e = .returned (.int .i64 (((a &&& b : Nat) : Int))) ∧ w' = w) := fun w => c_mk5 a b w ha hb
  have hv : Hid (bits .and .i64 (((a &&& b : Nat) : Int)) 4294967295 = ((a &&& b : Nat) : Int)) := and_top (and_le _ ha)
  go_enter Try.func11, Try.ntmps11
  go_wp2_with fail
  refine (c_makers _).mono ?_
  rintro e w1 ⟨rfl, hm, hb1⟩
  have hl := look_at (T := 55) Try.underlying55 Try.underlying3 hm 5 4 (fnV 67) rfl
  clear hm
  go_wp2_with (first | (go_at_call 29; refine (c_isNumber _ _).mono ?_; rintro e w' ⟨rfl, rfl⟩))
  refine (hc.out _).mono ?_
  rintro e w2 ⟨rfl, hw2⟩
  rw [hw2]; clear hw2 w2
  go_wp2_with fail
  refine (c_wrapped _ _).mono ?_
  rintro e w2 ⟨rfl, hw2⟩
  rw [hw2]; clear hw2 w2
  go_wp2_with fail
  go_ret
  exact ⟨ret_int hv.out, hb1⟩

set_option maxRecDepth 100000 in
set_option maxHeartbeats 1000000 in
theorem c_Do_6 (a b : Nat) (w : World) (ha : a ≤ 4294967295) (hb : b ≤ 4294967295) :
    Calls Try.prog 11 #[.int .i64 6, .int .i64 a, .int .i64 b] w fun e w' => e = .returned (.int .i64 (((a ||| b : Nat) : Int))) ∧ Below w.heap.size w w' := by
  have hi1 : inB (a : Int) 0 4294967295 = true := by simp [inB]; omega
  have hi2 : inB (b : Int) 0 4294967295 = true := by simp [inB]; omega
  have hc : Hid (∀ w, Calls Try.prog 68 #[.int .i64 a, .int .i64 b] w fun e w' => e = .returned (.int .i64 (((a ||| b : Nat) : Int))) ∧ w' = w) := fun w => c_mk6 a b w ha hb
  have hv : Hid (bits .and .i64 (((a ||| b : Nat) : Int)) 4294967295 = ((a ||| b : Nat) : Int)) := and_top (or_le ha hb)
  go_enter Try.func11, Try.ntmps11
  go_wp2_with fail
  refine (c_makers _).mono ?_
  rintro e w1 ⟨rfl, hm, hb1⟩
  have hl := look_at (T := 55) Try.underlying55 Try.underlying3 hm 6 5 (fnV 68) rfl
  clear hm
  go_wp2_with (first | (go_at_call 29; refine (c_isNumber _ _).mono ?_; rintro e w' ⟨rfl, rfl⟩))
  refine (hc.out _).mono ?_
  rintro e w2 ⟨rfl, hw2⟩
  rw [hw2]; clear hw2 w2
  go_wp2_with fail
  refine (c_wrapped _ _).mono ?_
  rintro e w2 ⟨rfl, hw2⟩
  rw [hw2]; clear hw2 w2
  go_wp2_with fail
  go_ret
  exact ⟨ret_int hv.out, hb1⟩

set_option maxRecDepth 100000 in
set_option maxHeartbeats 1000000 in
theorem c_Do_7 (a b : Nat) (w : World) (ha : a ≤ 4294967295) (hb : b ≤ 4294967295) :
    Calls Try.prog 11 #[.int .i64 7, .int .i64 a, .int .i64 b] w fun e w' => e = .returned (.int .i64 (((a ^^^ b : Nat) : Int))) ∧ Below w.heap.size w w' := by
  have hi1 : inB (a : Int) 0 4294967295 = true := by simp [inB]; omega
  have hi2 : inB (b : Int) 0 4294967295 = true := by simp [inB]; omega
  have hc : Hid (∀ w, Calls Try.prog 69 #[.int .i64 a, .int .i64 b] w fun e w' => e = .returned (.int .i64 (((a ^^^ b : Nat) : Int))) ∧ w' = w) := fun w => c_mk7 a b w ha hb
  have hv : Hid (bits .and .i64 (((a ^^^ b : Nat) : Int)) 4294967295 = ((a ^^^ b : Nat) : Int)) := and_top (xor_le ha hb)
  go_enter Try.func11, Try.ntmps11
  go_wp2_with fail
  refine (c_makers _).mono ?_
  rintro e w1 ⟨rfl, hm, hb1⟩
  have hl := look_at (T := 55) Try.underlying55 Try.underlying3 hm 7 6 (fnV 69) rfl
  clear hm
  go_wp2_with (first | (go_at_call 29; refine (c_isNumber _ _).mono ?_; rintro e w' ⟨rfl, rfl⟩))
  refine (hc.out _).mono ?_
  rintro e w2 ⟨rfl, hw2⟩
  rw [hw2]; clear hw2 w2
  go_wp2_with fail
  refine (c_wrapped _ _).mono ?_
  rintro e w2 ⟨rfl, hw2⟩
  rw [hw2]; clear hw2 w2
  go_wp2_with fail
  go_ret
  exact ⟨ret_int hv.out, hb1⟩

set_option maxRecDepth 100000 in
set_option maxHeartbeats 1000000 in
theorem c_Do_8 (a b : Nat) (w : World) (ha : a ≤ 4294967295) (hb : b ≤ 4294967295) :
    Calls Try.prog 11 #[.int .i64 8, .int .i64 a, .int .i64 b] w fun e w' => e = .returned (.int .i64 (bits .and .i64 ((a * 2 ^ (b % 32) : Nat) : Int) 4294967295)) ∧ Below w.heap.size w w' := by
  have hi1 : inB (a : Int) 0 4294967295 = true := by simp [inB]; omega
  have hi2 : inB (b : Int) 0 4294967295 = true := by simp [inB]; omega
  have hc : Hid (∀ w, Calls Try.prog 70 #[.int .i64 a, .int .i64 b] w fun e w' => e = .returned (.int .i64 (((a * 2 ^ (b % 32) : Nat) : Int))) ∧ w' = w) := fun w => c_mk8 a b w ha hb
  generalize ((a * 2 ^ (b % 32) : Nat) : Int) = R at *
  go_enter Try.func11, Try.ntmps11
  go_wp2_with fail
  refine (c_makers _).mono ?_
  rintro e w1 ⟨rfl, hm, hb1⟩
  have hl := look_at (T := 55) Try.underlying55 Try.underlying3 hm 8 7 (fnV 70) rfl
  clear hm
  go_wp2_with (first | (go_at_call 29; refine (c_isNumber _ _).mono ?_; rintro e w' ⟨rfl, rfl⟩))
  refine (hc.out _).mono ?_
  rintro e w2 ⟨rfl, hw2⟩
  rw [hw2]; clear hw2 w2
  go_wp2_with fail
  refine (c_wrapped _ _).mono ?_
  rintro e w2 ⟨rfl, hw2⟩
  rw [hw2]; clear hw2 w2
  go_wp2_with fail
  go_ret
  exact ⟨rfl, hb1⟩

set_option maxRecDepth 100000 in
set_option maxHeartbeats 1000000 in
theorem c_Do_9 (a b : Nat) (w : World) (ha : a ≤ 4294967295) (hb : b ≤ 4294967295) :
    Calls Try.prog 11 #[.int .i64 9, .int .i64 a, .int .i64 b] w fun e w' => e = .returned (.int .i64 (((a / 2 ^ (b % 32) : Nat) : Int))) ∧ Below w.heap.size w w' := by
  have hi1 : inB (a : Int) 0 4294967295 = true := by simp [inB]; omega
  have hi2 : inB (b : Int) 0 4294967295 = true := by simp [inB]; omega
  have hc : Hid (∀ w, Calls Try.prog 72 #[.int .i64 a, .int .i64 b] w fun e w' => e = .returned (.int .i64 (((a / 2 ^ (b % 32) : Nat) : Int))) ∧ w' = w) := fun w => c_mk9 a b w ha hb
  have hv : Hid (bits .and .i64 (((a / 2 ^ (b % 32) : Nat) : Int)) 4294967295 = ((a / 2 ^ (b % 32) : Nat) : Int)) := and_top (Nat.le_trans (Nat.div_le_self _ _) ha)
  go_enter Try.func11, Try.ntmps11
  go_wp2_with fail
  refine (c_makers _).mono ?_
  rintro e w1 ⟨rfl, hm, hb1⟩
  have hl := look_at (T := 55) Try.underlying55 Try.underlying3 hm 9 8 (fnV 72) rfl
  clear hm
  go_wp2_with (first | (go_at_call 29; refine (c_isNumber _ _).mono ?_; rintro e w' ⟨rfl, rfl⟩))
  refine (hc.out _).mono ?_
  rintro e w2 ⟨rfl, hw2⟩
  rw [hw2]; clear hw2 w2
  go_wp2_with fail
  refine (c_wrapped _ _).mono ?_
  rintro e w2 ⟨rfl, hw2⟩
  rw [hw2]; clear hw2 w2
  go_wp2_with fail
  go_ret
  exact ⟨ret_int hv.out, hb1⟩

set_option maxRecDepth 100000 in
set_option maxHeartbeats 1000000 in
theorem c_Do_10 (a b : Nat) (w : World) (ha : a ≤ 4294967295) (hb : b ≤ 4294967295) :
    Calls Try.prog 11 #[.int .i64 10, .int .i64 a, .int .i64 b] w fun e w' => e = .returned (.int .i64 (((a / b : Nat) : Int))) ∧ Below w.heap.size w w' := by
  have hi1 : inB (a : Int) 0 4294967295 = true := by simp [inB]; omega
  have hi2 : inB (b : Int) 0 4294967295 = true := by simp [inB]; omega
  have hc : Hid (∀ w, Calls Try.prog 73 #[.int .i64 a, .int .i64 b] w fun e w' => e = .returned (.int .i64 (((a / b : Nat) : Int))) ∧ w' = w) := fun w => c_mk10 a b w ha hb
  have hv : Hid (bits .and .i64 (((a / b : Nat) : Int)) 4294967295 = ((a / b : Nat) : Int)) := and_top (Nat.le_trans (Nat.div_le_self _ _) ha)
  go_enter Try.func11, Try.ntmps11
  go_wp2_with fail
  refine (c_makers _).mono ?_
  rintro e w1 ⟨rfl, hm, hb1⟩
  have hl := look_at (T := 55) Try.underlying55 Try.underlying3 hm 10 9 (fnV 73) rfl
  clear hm
  go_wp2_with (first | (go_at_call 29; refine (c_isNumber _ _).mono ?_; rintro e w' ⟨rfl, rfl⟩))
  refine (hc.out _).mono ?_
  rintro e w2 ⟨rfl, hw2⟩
  rw [hw2]; clear hw2 w2
  go_wp2_with fail
  refine (c_wrapped _ _).mono ?_
  rintro e w2 ⟨rfl, hw2⟩
  rw [hw2]; clear hw2 w2
  go_wp2_with fail
  go_ret
  exact ⟨ret_int hv.out, hb1⟩

set_option maxRecDepth 100000 in
set_option maxHeartbeats 1000000 in
theorem c_Do_11 (a b : Nat) (w : World) (ha : a ≤ 4294967295) (hb : b ≤ 4294967295) :
    Calls Try.prog 11 #[.int .i64 11, .int .i64 a, .int .i64 b] w fun e w' => e = .returned (.int .i64 (((a % b : Nat) : Int))) ∧ Below w.heap.size w w' := by
  have hi1 : inB (a : Int) 0 4294967295 = true := by simp [inB]; omega
  have hi2 : inB (b : Int) 0 4294967295 = true := by simp [inB]; omega
  have hc : Hid (∀ w, Calls Try.prog 74 #[.int .i64 a, .int .i64 b] w fun e w' => e = .returned (.int .i64 (((a % b : Nat) : Int))) ∧ w' = w) := fun w => c_mk11 a b w ha hb
  have hv : Hid (bits .and .i64 (((a % b : Nat) : Int)) 4294967295 = ((a % b : Nat) : Int)) := and_top (Nat.le_trans (Nat.mod_le _ _) ha)
  go_enter Try.func11, Try.ntmps11
  go_wp2_with fail
  refine (c_makers _).mono ?_
  rintro e w1 ⟨rfl, hm, hb1⟩
  have hl := look_at (T := 55) Try.underlying55 Try.underlying3 hm 11 10 (fnV 74) rfl
  clear hm
  go_wp2_with (first | (go_at_call 29; refine (c_isNumber _ _).mono ?_; rintro e w' ⟨rfl, rfl⟩))
  refine (hc.out _).mono ?_
  rintro e w2 ⟨rfl, hw2⟩
  rw [hw2]; clear hw2 w2
  go_wp2_with fail
  refine (c_wrapped _ _).mono ?_
  rintro e w2 ⟨rfl, hw2⟩
  rw [hw2]; clear hw2 w2
  go_wp2_with fail
  go_ret
  exact ⟨ret_int hv.out, hb1⟩


end Go.Proofs.Ytnebjocnbfoafaa
