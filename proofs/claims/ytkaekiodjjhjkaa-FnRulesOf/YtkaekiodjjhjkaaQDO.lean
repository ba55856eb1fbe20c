/- Contracts: what jumps ask (RangeHolds) of both, and the walk of its law. -/
import Derived.Test.YtkaekiodjjhjkaaQDM
namespace Go.Proofs.Ytkaekiodjjhjkaa.H
open Go.RowKit Go.MapKept
set_option linter.unusedVariables false
set_option linter.unusedSimpArgs false

abbrev fnV (k : Nat) : Value := .func (.func k) #[] #[]
def askEs : Array MapEntry := #[{ key := .int .i64 12, val := fnV 36, born := 0 }, { key := .int .i64 13, val := fnV 37, born := 1 }, { key := .int .i64 14, val := fnV 38, born := 2 }, { key := .int .i64 15, val := fnV 39, born := 3 }]
def holdsB (op a b : Int) : Bool := if op = 12 then a == b else if op = 13 then a != b else if op = 14 then decide (a < b) else decide (b < a)
def holdsI (op a b : Int) : Bool := inB op 12 15 && inB a 0 4294967295 && inB b 0 4294967295 && holdsB op a b

theorem find_none (op : Int) (h : inB op 12 15 = false) : Instr.findNow (.int .i64) (.int .i64 op) askEs.toList 0 = some none := by
  have : op ≠ 12 ∧ op ≠ 13 ∧ op ≠ 14 ∧ op ≠ 15 := by simp [inB] at h; omega
  have e1 : (op == 12) = false := by simp [this]
  have e2 : (op == 13) = false := by simp [this]
  have e3 : (op == 14) = false := by simp [this]
  have e4 : (op == 15) = false := by simp [this]
  simp [askEs, Instr.findNow, Instr.sameNow, e1, e2, e3, e4]

set_option maxRecDepth 100000 in
set_option maxHeartbeats 1000000 in
theorem c_askers (w : World) :
    Calls Try.prog 20 #[] w fun e w' => e = .returned (.map (some w.heap.size)) ∧ w'.heap[w.heap.size]? = some (.map askEs 4) ∧ Below w.heap.size w w' := by
  have hmm := @run_makeMap Try.prog
  have u1 := upd_new (T := 52) Try.underlying52 Try.underlying3 w #[] 0 12 (fnV 36) rfl
  have u2 := upd_new (T := 52) Try.underlying52 Try.underlying3 w #[{ key := .int .i64 12, val := fnV 36, born := 0 }] 1 13 (fnV 37) rfl
  have u3 := upd_new (T := 52) Try.underlying52 Try.underlying3 w #[{ key := .int .i64 12, val := fnV 36, born := 0 }, { key := .int .i64 13, val := fnV 37, born := 1 }] 2 14 (fnV 38) rfl
  have u4 := upd_new (T := 52) Try.underlying52 Try.underlying3 w #[{ key := .int .i64 12, val := fnV 36, born := 0 }, { key := .int .i64 13, val := fnV 37, born := 1 }, { key := .int .i64 14, val := fnV 38, born := 2 }] 3 15 (fnV 39) rfl
  simp only [List.push_toArray, List.cons_append, List.nil_append, Nat.zero_add, Nat.reduceAdd] at u1 u2 u3 u4
  go_enter Try.func20, Try.ntmps20
  go_wp2
  go_ret
  exact ⟨rfl, (heap_alloc w _).1, (Below.refl _ _).alloc (Nat.le_refl _) _⟩

set_option maxHeartbeats 400000 in
theorem c_ask1 (a b : Int) (w : World) :
    Calls Try.prog 36 #[.int .i64 a, .int .i64 b] w fun e w' => e = .returned (.bool (a == b)) ∧ w' = w := by
  go_enter Try.func36, Try.ntmps36
  go_wp2
  go_ret
  exact ⟨rfl, rfl⟩

set_option maxHeartbeats 400000 in
theorem c_ask2 (a b : Int) (w : World) :
    Calls Try.prog 37 #[.int .i64 a, .int .i64 b] w fun e w' => e = .returned (.bool (a != b)) ∧ w' = w := by
  go_enter Try.func37, Try.ntmps37
  go_wp2
  go_ret
  exact ⟨rfl, rfl⟩

set_option maxHeartbeats 400000 in
theorem c_ask3 (a b : Int) (w : World) :
    Calls Try.prog 38 #[.int .i64 a, .int .i64 b] w fun e w' => e = .returned (.bool (decide (a < b))) ∧ w' = w := by
  go_enter Try.func38, Try.ntmps38
  go_wp2
  go_ret
  exact ⟨rfl, rfl⟩

set_option maxHeartbeats 400000 in
theorem c_ask4 (a b : Int) (w : World) :
    Calls Try.prog 39 #[.int .i64 a, .int .i64 b] w fun e w' => e = .returned (.bool (decide (b < a))) ∧ w' = w := by
  go_enter Try.func39, Try.ntmps39
  go_wp2
  go_ret
  exact ⟨rfl, rfl⟩

theorem zeroAsk (w : World) : (zeroValue 50).run Try.prog w = .ok .nilFunc w := by kernel_rfl

set_option maxRecDepth 100000 in
set_option maxHeartbeats 1000000 in
theorem c_Holds_no (op a b : Int) (w : World) (h : inB op 12 15 = false) :
    Calls Try.prog 8 #[.int .i64 op, .int .i64 a, .int .i64 b] w fun e w' => e = .returned (.bool false) ∧ Below w.heap.size w w' := by
  go_enter Try.func8, Try.ntmps8
  go_wp2_with fail
  refine (c_askers _).mono ?_
  rintro e w1 ⟨rfl, hm, hb1⟩
  have hl := look_none (T := 52) Try.underlying52 Try.underlying3 hm op _ (zeroAsk w1) (find_none op h)
  clear hm h
  go_wp2_with fail
  go_ret
  exact ⟨rfl, hb1⟩

set_option maxRecDepth 100000 in
set_option maxHeartbeats 1000000 in
theorem c_Holds_12 (a b : Int) (w : World) :
    Calls Try.prog 8 #[.int .i64 12, .int .i64 a, .int .i64 b] w fun e w' => e = .returned (.bool (inB a 0 4294967295 && inB b 0 4294967295 && (a == b))) ∧ Below w.heap.size w w' := by
  cases h1 : inB a 0 4294967295
  all_goals cases h2 : inB b 0 4294967295
  all_goals
    go_enter Try.func8, Try.ntmps8
    go_wp2_with fail
    refine (c_askers _).mono ?_
    rintro e w1 ⟨rfl, hm, hb1⟩
    have hl := look_at (T := 52) Try.underlying52 Try.underlying3 hm 12 0 (fnV 36) rfl
    clear hm
    go_wp2_with (first | (go_at_call 21; refine (c_isNumber _ _).mono ?_; rintro e w' ⟨rfl, rfl⟩) | (go_at_call 36; refine (c_ask1 _ _ _).mono ?_; rintro e w' ⟨rfl, rfl⟩))
    all_goals (go_ret; refine ⟨ret_bool ?_, hb1⟩; simp [h1, h2])

set_option maxRecDepth 100000 in
set_option maxHeartbeats 1000000 in
theorem c_Holds_13 (a b : Int) (w : World) :
    Calls Try.prog 8 #[.int .i64 13, .int .i64 a, .int .i64 b] w fun e w' => e = .returned (.bool (inB a 0 4294967295 && inB b 0 4294967295 && (a != b))) ∧ Below w.heap.size w w' := by
  cases h1 : inB a 0 4294967295
  all_goals cases h2 : inB b 0 4294967295
  all_goals
    go_enter Try.func8, Try.ntmps8
    go_wp2_with fail
    refine (c_askers _).mono ?_
    rintro e w1 ⟨rfl, hm, hb1⟩
    have hl := look_at (T := 52) Try.underlying52 Try.underlying3 hm 13 1 (fnV 37) rfl
    clear hm
    go_wp2_with (first | (go_at_call 21; refine (c_isNumber _ _).mono ?_; rintro e w' ⟨rfl, rfl⟩) | (go_at_call 37; refine (c_ask2 _ _ _).mono ?_; rintro e w' ⟨rfl, rfl⟩))
    all_goals (go_ret; refine ⟨ret_bool ?_, hb1⟩; simp [h1, h2])

set_option maxRecDepth 100000 in
set_option maxHeartbeats 1000000 in
theorem c_Holds_14 (a b : Int) (w : World) :
    Calls Try.prog 8 #[.int .i64 14, .int .i64 a, .int .i64 b] w fun e w' => e = .returned (.bool (inB a 0 4294967295 && inB b 0 4294967295 && (decide (a < b)))) ∧ Below w.heap.size w w' := by
  cases h1 : inB a 0 4294967295
  all_goals cases h2 : inB b 0 4294967295
  all_goals
    go_enter Try.func8, Try.ntmps8
    go_wp2_with fail
    refine (c_askers _).mono ?_
    rintro e w1 ⟨rfl, hm, hb1⟩
    have hl := look_at (T := 52) Try.underlying52 Try.underlying3 hm 14 2 (fnV 38) rfl
    clear hm
    go_wp2_with (first | (go_at_call 21; refine (c_isNumber _ _).mono ?_; rintro e w' ⟨rfl, rfl⟩) | (go_at_call 38; refine (c_ask3 _ _ _).mono ?_; rintro e w' ⟨rfl, rfl⟩))
    all_goals (go_ret; refine ⟨ret_bool ?_, hb1⟩; simp [h1, h2])

set_option maxRecDepth 100000 in
set_option maxHeartbeats 1000000 in
theorem c_Holds_15 (a b : Int) (w : World) :
    Calls Try.prog 8 #[.int .i64 15, .int .i64 a, .int .i64 b] w fun e w' => e = .returned (.bool (inB a 0 4294967295 && inB b 0 4294967295 && (decide (b < a)))) ∧ Below w.heap.size w w' := by
  cases h1 : inB a 0 4294967295
  all_goals cases h2 : inB b 0 4294967295
  all_goals
    go_enter Try.func8, Try.ntmps8
    go_wp2_with fail
    refine (c_askers _).mono ?_
    rintro e w1 ⟨rfl, hm, hb1⟩
    have hl := look_at (T := 52) Try.underlying52 Try.underlying3 hm 15 3 (fnV 39) rfl
    clear hm
    go_wp2_with (first | (go_at_call 21; refine (c_isNumber _ _).mono ?_; rintro e w' ⟨rfl, rfl⟩) | (go_at_call 39; refine (c_ask4 _ _ _).mono ?_; rintro e w' ⟨rfl, rfl⟩))
    all_goals (go_ret; refine ⟨ret_bool ?_, hb1⟩; simp [h1, h2])

theorem c_Holds (op a b : Int) (w : World) :
    Calls Try.prog 8 #[.int .i64 op, .int .i64 a, .int .i64 b] w fun e w' => e = .returned (.bool (holdsI op a b)) ∧ Below w.heap.size w w' := by
  cases h : inB op 12 15
  · rw [show holdsI op a b = false by simp [holdsI, h]]
    exact c_Holds_no op a b w h
  · simp [inB] at h
    rcases (by omega : op = 12 ∨ op = 13 ∨ op = 14 ∨ op = 15) with rfl | rfl | rfl | rfl
    · exact c_Holds_12 a b w
    · exact c_Holds_13 a b w
    · exact c_Holds_14 a b w
    · exact c_Holds_15 a b w

set_option maxRecDepth 100000 in
set_option maxHeartbeats 1000000 in
theorem c_l2Holds (op a b : Int) (w : World) :
    Calls Try.prog 35 #[.int .i64 op, .int .i64 a, .int .i64 b] w fun e w' => e = .returned (.bool (holdsB op a b)) ∧ w' = w := by
  have H : Hid (holdsB op a b = if op = 12 then a == b else if op = 13 then a != b else if op = 14 then decide (a < b) else decide (b < a)) := rfl
  go_enter Try.func35, Try.ntmps35
  go_wp2
  all_goals (go_ret; refine ⟨ret_bool ?_, rfl⟩; rw [H.out]; simp_all)

end Go.Proofs.Ytkaekiodjjhjkaa.H
