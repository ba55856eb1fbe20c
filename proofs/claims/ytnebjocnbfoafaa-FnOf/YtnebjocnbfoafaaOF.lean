/- Contracts: RangeOf of the program, whatever its makers make. -/
import Derived.Test.YtnebjocnbfoafaaOC
namespace Go.Proofs.Ytnebjocnbfoafaa
open Go.RowKit Go.MapKept
set_option linter.unusedVariables false
set_option linter.unusedSimpArgs false

def rEs : Array MapEntry := #[{ key := .int .i64 1, val := fnV 41, born := 0 }, { key := .int .i64 2, val := fnV 42, born := 1 }, { key := .int .i64 3, val := fnV 43, born := 2 }, { key := .int .i64 4, val := fnV 44, born := 3 }, { key := .int .i64 5, val := fnV 45, born := 4 }, { key := .int .i64 6, val := fnV 46, born := 5 }, { key := .int .i64 7, val := fnV 47, born := 6 }, { key := .int .i64 8, val := fnV 48, born := 7 }, { key := .int .i64 9, val := fnV 49, born := 8 }, { key := .int .i64 10, val := fnV 50, born := 9 }, { key := .int .i64 11, val := fnV 51, born := 10 }]
set_option maxRecDepth 100000 in
set_option maxHeartbeats 1000000 in
theorem c_rmakers (w : World) :
    Calls Try.prog 19 #[] w fun e w' => e = .returned (.map (some w.heap.size)) ∧ w'.heap[w.heap.size]? = some (.map rEs 11) ∧ Below w.heap.size w w' := by
  have hmm := @run_makeMap Try.prog
  have u1 := upd_new (T := 47) Try.underlying47 Try.underlying3 w #[] 0 1 (fnV 41) rfl
  have u2 := upd_new (T := 47) Try.underlying47 Try.underlying3 w #[{ key := .int .i64 1, val := fnV 41, born := 0 }] 1 2 (fnV 42) rfl
  have u3 := upd_new (T := 47) Try.underlying47 Try.underlying3 w #[{ key := .int .i64 1, val := fnV 41, born := 0 }, { key := .int .i64 2, val := fnV 42, born := 1 }] 2 3 (fnV 43) rfl
  have u4 := upd_new (T := 47) Try.underlying47 Try.underlying3 w #[{ key := .int .i64 1, val := fnV 41, born := 0 }, { key := .int .i64 2, val := fnV 42, born := 1 }, { key := .int .i64 3, val := fnV 43, born := 2 }] 3 4 (fnV 44) rfl
  have u5 := upd_new (T := 47) Try.underlying47 Try.underlying3 w #[{ key := .int .i64 1, val := fnV 41, born := 0 }, { key := .int .i64 2, val := fnV 42, born := 1 }, { key := .int .i64 3, val := fnV 43, born := 2 }, { key := .int .i64 4, val := fnV 44, born := 3 }] 4 5 (fnV 45) rfl
  have u6 := upd_new (T := 47) Try.underlying47 Try.underlying3 w #[{ key := .int .i64 1, val := fnV 41, born := 0 }, { key := .int .i64 2, val := fnV 42, born := 1 }, { key := .int .i64 3, val := fnV 43, born := 2 }, { key := .int .i64 4, val := fnV 44, born := 3 }, { key := .int .i64 5, val := fnV 45, born := 4 }] 5 6 (fnV 46) rfl
  have u7 := upd_new (T := 47) Try.underlying47 Try.underlying3 w #[{ key := .int .i64 1, val := fnV 41, born := 0 }, { key := .int .i64 2, val := fnV 42, born := 1 }, { key := .int .i64 3, val := fnV 43, born := 2 }, { key := .int .i64 4, val := fnV 44, born := 3 }, { key := .int .i64 5, val := fnV 45, born := 4 }, { key := .int .i64 6, val := fnV 46, born := 5 }] 6 7 (fnV 47) rfl
  have u8 := upd_new (T := 47) Try.underlying47 Try.underlying3 w #[{ key := .int .i64 1, val := fnV 41, born := 0 }, { key := .int .i64 2, val := fnV 42, born := 1 }, { key := .int .i64 3, val := fnV 43, born := 2 }, { key := .int .i64 4, val := fnV 44, born := 3 }, { key := .int .i64 5, val := fnV 45, born := 4 }, { key := .int .i64 6, val := fnV 46, born := 5 }, { key := .int .i64 7, val := fnV 47, born := 6 }] 7 8 (fnV 48) rfl
  have u9 := upd_new (T := 47) Try.underlying47 Try.underlying3 w #[{ key := .int .i64 1, val := fnV 41, born := 0 }, { key := .int .i64 2, val := fnV 42, born := 1 }, { key := .int .i64 3, val := fnV 43, born := 2 }, { key := .int .i64 4, val := fnV 44, born := 3 }, { key := .int .i64 5, val := fnV 45, born := 4 }, { key := .int .i64 6, val := fnV 46, born := 5 }, { key := .int .i64 7, val := fnV 47, born := 6 }, { key := .int .i64 8, val := fnV 48, born := 7 }] 8 9 (fnV 49) rfl
  have u10 := upd_new (T := 47) Try.underlying47 Try.underlying3 w #[{ key := .int .i64 1, val := fnV 41, born := 0 }, { key := .int .i64 2, val := fnV 42, born := 1 }, { key := .int .i64 3, val := fnV 43, born := 2 }, { key := .int .i64 4, val := fnV 44, born := 3 }, { key := .int .i64 5, val := fnV 45, born := 4 }, { key := .int .i64 6, val := fnV 46, born := 5 }, { key := .int .i64 7, val := fnV 47, born := 6 }, { key := .int .i64 8, val := fnV 48, born := 7 }, { key := .int .i64 9, val := fnV 49, born := 8 }] 9 10 (fnV 50) rfl
  have u11 := upd_new (T := 47) Try.underlying47 Try.underlying3 w #[{ key := .int .i64 1, val := fnV 41, born := 0 }, { key := .int .i64 2, val := fnV 42, born := 1 }, { key := .int .i64 3, val := fnV 43, born := 2 }, { key := .int .i64 4, val := fnV 44, born := 3 }, { key := .int .i64 5, val := fnV 45, born := 4 }, { key := .int .i64 6, val := fnV 46, born := 5 }, { key := .int .i64 7, val := fnV 47, born := 6 }, { key := .int .i64 8, val := fnV 48, born := 7 }, { key := .int .i64 9, val := fnV 49, born := 8 }, { key := .int .i64 10, val := fnV 50, born := 9 }] 10 11 (fnV 51) rfl
  simp only [List.push_toArray, List.cons_append, List.nil_append, Nat.zero_add, Nat.reduceAdd] at u1 u2 u3 u4 u5 u6 u7 u8 u9 u10 u11
  go_enter Try.func19, Try.ntmps19
  go_wp2
  go_ret
  exact ⟨rfl, (heap_alloc w _).1, (Below.refl _ _).alloc (Nat.le_refl _) _⟩
theorem find_none4 (op : Int) (h : inB op 1 11 = false) : Instr.findNow (.int .i64) (.int .i64 op) rEs.toList 0 = some none := by
  have hn : ¬ (1 ≤ op ∧ op ≤ 11) := by simp [inB] at h; omega
  have e1 : (op == 1) = false := by simp; omega
  have e2 : (op == 2) = false := by simp; omega
  have e3 : (op == 3) = false := by simp; omega
  have e4 : (op == 4) = false := by simp; omega
  have e5 : (op == 5) = false := by simp; omega
  have e6 : (op == 6) = false := by simp; omega
  have e7 : (op == 7) = false := by simp; omega
  have e8 : (op == 8) = false := by simp; omega
  have e9 : (op == 9) = false := by simp; omega
  have e10 : (op == 10) = false := by simp; omega
  have e11 : (op == 11) = false := by simp; omega
  simp [rEs, Instr.findNow, Instr.sameNow, e1, e2, e3, e4, e5, e6, e7, e8, e9, e10, e11]
theorem zeroRm (w : World) : (zeroValue 45).run Try.prog w = .ok .nilFunc w := by kernel_rfl
/-- A function that is entered when it is called. -/
def Enters (k : FuncId) : Prop := ∀ (args : Array Value) (w : World), (callFunc k args).run Try.prog w = .ok (.enter k args) w
/-- The maker of an op. -/
def Looks (op : Int) (k : FuncId) : Prop := ∀ (w : World) (b : Nat), w.heap[b]? = some (.map rEs 11) → (Instr.lookup 47 (.map (some b)) (.int .i64 op) true).run Try.prog w = .ok (.tuple #[fnV k, .bool true]) w
theorem looks1 : Looks 1 41 := fun w b hb => look_at (T := 47) Try.underlying47 Try.underlying3 hb 1 0 (fnV 41) rfl
theorem looks2 : Looks 2 42 := fun w b hb => look_at (T := 47) Try.underlying47 Try.underlying3 hb 2 1 (fnV 42) rfl
theorem looks3 : Looks 3 43 := fun w b hb => look_at (T := 47) Try.underlying47 Try.underlying3 hb 3 2 (fnV 43) rfl
theorem looks4 : Looks 4 44 := fun w b hb => look_at (T := 47) Try.underlying47 Try.underlying3 hb 4 3 (fnV 44) rfl
theorem looks5 : Looks 5 45 := fun w b hb => look_at (T := 47) Try.underlying47 Try.underlying3 hb 5 4 (fnV 45) rfl
theorem looks6 : Looks 6 46 := fun w b hb => look_at (T := 47) Try.underlying47 Try.underlying3 hb 6 5 (fnV 46) rfl
theorem looks7 : Looks 7 47 := fun w b hb => look_at (T := 47) Try.underlying47 Try.underlying3 hb 7 6 (fnV 47) rfl
theorem looks8 : Looks 8 48 := fun w b hb => look_at (T := 47) Try.underlying47 Try.underlying3 hb 8 7 (fnV 48) rfl
theorem looks9 : Looks 9 49 := fun w b hb => look_at (T := 47) Try.underlying47 Try.underlying3 hb 9 8 (fnV 49) rfl
theorem looks10 : Looks 10 50 := fun w b hb => look_at (T := 47) Try.underlying47 Try.underlying3 hb 10 9 (fnV 50) rfl
theorem looks11 : Looks 11 51 := fun w b hb => look_at (T := 47) Try.underlying47 Try.underlying3 hb 11 10 (fnV 51) rfl
theorem enters1 : Enters 41 := fun args w => by kernel_rfl
theorem enters2 : Enters 42 := fun args w => by kernel_rfl
theorem enters3 : Enters 43 := fun args w => by kernel_rfl
theorem enters4 : Enters 44 := fun args w => by kernel_rfl
theorem enters5 : Enters 45 := fun args w => by kernel_rfl
theorem enters6 : Enters 46 := fun args w => by kernel_rfl
theorem enters7 : Enters 47 := fun args w => by kernel_rfl
theorem enters8 : Enters 48 := fun args w => by kernel_rfl
theorem enters9 : Enters 49 := fun args w => by kernel_rfl
theorem enters10 : Enters 50 := fun args w => by kernel_rfl
theorem enters11 : Enters 51 := fun args w => by kernel_rfl
set_option maxRecDepth 100000 in
set_option maxHeartbeats 2000000 in
theorem g_of_no1 (op : Int) (a b c d e f g h : Int) (w : World) (h1 : inB op 1 11 = false) :
    Calls Try.prog 6 #[.int .i64 op, rv a b c d, rv e f g h] w fun ee w' => ee = .returned (rv 1 0 0 0) ∧ Below w.heap.size w w' := by
  have bA0 : Hid (RBox (((w.alloc (cellsR4 a b c d)).alloc (cellsR4 e f g h)).alloc (cellsR4 0 0 0 0)) w.heap.size a b c d) := twoA w a b c d e f g h
  have bB0 : Hid (RBox (((w.alloc (cellsR4 a b c d)).alloc (cellsR4 e f g h)).alloc (cellsR4 0 0 0 0)) (w.heap.size + 1) e f g h) := twoB w a b c d e f g h
  have bQ0 : Hid (RBox (((w.alloc (cellsR4 a b c d)).alloc (cellsR4 e f g h)).alloc (cellsR4 0 0 0 0)) (w.heap.size + 2) 0 0 0 0) := twoQ w a b c d e f g h
  have bel0 : Hid (Below w.heap.size w (((w.alloc (cellsR4 a b c d)).alloc (cellsR4 e f g h)).alloc (cellsR4 0 0 0 0))) := twoW w a b c d e f g h
  go_enter Try.func6, Try.ntmps6
  go_wp2_with fail
  refine (c_rmakers _).mono ?_
  rintro ee w1 ⟨rfl, hm, hb1⟩
  simp only [World.size_alloc] at hm
  have bA1 := hid (bA0.out.below hb1)
  have bB1 := hid (bB0.out.below hb1)
  have bQ1 := hid (bQ0.out.below hb1)
  have bel1 := hid (bel0.out.trans (hb1.mono bel0.out.size))
  clear hb1 bA0 bB0 bQ0 bel0
  have hl := look_none (T := 47) Try.underlying47 Try.underlying3 hm op _ (zeroRm w1) (find_none4 op h1)
  clear hm h1
  go_wp2_with fail
  refine (c_noRange _).mono ?_
  rintro ee w2 ⟨rfl, hb2⟩
  have bA2 := hid (bA1.out.below hb2)
  have bB2 := hid (bB1.out.below hb2)
  have bQ2 := hid (bQ1.out.below hb2)
  have bel2 := hid (bel1.out.trans (hb2.mono bel1.out.size))
  clear hb2 bA1 bB1 bQ1 bel1
  clear hl
  obtain ⟨g0, g1, g2, g3⟩ := RBox.box bQ2.out
  have fq := RBox.frozen bQ2.out
  have P5 := hid (RBox.box (bQ2.out.st4 (x' := 1) (y' := 0) (z' := 0) (u' := 0)))
  have B5 := hid (st4_below (w.heap.size + 2) (1) (0) (0) (0) bel2.out (by omega))
  go_wp2_with fail
  obtain ⟨p0, p1, p2, p3⟩ := P5.out
  unfold st4 at p0 p1 p2 p3
  refine bodyPost_ret (v := rv (1) (0) (0) (0)) (by simp [results, Try.results6, go_sem, p0, p1, p2, p3]) rfl ⟨rfl, B5.out⟩

set_option maxRecDepth 100000 in
set_option maxHeartbeats 2000000 in
theorem g_of_no2 (op : Int) (k : FuncId) (a b c d e f g h : Int) (w : World) (HL : Hid (Looks op k)) (h1 : someI a b c d = false) :
    Calls Try.prog 6 #[.int .i64 op, rv a b c d, rv e f g h] w fun ee w' => ee = .returned (rv 1 0 0 0) ∧ Below w.heap.size w w' := by
  have bA0 : Hid (RBox (((w.alloc (cellsR4 a b c d)).alloc (cellsR4 e f g h)).alloc (cellsR4 0 0 0 0)) w.heap.size a b c d) := twoA w a b c d e f g h
  have bB0 : Hid (RBox (((w.alloc (cellsR4 a b c d)).alloc (cellsR4 e f g h)).alloc (cellsR4 0 0 0 0)) (w.heap.size + 1) e f g h) := twoB w a b c d e f g h
  have bQ0 : Hid (RBox (((w.alloc (cellsR4 a b c d)).alloc (cellsR4 e f g h)).alloc (cellsR4 0 0 0 0)) (w.heap.size + 2) 0 0 0 0) := twoQ w a b c d e f g h
  have bel0 : Hid (Below w.heap.size w (((w.alloc (cellsR4 a b c d)).alloc (cellsR4 e f g h)).alloc (cellsR4 0 0 0 0))) := twoW w a b c d e f g h
  go_enter Try.func6, Try.ntmps6
  go_wp2_with fail
  refine (c_rmakers _).mono ?_
  rintro ee w1 ⟨rfl, hm, hb1⟩
  simp only [World.size_alloc] at hm
  have bA1 := hid (bA0.out.below hb1)
  have bB1 := hid (bB0.out.below hb1)
  have bQ1 := hid (bQ0.out.below hb1)
  have bel1 := hid (bel0.out.trans (hb1.mono bel0.out.size))
  clear hb1 bA0 bB0 bQ0 bel0
  have hl := HL.out w1 _ hm
  clear hm
  obtain ⟨cA0, cA1, cA2, cA3⟩ := RBox.box bA1.out
  go_wp2_with fail
  refine (c_RangeSomeI _ _ _ _ _).mono ?_
  rintro ee w2 ⟨rfl, hb2⟩
  have bA2 := hid (bA1.out.below hb2)
  have bB2 := hid (bB1.out.below hb2)
  have bQ2 := hid (bQ1.out.below hb2)
  have bel2 := hid (bel1.out.trans (hb2.mono bel1.out.size))
  clear hb2 bA1 bB1 bQ1 bel1
  rw [h1]
  clear hl
  clear cA0 cA1 cA2 cA3
  go_wp2_with fail
  refine (c_noRange _).mono ?_
  rintro ee w3 ⟨rfl, hb3⟩
  have bA3 := hid (bA2.out.below hb3)
  have bB3 := hid (bB2.out.below hb3)
  have bQ3 := hid (bQ2.out.below hb3)
  have bel3 := hid (bel2.out.trans (hb3.mono bel2.out.size))
  clear hb3 bA2 bB2 bQ2 bel2
  obtain ⟨g0, g1, g2, g3⟩ := RBox.box bQ3.out
  have fq := RBox.frozen bQ3.out
  have P5 := hid (RBox.box (bQ3.out.st4 (x' := 1) (y' := 0) (z' := 0) (u' := 0)))
  have B5 := hid (st4_below (w.heap.size + 2) (1) (0) (0) (0) bel3.out (by omega))
  go_wp2_with fail
  obtain ⟨p0, p1, p2, p3⟩ := P5.out
  unfold st4 at p0 p1 p2 p3
  refine bodyPost_ret (v := rv (1) (0) (0) (0)) (by simp [results, Try.results6, go_sem, p0, p1, p2, p3]) rfl ⟨rfl, B5.out⟩

set_option maxRecDepth 100000 in
set_option maxHeartbeats 2000000 in
theorem g_of_no3 (op : Int) (k : FuncId) (a b c d e f g h : Int) (w : World) (HL : Hid (Looks op k)) (h1 : someI a b c d = true) (h2 : someI e f g h = false) :
    Calls Try.prog 6 #[.int .i64 op, rv a b c d, rv e f g h] w fun ee w' => ee = .returned (rv 1 0 0 0) ∧ Below w.heap.size w w' := by
  have bA0 : Hid (RBox (((w.alloc (cellsR4 a b c d)).alloc (cellsR4 e f g h)).alloc (cellsR4 0 0 0 0)) w.heap.size a b c d) := twoA w a b c d e f g h
  have bB0 : Hid (RBox (((w.alloc (cellsR4 a b c d)).alloc (cellsR4 e f g h)).alloc (cellsR4 0 0 0 0)) (w.heap.size + 1) e f g h) := twoB w a b c d e f g h
  have bQ0 : Hid (RBox (((w.alloc (cellsR4 a b c d)).alloc (cellsR4 e f g h)).alloc (cellsR4 0 0 0 0)) (w.heap.size + 2) 0 0 0 0) := twoQ w a b c d e f g h
  have bel0 : Hid (Below w.heap.size w (((w.alloc (cellsR4 a b c d)).alloc (cellsR4 e f g h)).alloc (cellsR4 0 0 0 0))) := twoW w a b c d e f g h
  go_enter Try.func6, Try.ntmps6
  go_wp2_with fail
  refine (c_rmakers _).mono ?_
  rintro ee w1 ⟨rfl, hm, hb1⟩
  simp only [World.size_alloc] at hm
  have bA1 := hid (bA0.out.below hb1)
  have bB1 := hid (bB0.out.below hb1)
  have bQ1 := hid (bQ0.out.below hb1)
  have bel1 := hid (bel0.out.trans (hb1.mono bel0.out.size))
  clear hb1 bA0 bB0 bQ0 bel0
  have hl := HL.out w1 _ hm
  clear hm
  obtain ⟨cA0, cA1, cA2, cA3⟩ := RBox.box bA1.out
  go_wp2_with fail
  refine (c_RangeSomeI _ _ _ _ _).mono ?_
  rintro ee w2 ⟨rfl, hb2⟩
  have bA2 := hid (bA1.out.below hb2)
  have bB2 := hid (bB1.out.below hb2)
  have bQ2 := hid (bQ1.out.below hb2)
  have bel2 := hid (bel1.out.trans (hb2.mono bel1.out.size))
  clear hb2 bA1 bB1 bQ1 bel1
  rw [h1]
  clear hl
  clear cA0 cA1 cA2 cA3
  obtain ⟨cB0, cB1, cB2, cB3⟩ := RBox.box bB2.out
  go_wp2_with fail
  refine (c_RangeSomeI _ _ _ _ _).mono ?_
  rintro ee w3 ⟨rfl, hb3⟩
  have bA3 := hid (bA2.out.below hb3)
  have bB3 := hid (bB2.out.below hb3)
  have bQ3 := hid (bQ2.out.below hb3)
  have bel3 := hid (bel2.out.trans (hb3.mono bel2.out.size))
  clear hb3 bA2 bB2 bQ2 bel2
  rw [h2]
  clear cB0 cB1 cB2 cB3
  go_wp2_with fail
  refine (c_noRange _).mono ?_
  rintro ee w4 ⟨rfl, hb4⟩
  have bA4 := hid (bA3.out.below hb4)
  have bB4 := hid (bB3.out.below hb4)
  have bQ4 := hid (bQ3.out.below hb4)
  have bel4 := hid (bel3.out.trans (hb4.mono bel3.out.size))
  clear hb4 bA3 bB3 bQ3 bel3
  obtain ⟨g0, g1, g2, g3⟩ := RBox.box bQ4.out
  have fq := RBox.frozen bQ4.out
  have P5 := hid (RBox.box (bQ4.out.st4 (x' := 1) (y' := 0) (z' := 0) (u' := 0)))
  have B5 := hid (st4_below (w.heap.size + 2) (1) (0) (0) (0) bel4.out (by omega))
  go_wp2_with fail
  obtain ⟨p0, p1, p2, p3⟩ := P5.out
  unfold st4 at p0 p1 p2 p3
  refine bodyPost_ret (v := rv (1) (0) (0) (0)) (by simp [results, Try.results6, go_sem, p0, p1, p2, p3]) rfl ⟨rfl, B5.out⟩

set_option maxRecDepth 100000 in
set_option maxHeartbeats 2000000 in
theorem g_of_n (op : Int) (k : FuncId) (a b c d e f g h : Int) (p q r s p' q' r' s' x y z u n : Int) (w : World) (HE : Enters k) (HL : Hid (Looks op k)) (h1 : someI a b c d = true) (h2 : someI e f g h = true) (TA : Hid (∀ w, Calls Try.prog 22 #[rv a b c d] w fun ee w' => ee = .returned (rv p q r s) ∧ Below w.heap.size w w')) (TB : Hid (∀ w, Calls Try.prog 22 #[rv e f g h] w fun ee w' => ee = .returned (rv p' q' r' s') ∧ Below w.heap.size w w')) (k1 : (p == q) = false) (M : Hid (∀ w, Calls Try.prog k #[rv p q r s, rv p' q' r' s'] w fun ee w' => ee = .returned (rv x y z u) ∧ Below w.heap.size w w')) :
    Calls Try.prog 6 #[.int .i64 op, rv a b c d, rv e f g h] w fun ee w' => ee = .returned (rv x y z u) ∧ Below w.heap.size w w' := by
  unfold Enters at HE
  have bA0 : Hid (RBox (((w.alloc (cellsR4 a b c d)).alloc (cellsR4 e f g h)).alloc (cellsR4 0 0 0 0)) w.heap.size a b c d) := twoA w a b c d e f g h
  have bB0 : Hid (RBox (((w.alloc (cellsR4 a b c d)).alloc (cellsR4 e f g h)).alloc (cellsR4 0 0 0 0)) (w.heap.size + 1) e f g h) := twoB w a b c d e f g h
  have bQ0 : Hid (RBox (((w.alloc (cellsR4 a b c d)).alloc (cellsR4 e f g h)).alloc (cellsR4 0 0 0 0)) (w.heap.size + 2) 0 0 0 0) := twoQ w a b c d e f g h
  have bel0 : Hid (Below w.heap.size w (((w.alloc (cellsR4 a b c d)).alloc (cellsR4 e f g h)).alloc (cellsR4 0 0 0 0))) := twoW w a b c d e f g h
  go_enter Try.func6, Try.ntmps6
  go_wp2_with fail
  refine (c_rmakers _).mono ?_
  rintro ee w1 ⟨rfl, hm, hb1⟩
  simp only [World.size_alloc] at hm
  have bA1 := hid (bA0.out.below hb1)
  have bB1 := hid (bB0.out.below hb1)
  have bQ1 := hid (bQ0.out.below hb1)
  have bel1 := hid (bel0.out.trans (hb1.mono bel0.out.size))
  clear hb1 bA0 bB0 bQ0 bel0
  have hl := HL.out w1 _ hm
  clear hm
  obtain ⟨cA0, cA1, cA2, cA3⟩ := RBox.box bA1.out
  go_wp2_with fail
  refine (c_RangeSomeI _ _ _ _ _).mono ?_
  rintro ee w2 ⟨rfl, hb2⟩
  have bA2 := hid (bA1.out.below hb2)
  have bB2 := hid (bB1.out.below hb2)
  have bQ2 := hid (bQ1.out.below hb2)
  have bel2 := hid (bel1.out.trans (hb2.mono bel1.out.size))
  clear hb2 bA1 bB1 bQ1 bel1
  rw [h1]
  clear hl
  clear cA0 cA1 cA2 cA3
  obtain ⟨cB0, cB1, cB2, cB3⟩ := RBox.box bB2.out
  go_wp2_with fail
  refine (c_RangeSomeI _ _ _ _ _).mono ?_
  rintro ee w3 ⟨rfl, hb3⟩
  have bA3 := hid (bA2.out.below hb3)
  have bB3 := hid (bB2.out.below hb3)
  have bQ3 := hid (bQ2.out.below hb3)
  have bel3 := hid (bel2.out.trans (hb3.mono bel2.out.size))
  clear hb3 bA2 bB2 bQ2 bel2
  rw [h2]
  clear cB0 cB1 cB2 cB3
  go_wp2_with fail
  refine wp_region_held_drew (S := (fun _ => True)) (by kernel_rfl) (trivial) (fun hHeld => ?_)
  have hA := hid (RBox.drew bA3.out)
  have hB := hid (RBox.drew bB3.out)
  have hQ := hid (RBox.drew bQ3.out)
  have hbel := hid (Below.drew bel3.out)
  clear bA3 bB3 bQ3 bel3
  generalize w3.drew = W1 at *
  refine wpAnyH_ready (fuel := 5) (rs := [0, 2]) (by kernel_rfl) (by simp) ?_
  refine AllReadyH.cons (o := ?oi1) ?hi1 (fun K hK => ?st1) ?mo1
  case hi1 => rw [List.getElem?_toArray]; rfl
  case st1 =>
    obtain ⟨g0, g1, g2, g3⟩ := RBox.box hA.out
    go_simp
    clear g0 g1 g2 g3
    refine hK.out _ _ ?hS1 (fun hHeld => ?re1)
    case hS1 => trivial
    clear hK K
    (try simp only [Act.put, List.setIfInBounds_toArray, List.set_cons_zero, List.set_cons_succ])
    refine wpAnyH_ready (fuel := 4) (rs := [1, 2]) (by kernel_rfl) (by simp) ?_
    refine AllReadyH.cons (o := ?oi2) ?hi2 (fun K hK => ?st2) ?mo2
    case hi2 => rw [List.getElem?_toArray]; rfl
    case st2 =>
      go_simp
      refine (TA.out _).mono ?_
      rintro ee wr1 ⟨rfl, hbn⟩
      replace hA := hid (hA.out.below hbn)
      replace hB := hid (hB.out.below hbn)
      replace hQ := hid (hQ.out.below hbn)
      replace hbel := hid (hbel.out.trans (hbn.mono hbel.out.size))
      clear hbn
      go_wp2_with fail
      refine hK.out _ _ ?hS2 (fun hHeld => ?re2)
      case hS2 => trivial
      clear hK K
      (try simp only [Act.put, List.setIfInBounds_toArray, List.set_cons_zero, List.set_cons_succ])
      refine wpAnyH_ready (fuel := 3) (rs := [2]) (by kernel_rfl) (by simp) ?_
      refine AllReadyH.cons (o := ?oi3) ?hi3 (fun K hK => ?st3) AllReadyH.nil
      case hi3 => rw [List.getElem?_toArray]; rfl
      obtain ⟨g0, g1, g2, g3⟩ := RBox.box hB.out
      go_simp
      clear g0 g1 g2 g3
      refine hK.out _ _ ?hS3 (fun hHeld => ?re3)
      case hS3 => trivial
      clear hK K
      (try simp only [Act.put, List.setIfInBounds_toArray, List.set_cons_zero, List.set_cons_succ])
      refine wpAnyH_ready (fuel := 2) (rs := [3]) (by kernel_rfl) (by simp) ?_
      refine AllReadyH.cons (o := ?oi4) ?hi4 (fun K hK => ?st4) AllReadyH.nil
      case hi4 => rw [List.getElem?_toArray]; rfl
      go_simp
      refine (TB.out _).mono ?_
      rintro ee wr3 ⟨rfl, hbn⟩
      replace hA := hid (hA.out.below hbn)
      replace hB := hid (hB.out.below hbn)
      replace hQ := hid (hQ.out.below hbn)
      replace hbel := hid (hbel.out.trans (hbn.mono hbel.out.size))
      clear hbn
      go_wp2_with fail
      refine hK.out _ _ ?hS4 (fun hHeld => ?re4)
      case hS4 => trivial
      clear hK K
      (try simp only [Act.put, List.setIfInBounds_toArray, List.set_cons_zero, List.set_cons_succ])
      refine wpAnyH_ready (fuel := 1) (rs := [4]) (by kernel_rfl) (by simp) ?_
      refine AllReadyH.cons (o := ?oi5) ?hi5 (fun K hK => ?st5) AllReadyH.nil
      case hi5 => rw [List.getElem?_toArray]; rfl
      obtain ⟨g0, g1, g2, g3⟩ := RBox.box hA.out
      have fq := RBox.frozen hA.out
      go_simp
      clear g0 g1 g2 g3 fq
      replace hB := hid (hB.out.st4o (k := w.heap.size) (by first | omega | (have := RBox.lt hB.out; omega)) (p) (q) (r) (s))
      replace hQ := hid (hQ.out.st4o (k := w.heap.size) (by first | omega | (have := RBox.lt hQ.out; omega)) (p) (q) (r) (s))
      replace hA := hid (hA.out.st4 (x' := p) (y' := q) (z' := r) (u' := s))
      replace hbel := hid (st4_below (w.heap.size) (p) (q) (r) (s) hbel.out (by omega))
      unfold Go.Proofs.Ytnebjocnbfoafaa.st4 at hbel hA hB hQ
      generalize ((((wr3.setCell ⟨w.heap.size, 0, none⟩ (.int .i64 (p))).setCell ⟨w.heap.size, 1, none⟩ (.int .i64 (q))).setCell ⟨w.heap.size, 2, none⟩ (.int .i64 (r))).setCell ⟨w.heap.size, 3, none⟩ (.int .i64 (s))) = ws4 at *
      refine hK.out _ _ ?hS5 (fun hHeld => ?re5)
      case hS5 => trivial
      clear hK K
      (try simp only [Act.put, List.setIfInBounds_toArray, List.set_cons_zero, List.set_cons_succ])
      refine wpAnyH_ready (fuel := 0) (rs := [5]) (by kernel_rfl) (by simp) ?_
      refine AllReadyH.cons (o := ?oi6) ?hi6 (fun K hK => ?st6) AllReadyH.nil
      case hi6 => rw [List.getElem?_toArray]; rfl
      obtain ⟨g0, g1, g2, g3⟩ := RBox.box hB.out
      have fq := RBox.frozen hB.out
      go_simp
      clear g0 g1 g2 g3 fq
      replace hA := hid (hA.out.st4o (k := w.heap.size + 1) (by first | omega | (have := RBox.lt hA.out; omega)) (p') (q') (r') (s'))
      replace hQ := hid (hQ.out.st4o (k := w.heap.size + 1) (by first | omega | (have := RBox.lt hQ.out; omega)) (p') (q') (r') (s'))
      replace hB := hid (hB.out.st4 (x' := p') (y' := q') (z' := r') (u' := s'))
      replace hbel := hid (st4_below (w.heap.size + 1) (p') (q') (r') (s') hbel.out (by omega))
      unfold Go.Proofs.Ytnebjocnbfoafaa.st4 at hbel hA hB hQ
      generalize ((((ws4.setCell ⟨w.heap.size + 1, 0, none⟩ (.int .i64 (p'))).setCell ⟨w.heap.size + 1, 1, none⟩ (.int .i64 (q'))).setCell ⟨w.heap.size + 1, 2, none⟩ (.int .i64 (r'))).setCell ⟨w.heap.size + 1, 3, none⟩ (.int .i64 (s'))) = ws5 at *
      refine hK.out _ _ ?hS6 (fun hHeld => ?re6)
      case hS6 => trivial
      clear hK K
      (try simp only [Act.put, List.setIfInBounds_toArray, List.set_cons_zero, List.set_cons_succ])
      refine wpAnyH_done (by kernel_rfl) ?_ _
      clear hHeld
      generalize ws5 = w4 at *
      have bA4 := hA
      have bB4 := hB
      have bQ4 := hQ
      have bel4 := hbel
      clear hbel hA hB hQ
      obtain ⟨cA0, cA1, cA2, cA3⟩ := RBox.box bA4.out
      go_wp2_with fail
      refine (c_isKnown _ _ _ _ _).mono ?_
      rintro ee w5 ⟨rfl, hb5⟩
      have bA5 := hid (bA4.out.below hb5)
      have bB5 := hid (bB4.out.below hb5)
      have bQ5 := hid (bQ4.out.below hb5)
      have bel5 := hid (bel4.out.trans (hb5.mono bel4.out.size))
      clear hb5 bA4 bB4 bQ4 bel4
      rw [k1]
      clear cA0 cA1 cA2 cA3
      obtain ⟨cA0, cA1, cA2, cA3⟩ := RBox.box bA5.out
      obtain ⟨cB0, cB1, cB2, cB3⟩ := RBox.box bB5.out
      go_wp2_with fail
      refine (M.out _).mono ?_
      rintro ee w6 ⟨rfl, hb6⟩
      have bA6 := hid (bA5.out.below hb6)
      have bB6 := hid (bB5.out.below hb6)
      have bQ6 := hid (bQ5.out.below hb6)
      have bel6 := hid (bel5.out.trans (hb6.mono bel5.out.size))
      clear hb6 bA5 bB5 bQ5 bel5
      clear cA0 cA1 cA2 cA3 cB0 cB1 cB2 cB3
      obtain ⟨g0, g1, g2, g3⟩ := RBox.box bQ6.out
      have fq := RBox.frozen bQ6.out
      have P5 := hid (RBox.box (bQ6.out.st4 (x' := x) (y' := y) (z' := z) (u' := u)))
      have B5 := hid (st4_below (w.heap.size + 2) (x) (y) (z) (u) bel6.out (by omega))
      go_wp2_with fail
      obtain ⟨p0, p1, p2, p3⟩ := P5.out
      unfold st4 at p0 p1 p2 p3
      refine bodyPost_ret (v := rv (x) (y) (z) (u)) (by simp [results, Try.results6, go_sem, p0, p1, p2, p3]) rfl ⟨rfl, B5.out⟩
    refine AllReadyH.cons (o := ?oi7) ?hi7 (fun K hK => ?st7) ?mo7
    case hi7 => rw [List.getElem?_toArray]; rfl
    case st7 =>
      obtain ⟨g0, g1, g2, g3⟩ := RBox.box hB.out
      go_simp
      clear g0 g1 g2 g3
      refine hK.out _ _ ?hS7 (fun hHeld => ?re7)
      case hS7 => trivial
      clear hK K
      (try simp only [Act.put, List.setIfInBounds_toArray, List.set_cons_zero, List.set_cons_succ])
      refine wpAnyH_ready (fuel := 3) (rs := [1]) (by kernel_rfl) (by simp) ?_
      refine AllReadyH.cons (o := ?oi8) ?hi8 (fun K hK => ?st8) AllReadyH.nil
      case hi8 => rw [List.getElem?_toArray]; rfl
      go_simp
      refine (TA.out _).mono ?_
      rintro ee wr1 ⟨rfl, hbn⟩
      replace hA := hid (hA.out.below hbn)
      replace hB := hid (hB.out.below hbn)
      replace hQ := hid (hQ.out.below hbn)
      replace hbel := hid (hbel.out.trans (hbn.mono hbel.out.size))
      clear hbn
      go_wp2_with fail
      refine hK.out _ _ ?hS8 (fun hHeld => ?re8)
      case hS8 => trivial
      clear hK K
      (try simp only [Act.put, List.setIfInBounds_toArray, List.set_cons_zero, List.set_cons_succ])
      refine wpAnyH_ready (fuel := 2) (rs := [3]) (by kernel_rfl) (by simp) ?_
      refine AllReadyH.cons (o := ?oi9) ?hi9 (fun K hK => ?st9) AllReadyH.nil
      case hi9 => rw [List.getElem?_toArray]; rfl
      go_simp
      refine (TB.out _).mono ?_
      rintro ee wr3 ⟨rfl, hbn⟩
      replace hA := hid (hA.out.below hbn)
      replace hB := hid (hB.out.below hbn)
      replace hQ := hid (hQ.out.below hbn)
      replace hbel := hid (hbel.out.trans (hbn.mono hbel.out.size))
      clear hbn
      go_wp2_with fail
      refine hK.out _ _ ?hS9 (fun hHeld => ?re9)
      case hS9 => trivial
      clear hK K
      (try simp only [Act.put, List.setIfInBounds_toArray, List.set_cons_zero, List.set_cons_succ])
      refine wpAnyH_ready (fuel := 1) (rs := [4]) (by kernel_rfl) (by simp) ?_
      refine AllReadyH.cons (o := ?oi10) ?hi10 (fun K hK => ?st10) AllReadyH.nil
      case hi10 => rw [List.getElem?_toArray]; rfl
      obtain ⟨g0, g1, g2, g3⟩ := RBox.box hA.out
      have fq := RBox.frozen hA.out
      go_simp
      clear g0 g1 g2 g3 fq
      replace hB := hid (hB.out.st4o (k := w.heap.size) (by first | omega | (have := RBox.lt hB.out; omega)) (p) (q) (r) (s))
      replace hQ := hid (hQ.out.st4o (k := w.heap.size) (by first | omega | (have := RBox.lt hQ.out; omega)) (p) (q) (r) (s))
      replace hA := hid (hA.out.st4 (x' := p) (y' := q) (z' := r) (u' := s))
      replace hbel := hid (st4_below (w.heap.size) (p) (q) (r) (s) hbel.out (by omega))
      unfold Go.Proofs.Ytnebjocnbfoafaa.st4 at hbel hA hB hQ
      generalize ((((wr3.setCell ⟨w.heap.size, 0, none⟩ (.int .i64 (p))).setCell ⟨w.heap.size, 1, none⟩ (.int .i64 (q))).setCell ⟨w.heap.size, 2, none⟩ (.int .i64 (r))).setCell ⟨w.heap.size, 3, none⟩ (.int .i64 (s))) = ws4 at *
      refine hK.out _ _ ?hS10 (fun hHeld => ?re10)
      case hS10 => trivial
      clear hK K
      (try simp only [Act.put, List.setIfInBounds_toArray, List.set_cons_zero, List.set_cons_succ])
      refine wpAnyH_ready (fuel := 0) (rs := [5]) (by kernel_rfl) (by simp) ?_
      refine AllReadyH.cons (o := ?oi11) ?hi11 (fun K hK => ?st11) AllReadyH.nil
      case hi11 => rw [List.getElem?_toArray]; rfl
      obtain ⟨g0, g1, g2, g3⟩ := RBox.box hB.out
      have fq := RBox.frozen hB.out
      go_simp
      clear g0 g1 g2 g3 fq
      replace hA := hid (hA.out.st4o (k := w.heap.size + 1) (by first | omega | (have := RBox.lt hA.out; omega)) (p') (q') (r') (s'))
      replace hQ := hid (hQ.out.st4o (k := w.heap.size + 1) (by first | omega | (have := RBox.lt hQ.out; omega)) (p') (q') (r') (s'))
      replace hB := hid (hB.out.st4 (x' := p') (y' := q') (z' := r') (u' := s'))
      replace hbel := hid (st4_below (w.heap.size + 1) (p') (q') (r') (s') hbel.out (by omega))
      unfold Go.Proofs.Ytnebjocnbfoafaa.st4 at hbel hA hB hQ
      generalize ((((ws4.setCell ⟨w.heap.size + 1, 0, none⟩ (.int .i64 (p'))).setCell ⟨w.heap.size + 1, 1, none⟩ (.int .i64 (q'))).setCell ⟨w.heap.size + 1, 2, none⟩ (.int .i64 (r'))).setCell ⟨w.heap.size + 1, 3, none⟩ (.int .i64 (s'))) = ws5 at *
      refine hK.out _ _ ?hS11 (fun hHeld => ?re11)
      case hS11 => trivial
      clear hK K
      (try simp only [Act.put, List.setIfInBounds_toArray, List.set_cons_zero, List.set_cons_succ])
      refine wpAnyH_done (by kernel_rfl) ?_ _
      clear hHeld
      generalize ws5 = w4 at *
      have bA4 := hA
      have bB4 := hB
      have bQ4 := hQ
      have bel4 := hbel
      clear hbel hA hB hQ
      obtain ⟨cA0, cA1, cA2, cA3⟩ := RBox.box bA4.out
      go_wp2_with fail
      refine (c_isKnown _ _ _ _ _).mono ?_
      rintro ee w5 ⟨rfl, hb5⟩
      have bA5 := hid (bA4.out.below hb5)
      have bB5 := hid (bB4.out.below hb5)
      have bQ5 := hid (bQ4.out.below hb5)
      have bel5 := hid (bel4.out.trans (hb5.mono bel4.out.size))
      clear hb5 bA4 bB4 bQ4 bel4
      rw [k1]
      clear cA0 cA1 cA2 cA3
      obtain ⟨cA0, cA1, cA2, cA3⟩ := RBox.box bA5.out
      obtain ⟨cB0, cB1, cB2, cB3⟩ := RBox.box bB5.out
      go_wp2_with fail
      refine (M.out _).mono ?_
      rintro ee w6 ⟨rfl, hb6⟩
      have bA6 := hid (bA5.out.below hb6)
      have bB6 := hid (bB5.out.below hb6)
      have bQ6 := hid (bQ5.out.below hb6)
      have bel6 := hid (bel5.out.trans (hb6.mono bel5.out.size))
      clear hb6 bA5 bB5 bQ5 bel5
      clear cA0 cA1 cA2 cA3 cB0 cB1 cB2 cB3
      obtain ⟨g0, g1, g2, g3⟩ := RBox.box bQ6.out
      have fq := RBox.frozen bQ6.out
      have P5 := hid (RBox.box (bQ6.out.st4 (x' := x) (y' := y) (z' := z) (u' := u)))
      have B5 := hid (st4_below (w.heap.size + 2) (x) (y) (z) (u) bel6.out (by omega))
      go_wp2_with fail
      obtain ⟨p0, p1, p2, p3⟩ := P5.out
      unfold st4 at p0 p1 p2 p3
      refine bodyPost_ret (v := rv (x) (y) (z) (u)) (by simp [results, Try.results6, go_sem, p0, p1, p2, p3]) rfl ⟨rfl, B5.out⟩
    exact AllReadyH.nil
  refine AllReadyH.cons (o := ?oi12) ?hi12 (fun K hK => ?st12) ?mo12
  case hi12 => rw [List.getElem?_toArray]; rfl
  case st12 =>
    obtain ⟨g0, g1, g2, g3⟩ := RBox.box hB.out
    go_simp
    clear g0 g1 g2 g3
    refine hK.out _ _ ?hS12 (fun hHeld => ?re12)
    case hS12 => trivial
    clear hK K
    (try simp only [Act.put, List.setIfInBounds_toArray, List.set_cons_zero, List.set_cons_succ])
    refine wpAnyH_ready (fuel := 4) (rs := [0]) (by kernel_rfl) (by simp) ?_
    refine AllReadyH.cons (o := ?oi13) ?hi13 (fun K hK => ?st13) AllReadyH.nil
    case hi13 => rw [List.getElem?_toArray]; rfl
    obtain ⟨g0, g1, g2, g3⟩ := RBox.box hA.out
    go_simp
    clear g0 g1 g2 g3
    refine hK.out _ _ ?hS13 (fun hHeld => ?re13)
    case hS13 => trivial
    clear hK K
    (try simp only [Act.put, List.setIfInBounds_toArray, List.set_cons_zero, List.set_cons_succ])
    refine wpAnyH_ready (fuel := 3) (rs := [1]) (by kernel_rfl) (by simp) ?_
    refine AllReadyH.cons (o := ?oi14) ?hi14 (fun K hK => ?st14) AllReadyH.nil
    case hi14 => rw [List.getElem?_toArray]; rfl
    go_simp
    refine (TA.out _).mono ?_
    rintro ee wr1 ⟨rfl, hbn⟩
    replace hA := hid (hA.out.below hbn)
    replace hB := hid (hB.out.below hbn)
    replace hQ := hid (hQ.out.below hbn)
    replace hbel := hid (hbel.out.trans (hbn.mono hbel.out.size))
    clear hbn
    go_wp2_with fail
    refine hK.out _ _ ?hS14 (fun hHeld => ?re14)
    case hS14 => trivial
    clear hK K
    (try simp only [Act.put, List.setIfInBounds_toArray, List.set_cons_zero, List.set_cons_succ])
    refine wpAnyH_ready (fuel := 2) (rs := [3]) (by kernel_rfl) (by simp) ?_
    refine AllReadyH.cons (o := ?oi15) ?hi15 (fun K hK => ?st15) AllReadyH.nil
    case hi15 => rw [List.getElem?_toArray]; rfl
    go_simp
    refine (TB.out _).mono ?_
    rintro ee wr3 ⟨rfl, hbn⟩
    replace hA := hid (hA.out.below hbn)
    replace hB := hid (hB.out.below hbn)
    replace hQ := hid (hQ.out.below hbn)
    replace hbel := hid (hbel.out.trans (hbn.mono hbel.out.size))
    clear hbn
    go_wp2_with fail
    refine hK.out _ _ ?hS15 (fun hHeld => ?re15)
    case hS15 => trivial
    clear hK K
    (try simp only [Act.put, List.setIfInBounds_toArray, List.set_cons_zero, List.set_cons_succ])
    refine wpAnyH_ready (fuel := 1) (rs := [4]) (by kernel_rfl) (by simp) ?_
    refine AllReadyH.cons (o := ?oi16) ?hi16 (fun K hK => ?st16) AllReadyH.nil
    case hi16 => rw [List.getElem?_toArray]; rfl
    obtain ⟨g0, g1, g2, g3⟩ := RBox.box hA.out
    have fq := RBox.frozen hA.out
    go_simp
    clear g0 g1 g2 g3 fq
    replace hB := hid (hB.out.st4o (k := w.heap.size) (by first | omega | (have := RBox.lt hB.out; omega)) (p) (q) (r) (s))
    replace hQ := hid (hQ.out.st4o (k := w.heap.size) (by first | omega | (have := RBox.lt hQ.out; omega)) (p) (q) (r) (s))
    replace hA := hid (hA.out.st4 (x' := p) (y' := q) (z' := r) (u' := s))
    replace hbel := hid (st4_below (w.heap.size) (p) (q) (r) (s) hbel.out (by omega))
    unfold Go.Proofs.Ytnebjocnbfoafaa.st4 at hbel hA hB hQ
    generalize ((((wr3.setCell ⟨w.heap.size, 0, none⟩ (.int .i64 (p))).setCell ⟨w.heap.size, 1, none⟩ (.int .i64 (q))).setCell ⟨w.heap.size, 2, none⟩ (.int .i64 (r))).setCell ⟨w.heap.size, 3, none⟩ (.int .i64 (s))) = ws4 at *
    refine hK.out _ _ ?hS16 (fun hHeld => ?re16)
    case hS16 => trivial
    clear hK K
    (try simp only [Act.put, List.setIfInBounds_toArray, List.set_cons_zero, List.set_cons_succ])
    refine wpAnyH_ready (fuel := 0) (rs := [5]) (by kernel_rfl) (by simp) ?_
    refine AllReadyH.cons (o := ?oi17) ?hi17 (fun K hK => ?st17) AllReadyH.nil
    case hi17 => rw [List.getElem?_toArray]; rfl
    obtain ⟨g0, g1, g2, g3⟩ := RBox.box hB.out
    have fq := RBox.frozen hB.out
    go_simp
    clear g0 g1 g2 g3 fq
    replace hA := hid (hA.out.st4o (k := w.heap.size + 1) (by first | omega | (have := RBox.lt hA.out; omega)) (p') (q') (r') (s'))
    replace hQ := hid (hQ.out.st4o (k := w.heap.size + 1) (by first | omega | (have := RBox.lt hQ.out; omega)) (p') (q') (r') (s'))
    replace hB := hid (hB.out.st4 (x' := p') (y' := q') (z' := r') (u' := s'))
    replace hbel := hid (st4_below (w.heap.size + 1) (p') (q') (r') (s') hbel.out (by omega))
    unfold Go.Proofs.Ytnebjocnbfoafaa.st4 at hbel hA hB hQ
    generalize ((((ws4.setCell ⟨w.heap.size + 1, 0, none⟩ (.int .i64 (p'))).setCell ⟨w.heap.size + 1, 1, none⟩ (.int .i64 (q'))).setCell ⟨w.heap.size + 1, 2, none⟩ (.int .i64 (r'))).setCell ⟨w.heap.size + 1, 3, none⟩ (.int .i64 (s'))) = ws5 at *
    refine hK.out _ _ ?hS17 (fun hHeld => ?re17)
    case hS17 => trivial
    clear hK K
    (try simp only [Act.put, List.setIfInBounds_toArray, List.set_cons_zero, List.set_cons_succ])
    refine wpAnyH_done (by kernel_rfl) ?_ _
    clear hHeld
    generalize ws5 = w4 at *
    have bA4 := hA
    have bB4 := hB
    have bQ4 := hQ
    have bel4 := hbel
    clear hbel hA hB hQ
    obtain ⟨cA0, cA1, cA2, cA3⟩ := RBox.box bA4.out
    go_wp2_with fail
    refine (c_isKnown _ _ _ _ _).mono ?_
    rintro ee w5 ⟨rfl, hb5⟩
    have bA5 := hid (bA4.out.below hb5)
    have bB5 := hid (bB4.out.below hb5)
    have bQ5 := hid (bQ4.out.below hb5)
    have bel5 := hid (bel4.out.trans (hb5.mono bel4.out.size))
    clear hb5 bA4 bB4 bQ4 bel4
    rw [k1]
    clear cA0 cA1 cA2 cA3
    obtain ⟨cA0, cA1, cA2, cA3⟩ := RBox.box bA5.out
    obtain ⟨cB0, cB1, cB2, cB3⟩ := RBox.box bB5.out
    go_wp2_with fail
    refine (M.out _).mono ?_
    rintro ee w6 ⟨rfl, hb6⟩
    have bA6 := hid (bA5.out.below hb6)
    have bB6 := hid (bB5.out.below hb6)
    have bQ6 := hid (bQ5.out.below hb6)
    have bel6 := hid (bel5.out.trans (hb6.mono bel5.out.size))
    clear hb6 bA5 bB5 bQ5 bel5
    clear cA0 cA1 cA2 cA3 cB0 cB1 cB2 cB3
    obtain ⟨g0, g1, g2, g3⟩ := RBox.box bQ6.out
    have fq := RBox.frozen bQ6.out
    have P5 := hid (RBox.box (bQ6.out.st4 (x' := x) (y' := y) (z' := z) (u' := u)))
    have B5 := hid (st4_below (w.heap.size + 2) (x) (y) (z) (u) bel6.out (by omega))
    go_wp2_with fail
    obtain ⟨p0, p1, p2, p3⟩ := P5.out
    unfold st4 at p0 p1 p2 p3
    refine bodyPost_ret (v := rv (x) (y) (z) (u)) (by simp [results, Try.results6, go_sem, p0, p1, p2, p3]) rfl ⟨rfl, B5.out⟩
  exact AllReadyH.nil

set_option maxRecDepth 100000 in
set_option maxHeartbeats 2000000 in
theorem g_of_y (op : Int) (k : FuncId) (a b c d e f g h : Int) (p q r s p' q' r' s' x y z u n : Int) (w : World) (HE : Enters k) (HL : Hid (Looks op k)) (h1 : someI a b c d = true) (h2 : someI e f g h = true) (TA : Hid (∀ w, Calls Try.prog 22 #[rv a b c d] w fun ee w' => ee = .returned (rv p q r s) ∧ Below w.heap.size w w')) (TB : Hid (∀ w, Calls Try.prog 22 #[rv e f g h] w fun ee w' => ee = .returned (rv p' q' r' s') ∧ Below w.heap.size w w')) (k1 : (p == q) = true) (k2 : (p' == q') = false) (M : Hid (∀ w, Calls Try.prog k #[rv p q r s, rv p' q' r' s'] w fun ee w' => ee = .returned (rv x y z u) ∧ Below w.heap.size w w')) :
    Calls Try.prog 6 #[.int .i64 op, rv a b c d, rv e f g h] w fun ee w' => ee = .returned (rv x y z u) ∧ Below w.heap.size w w' := by
  unfold Enters at HE
  have bA0 : Hid (RBox (((w.alloc (cellsR4 a b c d)).alloc (cellsR4 e f g h)).alloc (cellsR4 0 0 0 0)) w.heap.size a b c d) := twoA w a b c d e f g h
  have bB0 : Hid (RBox (((w.alloc (cellsR4 a b c d)).alloc (cellsR4 e f g h)).alloc (cellsR4 0 0 0 0)) (w.heap.size + 1) e f g h) := twoB w a b c d e f g h
  have bQ0 : Hid (RBox (((w.alloc (cellsR4 a b c d)).alloc (cellsR4 e f g h)).alloc (cellsR4 0 0 0 0)) (w.heap.size + 2) 0 0 0 0) := twoQ w a b c d e f g h
  have bel0 : Hid (Below w.heap.size w (((w.alloc (cellsR4 a b c d)).alloc (cellsR4 e f g h)).alloc (cellsR4 0 0 0 0))) := twoW w a b c d e f g h
  go_enter Try.func6, Try.ntmps6
  go_wp2_with fail
  refine (c_rmakers _).mono ?_
  rintro ee w1 ⟨rfl, hm, hb1⟩
  simp only [World.size_alloc] at hm
  have bA1 := hid (bA0.out.below hb1)
  have bB1 := hid (bB0.out.below hb1)
  have bQ1 := hid (bQ0.out.below hb1)
  have bel1 := hid (bel0.out.trans (hb1.mono bel0.out.size))
  clear hb1 bA0 bB0 bQ0 bel0
  have hl := HL.out w1 _ hm
  clear hm
  obtain ⟨cA0, cA1, cA2, cA3⟩ := RBox.box bA1.out
  go_wp2_with fail
  refine (c_RangeSomeI _ _ _ _ _).mono ?_
  rintro ee w2 ⟨rfl, hb2⟩
  have bA2 := hid (bA1.out.below hb2)
  have bB2 := hid (bB1.out.below hb2)
  have bQ2 := hid (bQ1.out.below hb2)
  have bel2 := hid (bel1.out.trans (hb2.mono bel1.out.size))
  clear hb2 bA1 bB1 bQ1 bel1
  rw [h1]
  clear hl
  clear cA0 cA1 cA2 cA3
  obtain ⟨cB0, cB1, cB2, cB3⟩ := RBox.box bB2.out
  go_wp2_with fail
  refine (c_RangeSomeI _ _ _ _ _).mono ?_
  rintro ee w3 ⟨rfl, hb3⟩
  have bA3 := hid (bA2.out.below hb3)
  have bB3 := hid (bB2.out.below hb3)
  have bQ3 := hid (bQ2.out.below hb3)
  have bel3 := hid (bel2.out.trans (hb3.mono bel2.out.size))
  clear hb3 bA2 bB2 bQ2 bel2
  rw [h2]
  clear cB0 cB1 cB2 cB3
  go_wp2_with fail
  refine wp_region_held_drew (S := (fun _ => True)) (by kernel_rfl) (trivial) (fun hHeld => ?_)
  have hA := hid (RBox.drew bA3.out)
  have hB := hid (RBox.drew bB3.out)
  have hQ := hid (RBox.drew bQ3.out)
  have hbel := hid (Below.drew bel3.out)
  clear bA3 bB3 bQ3 bel3
  generalize w3.drew = W1 at *
  refine wpAnyH_ready (fuel := 5) (rs := [0, 2]) (by kernel_rfl) (by simp) ?_
  refine AllReadyH.cons (o := ?oi18) ?hi18 (fun K hK => ?st18) ?mo18
  case hi18 => rw [List.getElem?_toArray]; rfl
  case st18 =>
    obtain ⟨g0, g1, g2, g3⟩ := RBox.box hA.out
    go_simp
    clear g0 g1 g2 g3
    refine hK.out _ _ ?hS18 (fun hHeld => ?re18)
    case hS18 => trivial
    clear hK K
    (try simp only [Act.put, List.setIfInBounds_toArray, List.set_cons_zero, List.set_cons_succ])
    refine wpAnyH_ready (fuel := 4) (rs := [1, 2]) (by kernel_rfl) (by simp) ?_
    refine AllReadyH.cons (o := ?oi19) ?hi19 (fun K hK => ?st19) ?mo19
    case hi19 => rw [List.getElem?_toArray]; rfl
    case st19 =>
      go_simp
      refine (TA.out _).mono ?_
      rintro ee wr1 ⟨rfl, hbn⟩
      replace hA := hid (hA.out.below hbn)
      replace hB := hid (hB.out.below hbn)
      replace hQ := hid (hQ.out.below hbn)
      replace hbel := hid (hbel.out.trans (hbn.mono hbel.out.size))
      clear hbn
      go_wp2_with fail
      refine hK.out _ _ ?hS19 (fun hHeld => ?re19)
      case hS19 => trivial
      clear hK K
      (try simp only [Act.put, List.setIfInBounds_toArray, List.set_cons_zero, List.set_cons_succ])
      refine wpAnyH_ready (fuel := 3) (rs := [2]) (by kernel_rfl) (by simp) ?_
      refine AllReadyH.cons (o := ?oi20) ?hi20 (fun K hK => ?st20) AllReadyH.nil
      case hi20 => rw [List.getElem?_toArray]; rfl
      obtain ⟨g0, g1, g2, g3⟩ := RBox.box hB.out
      go_simp
      clear g0 g1 g2 g3
      refine hK.out _ _ ?hS20 (fun hHeld => ?re20)
      case hS20 => trivial
      clear hK K
      (try simp only [Act.put, List.setIfInBounds_toArray, List.set_cons_zero, List.set_cons_succ])
      refine wpAnyH_ready (fuel := 2) (rs := [3]) (by kernel_rfl) (by simp) ?_
      refine AllReadyH.cons (o := ?oi21) ?hi21 (fun K hK => ?st21) AllReadyH.nil
      case hi21 => rw [List.getElem?_toArray]; rfl
      go_simp
      refine (TB.out _).mono ?_
      rintro ee wr3 ⟨rfl, hbn⟩
      replace hA := hid (hA.out.below hbn)
      replace hB := hid (hB.out.below hbn)
      replace hQ := hid (hQ.out.below hbn)
      replace hbel := hid (hbel.out.trans (hbn.mono hbel.out.size))
      clear hbn
      go_wp2_with fail
      refine hK.out _ _ ?hS21 (fun hHeld => ?re21)
      case hS21 => trivial
      clear hK K
      (try simp only [Act.put, List.setIfInBounds_toArray, List.set_cons_zero, List.set_cons_succ])
      refine wpAnyH_ready (fuel := 1) (rs := [4]) (by kernel_rfl) (by simp) ?_
      refine AllReadyH.cons (o := ?oi22) ?hi22 (fun K hK => ?st22) AllReadyH.nil
      case hi22 => rw [List.getElem?_toArray]; rfl
      obtain ⟨g0, g1, g2, g3⟩ := RBox.box hA.out
      have fq := RBox.frozen hA.out
      go_simp
      clear g0 g1 g2 g3 fq
      replace hB := hid (hB.out.st4o (k := w.heap.size) (by first | omega | (have := RBox.lt hB.out; omega)) (p) (q) (r) (s))
      replace hQ := hid (hQ.out.st4o (k := w.heap.size) (by first | omega | (have := RBox.lt hQ.out; omega)) (p) (q) (r) (s))
      replace hA := hid (hA.out.st4 (x' := p) (y' := q) (z' := r) (u' := s))
      replace hbel := hid (st4_below (w.heap.size) (p) (q) (r) (s) hbel.out (by omega))
      unfold Go.Proofs.Ytnebjocnbfoafaa.st4 at hbel hA hB hQ
      generalize ((((wr3.setCell ⟨w.heap.size, 0, none⟩ (.int .i64 (p))).setCell ⟨w.heap.size, 1, none⟩ (.int .i64 (q))).setCell ⟨w.heap.size, 2, none⟩ (.int .i64 (r))).setCell ⟨w.heap.size, 3, none⟩ (.int .i64 (s))) = ws4 at *
      refine hK.out _ _ ?hS22 (fun hHeld => ?re22)
      case hS22 => trivial
      clear hK K
      (try simp only [Act.put, List.setIfInBounds_toArray, List.set_cons_zero, List.set_cons_succ])
      refine wpAnyH_ready (fuel := 0) (rs := [5]) (by kernel_rfl) (by simp) ?_
      refine AllReadyH.cons (o := ?oi23) ?hi23 (fun K hK => ?st23) AllReadyH.nil
      case hi23 => rw [List.getElem?_toArray]; rfl
      obtain ⟨g0, g1, g2, g3⟩ := RBox.box hB.out
      have fq := RBox.frozen hB.out
      go_simp
      clear g0 g1 g2 g3 fq
      replace hA := hid (hA.out.st4o (k := w.heap.size + 1) (by first | omega | (have := RBox.lt hA.out; omega)) (p') (q') (r') (s'))
      replace hQ := hid (hQ.out.st4o (k := w.heap.size + 1) (by first | omega | (have := RBox.lt hQ.out; omega)) (p') (q') (r') (s'))
      replace hB := hid (hB.out.st4 (x' := p') (y' := q') (z' := r') (u' := s'))
      replace hbel := hid (st4_below (w.heap.size + 1) (p') (q') (r') (s') hbel.out (by omega))
      unfold Go.Proofs.Ytnebjocnbfoafaa.st4 at hbel hA hB hQ
      generalize ((((ws4.setCell ⟨w.heap.size + 1, 0, none⟩ (.int .i64 (p'))).setCell ⟨w.heap.size + 1, 1, none⟩ (.int .i64 (q'))).setCell ⟨w.heap.size + 1, 2, none⟩ (.int .i64 (r'))).setCell ⟨w.heap.size + 1, 3, none⟩ (.int .i64 (s'))) = ws5 at *
      refine hK.out _ _ ?hS23 (fun hHeld => ?re23)
      case hS23 => trivial
      clear hK K
      (try simp only [Act.put, List.setIfInBounds_toArray, List.set_cons_zero, List.set_cons_succ])
      refine wpAnyH_done (by kernel_rfl) ?_ _
      clear hHeld
      generalize ws5 = w4 at *
      have bA4 := hA
      have bB4 := hB
      have bQ4 := hQ
      have bel4 := hbel
      clear hbel hA hB hQ
      obtain ⟨cA0, cA1, cA2, cA3⟩ := RBox.box bA4.out
      go_wp2_with fail
      refine (c_isKnown _ _ _ _ _).mono ?_
      rintro ee w5 ⟨rfl, hb5⟩
      have bA5 := hid (bA4.out.below hb5)
      have bB5 := hid (bB4.out.below hb5)
      have bQ5 := hid (bQ4.out.below hb5)
      have bel5 := hid (bel4.out.trans (hb5.mono bel4.out.size))
      clear hb5 bA4 bB4 bQ4 bel4
      rw [k1]
      clear cA0 cA1 cA2 cA3
      obtain ⟨cB0, cB1, cB2, cB3⟩ := RBox.box bB5.out
      go_wp2_with fail
      refine (c_isKnown _ _ _ _ _).mono ?_
      rintro ee w6 ⟨rfl, hb6⟩
      have bA6 := hid (bA5.out.below hb6)
      have bB6 := hid (bB5.out.below hb6)
      have bQ6 := hid (bQ5.out.below hb6)
      have bel6 := hid (bel5.out.trans (hb6.mono bel5.out.size))
      clear hb6 bA5 bB5 bQ5 bel5
      rw [k2]
      clear cB0 cB1 cB2 cB3
      obtain ⟨cA0, cA1, cA2, cA3⟩ := RBox.box bA6.out
      obtain ⟨cB0, cB1, cB2, cB3⟩ := RBox.box bB6.out
      go_wp2_with fail
      refine (M.out _).mono ?_
      rintro ee w7 ⟨rfl, hb7⟩
      have bA7 := hid (bA6.out.below hb7)
      have bB7 := hid (bB6.out.below hb7)
      have bQ7 := hid (bQ6.out.below hb7)
      have bel7 := hid (bel6.out.trans (hb7.mono bel6.out.size))
      clear hb7 bA6 bB6 bQ6 bel6
      clear cA0 cA1 cA2 cA3 cB0 cB1 cB2 cB3
      obtain ⟨g0, g1, g2, g3⟩ := RBox.box bQ7.out
      have fq := RBox.frozen bQ7.out
      have P5 := hid (RBox.box (bQ7.out.st4 (x' := x) (y' := y) (z' := z) (u' := u)))
      have B5 := hid (st4_below (w.heap.size + 2) (x) (y) (z) (u) bel7.out (by omega))
      go_wp2_with fail
      obtain ⟨p0, p1, p2, p3⟩ := P5.out
      unfold st4 at p0 p1 p2 p3
      refine bodyPost_ret (v := rv (x) (y) (z) (u)) (by simp [results, Try.results6, go_sem, p0, p1, p2, p3]) rfl ⟨rfl, B5.out⟩
    refine AllReadyH.cons (o := ?oi24) ?hi24 (fun K hK => ?st24) ?mo24
    case hi24 => rw [List.getElem?_toArray]; rfl
    case st24 =>
      obtain ⟨g0, g1, g2, g3⟩ := RBox.box hB.out
      go_simp
      clear g0 g1 g2 g3
      refine hK.out _ _ ?hS24 (fun hHeld => ?re24)
      case hS24 => trivial
      clear hK K
      (try simp only [Act.put, List.setIfInBounds_toArray, List.set_cons_zero, List.set_cons_succ])
      refine wpAnyH_ready (fuel := 3) (rs := [1]) (by kernel_rfl) (by simp) ?_
      refine AllReadyH.cons (o := ?oi25) ?hi25 (fun K hK => ?st25) AllReadyH.nil
      case hi25 => rw [List.getElem?_toArray]; rfl
      go_simp
      refine (TA.out _).mono ?_
      rintro ee wr1 ⟨rfl, hbn⟩
      replace hA := hid (hA.out.below hbn)
      replace hB := hid (hB.out.below hbn)
      replace hQ := hid (hQ.out.below hbn)
      replace hbel := hid (hbel.out.trans (hbn.mono hbel.out.size))
      clear hbn
      go_wp2_with fail
      refine hK.out _ _ ?hS25 (fun hHeld => ?re25)
      case hS25 => trivial
      clear hK K
      (try simp only [Act.put, List.setIfInBounds_toArray, List.set_cons_zero, List.set_cons_succ])
      refine wpAnyH_ready (fuel := 2) (rs := [3]) (by kernel_rfl) (by simp) ?_
      refine AllReadyH.cons (o := ?oi26) ?hi26 (fun K hK => ?st26) AllReadyH.nil
      case hi26 => rw [List.getElem?_toArray]; rfl
      go_simp
      refine (TB.out _).mono ?_
      rintro ee wr3 ⟨rfl, hbn⟩
      replace hA := hid (hA.out.below hbn)
      replace hB := hid (hB.out.below hbn)
      replace hQ := hid (hQ.out.below hbn)
      replace hbel := hid (hbel.out.trans (hbn.mono hbel.out.size))
      clear hbn
      go_wp2_with fail
      refine hK.out _ _ ?hS26 (fun hHeld => ?re26)
      case hS26 => trivial
      clear hK K
      (try simp only [Act.put, List.setIfInBounds_toArray, List.set_cons_zero, List.set_cons_succ])
      refine wpAnyH_ready (fuel := 1) (rs := [4]) (by kernel_rfl) (by simp) ?_
      refine AllReadyH.cons (o := ?oi27) ?hi27 (fun K hK => ?st27) AllReadyH.nil
      case hi27 => rw [List.getElem?_toArray]; rfl
      obtain ⟨g0, g1, g2, g3⟩ := RBox.box hA.out
      have fq := RBox.frozen hA.out
      go_simp
      clear g0 g1 g2 g3 fq
      replace hB := hid (hB.out.st4o (k := w.heap.size) (by first | omega | (have := RBox.lt hB.out; omega)) (p) (q) (r) (s))
      replace hQ := hid (hQ.out.st4o (k := w.heap.size) (by first | omega | (have := RBox.lt hQ.out; omega)) (p) (q) (r) (s))
      replace hA := hid (hA.out.st4 (x' := p) (y' := q) (z' := r) (u' := s))
      replace hbel := hid (st4_below (w.heap.size) (p) (q) (r) (s) hbel.out (by omega))
      unfold Go.Proofs.Ytnebjocnbfoafaa.st4 at hbel hA hB hQ
      generalize ((((wr3.setCell ⟨w.heap.size, 0, none⟩ (.int .i64 (p))).setCell ⟨w.heap.size, 1, none⟩ (.int .i64 (q))).setCell ⟨w.heap.size, 2, none⟩ (.int .i64 (r))).setCell ⟨w.heap.size, 3, none⟩ (.int .i64 (s))) = ws4 at *
      refine hK.out _ _ ?hS27 (fun hHeld => ?re27)
      case hS27 => trivial
      clear hK K
      (try simp only [Act.put, List.setIfInBounds_toArray, List.set_cons_zero, List.set_cons_succ])
      refine wpAnyH_ready (fuel := 0) (rs := [5]) (by kernel_rfl) (by simp) ?_
      refine AllReadyH.cons (o := ?oi28) ?hi28 (fun K hK => ?st28) AllReadyH.nil
      case hi28 => rw [List.getElem?_toArray]; rfl
      obtain ⟨g0, g1, g2, g3⟩ := RBox.box hB.out
      have fq := RBox.frozen hB.out
      go_simp
      clear g0 g1 g2 g3 fq
      replace hA := hid (hA.out.st4o (k := w.heap.size + 1) (by first | omega | (have := RBox.lt hA.out; omega)) (p') (q') (r') (s'))
      replace hQ := hid (hQ.out.st4o (k := w.heap.size + 1) (by first | omega | (have := RBox.lt hQ.out; omega)) (p') (q') (r') (s'))
      replace hB := hid (hB.out.st4 (x' := p') (y' := q') (z' := r') (u' := s'))
      replace hbel := hid (st4_below (w.heap.size + 1) (p') (q') (r') (s') hbel.out (by omega))
      unfold Go.Proofs.Ytnebjocnbfoafaa.st4 at hbel hA hB hQ
      generalize ((((ws4.setCell ⟨w.heap.size + 1, 0, none⟩ (.int .i64 (p'))).setCell ⟨w.heap.size + 1, 1, none⟩ (.int .i64 (q'))).setCell ⟨w.heap.size + 1, 2, none⟩ (.int .i64 (r'))).setCell ⟨w.heap.size + 1, 3, none⟩ (.int .i64 (s'))) = ws5 at *
      refine hK.out _ _ ?hS28 (fun hHeld => ?re28)
      case hS28 => trivial
      clear hK K
      (try simp only [Act.put, List.setIfInBounds_toArray, List.set_cons_zero, List.set_cons_succ])
      refine wpAnyH_done (by kernel_rfl) ?_ _
      clear hHeld
      generalize ws5 = w4 at *
      have bA4 := hA
      have bB4 := hB
      have bQ4 := hQ
      have bel4 := hbel
      clear hbel hA hB hQ
      obtain ⟨cA0, cA1, cA2, cA3⟩ := RBox.box bA4.out
      go_wp2_with fail
      refine (c_isKnown _ _ _ _ _).mono ?_
      rintro ee w5 ⟨rfl, hb5⟩
      have bA5 := hid (bA4.out.below hb5)
      have bB5 := hid (bB4.out.below hb5)
      have bQ5 := hid (bQ4.out.below hb5)
      have bel5 := hid (bel4.out.trans (hb5.mono bel4.out.size))
      clear hb5 bA4 bB4 bQ4 bel4
      rw [k1]
      clear cA0 cA1 cA2 cA3
      obtain ⟨cB0, cB1, cB2, cB3⟩ := RBox.box bB5.out
      go_wp2_with fail
      refine (c_isKnown _ _ _ _ _).mono ?_
      rintro ee w6 ⟨rfl, hb6⟩
      have bA6 := hid (bA5.out.below hb6)
      have bB6 := hid (bB5.out.below hb6)
      have bQ6 := hid (bQ5.out.below hb6)
      have bel6 := hid (bel5.out.trans (hb6.mono bel5.out.size))
      clear hb6 bA5 bB5 bQ5 bel5
      rw [k2]
      clear cB0 cB1 cB2 cB3
      obtain ⟨cA0, cA1, cA2, cA3⟩ := RBox.box bA6.out
      obtain ⟨cB0, cB1, cB2, cB3⟩ := RBox.box bB6.out
      go_wp2_with fail
      refine (M.out _).mono ?_
      rintro ee w7 ⟨rfl, hb7⟩
      have bA7 := hid (bA6.out.below hb7)
      have bB7 := hid (bB6.out.below hb7)
      have bQ7 := hid (bQ6.out.below hb7)
      have bel7 := hid (bel6.out.trans (hb7.mono bel6.out.size))
      clear hb7 bA6 bB6 bQ6 bel6
      clear cA0 cA1 cA2 cA3 cB0 cB1 cB2 cB3
      obtain ⟨g0, g1, g2, g3⟩ := RBox.box bQ7.out
      have fq := RBox.frozen bQ7.out
      have P5 := hid (RBox.box (bQ7.out.st4 (x' := x) (y' := y) (z' := z) (u' := u)))
      have B5 := hid (st4_below (w.heap.size + 2) (x) (y) (z) (u) bel7.out (by omega))
      go_wp2_with fail
      obtain ⟨p0, p1, p2, p3⟩ := P5.out
      unfold st4 at p0 p1 p2 p3
      refine bodyPost_ret (v := rv (x) (y) (z) (u)) (by simp [results, Try.results6, go_sem, p0, p1, p2, p3]) rfl ⟨rfl, B5.out⟩
    exact AllReadyH.nil
  refine AllReadyH.cons (o := ?oi29) ?hi29 (fun K hK => ?st29) ?mo29
  case hi29 => rw [List.getElem?_toArray]; rfl
  case st29 =>
    obtain ⟨g0, g1, g2, g3⟩ := RBox.box hB.out
    go_simp
    clear g0 g1 g2 g3
    refine hK.out _ _ ?hS29 (fun hHeld => ?re29)
    case hS29 => trivial
    clear hK K
    (try simp only [Act.put, List.setIfInBounds_toArray, List.set_cons_zero, List.set_cons_succ])
    refine wpAnyH_ready (fuel := 4) (rs := [0]) (by kernel_rfl) (by simp) ?_
    refine AllReadyH.cons (o := ?oi30) ?hi30 (fun K hK => ?st30) AllReadyH.nil
    case hi30 => rw [List.getElem?_toArray]; rfl
    obtain ⟨g0, g1, g2, g3⟩ := RBox.box hA.out
    go_simp
    clear g0 g1 g2 g3
    refine hK.out _ _ ?hS30 (fun hHeld => ?re30)
    case hS30 => trivial
    clear hK K
    (try simp only [Act.put, List.setIfInBounds_toArray, List.set_cons_zero, List.set_cons_succ])
    refine wpAnyH_ready (fuel := 3) (rs := [1]) (by kernel_rfl) (by simp) ?_
    refine AllReadyH.cons (o := ?oi31) ?hi31 (fun K hK => ?st31) AllReadyH.nil
    case hi31 => rw [List.getElem?_toArray]; rfl
    go_simp
    refine (TA.out _).mono ?_
    rintro ee wr1 ⟨rfl, hbn⟩
    replace hA := hid (hA.out.below hbn)
    replace hB := hid (hB.out.below hbn)
    replace hQ := hid (hQ.out.below hbn)
    replace hbel := hid (hbel.out.trans (hbn.mono hbel.out.size))
    clear hbn
    go_wp2_with fail
    refine hK.out _ _ ?hS31 (fun hHeld => ?re31)
    case hS31 => trivial
    clear hK K
    (try simp only [Act.put, List.setIfInBounds_toArray, List.set_cons_zero, List.set_cons_succ])
    refine wpAnyH_ready (fuel := 2) (rs := [3]) (by kernel_rfl) (by simp) ?_
    refine AllReadyH.cons (o := ?oi32) ?hi32 (fun K hK => ?st32) AllReadyH.nil
    case hi32 => rw [List.getElem?_toArray]; rfl
    go_simp
    refine (TB.out _).mono ?_
    rintro ee wr3 ⟨rfl, hbn⟩
    replace hA := hid (hA.out.below hbn)
    replace hB := hid (hB.out.below hbn)
    replace hQ := hid (hQ.out.below hbn)
    replace hbel := hid (hbel.out.trans (hbn.mono hbel.out.size))
    clear hbn
    go_wp2_with fail
    refine hK.out _ _ ?hS32 (fun hHeld => ?re32)
    case hS32 => trivial
    clear hK K
    (try simp only [Act.put, List.setIfInBounds_toArray, List.set_cons_zero, List.set_cons_succ])
    refine wpAnyH_ready (fuel := 1) (rs := [4]) (by kernel_rfl) (by simp) ?_
    refine AllReadyH.cons (o := ?oi33) ?hi33 (fun K hK => ?st33) AllReadyH.nil
    case hi33 => rw [List.getElem?_toArray]; rfl
    obtain ⟨g0, g1, g2, g3⟩ := RBox.box hA.out
    have fq := RBox.frozen hA.out
    go_simp
    clear g0 g1 g2 g3 fq
    replace hB := hid (hB.out.st4o (k := w.heap.size) (by first | omega | (have := RBox.lt hB.out; omega)) (p) (q) (r) (s))
    replace hQ := hid (hQ.out.st4o (k := w.heap.size) (by first | omega | (have := RBox.lt hQ.out; omega)) (p) (q) (r) (s))
    replace hA := hid (hA.out.st4 (x' := p) (y' := q) (z' := r) (u' := s))
    replace hbel := hid (st4_below (w.heap.size) (p) (q) (r) (s) hbel.out (by omega))
    unfold Go.Proofs.Ytnebjocnbfoafaa.st4 at hbel hA hB hQ
    generalize ((((wr3.setCell ⟨w.heap.size, 0, none⟩ (.int .i64 (p))).setCell ⟨w.heap.size, 1, none⟩ (.int .i64 (q))).setCell ⟨w.heap.size, 2, none⟩ (.int .i64 (r))).setCell ⟨w.heap.size, 3, none⟩ (.int .i64 (s))) = ws4 at *
    refine hK.out _ _ ?hS33 (fun hHeld => ?re33)
    case hS33 => trivial
    clear hK K
    (try simp only [Act.put, List.setIfInBounds_toArray, List.set_cons_zero, List.set_cons_succ])
    refine wpAnyH_ready (fuel := 0) (rs := [5]) (by kernel_rfl) (by simp) ?_
    refine AllReadyH.cons (o := ?oi34) ?hi34 (fun K hK => ?st34) AllReadyH.nil
    case hi34 => rw [List.getElem?_toArray]; rfl
    obtain ⟨g0, g1, g2, g3⟩ := RBox.box hB.out
    have fq := RBox.frozen hB.out
    go_simp
    clear g0 g1 g2 g3 fq
    replace hA := hid (hA.out.st4o (k := w.heap.size + 1) (by first | omega | (have := RBox.lt hA.out; omega)) (p') (q') (r') (s'))
    replace hQ := hid (hQ.out.st4o (k := w.heap.size + 1) (by first | omega | (have := RBox.lt hQ.out; omega)) (p') (q') (r') (s'))
    replace hB := hid (hB.out.st4 (x' := p') (y' := q') (z' := r') (u' := s'))
    replace hbel := hid (st4_below (w.heap.size + 1) (p') (q') (r') (s') hbel.out (by omega))
    unfold Go.Proofs.Ytnebjocnbfoafaa.st4 at hbel hA hB hQ
    generalize ((((ws4.setCell ⟨w.heap.size + 1, 0, none⟩ (.int .i64 (p'))).setCell ⟨w.heap.size + 1, 1, none⟩ (.int .i64 (q'))).setCell ⟨w.heap.size + 1, 2, none⟩ (.int .i64 (r'))).setCell ⟨w.heap.size + 1, 3, none⟩ (.int .i64 (s'))) = ws5 at *
    refine hK.out _ _ ?hS34 (fun hHeld => ?re34)
    case hS34 => trivial
    clear hK K
    (try simp only [Act.put, List.setIfInBounds_toArray, List.set_cons_zero, List.set_cons_succ])
    refine wpAnyH_done (by kernel_rfl) ?_ _
    clear hHeld
    generalize ws5 = w4 at *
    have bA4 := hA
    have bB4 := hB
    have bQ4 := hQ
    have bel4 := hbel
    clear hbel hA hB hQ
    obtain ⟨cA0, cA1, cA2, cA3⟩ := RBox.box bA4.out
    go_wp2_with fail
    refine (c_isKnown _ _ _ _ _).mono ?_
    rintro ee w5 ⟨rfl, hb5⟩
    have bA5 := hid (bA4.out.below hb5)
    have bB5 := hid (bB4.out.below hb5)
    have bQ5 := hid (bQ4.out.below hb5)
    have bel5 := hid (bel4.out.trans (hb5.mono bel4.out.size))
    clear hb5 bA4 bB4 bQ4 bel4
    rw [k1]
    clear cA0 cA1 cA2 cA3
    obtain ⟨cB0, cB1, cB2, cB3⟩ := RBox.box bB5.out
    go_wp2_with fail
    refine (c_isKnown _ _ _ _ _).mono ?_
    rintro ee w6 ⟨rfl, hb6⟩
    have bA6 := hid (bA5.out.below hb6)
    have bB6 := hid (bB5.out.below hb6)
    have bQ6 := hid (bQ5.out.below hb6)
    have bel6 := hid (bel5.out.trans (hb6.mono bel5.out.size))
    clear hb6 bA5 bB5 bQ5 bel5
    rw [k2]
    clear cB0 cB1 cB2 cB3
    obtain ⟨cA0, cA1, cA2, cA3⟩ := RBox.box bA6.out
    obtain ⟨cB0, cB1, cB2, cB3⟩ := RBox.box bB6.out
    go_wp2_with fail
    refine (M.out _).mono ?_
    rintro ee w7 ⟨rfl, hb7⟩
    have bA7 := hid (bA6.out.below hb7)
    have bB7 := hid (bB6.out.below hb7)
    have bQ7 := hid (bQ6.out.below hb7)
    have bel7 := hid (bel6.out.trans (hb7.mono bel6.out.size))
    clear hb7 bA6 bB6 bQ6 bel6
    clear cA0 cA1 cA2 cA3 cB0 cB1 cB2 cB3
    obtain ⟨g0, g1, g2, g3⟩ := RBox.box bQ7.out
    have fq := RBox.frozen bQ7.out
    have P5 := hid (RBox.box (bQ7.out.st4 (x' := x) (y' := y) (z' := z) (u' := u)))
    have B5 := hid (st4_below (w.heap.size + 2) (x) (y) (z) (u) bel7.out (by omega))
    go_wp2_with fail
    obtain ⟨p0, p1, p2, p3⟩ := P5.out
    unfold st4 at p0 p1 p2 p3
    refine bodyPost_ret (v := rv (x) (y) (z) (u)) (by simp [results, Try.results6, go_sem, p0, p1, p2, p3]) rfl ⟨rfl, B5.out⟩
  exact AllReadyH.nil

set_option maxRecDepth 100000 in
set_option maxHeartbeats 2000000 in
theorem g_of_k (op : Int) (k : FuncId) (a b c d e f g h : Int) (p q r s p' q' r' s' x y z u n : Int) (w : World) (HE : Enters k) (HL : Hid (Looks op k)) (h1 : someI a b c d = true) (h2 : someI e f g h = true) (TA : Hid (∀ w, Calls Try.prog 22 #[rv a b c d] w fun ee w' => ee = .returned (rv p q r s) ∧ Below w.heap.size w w')) (TB : Hid (∀ w, Calls Try.prog 22 #[rv e f g h] w fun ee w' => ee = .returned (rv p' q' r' s') ∧ Below w.heap.size w w')) (k1 : (p == q) = true) (k2 : (p' == q') = true) (D : Hid (∀ w, Calls Try.prog 11 #[.int .i64 op, .int .i64 p, .int .i64 p'] w fun ee w' => ee = .returned (.int .i64 n) ∧ Below w.heap.size w w')) (O : Hid (∀ w, Calls Try.prog 13 #[.int .i64 n] w fun ee w' => ee = .returned (rv x y z u) ∧ Below w.heap.size w w')) :
    Calls Try.prog 6 #[.int .i64 op, rv a b c d, rv e f g h] w fun ee w' => ee = .returned (rv x y z u) ∧ Below w.heap.size w w' := by
  unfold Enters at HE
  have bA0 : Hid (RBox (((w.alloc (cellsR4 a b c d)).alloc (cellsR4 e f g h)).alloc (cellsR4 0 0 0 0)) w.heap.size a b c d) := twoA w a b c d e f g h
  have bB0 : Hid (RBox (((w.alloc (cellsR4 a b c d)).alloc (cellsR4 e f g h)).alloc (cellsR4 0 0 0 0)) (w.heap.size + 1) e f g h) := twoB w a b c d e f g h
  have bQ0 : Hid (RBox (((w.alloc (cellsR4 a b c d)).alloc (cellsR4 e f g h)).alloc (cellsR4 0 0 0 0)) (w.heap.size + 2) 0 0 0 0) := twoQ w a b c d e f g h
  have bel0 : Hid (Below w.heap.size w (((w.alloc (cellsR4 a b c d)).alloc (cellsR4 e f g h)).alloc (cellsR4 0 0 0 0))) := twoW w a b c d e f g h
  go_enter Try.func6, Try.ntmps6
  go_wp2_with fail
  refine (c_rmakers _).mono ?_
  rintro ee w1 ⟨rfl, hm, hb1⟩
  simp only [World.size_alloc] at hm
  have bA1 := hid (bA0.out.below hb1)
  have bB1 := hid (bB0.out.below hb1)
  have bQ1 := hid (bQ0.out.below hb1)
  have bel1 := hid (bel0.out.trans (hb1.mono bel0.out.size))
  clear hb1 bA0 bB0 bQ0 bel0
  have hl := HL.out w1 _ hm
  clear hm
  obtain ⟨cA0, cA1, cA2, cA3⟩ := RBox.box bA1.out
  go_wp2_with fail
  refine (c_RangeSomeI _ _ _ _ _).mono ?_
  rintro ee w2 ⟨rfl, hb2⟩
  have bA2 := hid (bA1.out.below hb2)
  have bB2 := hid (bB1.out.below hb2)
  have bQ2 := hid (bQ1.out.below hb2)
  have bel2 := hid (bel1.out.trans (hb2.mono bel1.out.size))
  clear hb2 bA1 bB1 bQ1 bel1
  rw [h1]
  clear hl
  clear cA0 cA1 cA2 cA3
  obtain ⟨cB0, cB1, cB2, cB3⟩ := RBox.box bB2.out
  go_wp2_with fail
  refine (c_RangeSomeI _ _ _ _ _).mono ?_
  rintro ee w3 ⟨rfl, hb3⟩
  have bA3 := hid (bA2.out.below hb3)
  have bB3 := hid (bB2.out.below hb3)
  have bQ3 := hid (bQ2.out.below hb3)
  have bel3 := hid (bel2.out.trans (hb3.mono bel2.out.size))
  clear hb3 bA2 bB2 bQ2 bel2
  rw [h2]
  clear cB0 cB1 cB2 cB3
  go_wp2_with fail
  refine wp_region_held_drew (S := (fun _ => True)) (by kernel_rfl) (trivial) (fun hHeld => ?_)
  have hA := hid (RBox.drew bA3.out)
  have hB := hid (RBox.drew bB3.out)
  have hQ := hid (RBox.drew bQ3.out)
  have hbel := hid (Below.drew bel3.out)
  clear bA3 bB3 bQ3 bel3
  generalize w3.drew = W1 at *
  refine wpAnyH_ready (fuel := 5) (rs := [0, 2]) (by kernel_rfl) (by simp) ?_
  refine AllReadyH.cons (o := ?oi35) ?hi35 (fun K hK => ?st35) ?mo35
  case hi35 => rw [List.getElem?_toArray]; rfl
  case st35 =>
    obtain ⟨g0, g1, g2, g3⟩ := RBox.box hA.out
    go_simp
    clear g0 g1 g2 g3
    refine hK.out _ _ ?hS35 (fun hHeld => ?re35)
    case hS35 => trivial
    clear hK K
    (try simp only [Act.put, List.setIfInBounds_toArray, List.set_cons_zero, List.set_cons_succ])
    refine wpAnyH_ready (fuel := 4) (rs := [1, 2]) (by kernel_rfl) (by simp) ?_
    refine AllReadyH.cons (o := ?oi36) ?hi36 (fun K hK => ?st36) ?mo36
    case hi36 => rw [List.getElem?_toArray]; rfl
    case st36 =>
      go_simp
      refine (TA.out _).mono ?_
      rintro ee wr1 ⟨rfl, hbn⟩
      replace hA := hid (hA.out.below hbn)
      replace hB := hid (hB.out.below hbn)
      replace hQ := hid (hQ.out.below hbn)
      replace hbel := hid (hbel.out.trans (hbn.mono hbel.out.size))
      clear hbn
      go_wp2_with fail
      refine hK.out _ _ ?hS36 (fun hHeld => ?re36)
      case hS36 => trivial
      clear hK K
      (try simp only [Act.put, List.setIfInBounds_toArray, List.set_cons_zero, List.set_cons_succ])
      refine wpAnyH_ready (fuel := 3) (rs := [2]) (by kernel_rfl) (by simp) ?_
      refine AllReadyH.cons (o := ?oi37) ?hi37 (fun K hK => ?st37) AllReadyH.nil
      case hi37 => rw [List.getElem?_toArray]; rfl
      obtain ⟨g0, g1, g2, g3⟩ := RBox.box hB.out
      go_simp
      clear g0 g1 g2 g3
      refine hK.out _ _ ?hS37 (fun hHeld => ?re37)
      case hS37 => trivial
      clear hK K
      (try simp only [Act.put, List.setIfInBounds_toArray, List.set_cons_zero, List.set_cons_succ])
      refine wpAnyH_ready (fuel := 2) (rs := [3]) (by kernel_rfl) (by simp) ?_
      refine AllReadyH.cons (o := ?oi38) ?hi38 (fun K hK => ?st38) AllReadyH.nil
      case hi38 => rw [List.getElem?_toArray]; rfl
      go_simp
      refine (TB.out _).mono ?_
      rintro ee wr3 ⟨rfl, hbn⟩
      replace hA := hid (hA.out.below hbn)
      replace hB := hid (hB.out.below hbn)
      replace hQ := hid (hQ.out.below hbn)
      replace hbel := hid (hbel.out.trans (hbn.mono hbel.out.size))
      clear hbn
      go_wp2_with fail
      refine hK.out _ _ ?hS38 (fun hHeld => ?re38)
      case hS38 => trivial
      clear hK K
      (try simp only [Act.put, List.setIfInBounds_toArray, List.set_cons_zero, List.set_cons_succ])
      refine wpAnyH_ready (fuel := 1) (rs := [4]) (by kernel_rfl) (by simp) ?_
      refine AllReadyH.cons (o := ?oi39) ?hi39 (fun K hK => ?st39) AllReadyH.nil
      case hi39 => rw [List.getElem?_toArray]; rfl
      obtain ⟨g0, g1, g2, g3⟩ := RBox.box hA.out
      have fq := RBox.frozen hA.out
      go_simp
      clear g0 g1 g2 g3 fq
      replace hB := hid (hB.out.st4o (k := w.heap.size) (by first | omega | (have := RBox.lt hB.out; omega)) (p) (q) (r) (s))
      replace hQ := hid (hQ.out.st4o (k := w.heap.size) (by first | omega | (have := RBox.lt hQ.out; omega)) (p) (q) (r) (s))
      replace hA := hid (hA.out.st4 (x' := p) (y' := q) (z' := r) (u' := s))
      replace hbel := hid (st4_below (w.heap.size) (p) (q) (r) (s) hbel.out (by omega))
      unfold Go.Proofs.Ytnebjocnbfoafaa.st4 at hbel hA hB hQ
      generalize ((((wr3.setCell ⟨w.heap.size, 0, none⟩ (.int .i64 (p))).setCell ⟨w.heap.size, 1, none⟩ (.int .i64 (q))).setCell ⟨w.heap.size, 2, none⟩ (.int .i64 (r))).setCell ⟨w.heap.size, 3, none⟩ (.int .i64 (s))) = ws4 at *
      refine hK.out _ _ ?hS39 (fun hHeld => ?re39)
      case hS39 => trivial
      clear hK K
      (try simp only [Act.put, List.setIfInBounds_toArray, List.set_cons_zero, List.set_cons_succ])
      refine wpAnyH_ready (fuel := 0) (rs := [5]) (by kernel_rfl) (by simp) ?_
      refine AllReadyH.cons (o := ?oi40) ?hi40 (fun K hK => ?st40) AllReadyH.nil
      case hi40 => rw [List.getElem?_toArray]; rfl
      obtain ⟨g0, g1, g2, g3⟩ := RBox.box hB.out
      have fq := RBox.frozen hB.out
      go_simp
      clear g0 g1 g2 g3 fq
      replace hA := hid (hA.out.st4o (k := w.heap.size + 1) (by first | omega | (have := RBox.lt hA.out; omega)) (p') (q') (r') (s'))
      replace hQ := hid (hQ.out.st4o (k := w.heap.size + 1) (by first | omega | (have := RBox.lt hQ.out; omega)) (p') (q') (r') (s'))
      replace hB := hid (hB.out.st4 (x' := p') (y' := q') (z' := r') (u' := s'))
      replace hbel := hid (st4_below (w.heap.size + 1) (p') (q') (r') (s') hbel.out (by omega))
      unfold Go.Proofs.Ytnebjocnbfoafaa.st4 at hbel hA hB hQ
      generalize ((((ws4.setCell ⟨w.heap.size + 1, 0, none⟩ (.int .i64 (p'))).setCell ⟨w.heap.size + 1, 1, none⟩ (.int .i64 (q'))).setCell ⟨w.heap.size + 1, 2, none⟩ (.int .i64 (r'))).setCell ⟨w.heap.size + 1, 3, none⟩ (.int .i64 (s'))) = ws5 at *
      refine hK.out _ _ ?hS40 (fun hHeld => ?re40)
      case hS40 => trivial
      clear hK K
      (try simp only [Act.put, List.setIfInBounds_toArray, List.set_cons_zero, List.set_cons_succ])
      refine wpAnyH_done (by kernel_rfl) ?_ _
      clear hHeld
      generalize ws5 = w4 at *
      have bA4 := hA
      have bB4 := hB
      have bQ4 := hQ
      have bel4 := hbel
      clear hbel hA hB hQ
      obtain ⟨cA0, cA1, cA2, cA3⟩ := RBox.box bA4.out
      go_wp2_with fail
      refine (c_isKnown _ _ _ _ _).mono ?_
      rintro ee w5 ⟨rfl, hb5⟩
      have bA5 := hid (bA4.out.below hb5)
      have bB5 := hid (bB4.out.below hb5)
      have bQ5 := hid (bQ4.out.below hb5)
      have bel5 := hid (bel4.out.trans (hb5.mono bel4.out.size))
      clear hb5 bA4 bB4 bQ4 bel4
      rw [k1]
      clear cA0 cA1 cA2 cA3
      obtain ⟨cB0, cB1, cB2, cB3⟩ := RBox.box bB5.out
      go_wp2_with fail
      refine (c_isKnown _ _ _ _ _).mono ?_
      rintro ee w6 ⟨rfl, hb6⟩
      have bA6 := hid (bA5.out.below hb6)
      have bB6 := hid (bB5.out.below hb6)
      have bQ6 := hid (bQ5.out.below hb6)
      have bel6 := hid (bel5.out.trans (hb6.mono bel5.out.size))
      clear hb6 bA5 bB5 bQ5 bel5
      rw [k2]
      clear cB0 cB1 cB2 cB3
      obtain ⟨cA0, cA1, cA2, cA3⟩ := RBox.box bA6.out
      obtain ⟨cB0, cB1, cB2, cB3⟩ := RBox.box bB6.out
      go_wp2_with fail
      refine (D.out _).mono ?_
      rintro ee w7 ⟨rfl, hb7⟩
      have bA7 := hid (bA6.out.below hb7)
      have bB7 := hid (bB6.out.below hb7)
      have bQ7 := hid (bQ6.out.below hb7)
      have bel7 := hid (bel6.out.trans (hb7.mono bel6.out.size))
      clear hb7 bA6 bB6 bQ6 bel6
      clear cA0 cA1 cA2 cA3 cB0 cB1 cB2 cB3
      go_wp2_with fail
      refine (O.out _).mono ?_
      rintro ee w8 ⟨rfl, hb8⟩
      have bA8 := hid (bA7.out.below hb8)
      have bB8 := hid (bB7.out.below hb8)
      have bQ8 := hid (bQ7.out.below hb8)
      have bel8 := hid (bel7.out.trans (hb8.mono bel7.out.size))
      clear hb8 bA7 bB7 bQ7 bel7
      obtain ⟨g0, g1, g2, g3⟩ := RBox.box bQ8.out
      have fq := RBox.frozen bQ8.out
      have P5 := hid (RBox.box (bQ8.out.st4 (x' := x) (y' := y) (z' := z) (u' := u)))
      have B5 := hid (st4_below (w.heap.size + 2) (x) (y) (z) (u) bel8.out (by omega))
      go_wp2_with fail
      obtain ⟨p0, p1, p2, p3⟩ := P5.out
      unfold st4 at p0 p1 p2 p3
      refine bodyPost_ret (v := rv (x) (y) (z) (u)) (by simp [results, Try.results6, go_sem, p0, p1, p2, p3]) rfl ⟨rfl, B5.out⟩
    refine AllReadyH.cons (o := ?oi41) ?hi41 (fun K hK => ?st41) ?mo41
    case hi41 => rw [List.getElem?_toArray]; rfl
    case st41 =>
      obtain ⟨g0, g1, g2, g3⟩ := RBox.box hB.out
      go_simp
      clear g0 g1 g2 g3
      refine hK.out _ _ ?hS41 (fun hHeld => ?re41)
      case hS41 => trivial
      clear hK K
      (try simp only [Act.put, List.setIfInBounds_toArray, List.set_cons_zero, List.set_cons_succ])
      refine wpAnyH_ready (fuel := 3) (rs := [1]) (by kernel_rfl) (by simp) ?_
      refine AllReadyH.cons (o := ?oi42) ?hi42 (fun K hK => ?st42) AllReadyH.nil
      case hi42 => rw [List.getElem?_toArray]; rfl
      go_simp
      refine (TA.out _).mono ?_
      rintro ee wr1 ⟨rfl, hbn⟩
      replace hA := hid (hA.out.below hbn)
      replace hB := hid (hB.out.below hbn)
      replace hQ := hid (hQ.out.below hbn)
      replace hbel := hid (hbel.out.trans (hbn.mono hbel.out.size))
      clear hbn
      go_wp2_with fail
      refine hK.out _ _ ?hS42 (fun hHeld => ?re42)
      case hS42 => trivial
      clear hK K
      (try simp only [Act.put, List.setIfInBounds_toArray, List.set_cons_zero, List.set_cons_succ])
      refine wpAnyH_ready (fuel := 2) (rs := [3]) (by kernel_rfl) (by simp) ?_
      refine AllReadyH.cons (o := ?oi43) ?hi43 (fun K hK => ?st43) AllReadyH.nil
      case hi43 => rw [List.getElem?_toArray]; rfl
      go_simp
      refine (TB.out _).mono ?_
      rintro ee wr3 ⟨rfl, hbn⟩
      replace hA := hid (hA.out.below hbn)
      replace hB := hid (hB.out.below hbn)
      replace hQ := hid (hQ.out.below hbn)
      replace hbel := hid (hbel.out.trans (hbn.mono hbel.out.size))
      clear hbn
      go_wp2_with fail
      refine hK.out _ _ ?hS43 (fun hHeld => ?re43)
      case hS43 => trivial
      clear hK K
      (try simp only [Act.put, List.setIfInBounds_toArray, List.set_cons_zero, List.set_cons_succ])
      refine wpAnyH_ready (fuel := 1) (rs := [4]) (by kernel_rfl) (by simp) ?_
      refine AllReadyH.cons (o := ?oi44) ?hi44 (fun K hK => ?st44) AllReadyH.nil
      case hi44 => rw [List.getElem?_toArray]; rfl
      obtain ⟨g0, g1, g2, g3⟩ := RBox.box hA.out
      have fq := RBox.frozen hA.out
      go_simp
      clear g0 g1 g2 g3 fq
      replace hB := hid (hB.out.st4o (k := w.heap.size) (by first | omega | (have := RBox.lt hB.out; omega)) (p) (q) (r) (s))
      replace hQ := hid (hQ.out.st4o (k := w.heap.size) (by first | omega | (have := RBox.lt hQ.out; omega)) (p) (q) (r) (s))
      replace hA := hid (hA.out.st4 (x' := p) (y' := q) (z' := r) (u' := s))
      replace hbel := hid (st4_below (w.heap.size) (p) (q) (r) (s) hbel.out (by omega))
      unfold Go.Proofs.Ytnebjocnbfoafaa.st4 at hbel hA hB hQ
      generalize ((((wr3.setCell ⟨w.heap.size, 0, none⟩ (.int .i64 (p))).setCell ⟨w.heap.size, 1, none⟩ (.int .i64 (q))).setCell ⟨w.heap.size, 2, none⟩ (.int .i64 (r))).setCell ⟨w.heap.size, 3, none⟩ (.int .i64 (s))) = ws4 at *
      refine hK.out _ _ ?hS44 (fun hHeld => ?re44)
      case hS44 => trivial
      clear hK K
      (try simp only [Act.put, List.setIfInBounds_toArray, List.set_cons_zero, List.set_cons_succ])
      refine wpAnyH_ready (fuel := 0) (rs := [5]) (by kernel_rfl) (by simp) ?_
      refine AllReadyH.cons (o := ?oi45) ?hi45 (fun K hK => ?st45) AllReadyH.nil
      case hi45 => rw [List.getElem?_toArray]; rfl
      obtain ⟨g0, g1, g2, g3⟩ := RBox.box hB.out
      have fq := RBox.frozen hB.out
      go_simp
      clear g0 g1 g2 g3 fq
      replace hA := hid (hA.out.st4o (k := w.heap.size + 1) (by first | omega | (have := RBox.lt hA.out; omega)) (p') (q') (r') (s'))
      replace hQ := hid (hQ.out.st4o (k := w.heap.size + 1) (by first | omega | (have := RBox.lt hQ.out; omega)) (p') (q') (r') (s'))
      replace hB := hid (hB.out.st4 (x' := p') (y' := q') (z' := r') (u' := s'))
      replace hbel := hid (st4_below (w.heap.size + 1) (p') (q') (r') (s') hbel.out (by omega))
      unfold Go.Proofs.Ytnebjocnbfoafaa.st4 at hbel hA hB hQ
      generalize ((((ws4.setCell ⟨w.heap.size + 1, 0, none⟩ (.int .i64 (p'))).setCell ⟨w.heap.size + 1, 1, none⟩ (.int .i64 (q'))).setCell ⟨w.heap.size + 1, 2, none⟩ (.int .i64 (r'))).setCell ⟨w.heap.size + 1, 3, none⟩ (.int .i64 (s'))) = ws5 at *
      refine hK.out _ _ ?hS45 (fun hHeld => ?re45)
      case hS45 => trivial
      clear hK K
      (try simp only [Act.put, List.setIfInBounds_toArray, List.set_cons_zero, List.set_cons_succ])
      refine wpAnyH_done (by kernel_rfl) ?_ _
      clear hHeld
      generalize ws5 = w4 at *
      have bA4 := hA
      have bB4 := hB
      have bQ4 := hQ
      have bel4 := hbel
      clear hbel hA hB hQ
      obtain ⟨cA0, cA1, cA2, cA3⟩ := RBox.box bA4.out
      go_wp2_with fail
      refine (c_isKnown _ _ _ _ _).mono ?_
      rintro ee w5 ⟨rfl, hb5⟩
      have bA5 := hid (bA4.out.below hb5)
      have bB5 := hid (bB4.out.below hb5)
      have bQ5 := hid (bQ4.out.below hb5)
      have bel5 := hid (bel4.out.trans (hb5.mono bel4.out.size))
      clear hb5 bA4 bB4 bQ4 bel4
      rw [k1]
      clear cA0 cA1 cA2 cA3
      obtain ⟨cB0, cB1, cB2, cB3⟩ := RBox.box bB5.out
      go_wp2_with fail
      refine (c_isKnown _ _ _ _ _).mono ?_
      rintro ee w6 ⟨rfl, hb6⟩
      have bA6 := hid (bA5.out.below hb6)
      have bB6 := hid (bB5.out.below hb6)
      have bQ6 := hid (bQ5.out.below hb6)
      have bel6 := hid (bel5.out.trans (hb6.mono bel5.out.size))
      clear hb6 bA5 bB5 bQ5 bel5
      rw [k2]
      clear cB0 cB1 cB2 cB3
      obtain ⟨cA0, cA1, cA2, cA3⟩ := RBox.box bA6.out
      obtain ⟨cB0, cB1, cB2, cB3⟩ := RBox.box bB6.out
      go_wp2_with fail
      refine (D.out _).mono ?_
      rintro ee w7 ⟨rfl, hb7⟩
      have bA7 := hid (bA6.out.below hb7)
      have bB7 := hid (bB6.out.below hb7)
      have bQ7 := hid (bQ6.out.below hb7)
      have bel7 := hid (bel6.out.trans (hb7.mono bel6.out.size))
      clear hb7 bA6 bB6 bQ6 bel6
      clear cA0 cA1 cA2 cA3 cB0 cB1 cB2 cB3
      go_wp2_with fail
      refine (O.out _).mono ?_
      rintro ee w8 ⟨rfl, hb8⟩
      have bA8 := hid (bA7.out.below hb8)
      have bB8 := hid (bB7.out.below hb8)
      have bQ8 := hid (bQ7.out.below hb8)
      have bel8 := hid (bel7.out.trans (hb8.mono bel7.out.size))
      clear hb8 bA7 bB7 bQ7 bel7
      obtain ⟨g0, g1, g2, g3⟩ := RBox.box bQ8.out
      have fq := RBox.frozen bQ8.out
      have P5 := hid (RBox.box (bQ8.out.st4 (x' := x) (y' := y) (z' := z) (u' := u)))
      have B5 := hid (st4_below (w.heap.size + 2) (x) (y) (z) (u) bel8.out (by omega))
      go_wp2_with fail
      obtain ⟨p0, p1, p2, p3⟩ := P5.out
      unfold st4 at p0 p1 p2 p3
      refine bodyPost_ret (v := rv (x) (y) (z) (u)) (by simp [results, Try.results6, go_sem, p0, p1, p2, p3]) rfl ⟨rfl, B5.out⟩
    exact AllReadyH.nil
  refine AllReadyH.cons (o := ?oi46) ?hi46 (fun K hK => ?st46) ?mo46
  case hi46 => rw [List.getElem?_toArray]; rfl
  case st46 =>
    obtain ⟨g0, g1, g2, g3⟩ := RBox.box hB.out
    go_simp
    clear g0 g1 g2 g3
    refine hK.out _ _ ?hS46 (fun hHeld => ?re46)
    case hS46 => trivial
    clear hK K
    (try simp only [Act.put, List.setIfInBounds_toArray, List.set_cons_zero, List.set_cons_succ])
    refine wpAnyH_ready (fuel := 4) (rs := [0]) (by kernel_rfl) (by simp) ?_
    refine AllReadyH.cons (o := ?oi47) ?hi47 (fun K hK => ?st47) AllReadyH.nil
    case hi47 => rw [List.getElem?_toArray]; rfl
    obtain ⟨g0, g1, g2, g3⟩ := RBox.box hA.out
    go_simp
    clear g0 g1 g2 g3
    refine hK.out _ _ ?hS47 (fun hHeld => ?re47)
    case hS47 => trivial
    clear hK K
    (try simp only [Act.put, List.setIfInBounds_toArray, List.set_cons_zero, List.set_cons_succ])
    refine wpAnyH_ready (fuel := 3) (rs := [1]) (by kernel_rfl) (by simp) ?_
    refine AllReadyH.cons (o := ?oi48) ?hi48 (fun K hK => ?st48) AllReadyH.nil
    case hi48 => rw [List.getElem?_toArray]; rfl
    go_simp
    refine (TA.out _).mono ?_
    rintro ee wr1 ⟨rfl, hbn⟩
    replace hA := hid (hA.out.below hbn)
    replace hB := hid (hB.out.below hbn)
    replace hQ := hid (hQ.out.below hbn)
    replace hbel := hid (hbel.out.trans (hbn.mono hbel.out.size))
    clear hbn
    go_wp2_with fail
    refine hK.out _ _ ?hS48 (fun hHeld => ?re48)
    case hS48 => trivial
    clear hK K
    (try simp only [Act.put, List.setIfInBounds_toArray, List.set_cons_zero, List.set_cons_succ])
    refine wpAnyH_ready (fuel := 2) (rs := [3]) (by kernel_rfl) (by simp) ?_
    refine AllReadyH.cons (o := ?oi49) ?hi49 (fun K hK => ?st49) AllReadyH.nil
    case hi49 => rw [List.getElem?_toArray]; rfl
    go_simp
    refine (TB.out _).mono ?_
    rintro ee wr3 ⟨rfl, hbn⟩
    replace hA := hid (hA.out.below hbn)
    replace hB := hid (hB.out.below hbn)
    replace hQ := hid (hQ.out.below hbn)
    replace hbel := hid (hbel.out.trans (hbn.mono hbel.out.size))
    clear hbn
    go_wp2_with fail
    refine hK.out _ _ ?hS49 (fun hHeld => ?re49)
    case hS49 => trivial
    clear hK K
    (try simp only [Act.put, List.setIfInBounds_toArray, List.set_cons_zero, List.set_cons_succ])
    refine wpAnyH_ready (fuel := 1) (rs := [4]) (by kernel_rfl) (by simp) ?_
    refine AllReadyH.cons (o := ?oi50) ?hi50 (fun K hK => ?st50) AllReadyH.nil
    case hi50 => rw [List.getElem?_toArray]; rfl
    obtain ⟨g0, g1, g2, g3⟩ := RBox.box hA.out
    have fq := RBox.frozen hA.out
    go_simp
    clear g0 g1 g2 g3 fq
    replace hB := hid (hB.out.st4o (k := w.heap.size) (by first | omega | (have := RBox.lt hB.out; omega)) (p) (q) (r) (s))
    replace hQ := hid (hQ.out.st4o (k := w.heap.size) (by first | omega | (have := RBox.lt hQ.out; omega)) (p) (q) (r) (s))
    replace hA := hid (hA.out.st4 (x' := p) (y' := q) (z' := r) (u' := s))
    replace hbel := hid (st4_below (w.heap.size) (p) (q) (r) (s) hbel.out (by omega))
    unfold Go.Proofs.Ytnebjocnbfoafaa.st4 at hbel hA hB hQ
    generalize ((((wr3.setCell ⟨w.heap.size, 0, none⟩ (.int .i64 (p))).setCell ⟨w.heap.size, 1, none⟩ (.int .i64 (q))).setCell ⟨w.heap.size, 2, none⟩ (.int .i64 (r))).setCell ⟨w.heap.size, 3, none⟩ (.int .i64 (s))) = ws4 at *
    refine hK.out _ _ ?hS50 (fun hHeld => ?re50)
    case hS50 => trivial
    clear hK K
    (try simp only [Act.put, List.setIfInBounds_toArray, List.set_cons_zero, List.set_cons_succ])
    refine wpAnyH_ready (fuel := 0) (rs := [5]) (by kernel_rfl) (by simp) ?_
    refine AllReadyH.cons (o := ?oi51) ?hi51 (fun K hK => ?st51) AllReadyH.nil
    case hi51 => rw [List.getElem?_toArray]; rfl
    obtain ⟨g0, g1, g2, g3⟩ := RBox.box hB.out
    have fq := RBox.frozen hB.out
    go_simp
    clear g0 g1 g2 g3 fq
    replace hA := hid (hA.out.st4o (k := w.heap.size + 1) (by first | omega | (have := RBox.lt hA.out; omega)) (p') (q') (r') (s'))
    replace hQ := hid (hQ.out.st4o (k := w.heap.size + 1) (by first | omega | (have := RBox.lt hQ.out; omega)) (p') (q') (r') (s'))
    replace hB := hid (hB.out.st4 (x' := p') (y' := q') (z' := r') (u' := s'))
    replace hbel := hid (st4_below (w.heap.size + 1) (p') (q') (r') (s') hbel.out (by omega))
    unfold Go.Proofs.Ytnebjocnbfoafaa.st4 at hbel hA hB hQ
    generalize ((((ws4.setCell ⟨w.heap.size + 1, 0, none⟩ (.int .i64 (p'))).setCell ⟨w.heap.size + 1, 1, none⟩ (.int .i64 (q'))).setCell ⟨w.heap.size + 1, 2, none⟩ (.int .i64 (r'))).setCell ⟨w.heap.size + 1, 3, none⟩ (.int .i64 (s'))) = ws5 at *
    refine hK.out _ _ ?hS51 (fun hHeld => ?re51)
    case hS51 => trivial
    clear hK K
    (try simp only [Act.put, List.setIfInBounds_toArray, List.set_cons_zero, List.set_cons_succ])
    refine wpAnyH_done (by kernel_rfl) ?_ _
    clear hHeld
    generalize ws5 = w4 at *
    have bA4 := hA
    have bB4 := hB
    have bQ4 := hQ
    have bel4 := hbel
    clear hbel hA hB hQ
    obtain ⟨cA0, cA1, cA2, cA3⟩ := RBox.box bA4.out
    go_wp2_with fail
    refine (c_isKnown _ _ _ _ _).mono ?_
    rintro ee w5 ⟨rfl, hb5⟩
    have bA5 := hid (bA4.out.below hb5)
    have bB5 := hid (bB4.out.below hb5)
    have bQ5 := hid (bQ4.out.below hb5)
    have bel5 := hid (bel4.out.trans (hb5.mono bel4.out.size))
    clear hb5 bA4 bB4 bQ4 bel4
    rw [k1]
    clear cA0 cA1 cA2 cA3
    obtain ⟨cB0, cB1, cB2, cB3⟩ := RBox.box bB5.out
    go_wp2_with fail
    refine (c_isKnown _ _ _ _ _).mono ?_
    rintro ee w6 ⟨rfl, hb6⟩
    have bA6 := hid (bA5.out.below hb6)
    have bB6 := hid (bB5.out.below hb6)
    have bQ6 := hid (bQ5.out.below hb6)
    have bel6 := hid (bel5.out.trans (hb6.mono bel5.out.size))
    clear hb6 bA5 bB5 bQ5 bel5
    rw [k2]
    clear cB0 cB1 cB2 cB3
    obtain ⟨cA0, cA1, cA2, cA3⟩ := RBox.box bA6.out
    obtain ⟨cB0, cB1, cB2, cB3⟩ := RBox.box bB6.out
    go_wp2_with fail
    refine (D.out _).mono ?_
    rintro ee w7 ⟨rfl, hb7⟩
    have bA7 := hid (bA6.out.below hb7)
    have bB7 := hid (bB6.out.below hb7)
    have bQ7 := hid (bQ6.out.below hb7)
    have bel7 := hid (bel6.out.trans (hb7.mono bel6.out.size))
    clear hb7 bA6 bB6 bQ6 bel6
    clear cA0 cA1 cA2 cA3 cB0 cB1 cB2 cB3
    go_wp2_with fail
    refine (O.out _).mono ?_
    rintro ee w8 ⟨rfl, hb8⟩
    have bA8 := hid (bA7.out.below hb8)
    have bB8 := hid (bB7.out.below hb8)
    have bQ8 := hid (bQ7.out.below hb8)
    have bel8 := hid (bel7.out.trans (hb8.mono bel7.out.size))
    clear hb8 bA7 bB7 bQ7 bel7
    obtain ⟨g0, g1, g2, g3⟩ := RBox.box bQ8.out
    have fq := RBox.frozen bQ8.out
    have P5 := hid (RBox.box (bQ8.out.st4 (x' := x) (y' := y) (z' := z) (u' := u)))
    have B5 := hid (st4_below (w.heap.size + 2) (x) (y) (z) (u) bel8.out (by omega))
    go_wp2_with fail
    obtain ⟨p0, p1, p2, p3⟩ := P5.out
    unfold st4 at p0 p1 p2 p3
    refine bodyPost_ret (v := rv (x) (y) (z) (u)) (by simp [results, Try.results6, go_sem, p0, p1, p2, p3]) rfl ⟨rfl, B5.out⟩
  exact AllReadyH.nil

end Go.Proofs.Ytnebjocnbfoafaa
