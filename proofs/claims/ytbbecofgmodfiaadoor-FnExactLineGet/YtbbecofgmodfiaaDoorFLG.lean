/- The law FnExactLineGet, walked. -/
import Derived.Test.YtbbecofgmodfiaaDoorZL
import Derived.Test.YtbbecofgmodfiaaDoorZQ
namespace Go.Proofs.YtbbecofgmodfiaaDoor
open Go.RowKit
set_option linter.unusedVariables false
set_option linter.unusedSimpArgs false

set_option maxRecDepth 100000 in
set_option maxHeartbeats 4000000 in
theorem eqIns_w (o d s f i z : Int) (w : World) :
    Calls Tryd.prog 10 #[.agg #[.int .i64 o, .int .i64 d, .int .i64 s, .int .i64 f, .int .i64 i, .int .i64 z], .agg #[.int .i64 o, .int .i64 d, .int .i64 s, .int .i64 f, .int .i64 i, .int .i64 z]] w fun e w' => e = .returned (.bool true) ∧ Below w.heap.size w w' := by
  go_enter Tryd.func10, Tryd.ntmps10
  go_wp2
  go_ret
  exact ⟨rfl, ((Below.refl _ _).alloc (Nat.le_refl _) _).alloc (by simp) _⟩

set_option maxRecDepth 100000 in
set_option maxHeartbeats 4000000 in
theorem core_lineGet (S : ByteArray) (o d s f i z : Int) (q : Bool) (hS : S.size ≤ 1048576)
    (HS : Hid (∀ w, Calls Tryd.prog 8 #[.string S] w fun e w' => e = .returned (.tuple #[.agg #[.int .i64 o, .int .i64 d, .int .i64 s, .int .i64 f, .int .i64 i, .int .i64 z], .bool q]) ∧ Below w.heap.size w w'))
    (HI : Hid (∀ w, TabsG w → Calls Tryd.prog 9 #[.string S] w fun e w' => e = .returned (.tuple #[.agg #[.int .i64 o, .int .i64 d, .int .i64 s, .int .i64 f, .int .i64 i, .int .i64 z], .bool q]) ∧ Below w.heap.size w w')) (w : World) (hT : TabsG w) :
    Calls Tryd.prog 4 #[.string S] w fun e w' => e = .returned (.bool true) ∧ Below w.heap.size w w' := by
  have HT := hid hT
  have hle : ¬ (1048576 : Int) < (S.size : Int) := by omega
  clear hT
  go_enter Tryd.func4, Tryd.ntmps4
  go_wp2_with fail
  refine (HS.out _).mono ?_
  rintro e w1 ⟨rfl, b1⟩
  have HX := hid (C6.new w1 o d s f i z 25)
  have HZ := hid (b1.to (belA w1 (.cells #[.int .i64 o, .int .i64 d, .int .i64 s, .int .i64 f, .int .i64 i, .int .i64 z] 25)))
  clear b1
  go_wp2_with fail
  generalize w1.alloc (.cells #[.int .i64 o, .int .i64 d, .int .i64 s, .int .i64 f, .int .i64 i, .int .i64 z] 25) = w2 at *
  generalize w1.heap.size = X at *
  refine (HI.out _ (HT.out.below HZ.out)).mono ?_
  rintro e w3 ⟨rfl, b3⟩
  replace HX := hid (HX.out.bel b3)
  replace HZ := hid (HZ.out.to b3)
  clear b3
  have HY := hid (C6.new w3 o d s f i z 25)
  have ba := belA w3 (.cells #[.int .i64 o, .int .i64 d, .int .i64 s, .int .i64 f, .int .i64 i, .int .i64 z] 25)
  replace HX := hid (HX.out.bel ba)
  replace HZ := hid (HZ.out.to ba)
  clear ba
  obtain ⟨x0, x1, x2, x3, x4, x5, xl⟩ := HX.out
  obtain ⟨y0, y1, y2, y3, y4, y5, yl⟩ := HY.out
  go_wp2_with fail
  refine (eqIns_w _ _ _ _ _ _ _).mono ?_
  rintro e w4 ⟨rfl, b4⟩
  replace HZ := hid (HZ.out.to b4)
  clear b4 x0 x1 x2 x3 x4 x5 xl y0 y1 y2 y3 y4 y5 yl
  cases q
  · go_wp2_with fail
    go_ret
    exact ⟨rfl, HZ.out⟩
  · go_wp2_with fail
    go_ret
    exact ⟨rfl, HZ.out⟩
set_option maxRecDepth 100000 in
set_option maxHeartbeats 4000000 in
theorem law_exactLineGet (S : ByteArray) (w : World) (hT : TabsG w) : Calls Tryd.prog 4 #[.string S] w fun e w' => e = .returned (.bool true) ∧ Below w.heap.size w w' := by
  by_cases hs : S.size ≤ 1048576
  · by_cases h : ∃ o d s f i z : Int, sokB o d s f i z = true ∧ S = lineS o d s f i z
    · obtain ⟨o, d, s, f, i, z, hok, rfl⟩ := h
      exact core_lineGet _ o d s f i z true hs (hid fun w => getS o d s f i z hok w) (hid fun w hT => getLine o d s f i z w hT hok) w hT
    · have hno : ∀ o d s f i z : Int, sokB o d s f i z = true → S ≠ lineS o d s f i z := fun o d s f i z h1 h2 => h ⟨o, d, s, f, i, z, h1, h2⟩
      exact core_lineGet S 0 0 0 0 0 0 false hs (hid fun w => getNoS S hs hno w) (hid fun w hT => getNoI S hs hno w hT) w hT
  · have hgt : (1048576 : Int) < (S.size : Int) := by omega
    go_enter Tryd.func4, Tryd.ntmps4
    go_wp2_with fail
    go_ret
    exact ⟨rfl, Below.refl _ _⟩
end Go.Proofs.YtbbecofgmodfiaaDoor
