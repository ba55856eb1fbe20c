/- The laws FnHas and FnSome, drawn. -/
import Derived.Test.YteiglpijjffneaaYA
namespace Go.Proofs.Yteiglpijjffneaa
open Go.RowKit
set_option linter.unusedVariables false
set_option linter.unusedSimpArgs false

theorem has_facts {L H B O n : Nat} (h : OkN L H B O) (hn : OfN L H B O n) : n &&& B = B ∧ n ||| O ||| B = O ||| B := by
  have hh := (has_bit (Nat.le_trans hn.hi h.hi) h.b).1 hn.has
  have hb : ∀ i, B.testBit i = (n.testBit i && !O.testBit i) := by
    intro i
    by_cases hi : i < 32
    · exact (hh i hi).symm
    · rw [high_bit h.b hi, high_bit (Nat.le_trans hn.hi h.hi) hi]; rfl
  constructor <;> apply Nat.eq_of_testBit_eq <;> intro i
  · rw [Nat.testBit_and, hb]; cases n.testBit i <;> simp
  · rw [Nat.testBit_or, Nat.testBit_or, Nat.testBit_or, hb]; cases n.testBit i <;> cases O.testBit i <;> simp

set_option maxRecDepth 100000 in
set_option maxHeartbeats 4000000 in
theorem law_fnHas (w : World) (a : Option Addr) (len cap : Nat) (hc : len ≤ cap) (hs : Src w a len) (hl : cap < 2 ^ 63) :
    Calls Try.prog 5 #[.slice a len cap] w fun e w' => e = .returned (.bool true) ∧ Below w.heap.size w w' := by
  have HS := hid hs
  clear hs
  go_enter Try.func5, Try.ntmps5
  go_wp2_with fail
  · go_ret
    exact ⟨rfl, Below.refl _ _⟩
  refine (drawRangeHas_s w a len cap hc HS.out hl).mono ?_
  rintro e w1 ⟨⟨lo, hi, b, o, n, rfl, les, hn⟩, hb1⟩
  have bel1 := hid hb1
  clear hb1
  go_wp2_with fail
  have bX2 := hid (RBox.new w1 (lo) (hi) (b) (o))
  have bel2 := hid (bel1.out.alloc bel1.out.size (cellsR4 (lo) (hi) (b) (o)))
  have leX := bel1.out.size
  clear  bel1
  generalize w1.alloc (cellsR4 (lo) (hi) (b) (o)) = w2 at *
  generalize w1.heap.size = X at *
  have bX2' := bX2
  cases hI : hasI lo hi b o n
  · have A1 := hid (ans_has lo hi b o n hI)
    have A2 := hid (ans_specHas lo hi b o n hI)
    clear hI les hn bX2'
    obtain ⟨cX0, cX1, cX2, cX3⟩ := RBox.box bX2.out
    go_wp2_with fail
    refine (A1.out _).mono ?_
    rintro e w3 ⟨rfl, hb3⟩
    have bX3 := hid (bX2.out.below hb3)
    have bel3 := hid (bel2.out.to hb3)
    clear hb3 bX2 bel2
    obtain ⟨cX0, cX1, cX2, cX3⟩ := RBox.box bX3.out
    go_wp2_with fail
    refine (A2.out _).mono ?_
    rintro e w4 ⟨rfl, hb4⟩
    have bX4 := hid (bX3.out.below hb4)
    have bel4 := hid (bel3.out.to hb4)
    clear hb4 bX3 bel3
    obtain ⟨cX0, cX1, cX2, cX3⟩ := RBox.box bX4.out
    go_wp2_with fail
    refine (A2.out _).mono ?_
    rintro e w5 ⟨rfl, hb5⟩
    have bX5 := hid (bX4.out.below hb5)
    have bel5 := hid (bel4.out.to hb5)
    clear hb5 bX4 bel4
    go_wp2_with fail
    go_ret
    exact ⟨rfl, bel5.out⟩
  · obtain ⟨L, H, B, O, N, e1, e2, e3, e4, e5, hok, hof⟩ := of_hasI hI
    obtain rfl : lo = L := by omega
    obtain rfl : hi = H := by omega
    obtain rfl : b = B := by omega
    obtain rfl : o = O := by omega
    obtain rfl : n = N := by omega
    clear e1 e2 e3 e4 e5 bX2'
    have A1 := hid (ans_has lo hi b o n hI)
    have A2 := hid (ans_specHas lo hi b o n hI)
    rcases least_cases lo hi b o with ⟨L', H', B', O', m, hL⟩ | hE
    rotate_left
    · exact (hE.nok hok hof).elim
    obtain ⟨x, y, z, u, hT, hTof, -, -, -⟩ := hL.tidy
    obtain rfl : lo = L' := by have := hL.e1; omega
    obtain rfl : hi = H' := by have := hL.e2; omega
    obtain rfl : b = B' := by have := hL.e3; omega
    obtain rfl : o = O' := by have := hL.e4; omega
    have A3 := hid hL.imp
    have A4 := hid hL.imps
    have A5 := hid (ans_ok lo hi b o (okB_of hok))
    have A6 := hid hT.imp
    have A7 := hid (ans_has x y z u n (hasI_of hT.ok ((hTof n).1 hof)))
    have f1 : (n : Int) ≥ lo := by have := hof.lo; omega
    have f2 : (n : Int) ≤ hi := by have := hof.hi; omega
    have f3 : (m : Int) ≥ lo := by have := hL.of.lo; omega
    have f4 : (m : Int) ≤ n := by have := hL.least n hof; omega
    obtain ⟨m1, m2⟩ := has_facts hok hof
    have g1 := and_i64 n b (by have := hof.hi; have := hok.hi; omega) (by have := hok.b; omega)
    rw [m1] at g1
    have g2 := or_i64 n o (by have := hof.hi; have := hok.hi; omega) (by have := hok.o; omega)
    have lno : n ||| o ≤ 4294967295 := or_le hn hok.o
    have g3 := or_i64 (n ||| o) b (by omega) (by have := hok.b; omega)
    rw [m2] at g3
    have g4 := or_i64 o b (by have := hok.o; omega) (by have := hok.b; omega)
    have lob : o ||| b ≤ 4294967295 := or_le hok.o hok.b
    clear hI hok hof hL hT hTof m1 m2 lno lob
    generalize n ||| o = NO at *
    generalize o ||| b = OB at *
    obtain ⟨cX0, cX1, cX2, cX3⟩ := RBox.box bX2.out
    go_wp2_with fail
    refine (A1.out _).mono ?_
    rintro e w3 ⟨rfl, hb3⟩
    have bX3 := hid (bX2.out.below hb3)
    have bel3 := hid (bel2.out.to hb3)
    clear hb3 bX2 bel2
    obtain ⟨cX0, cX1, cX2, cX3⟩ := RBox.box bX3.out
    go_wp2_with fail
    refine (A2.out _).mono ?_
    rintro e w4 ⟨rfl, hb4⟩
    have bX4 := hid (bX3.out.below hb4)
    have bel4 := hid (bel3.out.to hb4)
    clear hb4 bX3 bel3
    obtain ⟨cX0, cX1, cX2, cX3⟩ := RBox.box bX4.out
    go_wp2_with fail
    refine (A3.out _).mono ?_
    rintro e w5 ⟨rfl, hb5⟩
    have bX5 := hid (bX4.out.below hb5)
    have bel5 := hid (bel4.out.to hb5)
    clear hb5 bX4 bel4
    obtain ⟨cX0, cX1, cX2, cX3⟩ := RBox.box bX5.out
    go_wp2_with fail
    refine (A5.out _).mono ?_
    rintro e w6 ⟨rfl, hb6⟩
    have bX6 := hid (bX5.out.below hb6)
    have bel6 := hid (bel5.out.to hb6)
    clear hb6 bX5 bel5
    obtain ⟨cX0, cX1, cX2, cX3⟩ := RBox.box bX6.out
    go_wp2_with fail
    refine (A4.out _).mono ?_
    rintro e w7 ⟨rfl, hb7⟩
    have bX7 := hid (bX6.out.below hb7)
    have bel7 := hid (bel6.out.to hb7)
    clear hb7 bX6 bel6
    obtain ⟨cX0, cX1, cX2, cX3⟩ := RBox.box bX7.out
    go_wp2_with fail
    refine (A6.out _).mono ?_
    rintro e w8 ⟨rfl, hb8⟩
    have bX8 := hid (bX7.out.below hb8)
    have bel8 := hid (bel7.out.to hb8)
    clear hb8 bX7 bel7
    obtain ⟨cX0, cX1, cX2, cX3⟩ := RBox.box bX8.out
    go_wp2_with fail
    refine (A7.out _).mono ?_
    rintro e w9 ⟨rfl, hb9⟩
    have bX9 := hid (bX8.out.below hb9)
    have bel9 := hid (bel8.out.to hb9)
    clear hb9 bX8 bel8
    go_wp2_with fail
    go_ret
    exact ⟨rfl, bel9.out⟩

set_option maxRecDepth 100000 in
set_option maxHeartbeats 4000000 in
theorem law_fnSome (w : World) (a : Option Addr) (len cap : Nat) (hc : len ≤ cap) (hs : Src w a len) (hl : cap < 2 ^ 63) :
    Calls Try.prog 7 #[.slice a len cap] w fun e w' => e = .returned (.bool true) ∧ Below w.heap.size w w' := by
  have HS := hid hs
  clear hs
  go_enter Try.func7, Try.ntmps7
  go_wp2_with fail
  · go_ret
    exact ⟨rfl, Below.refl _ _⟩
  refine (drawRangeSome_s w a len cap hc HS.out hl).mono ?_
  rintro e w1 ⟨⟨lo, hi, b, o, rfl, les⟩, hb1⟩
  have bel1 := hid hb1
  clear hb1
  go_wp2_with fail
  have bX2 := hid (RBox.new w1 (lo) (hi) (b) (o))
  have bel2 := hid (bel1.out.alloc bel1.out.size (cellsR4 (lo) (hi) (b) (o)))
  have leX := bel1.out.size
  clear  bel1
  generalize w1.alloc (cellsR4 (lo) (hi) (b) (o)) = w2 at *
  generalize w1.heap.size = X at *
  have A5 := hid (ans_ok lo hi b o rfl)
  rcases least_cases lo hi b o with ⟨L, H, B, O, m, hL⟩ | hE
  · have A1 := hid hL.imps
    have A2 := hid hL.imp
    have A3 := hid hL.spcs
    have A4 := hid hL.spc
    have A6 := hid (ans_has lo hi b o m hL.has)
    rw [hL.okB] at A5
    have m0 : (0 : Int) ≤ m := by omega
    clear hL les
    obtain ⟨cX0, cX1, cX2, cX3⟩ := RBox.box bX2.out
    go_wp2_with fail
    refine (A1.out _).mono ?_
    rintro e w3 ⟨rfl, hb3⟩
    have bX3 := hid (bX2.out.below hb3)
    have bel3 := hid (bel2.out.to hb3)
    clear hb3 bX2 bel2
    obtain ⟨cX0, cX1, cX2, cX3⟩ := RBox.box bX3.out
    go_wp2_with fail
    refine (A2.out _).mono ?_
    rintro e w4 ⟨rfl, hb4⟩
    have bX4 := hid (bX3.out.below hb4)
    have bel4 := hid (bel3.out.to hb4)
    clear hb4 bX3 bel3
    obtain ⟨cX0, cX1, cX2, cX3⟩ := RBox.box bX4.out
    go_wp2_with fail
    refine (A3.out _).mono ?_
    rintro e w5 ⟨rfl, hb5⟩
    have bX5 := hid (bX4.out.below hb5)
    have bel5 := hid (bel4.out.to hb5)
    clear hb5 bX4 bel4
    obtain ⟨cX0, cX1, cX2, cX3⟩ := RBox.box bX5.out
    go_wp2_with fail
    refine (A4.out _).mono ?_
    rintro e w6 ⟨rfl, hb6⟩
    have bX6 := hid (bX5.out.below hb6)
    have bel6 := hid (bel5.out.to hb6)
    clear hb6 bX5 bel5
    obtain ⟨cX0, cX1, cX2, cX3⟩ := RBox.box bX6.out
    go_wp2_with fail
    refine (A6.out _).mono ?_
    rintro e w7 ⟨rfl, hb7⟩
    have bX7 := hid (bX6.out.below hb7)
    have bel7 := hid (bel6.out.to hb7)
    clear hb7 bX6 bel6
    obtain ⟨cX0, cX1, cX2, cX3⟩ := RBox.box bX7.out
    go_wp2_with fail
    refine (A5.out _).mono ?_
    rintro e w8 ⟨rfl, hb8⟩
    have bX8 := hid (bX7.out.below hb8)
    have bel8 := hid (bel7.out.to hb8)
    clear hb8 bX7 bel7
    go_wp2_with fail
    go_ret
    exact ⟨rfl, bel8.out⟩
  · have A1 := hid hE.imps
    have A2 := hid hE.imp
    have A3 := hid hE.spcs
    have A4 := hid hE.spc
    clear hE les
    generalize okB lo hi b o = q at *
    obtain ⟨cX0, cX1, cX2, cX3⟩ := RBox.box bX2.out
    go_wp2_with fail
    refine (A1.out _).mono ?_
    rintro e w3 ⟨rfl, hb3⟩
    have bX3 := hid (bX2.out.below hb3)
    have bel3 := hid (bel2.out.to hb3)
    clear hb3 bX2 bel2
    obtain ⟨cX0, cX1, cX2, cX3⟩ := RBox.box bX3.out
    go_wp2_with fail
    refine (A2.out _).mono ?_
    rintro e w4 ⟨rfl, hb4⟩
    have bX4 := hid (bX3.out.below hb4)
    have bel4 := hid (bel3.out.to hb4)
    clear hb4 bX3 bel3
    obtain ⟨cX0, cX1, cX2, cX3⟩ := RBox.box bX4.out
    go_wp2_with fail
    refine (A3.out _).mono ?_
    rintro e w5 ⟨rfl, hb5⟩
    have bX5 := hid (bX4.out.below hb5)
    have bel5 := hid (bel4.out.to hb5)
    clear hb5 bX4 bel4
    obtain ⟨cX0, cX1, cX2, cX3⟩ := RBox.box bX5.out
    go_wp2_with fail
    refine (A4.out _).mono ?_
    rintro e w6 ⟨rfl, hb6⟩
    have bX6 := hid (bX5.out.below hb6)
    have bel6 := hid (bel5.out.to hb6)
    clear hb6 bX5 bel5
    obtain ⟨cX0, cX1, cX2, cX3⟩ := RBox.box bX6.out
    go_wp2_with fail
    refine (A5.out _).mono ?_
    rintro e w7 ⟨rfl, hb7⟩
    have bX7 := hid (bX6.out.below hb7)
    have bel7 := hid (bel6.out.to hb7)
    clear hb7 bX6 bel6
    cases q
    all_goals go_wp2_with fail
    all_goals go_ret
    all_goals exact ⟨rfl, bel7.out⟩
end Go.Proofs.Yteiglpijjffneaa
