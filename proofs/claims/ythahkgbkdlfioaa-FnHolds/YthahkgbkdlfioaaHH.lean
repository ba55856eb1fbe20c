/- The law of RangeHolds, drawn. -/
import Derived.Test.YthahkgbkdlfioaaPN
import Derived.Test.YthahkgbkdlfioaaHO
import Derived.LoopN
namespace Go.Proofs.Ythahkgbkdlfioaa
open Go.RowKit
set_option linter.unusedVariables false
set_option linter.unusedSimpArgs false
theorem _root_.Go.RowKit.Below.to {w w1 w2 : World} (h : Below w.heap.size w w1) (h2 : Below w1.heap.size w1 w2) : Below w.heap.size w w2 := h.trans (h2.mono h.size)

set_option maxRecDepth 100000 in
set_option maxHeartbeats 4000000 in
theorem law_fnHolds (w : World) (a : Option Addr) (len cap : Nat) (hc : len ≤ cap) (hs : Src w a len) (hl : cap < 2 ^ 63) :
    Calls Try.prog 4 #[.slice a len cap] w fun e w' => e = .returned (.bool true) ∧ Below w.heap.size w w' := by
  have HS := hid hs
  clear hs
  go_enter Try.func4, Try.ntmps4
  go_wp2_with fail
  · go_ret
    exact ⟨rfl, Below.refl _ _⟩
  refine (drawHolds_s w a len cap hc HS.out hl).mono ?_
  rintro e w1 ⟨k, x, y, rfl, k0, k1, x0, x1, y0, y1, b1⟩
  go_wp2_with fail
  refine (c_Holds k x y _).mono ?_
  rintro e w2 ⟨rfl, b2⟩
  go_wp2_with fail
  refine (c_specHolds k x y _).mono ?_
  rintro e w3 ⟨rfl, hw3⟩
  rw [hw3]; clear hw3 w3
  go_wp2_with fail
  · have C : ∀ (op : Int) (q : Bool), holdsI op x y = q → ∀ w, Calls Try.prog 13 #[.int .i64 op, .int .i64 x, .int .i64 y] w fun e w' => e = .returned (.bool q) ∧ Below w.heap.size w w' := fun op q h w => h ▸ c_Holds op x y w
    have C' : ∀ (op : Int) (q : Bool), holdsI op y x = q → ∀ w, Calls Try.prog 13 #[.int .i64 op, .int .i64 y, .int .i64 x] w fun e w' => e = .returned (.bool q) ∧ Below w.heap.size w w' := fun op q h w => h ▸ c_Holds op y x w
    rcases Int.lt_trichotomy x y with hlt | heq | hgt
    · have e12 : holdsI 12 x y = false := by simp [holdsI, holdsB, inB]; omega
      have e13 : holdsI 13 x y = true := by simp [holdsI, holdsB, inB]; omega
      have e14 : holdsI 14 x y = true := by simp [holdsI, holdsB, inB]; omega
      have e15 : holdsI 15 x y = false := by simp [holdsI, holdsB, inB]; omega
      have e51 : holdsI 15 y x = true := by simp [holdsI, holdsB, inB]; omega
      refine wp_loop_rounds 5 ?_
      rw [rounds_succ]; go_wp2_with fail
      refine (C 12 _ e12 _).mono ?_
      rintro e w3 ⟨rfl, b3⟩
      go_wp2_with fail
      rw [rounds_succ]; go_wp2_with fail
      rw [rounds_succ]; go_wp2_with fail
      refine (C 14 _ e14 _).mono ?_
      rintro e w4 ⟨rfl, b4⟩
      go_wp2_with fail
      rw [rounds_succ]; go_wp2_with fail
      refine (C 15 _ e15 _).mono ?_
      rintro e w5 ⟨rfl, b5⟩
      go_wp2_with fail
      rw [rounds_succ]; go_wp2_with fail
      refine (C 13 _ e13 _).mono ?_
      rintro e w6 ⟨rfl, b6⟩
      go_wp2_with fail
      refine (C 12 _ e12 _).mono ?_
      rintro e w7 ⟨rfl, b7⟩
      go_wp2_with fail
      refine (C' 15 _ e51 _).mono ?_
      rintro e w8 ⟨rfl, b8⟩
      go_wp2_with fail
      refine (C 14 _ e14 _).mono ?_
      rintro e w9 ⟨rfl, b9⟩
      go_wp2_with fail
      go_ret
      exact ⟨rfl, (((((((b1.to b2).to b3).to b4).to b5).to b6).to b7).to b8).to b9⟩
    · have e12 : holdsI 12 x y = true := by simp [holdsI, holdsB, inB]; omega
      have e13 : holdsI 13 x y = false := by simp [holdsI, holdsB, inB]; omega
      have e14 : holdsI 14 x y = false := by simp [holdsI, holdsB, inB]; omega
      have e15 : holdsI 15 x y = false := by simp [holdsI, holdsB, inB]; omega
      have e51 : holdsI 15 y x = false := by simp [holdsI, holdsB, inB]; omega
      clear heq
      refine wp_loop_rounds 5 ?_
      rw [rounds_succ]; go_wp2_with fail
      refine (C 12 _ e12 _).mono ?_
      rintro e w3 ⟨rfl, b3⟩
      go_wp2_with fail
      rw [rounds_succ]; go_wp2_with fail
      rw [rounds_succ]; go_wp2_with fail
      refine (C 14 _ e14 _).mono ?_
      rintro e w4 ⟨rfl, b4⟩
      go_wp2_with fail
      rw [rounds_succ]; go_wp2_with fail
      refine (C 15 _ e15 _).mono ?_
      rintro e w5 ⟨rfl, b5⟩
      go_wp2_with fail
      rw [rounds_succ]; go_wp2_with fail
      refine (C 13 _ e13 _).mono ?_
      rintro e w6 ⟨rfl, b6⟩
      go_wp2_with fail
      refine (C 12 _ e12 _).mono ?_
      rintro e w7 ⟨rfl, b7⟩
      go_wp2_with fail
      refine (C' 15 _ e51 _).mono ?_
      rintro e w8 ⟨rfl, b8⟩
      go_wp2_with fail
      refine (C 14 _ e14 _).mono ?_
      rintro e w9 ⟨rfl, b9⟩
      go_wp2_with fail
      go_ret
      exact ⟨rfl, (((((((b1.to b2).to b3).to b4).to b5).to b6).to b7).to b8).to b9⟩
    · have e12 : holdsI 12 x y = false := by simp [holdsI, holdsB, inB]; omega
      have e13 : holdsI 13 x y = true := by simp [holdsI, holdsB, inB]; omega
      have e14 : holdsI 14 x y = false := by simp [holdsI, holdsB, inB]; omega
      have e15 : holdsI 15 x y = true := by simp [holdsI, holdsB, inB]; omega
      have e51 : holdsI 15 y x = false := by simp [holdsI, holdsB, inB]; omega
      refine wp_loop_rounds 5 ?_
      rw [rounds_succ]; go_wp2_with fail
      refine (C 12 _ e12 _).mono ?_
      rintro e w3 ⟨rfl, b3⟩
      go_wp2_with fail
      rw [rounds_succ]; go_wp2_with fail
      rw [rounds_succ]; go_wp2_with fail
      refine (C 14 _ e14 _).mono ?_
      rintro e w4 ⟨rfl, b4⟩
      go_wp2_with fail
      rw [rounds_succ]; go_wp2_with fail
      refine (C 15 _ e15 _).mono ?_
      rintro e w5 ⟨rfl, b5⟩
      go_wp2_with fail
      rw [rounds_succ]; go_wp2_with fail
      refine (C 13 _ e13 _).mono ?_
      rintro e w6 ⟨rfl, b6⟩
      go_wp2_with fail
      refine (C 12 _ e12 _).mono ?_
      rintro e w7 ⟨rfl, b7⟩
      go_wp2_with fail
      refine (C' 15 _ e51 _).mono ?_
      rintro e w8 ⟨rfl, b8⟩
      go_wp2_with fail
      refine (C 14 _ e14 _).mono ?_
      rintro e w9 ⟨rfl, b9⟩
      go_wp2_with fail
      go_ret
      exact ⟨rfl, (((((((b1.to b2).to b3).to b4).to b5).to b6).to b7).to b8).to b9⟩
  · have e : holdsI k x y = false := by simp [holdsI, inB]; omega
    rw [e]
    go_ret
    exact ⟨rfl, b1.to b2⟩
end Go.Proofs.Ythahkgbkdlfioaa
