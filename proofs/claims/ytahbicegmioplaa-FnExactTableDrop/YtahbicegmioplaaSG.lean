/- Tables held against each other, as the laws that draw do it. -/
import Derived.Test.YtahbicegmioplaaTV
namespace Go.Proofs.Ytahbicegmioplaa
open Go.RowKit
set_option linter.unusedSimpArgs false
set_option linter.unusedVariables false

set_option maxRecDepth 100000 in
set_option maxHeartbeats 2000000 in
theorem sgInts_c (xs : List Int) (a1 a2 : Option Addr) (c1 c2 : Nat) (w : World) (hA1 : ArgI w a1 xs) (hA2 : ArgI w a2 xs) (hn : xs.length ≤ 1048576) :
    Calls Try.prog 38 #[.slice a1 xs.length c1, .slice a2 xs.length c2] w fun e w' => e = .returned (.bool true) ∧ Below w.heap.size w w' := by
  go_enter Try.func38, Try.ntmps38
  go_wp2_with fail
  go_loopw [5] (fun i wr => ∃ k : Nat, k ≤ xs.length ∧ i = .int .i64 k ∧ Below w.heap.size w wr) (fun i _ => xs.length - (intOf i).toNat)
  case atStart => exact ⟨0, Nat.zero_le _, rfl, Below.refl _ _⟩
  case round =>
    obtain ⟨k, hk, rfl, hbw⟩ := hrel
    by_cases hlt : k < xs.length
    · have hlt' : (k : Int) < (xs.length : Int) := by omega
      have hk0 : (0 : Int) ≤ (k : Int) := by omega
      obtain ⟨b1, p1, rfl, hb1, h1⟩ := (hA1.below hbw (Nat.le_refl _)).at k hlt
      obtain ⟨b2, p2, rfl, hb2, h2⟩ := (hA2.below hbw (Nat.le_refl _)).at k hlt
      obtain ⟨x, hx⟩ : ∃ x, x = xs[k] := ⟨_, rfl⟩
      rw [← hx] at h1 h2
      clear hx
      go_wp2_with fail
      go_quiet (fail)
      go_wp2_with fail
      go_roundw
      case rel => exact ⟨k + 1, by omega, by go_num, below_drewN hbw _⟩
      case measure => simp [intOf]; omega
    · obtain rfl : k = xs.length := by omega
      go_wp2_with fail
      go_ret
      exact ⟨rfl, hbw⟩

set_option maxRecDepth 100000 in
set_option maxHeartbeats 2000000 in
theorem sgTexts_c (xs : List ByteArray) (a1 a2 : Option Addr) (c1 c2 : Nat) (w : World) (hA1 : ArgS w a1 xs) (hA2 : ArgS w a2 xs) (hn : xs.length ≤ 1048576) :
    Calls Try.prog 39 #[.slice a1 xs.length c1, .slice a2 xs.length c2] w fun e w' => e = .returned (.bool true) ∧ Below w.heap.size w w' := by
  go_enter Try.func39, Try.ntmps39
  go_wp2_with fail
  go_loopw [5] (fun i wr => ∃ k : Nat, k ≤ xs.length ∧ i = .int .i64 k ∧ Below w.heap.size w wr) (fun i _ => xs.length - (intOf i).toNat)
  case atStart => exact ⟨0, Nat.zero_le _, rfl, Below.refl _ _⟩
  case round =>
    obtain ⟨k, hk, rfl, hbw⟩ := hrel
    by_cases hlt : k < xs.length
    · have hlt' : (k : Int) < (xs.length : Int) := by omega
      have hk0 : (0 : Int) ≤ (k : Int) := by omega
      obtain ⟨b1, p1, rfl, hb1, h1⟩ := (hA1.below hbw (Nat.le_refl _)).at k hlt
      obtain ⟨b2, p2, rfl, hb2, h2⟩ := (hA2.below hbw (Nat.le_refl _)).at k hlt
      obtain ⟨x, hx⟩ : ∃ x, x = xs[k] := ⟨_, rfl⟩
      rw [← hx] at h1 h2
      clear hx
      go_wp2_with fail
      go_quiet (fail)
      go_wp2_with fail
      go_roundw
      case rel => exact ⟨k + 1, by omega, by go_num, below_drewN hbw _⟩
      case measure => simp [intOf]; omega
    · obtain rfl : k = xs.length := by omega
      go_wp2_with fail
      go_ret
      exact ⟨rfl, hbw⟩

set_option maxRecDepth 100000 in
set_option maxHeartbeats 2000000 in
theorem sgTable_c (k s r : Int) (ks : List Int) (vs : List ByteArray) (a1 a2 b1 b2 : Option Addr) (c1 c2 e1 e2 : Nat) (w : World) (hA1 : ArgI w a1 ks) (hA2 : ArgI w a2 ks) (hB1 : ArgS w b1 vs) (hB2 : ArgS w b2 vs) (hn : ks.length ≤ 1048576) (hm : vs.length ≤ 1048576) :
    Calls Try.prog 11 #[.agg #[.int .i64 k, .int .i64 s, .int .i64 r, .slice a1 ks.length c1, .slice b1 vs.length e1], .agg #[.int .i64 k, .int .i64 s, .int .i64 r, .slice a2 ks.length c2, .slice b2 vs.length e2]] w
      fun e w' => e = .returned (.bool true) ∧ Below w.heap.size w w' := by
  have c0 : ∀ X Y, Below w.heap.size w ((w.alloc X).alloc Y) := fun X Y => ((Below.refl _ _).alloc (Nat.le_refl _) _).alloc (by simp) _
  have H1 : Hid (ArgI w a1 ks) := hA1
  have H2 : Hid (ArgI w a2 ks) := hA2
  have H3 : Hid (ArgS w b1 vs) := hB1
  have H4 : Hid (ArgS w b2 vs) := hB2
  clear hA1 hA2 hB1 hB2
  go_enter Try.func11, Try.ntmps11
  go_wp2_with fail
  refine (sgInts_c ks _ _ _ _ _ (ArgI.below H1.out (c0 _ _) (Nat.le_refl _)) (ArgI.below H2.out (c0 _ _) (Nat.le_refl _)) hn).mono ?_
  rintro e w1 ⟨rfl, hw1⟩
  obtain ⟨hc1, hf1⟩ := bcell hw1
  have z1 := hw1.size
  simp only [World.size_alloc] at z1 hc1 hf1
  have q1 : w.heap.size < w1.heap.size := by omega
  have q2 : w.heap.size + 1 < w1.heap.size := by omega
  have k1 : Below w.heap.size w w1 := (c0 _ _).trans (hw1.mono (by simp; omega))
  go_wp2_with fail
  refine (sgTexts_c vs _ _ _ _ _ (ArgS.below H3.out k1 (Nat.le_refl _)) (ArgS.below H4.out k1 (Nat.le_refl _)) hm).mono ?_
  rintro e w2 ⟨rfl, hw2⟩
  go_wp2_with fail
  go_ret
  exact ⟨rfl, k1.trans (hw2.mono (by omega))⟩

end Go.Proofs.Ytahbicegmioplaa
