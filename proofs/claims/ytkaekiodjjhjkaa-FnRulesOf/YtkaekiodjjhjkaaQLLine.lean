/- The specification's lines: what is written, loosely. -/
import Derived.Test.YtkaekiodjjhjkaaQLNum
namespace Go.Proofs.Ytkaekiodjjhjkaa
open Go.RowKit
set_option linter.unusedVariables false
set_option linter.unusedSimpArgs false


def AnS (k : Nat) (e : Ending) : Prop := ∃ s : ByteArray, s.size ≤ k ∧ e = .returned (.string s)
set_option maxRecDepth 100000 in
set_option maxHeartbeats 4000000 in
theorem dec_neg (m : Nat) (h1 : 1 ≤ m) (h2 : m ≤ 1000) (w : World) : Calls Try.prog 92 #[.int .i64 (-(m : Int))] w fun e w' => AnS 20 e ∧ Below w.heap.size w w' := by
  have hm1 : (1 : Int) ≤ (m : Int) := by omega
  have hm2 : (m : Int) ≤ 1000 := by omega
  have hds := decS_size 18 m (by omega)
  go_enter Try.func92, Try.ntmps92
  go_wp2_with fail
  refine (dec_n m m (Nat.le_refl _) (by omega) _).mono ?_
  rintro e w1 ⟨rfl, b1⟩
  generalize decS m = x at *
  go_wp2_with fail
  go_ret
  exact ⟨⟨_, by rw [ByteArray.size_append]; show 1 + x.size ≤ 20; omega, rfl⟩, b1⟩
theorem dec_w (n : Int) (h1 : -1000 ≤ n) (h2 : n ≤ 4294967295) (w : World) : Calls Try.prog 92 #[.int .i64 n] w fun e w' => AnS 20 e ∧ Below w.heap.size w w' := by
  by_cases h : 0 ≤ n
  · obtain ⟨m, rfl⟩ : ∃ m : Nat, n = m := ⟨n.toNat, by omega⟩
    refine (dec_n m m (Nat.le_refl _) (by omega) w).mono ?_
    rintro e w1 ⟨rfl, b1⟩
    exact ⟨⟨_, by have := decS_size 18 m (by omega); omega, rfl⟩, b1⟩
  · obtain ⟨m, rfl⟩ : ∃ m : Nat, n = -(m : Int) := ⟨(-n).toNat, by omega⟩
    exact dec_neg m (by omega) (by omega) w

set_option maxRecDepth 100000 in
set_option maxHeartbeats 4000000 in
theorem reg_w (s i : Int) (hs0 : -1 ≤ s) (hs1 : s ≤ 10) (hi0 : 0 ≤ i) (hi1 : i ≤ 4294967295) (w : World) : Calls Try.prog 99 #[.int .i64 s, .int .i64 i] w fun e w' => AnS 21 e ∧ Below w.heap.size w w' := by
  go_enter Try.func99, Try.ntmps99
  go_wp2_with fail
  · refine (dec_w s (by omega) (by omega) _).mono ?_
    rintro e w1 ⟨⟨x, hx, rfl⟩, b1⟩
    go_wp2_with fail
    go_ret
    exact ⟨⟨_, by rw [ByteArray.size_append]; show 1 + x.size ≤ 21; omega, rfl⟩, b1⟩
  · refine (dec_w i (by omega) (by omega) _).mono ?_
    rintro e w1 ⟨⟨x, hx, rfl⟩, b1⟩
    go_wp2_with fail
    go_ret
    exact ⟨⟨x, by omega, rfl⟩, b1⟩

end Go.Proofs.Ytkaekiodjjhjkaa
