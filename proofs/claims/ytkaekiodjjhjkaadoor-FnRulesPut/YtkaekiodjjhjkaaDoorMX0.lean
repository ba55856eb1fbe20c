/- A number of figures. -/
import Derived.Test.YtkaekiodjjhjkaaDoorSV
namespace Go.Proofs.YtkaekiodjjhjkaaDoor
open Go.RowKit
set_option linter.unusedVariables false
set_option linter.unusedSimpArgs false
def figs (s : ByteArray) (n : Nat) : Prop := ∀ j, j < n → 48 ≤ byteAt s j ∧ byteAt s j ≤ 57
def numV (s : ByteArray) : Nat → Nat
  | 0 => 0
  | i + 1 => numV s i * 10 + (byteAt s i - 48)
theorem numV_lt {s : ByteArray} : ∀ {n : Nat}, figs s n → numV s n < 10 ^ n
  | 0, _ => by simp [numV]
  | n + 1, h => by
    have h1 := numV_lt (n := n) fun j hj => h j (by omega)
    have h2 := h n (by omega)
    rw [numV, Nat.pow_succ]
    omega
theorem numV_le {s : ByteArray} {n : Nat} (h : figs s n) (hn : n ≤ 10) : numV s n < 10000000000 := by
  have h1 := numV_lt h
  have h2 : (10 : Nat) ^ n ≤ 10 ^ 10 := Nat.pow_le_pow_right (by omega) hn
  have : (10 : Nat) ^ 10 = 10000000000 := by decide
  omega
open Classical in
noncomputable def numM (s : ByteArray) : Int := if figs s s.size ∧ s.size ≤ 10 ∧ ¬ s.size = 0 ∧ ¬ (1 < s.size ∧ byteAt s 0 = 48) then (numV s s.size : Int) else -1
theorem numM_bad {s : ByteArray} {i : Nat} (hi : i < s.size) (h : byteAt s i < 48 ∨ 57 < byteAt s i) : numM s = -1 := by
  unfold numM; rw [if_neg]; rintro ⟨h1, _⟩; have := h1 i hi; omega
theorem numM_long {s : ByteArray} (h : 10 < s.size) : numM s = -1 := by
  unfold numM; rw [if_neg]; rintro ⟨_, h1, _⟩; omega
theorem numM_none {s : ByteArray} (h : s.size = 0) : numM s = -1 := by
  unfold numM; rw [if_neg]; rintro ⟨_, _, h1, _⟩; omega
theorem numM_nought {s : ByteArray} (h : 1 < s.size) (h0 : byteAt s 0 = 48) : numM s = -1 := by
  unfold numM; rw [if_neg]; rintro ⟨_, _, _, h1⟩; exact h1 ⟨h, h0⟩
theorem numM_yes {s : ByteArray} (h : figs s s.size) (h1 : s.size ≤ 10) (h2 : ¬ s.size = 0) (h3 : ¬ (1 < s.size ∧ byteAt s 0 = 48)) : numM s = (numV s s.size : Int) := by
  unfold numM; rw [if_pos ⟨h, h1, h2, h3⟩]
end Go.Proofs.YtkaekiodjjhjkaaDoor
