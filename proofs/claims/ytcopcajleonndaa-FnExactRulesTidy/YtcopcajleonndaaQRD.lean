/- Plain facts for the specification's search of the least number. -/
import Derived.Test.YtcopcajleonndaaQRC
namespace Go.Proofs.Ytcopcajleonndaa
open Go.RowKit
set_option linter.unusedVariables false
set_option linter.unusedSimpArgs false

theorem shr_nat (n j : Nat) : (n : Int) / (2 : Int) ^ j = ((n / 2 ^ j : Nat) : Int) := by simp
theorem and_one (n : Nat) (h : n ≤ 4294967295) : bits .and .i64 (n : Int) 1 = ((n % 2 : Nat) : Int) := by
  have e := and_i64 n 1 (by omega) (by omega)
  rw [Nat.and_one_is_mod] at e
  exact e
theorem bit_is (n j : Nat) : n / 2 ^ j % 2 = if n.testBit j then 1 else 0 := by
  rw [Nat.testBit_eq_decide_div_mod_eq]
  by_cases h : n / 2 ^ j % 2 = 1
  · simp [h]
  · simp [h]; omega

/-- The number that the specification tries at bit 'j': the bits above, and that one. -/
def tryN (n j : Nat) : Nat := (n &&& notB (2 ^ (j + 1) - 1)) ||| 2 ^ j
theorem try_le {n j : Nat} (hn : n ≤ 4294967295) (hj : j < 32) : tryN n j ≤ 4294967295 := or_le (and_le _ hn) (pow_le hj)
theorem try_bit {n j : Nat} (hn : n ≤ 4294967295) (hj : j < 32) (i : Nat) : (tryN n j).testBit i = (decide (j < i) && n.testBit i || decide (j = i)) := by
  rw [tryN, Nat.testBit_or, Nat.testBit_and, not_bit, mask_bit, pow_bit]
  by_cases h1 : i < 32
  · by_cases h2 : j = i
    · simp [h2]
    · by_cases h3 : j < i
      · simp [h1, h2, h3, show ¬ i < j + 1 by omega]
      · simp [h1, h2, h3, show i < j + 1 by omega]
  · simp [h1, high_bit hn h1]
theorem over_bit (j i : Nat) : (notB (2 ^ j - 1)).testBit i = (decide (i < 32) ^^ decide (i < j)) := by rw [not_bit, mask_bit]
theorem notnot_bit {j : Nat} (hj : j < 32) (i : Nat) : (notB (notB (2 ^ j - 1))).testBit i = decide (i < j) := by
  rw [not_bit, not_bit, mask_bit]
  by_cases h : i < 32
  · simp [h]
  · simp [h, show ¬ i < j by omega]

theorem try_is {n b j : Nat} (hn : n ≤ 4294967295) (hb : b ≤ 4294967295) (hj : j < 32) :
    (tryN n j &&& notB (2 ^ j - 1)) ||| (b &&& notB (notB (2 ^ j - 1))) = cand n b j := by
  apply Nat.eq_of_testBit_eq
  intro i
  rw [cand_bit hn hj, Nat.testBit_or, Nat.testBit_and, Nat.testBit_and, notnot_bit hj, over_bit, try_bit hn hj]
  by_cases h1 : i < 32
  · by_cases h2 : i < j
    · simp [h1, h2, show ¬ j < i by omega, show j ≠ i by omega]
    · by_cases h3 : i = j
      · subst h3; simp [h1]
      · simp [h1, h2, h3, show j < i by omega, show j ≠ i by omega]
  · simp [h1, show ¬ i < j by omega, show i ≠ j by omega, high_bit hn h1]

theorem try_has {n b o j : Nat} (hn : n ≤ 4294967295) (hb : b ≤ 4294967295) (hd : b &&& o = 0) (hj : j < 32) :
    (tryN n j &&& notB o &&& notB (2 ^ j - 1) = b &&& notB (2 ^ j - 1)) ↔ hasN b o (cand n b j) = true := by
  rw [has_bit (cand_le hn hb hj) hb]
  constructor
  · intro h i hi
    have e := congrArg (fun z => Nat.testBit z i) h
    simp only [Nat.testBit_and, over_bit, try_bit hn hj, not_bit] at e
    rw [cand_bit hn hj]
    have h0 := disj_bit hd i
    by_cases h2 : i < j
    · rw [if_pos h2]; revert h0; cases b.testBit i <;> cases o.testBit i <;> simp
    · by_cases h3 : i = j
      · subst h3; simp [hi] at e; simp [e]
      · rw [if_neg h2, if_neg h3]
        simp [hi, h2, show j < i by omega, show j ≠ i by omega] at e
        exact e
  · intro h
    apply Nat.eq_of_testBit_eq
    intro i
    rw [Nat.testBit_and, Nat.testBit_and, Nat.testBit_and, over_bit, try_bit hn hj, not_bit]
    by_cases h1 : i < 32
    · have e := h i h1
      rw [cand_bit hn hj] at e
      by_cases h2 : i < j
      · simp [h1, h2]
      · by_cases h3 : i = j
        · subst h3; simp at e; simp [h1, e]
        · rw [if_neg h2, if_neg h3] at e
          simp [h1, h2, show j < i by omega, show j ≠ i by omega, e]
    · simp [h1, high_bit hb h1, show ¬ i < j by omega]

theorem upTo_ge {lo b o k : Nat} : -1 ≤ upTo lo b o k := by
  by_cases h : 0 ≤ upTo lo b o k
  · omega
  · rw [upTo_none h]; omega
theorem upTo_top {lo b o k : Nat} (hl : lo ≤ 4294967295) (hb : b ≤ 4294967295) (hk : k ≤ 33) : upTo lo b o k ≤ 4294967295 := by
  by_cases h : 0 ≤ upTo lo b o k
  · obtain ⟨i, h1, _, h3⟩ := upTo_is h
    have := val_le hl hb (show i < 33 by omega)
    omega
  · rw [upTo_none h]; omega
theorem upTo_skip {lo b o k : Nat} (h : valid lo b o k = false) : upTo lo b o (k + 1) = upTo lo b o k := by
  rw [upTo]
  by_cases g : 0 ≤ upTo lo b o k
  · rw [if_pos g]
  · rw [if_neg g, h, if_neg (by simp), upTo_none g]
theorem upTo_keep {lo b o k : Nat} (g : 0 ≤ upTo lo b o k) : upTo lo b o (k + 1) = upTo lo b o k := by rw [upTo, if_pos g]
theorem upTo_take {lo b o k : Nat} (h : valid lo b o k = true) (g : ¬ 0 ≤ upTo lo b o k) : upTo lo b o (k + 1) = val lo b k := by rw [upTo, if_neg g, if_pos h]

theorem and_top {n : Nat} (h : n ≤ 4294967295) : bits .and .i64 (n : Int) 4294967295 = n := by
  have e := and_i64 n top (by omega) (by unfold top; omega)
  rw [show ((top : Nat) : Int) = 4294967295 by simp [top]] at e
  rw [e]
  congr 1
  rw [top_eq, Nat.and_two_pow_sub_one_eq_mod]
  exact Nat.mod_eq_of_lt (by omega)
end Go.Proofs.Ytcopcajleonndaa
