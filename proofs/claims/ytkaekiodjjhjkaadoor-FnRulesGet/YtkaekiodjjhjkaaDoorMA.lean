/- Plain mathematics of ranges: bits of numbers, the least number of a range, tidy ranges. -/
import Derived.WalkKit
import Derived.WalkSpells
import Derived.WalkLawsBesides
import Derived.Laws.BitsAllLaws
import Derived.Laws.MathBits
namespace Go.Proofs.YtkaekiodjjhjkaaDoor
open Go.RowKit
set_option linter.unusedVariables false
set_option linter.unusedSimpArgs false

theorem hid {p : Prop} (h : p) : Hid p := h
theorem ofInt64 (n : Int) : (BitVec.ofInt 64 n).toNat = (n % 18446744073709551616).toNat := by
  rw [BitVec.toNat_ofInt]; rfl

theorem and_i64 (a b : Nat) (ha : a < 9223372036854775808) (hb : b < 9223372036854775808) : bits .and .i64 (a : Int) (b : Int) = ((a &&& b : Nat) : Int) := by
  have hx : a &&& b < 2 ^ 63 := Nat.and_lt_two_pow _ (by omega)
  show IntKind.i64.wrap ((BitVec.ofInt 64 (a : Int) &&& BitVec.ofInt 64 (b : Int)).toNat : Int) = _
  rw [BitVec.toNat_and, ofInt64, ofInt64, IntKind.wrap_i64]
  rw [show ((a : Int) % 18446744073709551616).toNat = a from by omega, show ((b : Int) % 18446744073709551616).toNat = b from by omega]
  omega
theorem or_i64 (a b : Nat) (ha : a < 9223372036854775808) (hb : b < 9223372036854775808) : bits .or .i64 (a : Int) (b : Int) = ((a ||| b : Nat) : Int) := by
  have hx : a ||| b < 2 ^ 63 := Nat.or_lt_two_pow (by omega) (by omega)
  show IntKind.i64.wrap ((BitVec.ofInt 64 (a : Int) ||| BitVec.ofInt 64 (b : Int)).toNat : Int) = _
  rw [BitVec.toNat_or, ofInt64, ofInt64, IntKind.wrap_i64]
  rw [show ((a : Int) % 18446744073709551616).toNat = a from by omega, show ((b : Int) % 18446744073709551616).toNat = b from by omega]
  omega
theorem xor_i64 (a b : Nat) (ha : a < 9223372036854775808) (hb : b < 9223372036854775808) : bits .xor .i64 (a : Int) (b : Int) = ((a ^^^ b : Nat) : Int) := by
  have hx : a ^^^ b < 2 ^ 63 := Nat.xor_lt_two_pow (by omega) (by omega)
  show IntKind.i64.wrap ((BitVec.ofInt 64 (a : Int) ^^^ BitVec.ofInt 64 (b : Int)).toNat : Int) = _
  rw [BitVec.toNat_xor, ofInt64, ofInt64, IntKind.wrap_i64]
  rw [show ((a : Int) % 18446744073709551616).toNat = a from by omega, show ((b : Int) % 18446744073709551616).toNat = b from by omega]
  omega

def top : Nat := 4294967295
theorem top_eq : top = 2 ^ 32 - 1 := rfl
theorem top_bit (i : Nat) : top.testBit i = decide (i < 32) := by rw [top_eq, Nat.testBit_two_pow_sub_one]
theorem high_bit {a i : Nat} (h : a ≤ 4294967295) (hi : ¬ i < 32) : a.testBit i = false :=
  Nat.testBit_lt_two_pow (Nat.lt_of_lt_of_le (by omega : a < 2 ^ 32) (Nat.pow_le_pow_right (by omega) (by omega)))

theorem le_top_of {a : Nat} (h : a < 2 ^ 32) : a ≤ 4294967295 := by omega
theorem and_le {a : Nat} (b : Nat) (h : a ≤ 4294967295) : a &&& b ≤ 4294967295 := Nat.le_trans Nat.and_le_left h
theorem and_le' (a : Nat) {b : Nat} (h : b ≤ 4294967295) : a &&& b ≤ 4294967295 := Nat.le_trans Nat.and_le_right h
theorem or_le {a b : Nat} (h : a ≤ 4294967295) (h' : b ≤ 4294967295) : a ||| b ≤ 4294967295 := le_top_of (Nat.or_lt_two_pow (by omega) (by omega))
theorem xor_le {a b : Nat} (h : a ≤ 4294967295) (h' : b ≤ 4294967295) : a ^^^ b ≤ 4294967295 := le_top_of (Nat.xor_lt_two_pow (by omega) (by omega))

/-- All bits of a number of 32 bits turned round. -/
def notB (o : Nat) : Nat := top ^^^ o
theorem not_le {o : Nat} (h : o ≤ 4294967295) : notB o ≤ 4294967295 := xor_le (by decide) h
theorem not_bit (o i : Nat) : (notB o).testBit i = (decide (i < 32) ^^ o.testBit i) := by rw [notB, Nat.testBit_xor, top_bit]

theorem andNot_i64 (a b : Nat) (ha : a ≤ 4294967295) (hb : b ≤ 4294967295) : bits .andNot .i64 (a : Int) (b : Int) = ((a &&& notB b : Nat) : Int) := by
  have hx : a &&& notB b < 2 ^ 63 := Nat.lt_of_le_of_lt (and_le _ ha) (by omega)
  have e : a &&& (2 ^ 64 - (b + 1)) = a &&& notB b := by
    apply Nat.eq_of_testBit_eq
    intro i
    rw [Nat.testBit_and, Nat.testBit_and, Nat.testBit_two_pow_sub_succ (by omega), not_bit]
    by_cases hi : i < 32
    · simp [hi, show i < 64 by omega]
    · simp [high_bit ha hi]
  show IntKind.i64.wrap ((BitVec.ofInt 64 (a : Int) &&& ~~~BitVec.ofInt 64 (b : Int)).toNat : Int) = _
  rw [BitVec.toNat_and, BitVec.toNat_not, ofInt64, ofInt64, IntKind.wrap_i64]
  rw [show ((a : Int) % 18446744073709551616).toNat = a from by omega, show ((b : Int) % 18446744073709551616).toNat = b from by omega]
  rw [show 2 ^ 64 - 1 - b = 2 ^ 64 - (b + 1) from by omega, e]
  omega

theorem xor_top (M : Nat) (h : M ≤ 4294967295) : bits .xor .i64 4294967295 (M : Int) = ((notB M : Nat) : Int) := by
  have e := xor_i64 top M (by unfold top; omega) (by omega)
  rw [show ((top : Nat) : Int) = 4294967295 by simp [top]] at e
  rw [e, notB]

/-- A number has the bits that are known. -/
def hasN (b o n : Nat) : Bool := n &&& notB o == b

/-- The number that is above 'lo' first at bit 'j', and no more than must be below. -/
def cand (lo b j : Nat) : Nat := (lo &&& notB (2 ^ j - 1)) ||| 2 ^ j ||| (b &&& (2 ^ j - 1))
def val (lo b : Nat) : Nat → Nat
  | 0 => lo
  | j + 1 => cand lo b j
def valid (lo b o : Nat) : Nat → Bool
  | 0 => hasN b o lo
  | j + 1 => !lo.testBit j && hasN b o (cand lo b j)
/-- The first of those that are valid among the first 'k'; -1, if there is none. -/
def upTo (lo b o : Nat) : Nat → Int
  | 0 => -1
  | k + 1 => if 0 ≤ upTo lo b o k then upTo lo b o k else if valid lo b o k then (val lo b k : Int) else -1

theorem upTo_stays {lo b o k m : Nat} (h : 0 ≤ upTo lo b o k) (hm : k ≤ m) : upTo lo b o m = upTo lo b o k := by
  induction m with
  | zero => obtain rfl : k = 0 := by omega
            rfl
  | succ m ih =>
    by_cases e : k = m + 1
    · rw [e]
    · have := ih (by omega)
      rw [upTo, this, if_pos h]

theorem upTo_none {lo b o k : Nat} (h : ¬ 0 ≤ upTo lo b o k) : upTo lo b o k = -1 := by
  cases k with
  | zero => rfl
  | succ k =>
    rw [upTo] at h ⊢
    split at h
    · rename_i h'; exact absurd h' h
    · rename_i h'
      rw [if_neg h']
      split at h
      · omega
      · rename_i h''; rw [if_neg h'']

theorem upTo_is {lo b o k : Nat} (h : 0 ≤ upTo lo b o k) : ∃ i, i < k ∧ valid lo b o i = true ∧ upTo lo b o k = val lo b i := by
  induction k with
  | zero => simp [upTo] at h
  | succ k ih =>
    rw [upTo] at h ⊢
    by_cases h' : 0 ≤ upTo lo b o k
    · rw [if_pos h']
      obtain ⟨i, h1, h2, h3⟩ := ih h'
      exact ⟨i, by omega, h2, h3⟩
    · rw [if_neg h'] at h ⊢
      by_cases hv : valid lo b o k = true
      · rw [if_pos hv]; exact ⟨k, by omega, hv, rfl⟩
      · rw [if_neg hv] at h; omega

theorem lt_of_bit {x y : Nat} (j : Nat) (hx : x.testBit j = false) (hy : y.testBit j = true) (H : ∀ i, j < i → x.testBit i = y.testBit i) : x < y := by
  have h1 : x / 2 ^ j / 2 = y / 2 ^ j / 2 := by
    apply Nat.eq_of_testBit_eq
    intro i
    rw [Nat.testBit_div_two, Nat.testBit_div_two, Nat.testBit_div_two_pow, Nat.testBit_div_two_pow]
    exact H _ (by omega)
  rw [Nat.testBit_eq_decide_div_mod_eq] at hx hy
  have hx := of_decide_eq_false hx
  have hy := of_decide_eq_true hy
  have h2 : x / 2 ^ j < y / 2 ^ j := by omega
  have h3 : x < (x / 2 ^ j + 1) * 2 ^ j := by
    have := Nat.lt_div_mul_add (a := x) (b := 2 ^ j) (Nat.two_pow_pos j)
    rw [Nat.add_mul]; omega
  have h4 : (x / 2 ^ j + 1) * 2 ^ j ≤ y / 2 ^ j * 2 ^ j := Nat.mul_le_mul_right _ h2
  have h5 : y / 2 ^ j * 2 ^ j ≤ y := Nat.div_mul_le_self _ _
  omega

theorem pow_bit (j i : Nat) : (2 ^ j).testBit i = decide (j = i) := by rw [Nat.testBit_two_pow]
theorem mask_bit (j i : Nat) : (2 ^ j - 1).testBit i = decide (i < j) := by rw [Nat.testBit_two_pow_sub_one]
theorem pow_le {j : Nat} (h : j < 32) : 2 ^ j ≤ 4294967295 := by
  have : 2 ^ j ≤ 2 ^ 31 := Nat.pow_le_pow_right (by omega) (by omega)
  omega
theorem mask_le {j : Nat} (h : j ≤ 32) : 2 ^ j - 1 ≤ 4294967295 := by
  have : 2 ^ j ≤ 2 ^ 32 := Nat.pow_le_pow_right (by omega) (by omega)
  omega
theorem cand_bit {lo b j i : Nat} (hl : lo ≤ 4294967295) (hj : j < 32) : (cand lo b j).testBit i = if i < j then b.testBit i else if i = j then true else lo.testBit i := by
  rw [cand, Nat.testBit_or, Nat.testBit_or, Nat.testBit_and, Nat.testBit_and, not_bit, pow_bit, mask_bit]
  by_cases h1 : i < j
  · have : i < 32 := by omega
    simp [h1, this, show j ≠ i by omega]
  · by_cases h2 : i = j
    · subst h2; simp
    · by_cases h3 : i < 32
      · simp [h1, h2, h3, show j ≠ i by omega]
      · simp [h1, h2, h3, show j ≠ i by omega, high_bit hl h3]
theorem cand_le {lo b j : Nat} (hl : lo ≤ 4294967295) (hb : b ≤ 4294967295) (hj : j < 32) : cand lo b j ≤ 4294967295 :=
  or_le (or_le (and_le _ hl) (pow_le hj)) (and_le _ hb)
theorem val_le {lo b : Nat} (hl : lo ≤ 4294967295) (hb : b ≤ 4294967295) : ∀ {i : Nat}, i < 33 → val lo b i ≤ 4294967295
  | 0, _ => hl
  | j + 1, h => cand_le hl hb (by omega)

theorem lt_cand {lo b j : Nat} (hl : lo ≤ 4294967295) (hb : b ≤ 4294967295) (hj : j < 32) (h0 : lo.testBit j = false) : lo < cand lo b j := by
  refine lt_of_bit j h0 ?_ ?_
  · rw [cand_bit hl hj]; simp
  · intro i hi
    rw [cand_bit hl hj, if_neg (by omega), if_neg (by omega)]
theorem cand_lt {lo b i j : Nat} (hl : lo ≤ 4294967295) (hb : b ≤ 4294967295) (hj : j < 32) (hij : i < j) (h0 : lo.testBit j = false) : cand lo b i < cand lo b j := by
  refine lt_of_bit j ?_ ?_ ?_
  · rw [cand_bit hl (by omega), if_neg (by omega), if_neg (by omega), h0]
  · rw [cand_bit hl hj]; simp
  · intro k hk
    rw [cand_bit hl hj, if_neg (by omega), if_neg (by omega), cand_bit hl (by omega), if_neg (by omega), if_neg (by omega)]
theorem val_lt {lo b o i j : Nat} (hl : lo ≤ 4294967295) (hb : b ≤ 4294967295) (hj : j < 33) (hij : i < j) (hv : valid lo b o j = true) : val lo b i < val lo b j := by
  cases j with
  | zero => omega
  | succ j =>
    have h0 : lo.testBit j = false := by simp [valid] at hv; simp [hv.1]
    cases i with
    | zero => exact lt_cand hl hb (by omega) h0
    | succ i => exact cand_lt hl hb (by omega) (by omega) h0

/-- What stands already is less than any that comes behind it. -/
theorem upTo_lt {lo b o k : Nat} (hl : lo ≤ 4294967295) (hb : b ≤ 4294967295) (hk : k < 33) (hv : valid lo b o k = true) : upTo lo b o k < val lo b k := by
  by_cases h : 0 ≤ upTo lo b o k
  · obtain ⟨i, h1, _, h3⟩ := upTo_is h
    have := val_lt (o := o) hl hb hk h1 hv
    omega
  · rw [upTo_none h]; omega

def nextN (lo b o : Nat) : Int := upTo lo b o 33

theorem has_bit {b o n : Nat} (hn : n ≤ 4294967295) (hb : b ≤ 4294967295) : hasN b o n = true ↔ ∀ i, i < 32 → (n.testBit i && !o.testBit i) = b.testBit i := by
  rw [hasN, beq_iff_eq]
  constructor
  · intro h i hi
    rw [← h, Nat.testBit_and, not_bit]; simp [hi]
  · intro h
    apply Nat.eq_of_testBit_eq
    intro i
    rw [Nat.testBit_and, not_bit]
    by_cases hi : i < 32
    · simp [hi, h i hi]
    · simp [high_bit hn hi, high_bit hb hi]

theorem disj_bit {b o : Nat} (h : b &&& o = 0) (i : Nat) : (b.testBit i && o.testBit i) = false := by
  rw [← Nat.testBit_and, h]; simp

/-- 'x' is no more than 'y', if it has no bit that 'y' has not. -/
theorem le_of_bits {x y : Nat} (h : ∀ i, x.testBit i = true → y.testBit i = true) : x ≤ y := by
  have : x &&& y = x := by
    apply Nat.eq_of_testBit_eq
    intro i
    rw [Nat.testBit_and]
    cases hx : x.testBit i
    · rfl
    · simp [h i hx]
  rw [← this]
  exact Nat.and_le_right

/-- No number of the bits that are known, not below 'lo', is less than 'nextN'. -/
theorem next_le {lo b o n : Nat} (hl : lo ≤ 4294967295) (hb : b ≤ 4294967295) (ho : o ≤ 4294967295) (hd : b &&& o = 0) (hn : n ≤ 4294967295) (hh : hasN b o n = true) (hle : lo ≤ n) :
    0 ≤ nextN lo b o ∧ nextN lo b o ≤ n := by
  have key : ∃ i, i < 33 ∧ valid lo b o i = true ∧ val lo b i ≤ n := by
    by_cases e : lo = n
    · subst e; exact ⟨0, by omega, hh, Nat.le_refl _⟩
    · have hx0 : lo ^^^ n ≠ 0 := by
        intro h; apply e
        apply Nat.eq_of_testBit_eq; intro i
        have := congrArg (fun z => Nat.testBit z i) h
        simp [Nat.testBit_xor] at this
        exact this
      have hx : lo ^^^ n ≤ 4294967295 := xor_le hl hn
      have hj : (lo ^^^ n).log2 < 32 := (Nat.log2_lt hx0).2 (by omega)
      have habove : ∀ i, (lo ^^^ n).log2 < i → lo.testBit i = n.testBit i := by
        intro i hi
        have h1 : (lo ^^^ n).testBit i = false := Nat.testBit_lt_two_pow (Nat.lt_of_lt_of_le ((Nat.log2_lt hx0).1 (Nat.lt_succ_self _)) (Nat.pow_le_pow_right (by omega) hi))
        rw [Nat.testBit_xor] at h1
        simpa using h1
      have hat : (lo ^^^ n).testBit (lo ^^^ n).log2 = true := Nat.testBit_log2 hx0
      rw [Nat.testBit_xor] at hat
      generalize (lo ^^^ n).log2 = j at *
      have h0 : lo.testBit j = false := by
        cases hlo : lo.testBit j
        · rfl
        · have hnj : n.testBit j = false := by rw [hlo] at hat; simpa using hat
          have := lt_of_bit j hnj hlo (fun k hk => (habove k hk).symm)
          omega
      have h1 : n.testBit j = true := by rw [h0] at hat; simpa using hat
      have hbit := (has_bit hn hb).1 hh
      refine ⟨j + 1, by omega, ?_, ?_⟩
      · simp only [valid, h0, Bool.not_false, Bool.true_and]
        rw [has_bit (cand_le hl hb hj) hb]
        intro i hi
        rw [cand_bit hl hj]
        by_cases g1 : i < j
        · rw [if_pos g1]
          have := disj_bit hd i
          cases hbi : b.testBit i <;> simp [hbi] at this ⊢ <;> simp [this]
        · by_cases g2 : i = j
          · subst g2; rw [← hbit i hi, h1]; simp
          · rw [if_neg g1, if_neg g2, habove i (by omega), hbit i hi]
      · apply le_of_bits
        intro i hi
        show n.testBit i = true
        have hi' : (cand lo b j).testBit i = true := hi
        rw [cand_bit hl hj] at hi'
        by_cases g1 : i < j
        · rw [if_pos g1] at hi'
          have := hbit i (by omega)
          rw [hi'] at this
          simp at this; exact this.1
        · by_cases g2 : i = j
          · subst g2; exact h1
          · rw [if_neg g1, if_neg g2, habove i (by omega)] at hi'; exact hi'
  obtain ⟨i, h1, h2, h3⟩ := key
  have hs : 0 ≤ upTo lo b o (i + 1) ∧ upTo lo b o (i + 1) ≤ val lo b i := by
    rw [upTo]
    by_cases g : 0 ≤ upTo lo b o i
    · rw [if_pos g]; have := upTo_lt hl hb h1 h2; omega
    · rw [if_neg g, if_pos h2]; omega
  have := upTo_stays hs.1 (show i + 1 ≤ 33 by omega)
  unfold nextN
  omega

/-- What 'nextN' finds has the bits that are known, and is not below 'lo'. -/
theorem next_is {lo b o : Nat} (hl : lo ≤ 4294967295) (hb : b ≤ 4294967295) (h : 0 ≤ nextN lo b o) : ∃ n : Nat, nextN lo b o = n ∧ lo ≤ n ∧ n ≤ 4294967295 ∧ hasN b o n = true := by
  obtain ⟨i, h1, h2, h3⟩ := upTo_is h
  refine ⟨val lo b i, h3, ?_, val_le hl hb h1, ?_⟩
  · cases i with
    | zero => exact Nat.le_refl _
    | succ j =>
      simp [valid] at h2
      exact Nat.le_of_lt (lt_cand hl hb (by omega) h2.1)
  · cases i with
    | zero => exact h2
    | succ j => simp [valid] at h2; exact h2.2

end Go.Proofs.YtkaekiodjjhjkaaDoor
