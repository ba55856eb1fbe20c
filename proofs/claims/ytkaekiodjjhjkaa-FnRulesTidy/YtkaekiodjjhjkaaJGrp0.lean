/- Plain mathematics of ranges: bits of numbers, the least number of a range, tidy ranges. -/
import Derived.WalkKit
import Derived.WalkSpells
import Derived.WalkLawsBesides
import Derived.Laws.BitsAllLaws
import Derived.Laws.MathBits
import Derived.Test.YtkaekiodjjhjkaaRows
import Derived.Deep.QuietTactic
import Derived.BigQuiet
import Derived.Below
import Derived.Laws.BytesArg
import Derived.MapKept
set_option maxRecDepth 100000
set_option maxHeartbeats 4000000
set_option linter.unusedSimpArgs false
set_option linter.unusedVariables false
namespace Go.Proofs.Ytkaekiodjjhjkaa
open Go.RowKit
theorem hid {p : Prop} (h : p) : Hid p := h
theorem ofInt64 (n : Int) : (BitVec.ofInt 64 n).toNat = (n % 18446744073709551616).toNat := by
 rw [BitVec.toNat_ofInt]; rfl
theorem and_i64 (a b : Nat) (ha : a < 9223372036854775808) (hb : b < 9223372036854775808) : bits .and .i64 (a : Int) (b : Int) = ((a &&& b : Nat) : Int) := by
 have hx : a &&& b < 2 ^ 63 := Nat.and_lt_two_pow _ (by omega)
 show IntKind.i64.wrap ((BitVec.ofInt 64 (a : Int) &&& BitVec.ofInt 64 (b : Int)).toNat : Int) = _
 rw [BitVec.toNat_and, ofInt64, ofInt64, IntKind.wrap_i64]
 rw [show ((a : Int) % 18446744073709551616).toNat = a from by omega, show ((b : Int) % 18446744073709551616).toNat = b from by omega]
 omega
theorem or_i64 (a b : Nat) (ha : a < 9223372036854775808) (hb : b < 9223372036854775808) : bits .or .i64 (a : Int) (b : Int) = ((a ||| b : Nat) : Int) := by
 have hx : a ||| b < 2 ^ 63 := Nat.or_lt_two_pow (by omega) (by omega)
 show IntKind.i64.wrap ((BitVec.ofInt 64 (a : Int) ||| BitVec.ofInt 64 (b : Int)).toNat : Int) = _
 rw [BitVec.toNat_or, ofInt64, ofInt64, IntKind.wrap_i64]
 rw [show ((a : Int) % 18446744073709551616).toNat = a from by omega, show ((b : Int) % 18446744073709551616).toNat = b from by omega]
 omega
theorem xor_i64 (a b : Nat) (ha : a < 9223372036854775808) (hb : b < 9223372036854775808) : bits .xor .i64 (a : Int) (b : Int) = ((a ^^^ b : Nat) : Int) := by
 have hx : a ^^^ b < 2 ^ 63 := Nat.xor_lt_two_pow (by omega) (by omega)
 show IntKind.i64.wrap ((BitVec.ofInt 64 (a : Int) ^^^ BitVec.ofInt 64 (b : Int)).toNat : Int) = _
 rw [BitVec.toNat_xor, ofInt64, ofInt64, IntKind.wrap_i64]
 rw [show ((a : Int) % 18446744073709551616).toNat = a from by omega, show ((b : Int) % 18446744073709551616).toNat = b from by omega]
 omega
def top : Nat := 4294967295
theorem top_eq : top = 2 ^ 32 - 1 := rfl
theorem top_bit (i : Nat) : top.testBit i = decide (i < 32) := by rw [top_eq, Nat.testBit_two_pow_sub_one]
theorem high_bit {a i : Nat} (h : a ≤ 4294967295) (hi : ¬ i < 32) : a.testBit i = false :=
 Nat.testBit_lt_two_pow (Nat.lt_of_lt_of_le (by omega : a < 2 ^ 32) (Nat.pow_le_pow_right (by omega) (by omega)))
theorem le_top_of {a : Nat} (h : a < 2 ^ 32) : a ≤ 4294967295 := by omega
theorem and_le {a : Nat} (b : Nat) (h : a ≤ 4294967295) : a &&& b ≤ 4294967295 := Nat.le_trans Nat.and_le_left h
theorem or_le {a b : Nat} (h : a ≤ 4294967295) (h' : b ≤ 4294967295) : a ||| b ≤ 4294967295 := le_top_of (Nat.or_lt_two_pow (by omega) (by omega))
theorem xor_le {a b : Nat} (h : a ≤ 4294967295) (h' : b ≤ 4294967295) : a ^^^ b ≤ 4294967295 := le_top_of (Nat.xor_lt_two_pow (by omega) (by omega))
def notB (o : Nat) : Nat := top ^^^ o
theorem not_le {o : Nat} (h : o ≤ 4294967295) : notB o ≤ 4294967295 := xor_le (by decide) h
theorem not_bit (o i : Nat) : (notB o).testBit i = (decide (i < 32) ^^ o.testBit i) := by rw [notB, Nat.testBit_xor, top_bit]
theorem andNot_i64 (a b : Nat) (ha : a ≤ 4294967295) (hb : b ≤ 4294967295) : bits .andNot .i64 (a : Int) (b : Int) = ((a &&& notB b : Nat) : Int) := by
 have hx : a &&& notB b < 2 ^ 63 := Nat.lt_of_le_of_lt (and_le _ ha) (by omega)
 have e : a &&& (2 ^ 64 - (b + 1)) = a &&& notB b := by
  apply Nat.eq_of_testBit_eq
  intro i
  rw [Nat.testBit_and, Nat.testBit_and, Nat.testBit_two_pow_sub_succ (by omega), not_bit]
  by_cases hi : i < 32
  ·simp [hi, show i < 64 by omega]
  ·simp [high_bit ha hi]
 show IntKind.i64.wrap ((BitVec.ofInt 64 (a : Int) &&& ~~~BitVec.ofInt 64 (b : Int)).toNat : Int) = _
 rw [BitVec.toNat_and, BitVec.toNat_not, ofInt64, ofInt64, IntKind.wrap_i64]
 rw [show ((a : Int) % 18446744073709551616).toNat = a from by omega, show ((b : Int) % 18446744073709551616).toNat = b from by omega]
 rw [show 2 ^ 64 - 1 - b = 2 ^ 64 - (b + 1) from by omega, e]
 omega
theorem xor_top (M : Nat) (h : M ≤ 4294967295) : bits .xor .i64 4294967295 (M : Int) = ((notB M : Nat) : Int) := by
 have e := xor_i64 top M (by unfold top; omega) (by omega)
 rw [show ((top : Nat) : Int) = 4294967295 by simp [top]] at e
 rw [e, notB]
def hasN (b o n : Nat) : Bool := n &&& notB o == b
def cand (lo b j : Nat) : Nat := (lo &&& notB (2 ^ j - 1)) ||| 2 ^ j ||| (b &&& (2 ^ j - 1))
def val (lo b : Nat) : Nat → Nat
 | 0 => lo
 | j + 1 => cand lo b j
def valid (lo b o : Nat) : Nat → Bool
 | 0 => hasN b o lo
 | j + 1 => !lo.testBit j && hasN b o (cand lo b j)
def upTo (lo b o : Nat) : Nat → Int
 | 0 => -1
 | k + 1 => if 0 ≤ upTo lo b o k then upTo lo b o k else if valid lo b o k then (val lo b k : Int) else -1
theorem upTo_stays {lo b o k m : Nat} (h : 0 ≤ upTo lo b o k) (hm : k ≤ m) : upTo lo b o m = upTo lo b o k := by
 induction m with
 | zero => obtain rfl : k = 0 := by omega
           rfl
 | succ m ih =>
   by_cases e : k = m + 1
   ·rw [e]
   ·have := ih (by omega)
    rw [upTo, this, if_pos h]
theorem upTo_none {lo b o k : Nat} (h : ¬ 0 ≤ upTo lo b o k) : upTo lo b o k = -1 := by
 cases k with
 | zero => rfl
 | succ k =>
   rw [upTo] at h ⊢
   split at h
   ·rename_i h'; exact absurd h' h
   ·rename_i h'
    rw [if_neg h']
    split at h
    ·omega
    ·rename_i h''; rw [if_neg h'']
theorem upTo_is {lo b o k : Nat} (h : 0 ≤ upTo lo b o k) : ∃ i, i < k ∧ valid lo b o i = true ∧ upTo lo b o k = val lo b i := by
 induction k with
 | zero => simp [upTo] at h
 | succ k ih =>
   rw [upTo] at h ⊢
   by_cases h' : 0 ≤ upTo lo b o k
   ·rw [if_pos h']
    obtain ⟨i, h1, h2, h3⟩ := ih h'
    exact ⟨i, by omega, h2, h3⟩
   ·rw [if_neg h'] at h ⊢
    by_cases hv : valid lo b o k = true
    ·rw [if_pos hv]; exact ⟨k, by omega, hv, rfl⟩
    ·rw [if_neg hv] at h; omega
theorem lt_of_bit {x y : Nat} (j : Nat) (hx : x.testBit j = false) (hy : y.testBit j = true) (H : ∀ i, j < i → x.testBit i = y.testBit i) : x < y := by
 have h1 : x / 2 ^ j / 2 = y / 2 ^ j / 2 := by
  apply Nat.eq_of_testBit_eq
  intro i
  rw [Nat.testBit_div_two, Nat.testBit_div_two, Nat.testBit_div_two_pow, Nat.testBit_div_two_pow]
  exact H _ (by omega)
 rw [Nat.testBit_eq_decide_div_mod_eq] at hx hy
 have hx := of_decide_eq_false hx
 have hy := of_decide_eq_true hy
 have h2 : x / 2 ^ j < y / 2 ^ j := by omega
 have h3 : x < (x / 2 ^ j + 1) * 2 ^ j := by
  have := Nat.lt_div_mul_add (a := x) (b := 2 ^ j) (Nat.two_pow_pos j)
  rw [Nat.add_mul]; omega
 have h4 : (x / 2 ^ j + 1) * 2 ^ j ≤ y / 2 ^ j * 2 ^ j := Nat.mul_le_mul_right _ h2
 have h5 : y / 2 ^ j * 2 ^ j ≤ y := Nat.div_mul_le_self _ _
 omega
theorem pow_bit (j i : Nat) : (2 ^ j).testBit i = decide (j = i) := by rw [Nat.testBit_two_pow]
theorem mask_bit (j i : Nat) : (2 ^ j - 1).testBit i = decide (i < j) := by rw [Nat.testBit_two_pow_sub_one]
theorem pow_le {j : Nat} (h : j < 32) : 2 ^ j ≤ 4294967295 := by
 have : 2 ^ j ≤ 2 ^ 31 := Nat.pow_le_pow_right (by omega) (by omega)
 omega
theorem mask_le {j : Nat} (h : j ≤ 32) : 2 ^ j - 1 ≤ 4294967295 := by
 have : 2 ^ j ≤ 2 ^ 32 := Nat.pow_le_pow_right (by omega) (by omega)
 omega
theorem cand_bit {lo b j i : Nat} (hl : lo ≤ 4294967295) (hj : j < 32) : (cand lo b j).testBit i = if i < j then b.testBit i else if i = j then true else lo.testBit i := by
 rw [cand, Nat.testBit_or, Nat.testBit_or, Nat.testBit_and, Nat.testBit_and, not_bit, pow_bit, mask_bit]
 by_cases h1 : i < j
 ·have : i < 32 := by omega
  simp [h1, this, show j ≠ i by omega]
 ·by_cases h2 : i = j
  ·subst h2; simp
  ·by_cases h3 : i < 32
   ·simp [h1, h2, h3, show j ≠ i by omega]
   ·simp [h1, h2, h3, show j ≠ i by omega, high_bit hl h3]
theorem cand_le {lo b j : Nat} (hl : lo ≤ 4294967295) (hb : b ≤ 4294967295) (hj : j < 32) : cand lo b j ≤ 4294967295 :=
 or_le (or_le (and_le _ hl) (pow_le hj)) (and_le _ hb)
theorem val_le {lo b : Nat} (hl : lo ≤ 4294967295) (hb : b ≤ 4294967295) : ∀ {i : Nat}, i < 33 → val lo b i ≤ 4294967295
 | 0, _ => hl
 | j + 1, h => cand_le hl hb (by omega)
theorem lt_cand {lo b j : Nat} (hl : lo ≤ 4294967295) (hb : b ≤ 4294967295) (hj : j < 32) (h0 : lo.testBit j = false) : lo < cand lo b j := by
 refine lt_of_bit j h0 ?_ ?_
 ·rw [cand_bit hl hj]; simp
 ·intro i hi
  rw [cand_bit hl hj, if_neg (by omega), if_neg (by omega)]
theorem cand_lt {lo b i j : Nat} (hl : lo ≤ 4294967295) (hb : b ≤ 4294967295) (hj : j < 32) (hij : i < j) (h0 : lo.testBit j = false) : cand lo b i < cand lo b j := by
 refine lt_of_bit j ?_ ?_ ?_
 ·rw [cand_bit hl (by omega), if_neg (by omega), if_neg (by omega), h0]
 ·rw [cand_bit hl hj]; simp
 ·intro k hk
  rw [cand_bit hl hj, if_neg (by omega), if_neg (by omega), cand_bit hl (by omega), if_neg (by omega), if_neg (by omega)]
theorem val_lt {lo b o i j : Nat} (hl : lo ≤ 4294967295) (hb : b ≤ 4294967295) (hj : j < 33) (hij : i < j) (hv : valid lo b o j = true) : val lo b i < val lo b j := by
 cases j with
 | zero => omega
 | succ j =>
   have h0 : lo.testBit j = false := by simp [valid] at hv; simp [hv.1]
   cases i with
   | zero => exact lt_cand hl hb (by omega) h0
   | succ i => exact cand_lt hl hb (by omega) (by omega) h0
theorem upTo_lt {lo b o k : Nat} (hl : lo ≤ 4294967295) (hb : b ≤ 4294967295) (hk : k < 33) (hv : valid lo b o k = true) : upTo lo b o k < val lo b k := by
 by_cases h : 0 ≤ upTo lo b o k
 ·obtain ⟨i, h1, _, h3⟩ := upTo_is h
  have := val_lt (o := o) hl hb hk h1 hv
  omega
 ·rw [upTo_none h]; omega
def nextN (lo b o : Nat) : Int := upTo lo b o 33
theorem has_bit {b o n : Nat} (hn : n ≤ 4294967295) (hb : b ≤ 4294967295) : hasN b o n = true ↔ ∀ i, i < 32 → (n.testBit i && !o.testBit i) = b.testBit i := by
 rw [hasN, beq_iff_eq]
 constructor
 ·intro h i hi
  rw [← h, Nat.testBit_and, not_bit]; simp [hi]
 ·intro h
  apply Nat.eq_of_testBit_eq
  intro i
  rw [Nat.testBit_and, not_bit]
  by_cases hi : i < 32
  ·simp [hi, h i hi]
  ·simp [high_bit hn hi, high_bit hb hi]
theorem disj_bit {b o : Nat} (h : b &&& o = 0) (i : Nat) : (b.testBit i && o.testBit i) = false := by
 rw [← Nat.testBit_and, h]; simp
theorem le_of_bits {x y : Nat} (h : ∀ i, x.testBit i = true → y.testBit i = true) : x ≤ y := by
 have : x &&& y = x := by
  apply Nat.eq_of_testBit_eq
  intro i
  rw [Nat.testBit_and]
  cases hx : x.testBit i
  ·rfl
  ·simp [h i hx]
 rw [← this]
 exact Nat.and_le_right
theorem next_le {lo b o n : Nat} (hl : lo ≤ 4294967295) (hb : b ≤ 4294967295) (ho : o ≤ 4294967295) (hd : b &&& o = 0) (hn : n ≤ 4294967295) (hh : hasN b o n = true) (hle : lo ≤ n) :
 0 ≤ nextN lo b o ∧ nextN lo b o ≤ n := by
 have key : ∃ i, i < 33 ∧ valid lo b o i = true ∧ val lo b i ≤ n := by
  by_cases e : lo = n
  ·subst e; exact ⟨0, by omega, hh, Nat.le_refl _⟩
  ·have hx0 : lo ^^^ n ≠ 0 := by
    intro h; apply e
    apply Nat.eq_of_testBit_eq; intro i
    have := congrArg (fun z => Nat.testBit z i) h
    simp [Nat.testBit_xor] at this
    exact this
   have hx : lo ^^^ n ≤ 4294967295 := xor_le hl hn
   have hj : (lo ^^^ n).log2 < 32 := (Nat.log2_lt hx0).2 (by omega)
   have habove : ∀ i, (lo ^^^ n).log2 < i → lo.testBit i = n.testBit i := by
    intro i hi
    have h1 : (lo ^^^ n).testBit i = false := Nat.testBit_lt_two_pow (Nat.lt_of_lt_of_le ((Nat.log2_lt hx0).1 (Nat.lt_succ_self _)) (Nat.pow_le_pow_right (by omega) hi))
    rw [Nat.testBit_xor] at h1
    simpa using h1
   have hat : (lo ^^^ n).testBit (lo ^^^ n).log2 = true := Nat.testBit_log2 hx0
   rw [Nat.testBit_xor] at hat
   generalize (lo ^^^ n).log2 = j at *
   have h0 : lo.testBit j = false := by
    cases hlo : lo.testBit j
    ·rfl
    ·have hnj : n.testBit j = false := by rw [hlo] at hat; simpa using hat
     have := lt_of_bit j hnj hlo (fun k hk => (habove k hk).symm)
     omega
   have h1 : n.testBit j = true := by rw [h0] at hat; simpa using hat
   have hbit := (has_bit hn hb).1 hh
   refine ⟨j + 1, by omega, ?_, ?_⟩
   ·simp only [valid, h0, Bool.not_false, Bool.true_and]
    rw [has_bit (cand_le hl hb hj) hb]
    intro i hi
    rw [cand_bit hl hj]
    by_cases g1 : i < j
    ·rw [if_pos g1]
     have := disj_bit hd i
     cases hbi : b.testBit i <;> simp [hbi] at this ⊢ <;> simp [this]
    ·by_cases g2 : i = j
     ·subst g2; rw [← hbit i hi, h1]; simp
     ·rw [if_neg g1, if_neg g2, habove i (by omega), hbit i hi]
   ·apply le_of_bits
    intro i hi
    show n.testBit i = true
    have hi' : (cand lo b j).testBit i = true := hi
    rw [cand_bit hl hj] at hi'
    by_cases g1 : i < j
    ·rw [if_pos g1] at hi'
     have := hbit i (by omega)
     rw [hi'] at this
     simp at this; exact this.1
    ·by_cases g2 : i = j
     ·subst g2; exact h1
     ·rw [if_neg g1, if_neg g2, habove i (by omega)] at hi'; exact hi'
 obtain ⟨i, h1, h2, h3⟩ := key
 have hs : 0 ≤ upTo lo b o (i + 1) ∧ upTo lo b o (i + 1) ≤ val lo b i := by
  rw [upTo]
  by_cases g : 0 ≤ upTo lo b o i
  ·rw [if_pos g]; have := upTo_lt hl hb h1 h2; omega
  ·rw [if_neg g, if_pos h2]; omega
 have := upTo_stays hs.1 (show i + 1 ≤ 33 by omega)
 unfold nextN
 omega
theorem next_is {lo b o : Nat} (hl : lo ≤ 4294967295) (hb : b ≤ 4294967295) (h : 0 ≤ nextN lo b o) : ∃ n : Nat, nextN lo b o = n ∧ lo ≤ n ∧ n ≤ 4294967295 ∧ hasN b o n = true := by
 obtain ⟨i, h1, h2, h3⟩ := upTo_is h
 refine ⟨val lo b i, h3, ?_, val_le hl hb h1, ?_⟩
 ·cases i with
  | zero => exact Nat.le_refl _
  | succ j =>
    simp [valid] at h2
    exact Nat.le_of_lt (lt_cand hl hb (by omega) h2.1)
 ·cases i with
  | zero => exact h2
  | succ j => simp [valid] at h2; exact h2.2
end Go.Proofs.Ytkaekiodjjhjkaa
namespace Go.Proofs.Ytkaekiodjjhjkaa
open Go.RowKit
theorem ret_int {k : IntKind} {a b : Int} (h : a = b) : Ending.returned (.int k a) = .returned (.int k b) := by rw [h]
structure Rd (W : World) (B : Nat) (a : Option Addr) (len cap p : Nat) : Prop where
 c0 : W.cell? ⟨B, 0, none⟩ = some (.slice a len cap)
 c1 : W.cell? ⟨B, 1, none⟩ = some (.int .i64 p)
 fr : W.frozen? ⟨B, 1, none⟩ = false
def Bytes (W : World) (B : Nat) (a : Option Addr) (len : Nat) : Prop :=
 len = 0 ∨ ∃ g off, a = some ⟨g, off, none⟩ ∧ g ≠ B ∧ ∀ j, j < len → ∃ v : Nat, v < 256 ∧ W.cell? ⟨g, off + j, none⟩ = some (.int .u8 v)
def Picked (n : Int) (B p : Nat) (w : World) (e : Ending) (w' : World) : Prop :=
 ∃ (m k : Nat), e = .returned (.int .i64 m) ∧ ((m : Int) < n ∨ m = 0) ∧ w' = (w.setCell ⟨B, 1, none⟩ (.int .i64 ((p : Int) + 1))).drewN k
theorem pick_none (w : World) (B cap p : Nat) (a : Option Addr) (n : Int) (h : Rd w B a 0 cap p) (hp : p ≤ 1000000) (n0 : 1 ≤ n) (n1 : n ≤ 2147483647) :
 Calls Try.prog 29 #[.pointer (some ⟨B, 0, none⟩), .int .i64 n] w (Picked n B p w) := by
 obtain ⟨c0, c1, fr⟩ := h
 have p0 : (0 : Int) ≤ p := by omega
 have p1 : (p : Int) ≤ 1000000 := by omega
 go_enter Try.func29, Try.ntmps29
 go_wp2
 go_ret
 exact ⟨0, 0, rfl, .inr rfl, rfl⟩
theorem pick_in (w : World) (B cap p len : Nat) (g off : Nat) (v : Nat) (n : Int) (h : Rd w B (some ⟨g, off, none⟩) len cap p) (hp : p ≤ 1000000) (n0 : 1 ≤ n) (n1 : n ≤ 2147483647) (hg : g ≠ B) (hl : p < len) (hv : v < 256) (hl2 : len ≤ 2000) (hc : w.cell? ⟨g, off + p, none⟩ = some (.int .u8 v)) :
 Calls Try.prog 29 #[.pointer (some ⟨B, 0, none⟩), .int .i64 n] w (Picked n B p w) := by
 obtain ⟨c0, c1, fr⟩ := h
 have p0 : (0 : Int) ≤ p := by omega
 have p1 : (p : Int) ≤ 1000000 := by omega
 have l0 : (p : Int) < len := by omega
 have l1 : (len : Int) ≤ 2000 := by omega
 have lz : ((len : Int) == 0) = false := by simp; omega
 have hgb : B ≠ g := fun e => hg e.symm
 have v0 : (0 : Int) ≤ v := by omega
 have v1 : (v : Int) < 256 := by omega
 have Hfin : Hid ((v : Int) % n < n ∧ 0 ≤ (v : Int) % n) := ⟨Int.emod_lt_of_pos _ (by omega), Int.emod_nonneg _ (by omega)⟩
 go_enter Try.func29, Try.ntmps29
 go_wp2
 go_ret
 obtain ⟨h1, h2⟩ := Hfin.out
 exact ⟨((v : Int) % n).toNat, 0, ret_int (by omega), .inl (by omega), rfl⟩
theorem mod_emod (i j : Nat) : (i : Int) % (j : Int) = ((i % j : Nat) : Int) := by simp
theorem wrap64_id {x : Int} (h0 : 0 ≤ x) (h1 : x ≤ 9223372036854775807) : wrap64 x = x := by unfold wrap64; omega
theorem mixed (x : Int) (h0 : 0 ≤ x) (h1 : x ≤ 1000000000000) : 0 ≤ bits .xor .i64 x (wrap64 (x.tdiv 64)) := by
 obtain ⟨X, rfl⟩ := Int.eq_ofNat_of_zero_le h0
 rw [Int.tdiv_eq_ediv_of_nonneg h0, wrap64_id (by omega) (by omega), show (X : Int) / 64 = ((X / 64 : Nat) : Int) by simp, xor_i64 X (X / 64) (by omega) (by omega)]
 omega
theorem picked_num (v u p len : Nat) (n : Int) (hp : p ≤ 1000000) (hv : v < 256) (hu : u < 256) (n0 : 1 ≤ n) :
 ∃ m : Nat, (bits .xor .i64 (wrap64 ((v : Int) * 131 + u * 1117 + p * 29 + wrap64 (wrap64 ((p : Int) / len) * 53))) (wrap64 ((wrap64 ((v : Int) * 131 + u * 1117 + p * 29 + wrap64 (wrap64 ((p : Int) / len) * 53))).tdiv 64))).tmod n = m ∧ (m : Int) < n := by
 have h1 := Nat.div_le_self p len
 have e1 : (p : Int) / len = ((p / len : Nat) : Int) := by simp
 rw [e1]
 generalize p / len = D at *
 rw [wrap64_id (x := (D : Int)) (by omega) (by omega), wrap64_id (x := (D : Int) * 53) (by omega) (by omega), wrap64_id (x := (v : Int) * 131 + u * 1117 + p * 29 + (D : Int) * 53) (by omega) (by omega)]
 have h2 := mixed ((v : Int) * 131 + u * 1117 + p * 29 + (D : Int) * 53) (by omega) (by omega)
 generalize bits .xor .i64 ((v : Int) * 131 + u * 1117 + p * 29 + (D : Int) * 53) (wrap64 (((v : Int) * 131 + u * 1117 + p * 29 + (D : Int) * 53).tdiv 64)) = E at *
 rw [Int.tmod_eq_emod_of_nonneg h2]
 have h3 : E % n < n := Int.emod_lt_of_pos _ (by omega)
 have h4 : 0 ≤ E % n := Int.emod_nonneg _ (by omega)
 exact ⟨(E % n).toNat, by omega, by omega⟩
theorem pick_out (w : World) (B cap p len : Nat) (g off : Nat) (v u : Nat) (n : Int) (h : Rd w B (some ⟨g, off, none⟩) len cap p) (hp : p ≤ 1000000) (n0 : 1 ≤ n) (n1 : n ≤ 2147483647) (hg : g ≠ B) (hl0 : 0 < len) (hl : len ≤ p) (hv : v < 256) (hu : u < 256) (hl2 : len ≤ 2000)
 (hc : w.cell? ⟨g, off + p % len, none⟩ = some (.int .u8 v)) (hd : w.cell? ⟨g, off + (p * 7 + 3) % len, none⟩ = some (.int .u8 u)) :
 Calls Try.prog 29 #[.pointer (some ⟨B, 0, none⟩), .int .i64 n] w (Picked n B p w) := by
 obtain ⟨c0, c1, fr⟩ := h
 have p0 : (0 : Int) ≤ p := by omega
 have p1 : (p : Int) ≤ 1000000 := by omega
 have l0 : (len : Int) ≤ p := by omega
 have l1 : (len : Int) ≤ 2000 := by omega
 have l2 : (0 : Int) < len := by omega
 have lz : ((len : Int) == 0) = false := by simp; omega
 have hgb : B ≠ g := fun e => hg e.symm
 have v0 : (0 : Int) ≤ v := by omega
 have v1 : (v : Int) < 256 := by omega
 have u0 : (0 : Int) ≤ u := by omega
 have u1 : (u : Int) < 256 := by omega
 have Hfin := hid (picked_num v u p len n hp hv hu n0)
 have i1 : p % len < len := Nat.mod_lt _ hl0
 have i2 : (p * 7 + 3) % len < len := Nat.mod_lt _ hl0
 have i1' : (p : Int) % len < len := by rw [mod_emod]; omega
 have i1z : (0 : Int) ≤ (p : Int) % len := by rw [mod_emod]; omega
 have i2' : ((p : Int) * 7 + 3) % len < len := Int.emod_lt_of_pos _ l2
 have i2z : (0 : Int) ≤ ((p : Int) * 7 + 3) % len := Int.emod_nonneg _ (by omega)
 go_enter Try.func29, Try.ntmps29
 go_wp2_with fail
 go_quiet (fail)
 go_wp2
 go_ret
 obtain ⟨m, h1, h2⟩ := Hfin.out
 exact ⟨m, nq, ret_int h1, .inl h2, rfl⟩
theorem pick_c (w : World) (B cap p len : Nat) (a : Option Addr) (n : Int) (h : Rd w B a len cap p) (hb : Bytes w B a len) (hp : p ≤ 1000000) (n0 : 1 ≤ n) (n1 : n ≤ 2147483647) (hl : len ≤ 2000) :
 Calls Try.prog 29 #[.pointer (some ⟨B, 0, none⟩), .int .i64 n] w (Picked n B p w) := by
 rcases hb with rfl | ⟨g, off, rfl, hg, hc⟩
 ·exact pick_none w B cap p a n h hp n0 n1
 ·by_cases hz : len = 0
  ·subst hz; exact pick_none w B cap p _ n h hp n0 n1
  ·by_cases hlt : p < len
   ·obtain ⟨v, hv, hcv⟩ := hc p hlt
    exact pick_in w B cap p len g off v n h hp n0 n1 hg hlt hv hl hcv
   ·obtain ⟨v, hv, hcv⟩ := hc (p % len) (Nat.mod_lt _ (by omega))
    obtain ⟨u, hu, hcu⟩ := hc ((p * 7 + 3) % len) (Nat.mod_lt _ (by omega))
    exact pick_out w B cap p len g off v u n h hp n0 n1 hg (by omega) (by omega) hv hu hl hcv hcu
end Go.Proofs.Ytkaekiodjjhjkaa
namespace Go.Proofs.Ytkaekiodjjhjkaa
open Go.RowKit
structure OkN (l u x y : Nat) : Prop where
 le : l ≤ u
 hi : u ≤ 4294967295
 b : x ≤ 4294967295
 o : y ≤ 4294967295
 d : x &&& y = 0
theorem OkN.lo {lo hi b o : Nat} (h : OkN lo hi b o) : lo ≤ 4294967295 := Nat.le_trans h.le h.hi
def someN (lo hi b o : Nat) : Bool := decide (0 ≤ nextN lo b o) && decide (nextN lo b o ≤ hi)
structure OfN (lo hi b o n : Nat) : Prop where
 lo : lo ≤ n
 hi : n ≤ hi
 has : hasN b o n = true
theorem some_of {lo hi b o n : Nat} (h : OkN lo hi b o) (hn : OfN lo hi b o n) : someN lo hi b o = true := by
 have := next_le h.lo h.b h.o h.d (Nat.le_trans hn.hi h.hi) hn.has hn.lo
 have := hn.hi
 simp [someN]; omega
theorem of_some {lo hi b o : Nat} (h : OkN lo hi b o) (hs : someN lo hi b o = true) : ∃ n : Nat, nextN lo b o = n ∧ OfN lo hi b o n := by
 simp [someN] at hs
 obtain ⟨n, h1, h2, h3, h4⟩ := next_is h.lo h.b hs.1
 exact ⟨n, h1, h2, by omega, h4⟩
theorem bitLen_le32 {x : Nat} (h : x ≤ 4294967295) : bitLen x ≤ 32 := by
 have := (bitLen_spec x).2
 by_cases h0 : x = 0
 ·subst h0; decide
 ·have := this h0
  by_cases hc : bitLen x ≤ 32
  ·exact hc
  ·have h2 : 2 ^ 32 ≤ 2 ^ (bitLen x - 1) := Nat.pow_le_pow_right (by omega) (by omega)
   omega
def maskOf (x : Nat) : Nat := 2 ^ bitLen x - 1
theorem maskOf_le {x : Nat} (h : x ≤ 4294967295) : maskOf x ≤ 4294967295 := mask_le (bitLen_le32 h)
theorem maskOf_bit (x i : Nat) : (maskOf x).testBit i = decide (i < bitLen x) := mask_bit _ _
theorem above_len {x i : Nat} (h : bitLen x ≤ i) : x.testBit i = false :=
 Nat.testBit_lt_two_pow (Nat.lt_of_lt_of_le (bitLen_spec x).1 (Nat.pow_le_pow_right (by omega) h))
def tO (lo hi o : Nat) : Nat := o &&& maskOf (lo ^^^ hi)
def tB (lo hi b : Nat) : Nat := b ||| (lo &&& notB (maskOf (lo ^^^ hi)))
def tLo (lo hi b : Nat) : Nat := max lo (tB lo hi b)
def tHi (lo hi b o : Nat) : Nat := min hi (tB lo hi b ||| tO lo hi o)
theorem tO_bit (lo hi o i : Nat) : (tO lo hi o).testBit i = (o.testBit i && decide (i < bitLen (lo ^^^ hi))) := by
 rw [tO, Nat.testBit_and, maskOf_bit]
theorem tB_bit {lo : Nat} (hi b i : Nat) (hl : lo ≤ 4294967295) : (tB lo hi b).testBit i = (b.testBit i || lo.testBit i && !decide (i < bitLen (lo ^^^ hi))) := by
 rw [tB, Nat.testBit_or, Nat.testBit_and, not_bit, maskOf_bit]
 by_cases h : i < 32
 ·simp [h]
 ·simp [high_bit hl h]
theorem tB_le {lo hi b : Nat} (hl : lo ≤ 4294967295) (hb : b ≤ 4294967295) : tB lo hi b ≤ 4294967295 := or_le hb (and_le _ hl)
theorem tO_le {lo hi o : Nat} (ho : o ≤ 4294967295) : tO lo hi o ≤ 4294967295 := and_le _ ho
theorem tHi_le {lo hi b o : Nat} (h : hi ≤ 4294967295) : tHi lo hi b o ≤ 4294967295 := Nat.le_trans (Nat.min_le_left _ _) h
theorem t_disj {lo hi b o : Nat} (h : OkN lo hi b o) : tB lo hi b &&& tO lo hi o = 0 := by
 apply Nat.eq_of_testBit_eq
 intro i
 rw [Nat.testBit_and, tO_bit, tB_bit _ _ _ h.lo]
 have := disj_bit h.d i
 revert this
 cases b.testBit i <;> cases o.testBit i <;> cases lo.testBit i <;> cases decide (i < bitLen (lo ^^^ hi)) <;> simp
theorem prefix_same {lo hi n i : Nat} (h1 : lo ≤ n) (h2 : n ≤ hi) (hi' : bitLen (lo ^^^ hi) ≤ i) : n.testBit i = lo.testBit i := by
 have e : lo / 2 ^ bitLen (lo ^^^ hi) = hi / 2 ^ bitLen (lo ^^^ hi) := by
  apply Nat.eq_of_testBit_eq
  intro k
  rw [Nat.testBit_div_two_pow, Nat.testBit_div_two_pow]
  have := above_len (x := lo ^^^ hi) (i := bitLen (lo ^^^ hi) + k) (by omega)
  rw [Nat.testBit_xor] at this
  rw [Nat.add_comm]
  simpa using this
 have a1 := Nat.div_le_div_right (c := 2 ^ bitLen (lo ^^^ hi)) h1
 have a2 := Nat.div_le_div_right (c := 2 ^ bitLen (lo ^^^ hi)) h2
 have e2 : n / 2 ^ bitLen (lo ^^^ hi) = lo / 2 ^ bitLen (lo ^^^ hi) := by omega
 have e3 := congrArg (fun z => Nat.testBit z (i - bitLen (lo ^^^ hi))) e2
 simp only [Nat.testBit_div_two_pow] at e3
 rw [show i - bitLen (lo ^^^ hi) + bitLen (lo ^^^ hi) = i by omega] at e3
 exact e3
theorem tidy_of {lo hi b o n : Nat} (h : OkN lo hi b o) (hn : OfN lo hi b o n) : OfN (tLo lo hi b) (tHi lo hi b o) (tB lo hi b) (tO lo hi o) n := by
 have hnt : n ≤ 4294967295 := Nat.le_trans hn.hi h.hi
 have hbit := (has_bit hnt h.b).1 hn.has
 have hb2 : ∀ i, (n.testBit i && !(tO lo hi o).testBit i) = (tB lo hi b).testBit i := by
  intro i
  rw [tO_bit, tB_bit _ _ _ h.lo]
  by_cases hi3 : i < 32
  ·have := hbit i hi3
   by_cases hL : i < bitLen (lo ^^^ hi)
   ·simp [hL, this]
   ·have e := prefix_same hn.lo hn.hi (by omega : bitLen (lo ^^^ hi) ≤ i)
    rw [← e]
    revert this
    simp [hL]
    cases n.testBit i <;> cases o.testBit i <;> cases b.testBit i <;> simp
  ·simp [high_bit hnt hi3, high_bit h.b hi3, high_bit h.lo hi3]
 refine ⟨Nat.max_le.2 ⟨hn.lo, le_of_bits fun i hx => ?_⟩, Nat.le_min.2 ⟨hn.hi, le_of_bits fun i hx => ?_⟩, ?_⟩
 ·have := hb2 i
  rw [hx] at this
  simp at this; exact this.1
 ·have := hb2 i
  rw [Nat.testBit_or, ← this, hx]
  cases (tO lo hi o).testBit i <;> rfl
 ·rw [has_bit hnt (tB_le h.lo h.b)]
  intro i _
  exact hb2 i
theorem tidy_ok {lo hi b o n : Nat} (h : OkN lo hi b o) (hn : OfN lo hi b o n) : OkN (tLo lo hi b) (tHi lo hi b o) (tB lo hi b) (tO lo hi o) := by
 have := tidy_of h hn
 exact ⟨Nat.le_trans this.lo this.hi, tHi_le h.hi, tB_le h.lo h.b, tO_le h.o, t_disj h⟩
theorem tB_spec {lo hi b o : Nat} (h : OkN lo hi b o) : (b ||| (lo &&& notB (maskOf (lo ^^^ hi)))) &&& notB (tO lo hi o) = tB lo hi b := by
 have h1 := t_disj h
 show tB lo hi b &&& notB (tO lo hi o) = _
 apply Nat.eq_of_testBit_eq
 intro i
 have := disj_bit h1 i
 rw [Nat.testBit_and, not_bit]
 by_cases hi : i < 32
 ·revert this
  simp [hi]
 ·simp [high_bit (tB_le h.lo h.b) hi]
def clashN (c d g h : Nat) : Nat := (c ||| g) &&& notB ((c ||| d) &&& (g ||| h))
theorem clash_spec {a b c d e f g h : Nat} (A : OkN a b c d) (B : OkN e f g h) : notB d &&& notB h &&& (c ^^^ g) = clashN c d g h := by
 apply Nat.eq_of_testBit_eq
 intro i
 have h1 := disj_bit A.d i
 have h2 := disj_bit B.d i
 rw [clashN, Nat.testBit_and, Nat.testBit_and, Nat.testBit_and, Nat.testBit_xor, Nat.testBit_or, not_bit, not_bit, not_bit, Nat.testBit_and, Nat.testBit_or, Nat.testBit_or]
 by_cases hi : i < 32
 ·revert h1 h2
  simp [hi]
  cases c.testBit i <;> cases d.testBit i <;> cases g.testBit i <;> cases h.testBit i <;> simp
 ·simp [high_bit A.b hi, high_bit B.b hi]
theorem meet_disj {a b c d e f g h : Nat} (A : OkN a b c d) (B : OkN e f g h) : (c ||| g) &&& (d &&& h) = 0 := by
 apply Nat.eq_of_testBit_eq
 intro i
 have h1 := disj_bit A.d i
 have h2 := disj_bit B.d i
 rw [Nat.testBit_and, Nat.testBit_and, Nat.testBit_or]
 revert h1 h2
 cases c.testBit i <;> cases d.testBit i <;> cases g.testBit i <;> cases h.testBit i <;> simp
theorem meet_ok {a b c d e f g h : Nat} (A : OkN a b c d) (B : OkN e f g h) (hle : max a e ≤ min b f) : OkN (max a e) (min b f) (c ||| g) (d &&& h) :=
 ⟨hle, Nat.le_trans (Nat.min_le_left _ _) A.hi, or_le A.b B.b, and_le _ A.o, meet_disj A B⟩
end Go.Proofs.Ytkaekiodjjhjkaa
namespace Go.Proofs.Ytkaekiodjjhjkaa.H
open Go.RowKit
theorem ret_bool {a b : Bool} (h : a = b) : Ending.returned (.bool a) = .returned (.bool b) := by rw [h]
theorem ret_int {k : IntKind} {a b : Int} (h : a = b) : Ending.returned (.int k a) = .returned (.int k b) := by rw [h]
theorem bcell {W w1 : World} (hb : Below W.heap.size W w1) : (∀ b o, b < W.heap.size → w1.cell? ⟨b, o, none⟩ = W.cell? ⟨b, o, none⟩) ∧ (∀ b o, b < W.heap.size → w1.frozen? ⟨b, o, none⟩ = W.frozen? ⟨b, o, none⟩) :=
 ⟨fun b o h => hb.cell (p := ⟨b, o, none⟩) h, fun b o h => hb.frozen (p := ⟨b, o, none⟩) h⟩
def inB (n a b : Int) : Bool := decide (a ≤ n) && decide (n ≤ b)
abbrev rv (lo hi b o : Int) : Value := .agg #[.int .i64 lo, .int .i64 hi, .int .i64 b, .int .i64 o]
def okB (lo hi b o : Int) : Bool := inB lo 0 hi && decide (hi ≤ 4294967295) && inB b 0 4294967295 && inB o 0 4294967295 && (bits .and .i64 b o == 0)
theorem ok_nat {lo hi b o : Int} (h : okB lo hi b o = true) : ∃ L H B O : Nat, lo = L ∧ hi = H ∧ b = B ∧ o = O ∧ OkN L H B O := by
 simp [okB, inB] at h
 obtain ⟨⟨⟨⟨⟨h1, h2⟩, h3⟩, h4, h5⟩, h6, h7⟩, h8⟩ := h
 obtain ⟨L, rfl⟩ := Int.eq_ofNat_of_zero_le h1
 obtain ⟨B, rfl⟩ := Int.eq_ofNat_of_zero_le h4
 obtain ⟨O, rfl⟩ := Int.eq_ofNat_of_zero_le h6
 obtain ⟨H, rfl⟩ := Int.eq_ofNat_of_zero_le (show (0 : Int) ≤ hi by omega)
 rw [and_i64 B O (by omega) (by omega)] at h8
 exact ⟨L, H, B, O, rfl, rfl, rfl, rfl, by omega, by omega, by omega, by omega, by omega⟩
theorem okB_of {L H B O : Nat} (h : OkN L H B O) : okB L H B O = true := by
 have h1 := h.le; have h2 := h.hi; have h3 := h.b; have h4 := h.o; have h5 := h.d
 simp [okB, inB]
 rw [and_i64 B O (by omega) (by omega), h5]
 omega
theorem c_isNumber (k : Int) (w : World) :
 Calls Try.prog 21 #[.int .i64 k] w fun e w' => e = .returned (.bool (inB k 0 4294967295)) ∧ w' = w := by
 go_enter Try.func21, Try.ntmps21
 go_wp2
 all_goals (go_ret; exact ⟨ret_bool (by rw [Bool.eq_iff_iff]; simp [inB]; omega), rfl⟩)
theorem c_l2Top (w : World) :
 Calls Try.prog 46 #[] w fun e w' => e = .returned (.int .i64 4294967295) ∧ w' = w := by
 go_enter Try.func46, Try.ntmps46
 go_wp2
 go_ret
 exact ⟨rfl, rfl⟩
theorem c_RangeOk (lo hi b o : Int) (w : World) :
 Calls Try.prog 74 #[rv lo hi b o] w fun e w' => e = .returned (.bool (okB lo hi b o)) ∧ Below w.heap.size w w' := by
 have key : okB lo hi b o = (inB lo 0 4294967295 && inB hi 0 4294967295 && decide (lo ≤ hi) && inB b 0 4294967295 && inB o 0 4294967295 && (bits .and .i64 b o == 0)) := by
  rw [Bool.eq_iff_iff]; simp [okB, inB]; omega
 have H := key
 rw [H]; clear H key
 go_enter Try.func74, Try.ntmps74
 go_wp2_with (first | (go_at_call 21; refine (c_isNumber _ _).mono ?_; rintro e w' ⟨rfl, rfl⟩))
 all_goals (go_ret; refine ⟨ret_bool ?_, (Below.refl _ _).alloc (Nat.le_refl _) _⟩; first | (simp_all; done) | (simp_all; omega))
theorem drewN_below {B : Nat} {a w : World} (h : Below B a w) : ∀ n, Below B a (w.drewN n)
 | 0 => h
 | n + 1 => (drewN_below h n).drew
end Go.Proofs.Ytkaekiodjjhjkaa.H
namespace Go.Proofs.Ytkaekiodjjhjkaa.H
open Go.RowKit
theorem c_hasBits (lo hi : Int) (b o n : Nat) (w : World) (hb : b ≤ 4294967295) (ho : o ≤ 4294967295) (hn : n ≤ 4294967295) :
 Calls Try.prog 88 #[rv lo hi b o, .int .i64 n] w fun e w' => e = .returned (.bool (hasN b o n)) ∧ Below w.heap.size w w' := by
 have H := andNot_i64 n o hn ho
 go_enter Try.func88, Try.ntmps88
 go_wp2
 go_ret
 refine ⟨ret_bool ?_, (Below.refl _ _).alloc (Nat.le_refl _) _⟩
 rw [Bool.eq_iff_iff]; simp [hasN]; omega
theorem mask_step {n j : Nat} (h : 2 ^ j - 1 < n) : j < bitLen n := by
 by_cases hc : j < bitLen n
 ·exact hc
 ·have h1 := (bitLen_spec n).1
  have h2 : 2 ^ bitLen n ≤ 2 ^ j := Nat.pow_le_pow_right (by omega) (by omega)
  omega
theorem mask_end {n j : Nat} (hj : j ≤ bitLen n) (h : ¬ 2 ^ j - 1 < n) : maskOf n = 2 ^ j - 1 := by
 by_cases hc : j = bitLen n
 ·rw [hc]; rfl
 ·by_cases h0 : n = 0
  ·subst h0; have : bitLen 0 = 0 := rfl; omega
  ·have h1 := (bitLen_spec n).2 h0
   have h2 : 2 ^ j ≤ 2 ^ (bitLen n - 1) := Nat.pow_le_pow_right (by omega) (by omega)
   have h3 : 0 < 2 ^ j := Nat.two_pow_pos j
   omega
theorem c_l2Mask (n : Nat) (w : World) (hn : n ≤ 4294967295) :
 Calls Try.prog 77 #[.int .i64 n] w fun e w' => e = .returned (.int .i64 (maskOf n)) ∧ w' = w := by
 go_enter Try.func77, Try.ntmps77
 go_wp2
 go_loop [3] (fun t => ∃ m j : Nat, m = 2 ^ j - 1 ∧ j ≤ bitLen n ∧ t = .int .i64 m) (fun t => n - (intOf t).toNat)
 case atStart => exact ⟨0, 0, rfl, Nat.zero_le _, rfl⟩
 case round =>
  obtain ⟨m, j, hm, hj, rfl⟩ := hrel
  by_cases hlt : m < n
  ·have Hs : Hid (2 * m + 1 = 2 ^ (j + 1) - 1 ∧ j + 1 ≤ bitLen n) := ⟨by rw [hm, Nat.pow_succ]; have := Nat.two_pow_pos j; omega, mask_step (by omega)⟩
   clear hm hj
   go_wp2
   go_round
   case rel => exact ⟨2 * m + 1, j + 1, Hs.out.1, Hs.out.2, by go_num⟩
   case measure => simp [intOf]; omega
  ·have He : Hid (maskOf n = m) := by
    have := mask_end hj (by rw [← hm]; exact hlt)
    rw [hm]; exact this
   clear hm hj
   go_wp2
   go_ret
   exact ⟨ret_int (by rw [He.out]), rfl⟩
theorem mask_pow (j : Nat) : maskOf (2 ^ j - 1) = 2 ^ j - 1 := by
 by_cases h0 : j = 0
 ·subst h0; decide
 ·have hp : 0 < 2 ^ j := Nat.two_pow_pos j
  have h1 := bitLen_spec (2 ^ j - 1)
  have e : bitLen (2 ^ j - 1) = j := by
   have a : ¬ bitLen (2 ^ j - 1) < j := by
    intro h
    have h2 : 2 ^ bitLen (2 ^ j - 1) ≤ 2 ^ (j - 1) := Nat.pow_le_pow_right (by omega) (by omega)
    have h3 : 2 ^ j = 2 ^ (j - 1) * 2 := by rw [← Nat.pow_succ]; congr 1; omega
    omega
   have b : ¬ j < bitLen (2 ^ j - 1) := by
    intro h
    have h2 : 2 ^ j ≤ 2 ^ (bitLen (2 ^ j - 1) - 1) := Nat.pow_le_pow_right (by omega) (by omega)
    have h3 : 2 ^ j - 1 ≠ 0 := by
     have : 2 ^ 1 ≤ 2 ^ j := Nat.pow_le_pow_right (by omega) (by omega)
     omega
    have := h1.2 h3
    omega
   omega
  rw [maskOf, e]
theorem c_l2Over0 (w : World) :
 Calls Try.prog 103 #[.int .i64 0] w fun e w' => e = .returned (.int .i64 4294967295) ∧ ∃ m, w' = w.drewN m := by
 go_enter Try.func103, Try.ntmps103
 go_wp2_with (go_at_call 46; refine (c_l2Top _).mono ?_; rintro e w' ⟨rfl, rfl⟩)
 go_ret
 exact ⟨rfl, 0, rfl⟩
theorem wrap_id {x : Int} (h0 : -9223372036854775808 ≤ x) (h1 : x ≤ 9223372036854775807) : IntKind.i64.wrap x = x := by rw [IntKind.wrap_i64]; omega
theorem shl_one {j P : Nat} (hj : j ≤ 32) (hP : 2 ^ j = P) : IntKind.i64.wrap ((2 : Int) ^ j) = (P : Int) := by
 have h2 : 2 ^ j ≤ 2 ^ 32 := Nat.pow_le_pow_right (by omega) hj
 rw [show (2 : Int) ^ j = ((2 ^ j : Nat) : Int) by simp, hP, wrap_id (by omega) (by omega)]
end Go.Proofs.Ytkaekiodjjhjkaa.H
namespace Go.Proofs.Ytkaekiodjjhjkaa.H
open Go.RowKit
theorem c_l2OverS (j : Nat) (hj : j < 32) (w : World) :
 Calls Try.prog 103 #[.int .i64 (j + 1)] w fun e w' => e = .returned (.int .i64 (notB (2 ^ j - 1) : Nat)) ∧ ∃ m, w' = w.drewN m := by
 obtain ⟨P, hP⟩ : ∃ P, 2 ^ j = P := ⟨_, rfl⟩
 have hPl : P ≤ 4294967295 := by rw [← hP]; exact pow_le hj
 have hP0 : 0 < P := by rw [← hP]; exact Nat.two_pow_pos j
 have hw : IntKind.i64.wrap (j : Int) = j := wrap_id (by omega) (by omega)
 have hs := shl_one (by omega) hP
 have hd : IntKind.i64.wrap ((P : Int) - 1) = ((P - 1 : Nat) : Int) := by rw [wrap_id (by omega) (by omega)]; omega
 have hm : maskOf (P - 1) = P - 1 := by rw [← hP]; exact mask_pow j
 have hx : bits .xor .i64 4294967295 ((P - 1 : Nat) : Int) = (notB (P - 1) : Nat) := xor_top (P - 1) (by omega)
 have hc : Hid (∀ w, Calls Try.prog 77 #[.int .i64 ((P - 1 : Nat) : Int)] w fun e w' => e = .returned (.int .i64 ((P - 1 : Nat) : Int)) ∧ w' = w) := by
  intro w; have := c_l2Mask (P - 1) w (by omega); rw [hm] at this; exact this
 rw [hP]
 have HP : Hid _ := hP
 clear hm hP
 generalize P - 1 = M at *
 go_enter Try.func103, Try.ntmps103
 go_wp2_with fail
 go_quiet ((first | (go_at_call 46; exact Calls.quiet_of_same (c_l2Top _)) | (go_at_call 77; exact Calls.quiet_of_same (hc.out _))))
 go_wp2
 go_ret
 exact ⟨rfl, nq, rfl⟩
end Go.Proofs.Ytkaekiodjjhjkaa.H
namespace Go.Proofs.Ytkaekiodjjhjkaa.H
open Go.RowKit
theorem shr_nat (n j : Nat) : (n : Int) / (2 : Int) ^ j = ((n / 2 ^ j : Nat) : Int) := by simp
theorem and_one (n : Nat) (h : n ≤ 4294967295) : bits .and .i64 (n : Int) 1 = ((n % 2 : Nat) : Int) := by
 have e := and_i64 n 1 (by omega) (by omega)
 rw [Nat.and_one_is_mod] at e
 exact e
theorem bit_is (n j : Nat) : n / 2 ^ j % 2 = if n.testBit j then 1 else 0 := by
 rw [Nat.testBit_eq_decide_div_mod_eq]
 by_cases h : n / 2 ^ j % 2 = 1
 ·simp [h]
 ·simp [h]; omega
def tryN (n j : Nat) : Nat := (n &&& notB (2 ^ (j + 1) - 1)) ||| 2 ^ j
theorem try_le {n j : Nat} (hn : n ≤ 4294967295) (hj : j < 32) : tryN n j ≤ 4294967295 := or_le (and_le _ hn) (pow_le hj)
theorem try_bit {n j : Nat} (hn : n ≤ 4294967295) (hj : j < 32) (i : Nat) : (tryN n j).testBit i = (decide (j < i) && n.testBit i || decide (j = i)) := by
 rw [tryN, Nat.testBit_or, Nat.testBit_and, not_bit, mask_bit, pow_bit]
 by_cases h1 : i < 32
 ·by_cases h2 : j = i
  ·simp [h2]
  ·by_cases h3 : j < i
   ·simp [h1, h2, h3, show ¬ i < j + 1 by omega]
   ·simp [h1, h2, h3, show i < j + 1 by omega]
 ·simp [h1, high_bit hn h1]
theorem over_bit (j i : Nat) : (notB (2 ^ j - 1)).testBit i = (decide (i < 32) ^^ decide (i < j)) := by rw [not_bit, mask_bit]
theorem notnot_bit {j : Nat} (hj : j < 32) (i : Nat) : (notB (notB (2 ^ j - 1))).testBit i = decide (i < j) := by
 rw [not_bit, not_bit, mask_bit]
 by_cases h : i < 32
 ·simp [h]
 ·simp [h, show ¬ i < j by omega]
theorem try_is {n b j : Nat} (hn : n ≤ 4294967295) (hb : b ≤ 4294967295) (hj : j < 32) :
 (tryN n j &&& notB (2 ^ j - 1)) ||| (b &&& notB (notB (2 ^ j - 1))) = cand n b j := by
 apply Nat.eq_of_testBit_eq
 intro i
 rw [cand_bit hn hj, Nat.testBit_or, Nat.testBit_and, Nat.testBit_and, notnot_bit hj, over_bit, try_bit hn hj]
 by_cases h1 : i < 32
 ·by_cases h2 : i < j
  ·simp [h1, h2, show ¬ j < i by omega, show j ≠ i by omega]
  ·by_cases h3 : i = j
   ·subst h3; simp [h1]
   ·simp [h1, h2, h3, show j < i by omega, show j ≠ i by omega]
 ·simp [h1, show ¬ i < j by omega, show i ≠ j by omega, high_bit hn h1]
theorem try_has {n b o j : Nat} (hn : n ≤ 4294967295) (hb : b ≤ 4294967295) (hd : b &&& o = 0) (hj : j < 32) :
 (tryN n j &&& notB o &&& notB (2 ^ j - 1) = b &&& notB (2 ^ j - 1)) ↔ hasN b o (cand n b j) = true := by
 rw [has_bit (cand_le hn hb hj) hb]
 constructor
 ·intro h i hi
  have e := congrArg (fun z => Nat.testBit z i) h
  simp only [Nat.testBit_and, over_bit, try_bit hn hj, not_bit] at e
  rw [cand_bit hn hj]
  have h0 := disj_bit hd i
  by_cases h2 : i < j
  ·rw [if_pos h2]; revert h0; cases b.testBit i <;> cases o.testBit i <;> simp
  ·by_cases h3 : i = j
   ·subst h3; simp [hi] at e; simp [e]
   ·rw [if_neg h2, if_neg h3]
    simp [hi, h2, show j < i by omega, show j ≠ i by omega] at e
    exact e
 ·intro h
  apply Nat.eq_of_testBit_eq
  intro i
  rw [Nat.testBit_and, Nat.testBit_and, Nat.testBit_and, over_bit, try_bit hn hj, not_bit]
  by_cases h1 : i < 32
  ·have e := h i h1
   rw [cand_bit hn hj] at e
   by_cases h2 : i < j
   ·simp [h1, h2]
   ·by_cases h3 : i = j
    ·subst h3; simp at e; simp [h1, e]
    ·rw [if_neg h2, if_neg h3] at e
     simp [h1, h2, show j < i by omega, show j ≠ i by omega, e]
  ·simp [h1, high_bit hb h1, show ¬ i < j by omega]
theorem upTo_ge {lo b o k : Nat} : -1 ≤ upTo lo b o k := by
 by_cases h : 0 ≤ upTo lo b o k
 ·omega
 ·rw [upTo_none h]; omega
theorem upTo_top {lo b o k : Nat} (hl : lo ≤ 4294967295) (hb : b ≤ 4294967295) (hk : k ≤ 33) : upTo lo b o k ≤ 4294967295 := by
 by_cases h : 0 ≤ upTo lo b o k
 ·obtain ⟨i, h1, _, h3⟩ := upTo_is h
  have := val_le hl hb (show i < 33 by omega)
  omega
 ·rw [upTo_none h]; omega
theorem upTo_skip {lo b o k : Nat} (h : valid lo b o k = false) : upTo lo b o (k + 1) = upTo lo b o k := by
 rw [upTo]
 by_cases g : 0 ≤ upTo lo b o k
 ·rw [if_pos g]
 ·rw [if_neg g, h, if_neg (by simp), upTo_none g]
theorem upTo_keep {lo b o k : Nat} (g : 0 ≤ upTo lo b o k) : upTo lo b o (k + 1) = upTo lo b o k := by rw [upTo, if_pos g]
theorem upTo_take {lo b o k : Nat} (h : valid lo b o k = true) (g : ¬ 0 ≤ upTo lo b o k) : upTo lo b o (k + 1) = val lo b k := by rw [upTo, if_neg g, if_pos h]
theorem and_top {n : Nat} (h : n ≤ 4294967295) : bits .and .i64 (n : Int) 4294967295 = n := by
 have e := and_i64 n top (by omega) (by unfold top; omega)
 rw [show ((top : Nat) : Int) = 4294967295 by simp [top]] at e
 rw [e]
 congr 1
 rw [top_eq, Nat.and_two_pow_sub_one_eq_mod]
 exact Nat.mod_eq_of_lt (by omega)
end Go.Proofs.Ytkaekiodjjhjkaa.H
namespace Go.Proofs.Ytkaekiodjjhjkaa.H
open Go.RowKit
theorem mask0 (w : World) : Calls Try.prog 77 #[.int .i64 0] w fun e w' => e = .returned (.int .i64 0) ∧ w' = w := c_l2Mask 0 w (by omega)
theorem xor_top0 : bits .xor .i64 4294967295 0 = 4294967295 := by decide +kernel
theorem xor_toptop : bits .xor .i64 4294967295 4294967295 = 0 := by decide +kernel
theorem and_zero (b : Nat) (h : b ≤ 4294967295) : bits .and .i64 (b : Int) 0 = 0 := by
 have e := and_i64 b 0 (by omega) (by omega)
 simpa using e
theorem or_zero (b : Nat) (h : b ≤ 4294967295) : bits .or .i64 (b : Int) 0 = b := by
 have e := or_i64 b 0 (by omega) (by omega)
 simpa using e
structure Box4 (k : Nat) (lo hi b o : Int) (wr : World) : Prop where
 c0 : wr.cell? ⟨k, 0, none⟩ = some (.int .i64 lo)
 c1 : wr.cell? ⟨k, 1, none⟩ = some (.int .i64 hi)
 c2 : wr.cell? ⟨k, 2, none⟩ = some (.int .i64 b)
 c3 : wr.cell? ⟨k, 3, none⟩ = some (.int .i64 o)
theorem Box4.drewN {k : Nat} {lo hi b o : Int} {wr : World} (h : Box4 k lo hi b o wr) (n : Nat) : Box4 k lo hi b o (wr.drewN n) := ⟨h.c0, h.c1, h.c2, h.c3⟩
theorem Box4.new (w : World) (lo hi b o : Int) (t : TypeId) : Box4 w.heap.size lo hi b o (w.alloc (.cells #[.int .i64 lo, .int .i64 hi, .int .i64 b, .int .i64 o] t)) := by
 constructor <;> simp
def Round (lo hi : Int) (b o n : Nat) (w : World) (t k : Value) (wr : World) : Prop :=
 ∃ (i : Nat) (z u : Int), i ≤ 33 ∧ z = i ∧ u = upTo n b o i ∧ k = .int .i64 z ∧ t = .int .i64 u ∧ Box4 w.heap.size lo hi b o wr ∧ Below w.heap.size w wr
theorem c_l2Next (lo hi : Int) (b o n : Nat) (w : World) (hb : b ≤ 4294967295) (ho : o ≤ 4294967295) (hn : n ≤ 4294967295) (hd : b &&& o = 0) :
 Calls Try.prog 89 #[rv lo hi b o, .int .i64 n] w fun e w' => e = .returned (.int .i64 (nextN n b o)) ∧ Below w.heap.size w w' := by
 go_enter Try.func89, Try.ntmps89
 go_wp2_with fail
 go_loopw [5, 6] (fun t k wr => Round lo hi b o n w t k wr) (fun _ k _ => 33 - (intOf k).toNat)
 case atStart => exact ⟨0, 0, -1, by omega, rfl, rfl, rfl, rfl, Box4.new _ _ _ _ _ _, (Below.refl _ _).alloc (Nat.le_refl _) _⟩
 case round =>
  obtain ⟨i, z, u, hi33, hz, hu, rfl, rfl, hbox, hbel⟩ := hrel
  obtain ⟨c0, c1, c2, c3⟩ := hbox
  cases i with
  | zero =>
    have hm : Hid (∀ w, Calls Try.prog 77 #[.int .i64 0] w fun e w' => e = .returned (.int .i64 0) ∧ w' = w) := mask0
    have hv : Hid (∀ w, Calls Try.prog 103 #[.int .i64 0] w fun e w' => e = .returned (.int .i64 4294967295) ∧ ∃ m, w' = w.drewN m) := c_l2Over0
    have e1 := xor_top0
    have e2 := xor_toptop
    have e3 := and_top hn
    have e4 := xor_top o ho
    have e5 := and_i64 n (notB o) (by omega) (by have := not_le ho; omega)
    have e6 := and_top (and_le (notB o) hn)
    have e7 := and_top hb
    have e8 := and_zero b hb
    have e9 := or_zero n hn
    obtain rfl : z = 0 := hz
    obtain rfl : u = -1 := hu
    cases hv0 : hasN b o n
    ·have hne : (((n &&& notB o : Nat) : Int) != (b : Int)) = true := by
      simp [hasN] at hv0; simp; omega
     have Hnext : Hid (upTo n b o 1 = -1) := by
      have := upTo_skip (lo := n) (b := b) (o := o) (k := 0) hv0
      rw [this]; rfl
     generalize (n &&& notB o) = N1 at *
     generalize (notB o) = O1 at *
     clear hv0 hd
     go_wp2_with fail
     go_quiet ((first | (go_at_call 46; exact Calls.quiet_of_same (c_l2Top _)) | (go_at_call 77; exact Calls.quiet_of_same (hm.out _)) | (go_at_call 103; exact Calls.quiet_of (hv.out _))))
     obtain ⟨c0, c1, c2, c3⟩ := Box4.drewN ⟨c0, c1, c2, c3⟩ nq
     replace hbel := drewN_below hbel nq
     generalize wr.drewN nq = wr at *
     go_wp2_with fail
     go_quiet ((first | (go_at_call 46; exact Calls.quiet_of_same (c_l2Top _)) | (go_at_call 77; exact Calls.quiet_of_same (hm.out _)) | (go_at_call 103; exact Calls.quiet_of (hv.out _))))
     obtain ⟨c0, c1, c2, c3⟩ := Box4.drewN ⟨c0, c1, c2, c3⟩ nq
     replace hbel := drewN_below hbel nq
     generalize wr.drewN nq = wr at *
     go_wp2_with fail
     exact ⟨⟨1, 1, _, by omega, rfl, Hnext.out.symm, rfl, rfl, ⟨c0, c1, c2, c3⟩, hbel⟩, by simp [intOf]⟩
    ·have hne : (((n &&& notB o : Nat) : Int) != (b : Int)) = false := by
      simp [hasN] at hv0; simp; omega
     have Hnext : Hid (upTo n b o 1 = n) := by
      exact upTo_take (lo := n) (b := b) (o := o) (k := 0) hv0 (by rw [upTo]; omega)
     generalize (n &&& notB o) = N1 at *
     generalize (notB o) = O1 at *
     clear hv0 hd
     go_wp2_with fail
     go_quiet ((first | (go_at_call 46; exact Calls.quiet_of_same (c_l2Top _)) | (go_at_call 77; exact Calls.quiet_of_same (hm.out _)) | (go_at_call 103; exact Calls.quiet_of (hv.out _))))
     obtain ⟨c0, c1, c2, c3⟩ := Box4.drewN ⟨c0, c1, c2, c3⟩ nq
     replace hbel := drewN_below hbel nq
     generalize wr.drewN nq = wr at *
     go_wp2_with fail
     go_quiet ((first | (go_at_call 46; exact Calls.quiet_of_same (c_l2Top _)) | (go_at_call 77; exact Calls.quiet_of_same (hm.out _)) | (go_at_call 103; exact Calls.quiet_of (hv.out _))))
     obtain ⟨c0, c1, c2, c3⟩ := Box4.drewN ⟨c0, c1, c2, c3⟩ nq
     replace hbel := drewN_below hbel nq
     generalize wr.drewN nq = wr at *
     go_wp2_with fail
     go_quiet ((first | (go_at_call 46; exact Calls.quiet_of_same (c_l2Top _)) | (go_at_call 77; exact Calls.quiet_of_same (hm.out _)) | (go_at_call 103; exact Calls.quiet_of (hv.out _))))
     obtain ⟨c0, c1, c2, c3⟩ := Box4.drewN ⟨c0, c1, c2, c3⟩ nq
     replace hbel := drewN_below hbel nq
     generalize wr.drewN nq = wr at *
     go_wp2_with fail
     exact ⟨⟨1, 1, _, by omega, rfl, Hnext.out.symm, rfl, rfl, ⟨c0, c1, c2, c3⟩, hbel⟩, by simp [intOf]⟩
  | succ j =>
    obtain rfl : z = (j : Int) + 1 := by omega
    clear hz
    by_cases hj : j < 32
    ·have hj0 : (0 : Int) ≤ j := by omega
     have hj1 : (j : Int) < 32 := by omega
     obtain ⟨P2, hP2⟩ : ∃ P, 2 ^ (j + 1) = P := ⟨_, rfl⟩
     obtain ⟨P1, hP1⟩ : ∃ P, 2 ^ j = P := ⟨_, rfl⟩
     have hP2l : P2 ≤ 4294967296 := by rw [← hP2]; exact Nat.pow_le_pow_right (n := 2) (j := 32) (by omega) (by omega)
     have hP20 : 0 < P2 := by rw [← hP2]; exact Nat.two_pow_pos _
     have hP1l : P1 ≤ 4294967295 := by rw [← hP1]; exact pow_le hj
     have s2 := shl_one (j := j + 1) (by omega) hP2
     have s1 := shl_one (j := j) (by omega) hP1
     have d2 : IntKind.i64.wrap ((P2 : Int) - 1) = ((P2 - 1 : Nat) : Int) := by rw [wrap_id (by omega) (by omega)]; omega
     have w1 : IntKind.i64.wrap ((j : Int) + 1 - 1) = j := by rw [wrap_id (by omega) (by omega)]; omega
     have hm : Hid (∀ w, Calls Try.prog 77 #[.int .i64 ((P2 - 1 : Nat) : Int)] w fun e w' => e = .returned (.int .i64 ((P2 - 1 : Nat) : Int)) ∧ w' = w) := by
      intro w; have := c_l2Mask (P2 - 1) w (by omega); rw [show maskOf (P2 - 1) = P2 - 1 by rw [← hP2]; exact mask_pow _] at this; exact this
     have hv : Hid (∀ w, Calls Try.prog 103 #[.int .i64 ((j : Int) + 1)] w fun e w' => e = .returned (.int .i64 ((notB (2 ^ j - 1) : Nat) : Int)) ∧ ∃ m, w' = w.drewN m) := fun w => c_l2OverS j hj w
     have e1 := xor_top (P2 - 1) (by omega)
     have l1 : notB (P2 - 1) ≤ 4294967295 := not_le (by omega)
     have e2 := and_i64 n (notB (P2 - 1)) (by omega) (by omega)
     have l2 : n &&& notB (P2 - 1) ≤ 4294967295 := and_le _ hn
     have e3 := or_i64 (n &&& notB (P2 - 1)) P1 (by omega) (by omega)
     have hX : (n &&& notB (P2 - 1)) ||| P1 = tryN n j := by rw [tryN, hP1, hP2]
     rw [hX] at e3
     have lX := try_le (n := n) hn hj
     have e4 := xor_top o ho
     have l4 := not_le ho
     have e5 := and_i64 (tryN n j) (notB o) (by omega) (by omega)
     have l5 : tryN n j &&& notB o ≤ 4294967295 := and_le _ lX
     have lV : notB (2 ^ j - 1) ≤ 4294967295 := not_le (mask_le (by omega))
     have e6 := and_i64 (tryN n j &&& notB o) (notB (2 ^ j - 1)) (by omega) (by omega)
     have e7 := and_i64 b (notB (2 ^ j - 1)) (by omega) (by omega)
     have e8 := and_i64 (tryN n j) (notB (2 ^ j - 1)) (by omega) (by omega)
     have e9 := xor_top (notB (2 ^ j - 1)) lV
     have l9 := not_le lV
     have e10 := and_i64 b (notB (notB (2 ^ j - 1))) (by omega) (by omega)
     have l8 : tryN n j &&& notB (2 ^ j - 1) ≤ 4294967295 := and_le _ lX
     have l10 : b &&& notB (notB (2 ^ j - 1)) ≤ 4294967295 := and_le _ hb
     have e11 := or_i64 (tryN n j &&& notB (2 ^ j - 1)) (b &&& notB (notB (2 ^ j - 1))) (by omega) (by omega)
     rw [try_is hn hb hj] at e11
     have lC := cand_le hn hb hj
     have hiff := try_has hn hb hd hj
     have hvd : valid n b o (j + 1) = (!n.testBit j && hasN b o (cand n b j)) := rfl
     have hval : val n b (j + 1) = cand n b j := rfl
     have hlt := upTo_lt (o := o) hn hb (show j + 1 < 33 by omega)
     have t0 : bits .and .i64 ((n : Int) / (2 : Int) ^ j) 1 = ((n / 2 ^ j % 2 : Nat) : Int) := by
      rw [shr_nat]; exact and_one _ (Nat.le_trans (Nat.div_le_self _ _) hn)
     rw [bit_is] at t0
     have hskip := upTo_skip (lo := n) (b := b) (o := o) (k := j + 1)
     have hkeep := upTo_keep (lo := n) (b := b) (o := o) (k := j + 1)
     have htake := upTo_take (lo := n) (b := b) (o := o) (k := j + 1)
     rw [hval] at hlt htake
     rw [← hu] at hlt hskip hkeep htake
     have hfin : ∀ x : Int, x = upTo n b o (j + 1 + 1) → ∀ wr', Box4 w.heap.size lo hi b o wr' → Below w.heap.size w wr' → Round lo hi b o n w (.int .i64 x) (.int .i64 ((j : Int) + 1 + 1)) wr' :=
      fun x hx wr' h1 h2 => ⟨j + 1 + 1, _, x, by omega, by omega, hx, rfl, rfl, h1, h2⟩
     have Hfin : Hid _ := hfin
     have Hhv : Hid _ := hvd
     have Hlt : Hid _ := hlt
     have Hskip : Hid _ := hskip
     have Hkeep : Hid _ := hkeep
     have Htake : Hid _ := htake
     have Hiff : Hid _ := hiff
     clear hfin hvd hlt hskip hkeep htake hiff hval hX hP1 hP2 hu hd
     cases hbit : n.testBit j
     ·rw [hbit] at t0
      replace t0 : bits .and .i64 ((n : Int) / (2 : Int) ^ j) 1 = 0 := t0
      cases hh : hasN b o (cand n b j)
      ·have hne : (((tryN n j &&& notB o &&& notB (2 ^ j - 1) : Nat) : Int) != ((b &&& notB (2 ^ j - 1) : Nat) : Int)) = true := by
        have := Hiff.out; rw [hh] at this; simp at this; simp; omega
       have Hx : Hid (u = upTo n b o (j + 1 + 1)) := (Hskip.out (by rw [Hhv.out, hbit, hh]; rfl)).symm
       clear hbit hh
       generalize notB (P2 - 1) = A1 at *
       generalize (n &&& A1) = A2 at *
       generalize P2 - 1 = A3 at *
       generalize (tryN n j &&& notB o &&& notB (2 ^ j - 1)) = A4 at *
       generalize (b &&& notB (2 ^ j - 1)) = A5 at *
       generalize (tryN n j &&& notB o) = A6 at *
       generalize (tryN n j &&& notB (2 ^ j - 1)) = A7 at *
       generalize (b &&& notB (notB (2 ^ j - 1))) = A8 at *
       generalize notB (notB (2 ^ j - 1)) = A9 at *
       generalize notB (2 ^ j - 1) = A10 at *
       generalize notB o = A11 at *
       generalize tryN n j = A12 at *
       generalize cand n b j = A13 at *
       go_wp2_with fail
       go_quiet ((first | (go_at_call 46; exact Calls.quiet_of_same (c_l2Top _)) | (go_at_call 77; exact Calls.quiet_of_same (hm.out _)) | (go_at_call 103; exact Calls.quiet_of (hv.out _))))
       obtain ⟨c0, c1, c2, c3⟩ := Box4.drewN ⟨c0, c1, c2, c3⟩ nq
       replace hbel := drewN_below hbel nq
       generalize wr.drewN nq = wr at *
       go_wp2_with fail
       go_quiet ((first | (go_at_call 46; exact Calls.quiet_of_same (c_l2Top _)) | (go_at_call 77; exact Calls.quiet_of_same (hm.out _)) | (go_at_call 103; exact Calls.quiet_of (hv.out _))))
       obtain ⟨c0, c1, c2, c3⟩ := Box4.drewN ⟨c0, c1, c2, c3⟩ nq
       replace hbel := drewN_below hbel nq
       generalize wr.drewN nq = wr at *
       go_wp2_with fail
       exact ⟨Hfin.out _ Hx.out _ ⟨c0, c1, c2, c3⟩ hbel, by simp [intOf]; omega⟩
      ·have hne : (((tryN n j &&& notB o &&& notB (2 ^ j - 1) : Nat) : Int) != ((b &&& notB (2 ^ j - 1) : Nat) : Int)) = false := by
        have := Hiff.out; rw [hh] at this; simp at this; simp; omega
       have hva : valid n b o (j + 1) = true := by rw [Hhv.out, hbit, hh]; rfl
       have hul := Hlt.out hva
       have Htk : Hid (¬ 0 ≤ u → upTo n b o (j + 1 + 1) = (cand n b j : Nat)) := Htake.out hva
       clear hbit hh hva
       generalize notB (P2 - 1) = A1 at *
       generalize (n &&& A1) = A2 at *
       generalize P2 - 1 = A3 at *
       generalize (tryN n j &&& notB o &&& notB (2 ^ j - 1)) = A4 at *
       generalize (b &&& notB (2 ^ j - 1)) = A5 at *
       generalize (tryN n j &&& notB o) = A6 at *
       generalize (tryN n j &&& notB (2 ^ j - 1)) = A7 at *
       generalize (b &&& notB (notB (2 ^ j - 1))) = A8 at *
       generalize notB (notB (2 ^ j - 1)) = A9 at *
       generalize notB (2 ^ j - 1) = A10 at *
       generalize notB o = A11 at *
       generalize tryN n j = A12 at *
       generalize cand n b j = A13 at *
       by_cases g : 0 ≤ u
       ·go_wp2_with fail
        go_quiet ((first | (go_at_call 46; exact Calls.quiet_of_same (c_l2Top _)) | (go_at_call 77; exact Calls.quiet_of_same (hm.out _)) | (go_at_call 103; exact Calls.quiet_of (hv.out _))))
        obtain ⟨c0, c1, c2, c3⟩ := Box4.drewN ⟨c0, c1, c2, c3⟩ nq
        replace hbel := drewN_below hbel nq
        generalize wr.drewN nq = wr at *
        go_wp2_with fail
        go_quiet ((first | (go_at_call 46; exact Calls.quiet_of_same (c_l2Top _)) | (go_at_call 77; exact Calls.quiet_of_same (hm.out _)) | (go_at_call 103; exact Calls.quiet_of (hv.out _))))
        obtain ⟨c0, c1, c2, c3⟩ := Box4.drewN ⟨c0, c1, c2, c3⟩ nq
        replace hbel := drewN_below hbel nq
        generalize wr.drewN nq = wr at *
        go_wp2_with fail
        go_quiet ((first | (go_at_call 46; exact Calls.quiet_of_same (c_l2Top _)) | (go_at_call 77; exact Calls.quiet_of_same (hm.out _)) | (go_at_call 103; exact Calls.quiet_of (hv.out _))))
        obtain ⟨c0, c1, c2, c3⟩ := Box4.drewN ⟨c0, c1, c2, c3⟩ nq
        replace hbel := drewN_below hbel nq
        generalize wr.drewN nq = wr at *
        go_wp2_with fail
        exact ⟨Hfin.out _ (Hkeep.out g).symm _ ⟨c0, c1, c2, c3⟩ hbel, by simp [intOf]; omega⟩
       ·replace g : u < 0 := by omega
        go_wp2_with fail
        go_quiet ((first | (go_at_call 46; exact Calls.quiet_of_same (c_l2Top _)) | (go_at_call 77; exact Calls.quiet_of_same (hm.out _)) | (go_at_call 103; exact Calls.quiet_of (hv.out _))))
        obtain ⟨c0, c1, c2, c3⟩ := Box4.drewN ⟨c0, c1, c2, c3⟩ nq
        replace hbel := drewN_below hbel nq
        generalize wr.drewN nq = wr at *
        go_wp2_with fail
        go_quiet ((first | (go_at_call 46; exact Calls.quiet_of_same (c_l2Top _)) | (go_at_call 77; exact Calls.quiet_of_same (hm.out _)) | (go_at_call 103; exact Calls.quiet_of (hv.out _))))
        obtain ⟨c0, c1, c2, c3⟩ := Box4.drewN ⟨c0, c1, c2, c3⟩ nq
        replace hbel := drewN_below hbel nq
        generalize wr.drewN nq = wr at *
        go_wp2_with fail
        go_quiet ((first | (go_at_call 46; exact Calls.quiet_of_same (c_l2Top _)) | (go_at_call 77; exact Calls.quiet_of_same (hm.out _)) | (go_at_call 103; exact Calls.quiet_of (hv.out _))))
        obtain ⟨c0, c1, c2, c3⟩ := Box4.drewN ⟨c0, c1, c2, c3⟩ nq
        replace hbel := drewN_below hbel nq
        generalize wr.drewN nq = wr at *
        go_wp2_with fail
        exact ⟨Hfin.out _ (Htk.out (by omega)).symm _ ⟨c0, c1, c2, c3⟩ hbel, by simp [intOf]; omega⟩
     ·rw [hbit] at t0
      replace t0 : bits .and .i64 ((n : Int) / (2 : Int) ^ j) 1 = 1 := t0
      have Hx : Hid (u = upTo n b o (j + 1 + 1)) := (Hskip.out (by rw [Hhv.out, hbit]; rfl)).symm
      clear hbit
      generalize notB (P2 - 1) = A1 at *
      generalize (n &&& A1) = A2 at *
      generalize P2 - 1 = A3 at *
      generalize (tryN n j &&& notB o &&& notB (2 ^ j - 1)) = A4 at *
      generalize (b &&& notB (2 ^ j - 1)) = A5 at *
      generalize (tryN n j &&& notB o) = A6 at *
      generalize (tryN n j &&& notB (2 ^ j - 1)) = A7 at *
      generalize (b &&& notB (notB (2 ^ j - 1))) = A8 at *
      generalize notB (notB (2 ^ j - 1)) = A9 at *
      generalize notB (2 ^ j - 1) = A10 at *
      generalize notB o = A11 at *
      generalize tryN n j = A12 at *
      generalize cand n b j = A13 at *
      go_wp2_with fail
      go_quiet ((first | (go_at_call 46; exact Calls.quiet_of_same (c_l2Top _)) | (go_at_call 77; exact Calls.quiet_of_same (hm.out _)) | (go_at_call 103; exact Calls.quiet_of (hv.out _))))
      obtain ⟨c0, c1, c2, c3⟩ := Box4.drewN ⟨c0, c1, c2, c3⟩ nq
      replace hbel := drewN_below hbel nq
      generalize wr.drewN nq = wr at *
      go_wp2_with fail
      exact ⟨Hfin.out _ Hx.out _ ⟨c0, c1, c2, c3⟩ hbel, by simp [intOf]; omega⟩
    ·obtain rfl : j = 32 := by omega
     have Hu : Hid _ := hu
     clear hu
     go_wp2
     go_ret
     exact ⟨ret_int Hu.out, hbel⟩
end Go.Proofs.Ytkaekiodjjhjkaa.H
namespace Go.Proofs.Ytkaekiodjjhjkaa.H
open Go.RowKit
theorem Box4.below {k : Nat} {lo hi b o : Int} {w1 w2 : World} (h : Box4 k lo hi b o w1) (hb : Below w1.heap.size w1 w2) (hk : k < w1.heap.size) : Box4 k lo hi b o w2 :=
 ⟨(hb.cell (p := ⟨k, 0, none⟩) hk).trans h.c0, (hb.cell (p := ⟨k, 1, none⟩) hk).trans h.c1, (hb.cell (p := ⟨k, 2, none⟩) hk).trans h.c2, (hb.cell (p := ⟨k, 3, none⟩) hk).trans h.c3⟩
theorem and_pow (n j : Nat) : n &&& 2 ^ j = if n.testBit j then 2 ^ j else 0 := by
 apply Nat.eq_of_testBit_eq
 intro i
 rw [Nat.testBit_and, pow_bit]
 by_cases h : j = i
 ·subst h; cases hb : n.testBit j <;> simp [pow_bit]
 ·cases hb : n.testBit j <;> simp [pow_bit, h]
def Round2 (lo b o : Nat) (hi : Int) (w : World) (t : Value) (wr : World) : Prop :=
 ∃ (j P : Nat), j ≤ 32 ∧ 2 ^ j = P ∧ upTo lo b o (j + 1) = -1 ∧ t = .int .i64 P ∧ Box4 w.heap.size lo hi b o wr ∧ Below w.heap.size w wr ∧ w.heap.size < wr.heap.size
theorem c_leastFromMin (lo b o : Nat) (hi : Int) (w : World) (hl : lo ≤ 4294967295) (hb : b ≤ 4294967295) (ho : o ≤ 4294967295) (hd : b &&& o = 0) :
 Calls Try.prog 75 #[rv lo hi b o] w fun e w' => e = .returned (.int .i64 (nextN lo b o)) ∧ Below w.heap.size w w' := by
 cases hh : hasN b o lo
 ·have Hu : Hid (upTo lo b o 1 = -1) := by
   have := upTo_skip (lo := lo) (b := b) (o := o) (k := 0) hh
   rw [this]; rfl
  go_enter Try.func75, Try.ntmps75
  go_wp2_with fail
  refine (c_hasBits _ _ b o lo _ hb ho hl).mono ?_
  rintro e w1 ⟨rfl, hb1⟩
  have hx1 := (Box4.new w lo hi b o 56).below hb1 (by simp)
  have hz1 : w.heap.size < w1.heap.size := by have := hb1.size; simp at this; omega
  have hbel1 : Below w.heap.size w w1 := ((Below.refl _ _).alloc (Nat.le_refl _) _).trans (hb1.mono (by simp))
  clear hb1
  go_wp2_with fail
  go_loopw [3] (fun t wr => Round2 lo b o hi w t wr) (fun t _ => 8589934592 - (intOf t).toNat)
  case atStart => exact ⟨0, 1, by omega, rfl, Hu.out, rfl, hx1, hbel1, hz1⟩
  case round =>
   obtain ⟨j, P, hj, hP, hu, rfl, hbox, hbel, hz⟩ := hrel
   have c0 := hbox.c0; have c1 := hbox.c1; have c2 := hbox.c2; have c3 := hbox.c3
   have hP0 : 0 < P := by rw [← hP]; exact Nat.two_pow_pos _
   have hP32 : P ≤ 4294967296 := by rw [← hP]; exact Nat.pow_le_pow_right (n := 2) (j := 32) (by omega) (by omega)
   clear hx1 hz1 hbel1 Hu hh
   by_cases hj2 : j < 32
   ·have hPl : P ≤ 4294967295 := by rw [← hP]; exact pow_le hj2
    obtain ⟨M, hM⟩ : ∃ M, P - 1 = M := ⟨_, rfl⟩
    have hMi : (P : Int) - 1 = M := by omega
    have e1 := andNot_i64 lo M hl (by omega)
    have l1 : lo &&& notB M ≤ 4294967295 := and_le _ hl
    have e2 := or_i64 (lo &&& notB M) P (by omega) (by omega)
    have l2 : (lo &&& notB M) ||| P ≤ 4294967295 := or_le l1 hPl
    have e3 := and_i64 b M (by omega) (by omega)
    have l3 : b &&& M ≤ 4294967295 := and_le _ hb
    have e4 := or_i64 ((lo &&& notB M) ||| P) (b &&& M) (by omega) (by omega)
    have hc : (lo &&& notB M) ||| P ||| (b &&& M) = cand lo b j := by rw [cand, hP, hM]
    rw [hc] at e4
    have lC := cand_le hl hb hj2
    have e5 := and_i64 lo P (by omega) (by omega)
    have hap := and_pow lo j
    rw [hP] at hap
    have hvd : valid lo b o (j + 1) = (!lo.testBit j && hasN b o (cand lo b j)) := rfl
    have hskip := upTo_skip (lo := lo) (b := b) (o := o) (k := j + 1)
    have htake := upTo_take (lo := lo) (b := b) (o := o) (k := j + 1)
    have hval : val lo b (j + 1) = cand lo b j := rfl
    rw [hval] at htake
    have hst : 0 ≤ upTo lo b o (j + 1 + 1) → nextN lo b o = upTo lo b o (j + 1 + 1) := fun h => upTo_stays h (by omega)
    rw [hu] at hskip htake
    have Hfin : Hid (upTo lo b o (j + 1 + 1) = -1 → ∀ x : Int, x = (P : Int) * 2 → ∀ wr', Box4 w.heap.size lo hi b o wr' → Below w.heap.size w wr' → w.heap.size < wr'.heap.size → Round2 lo b o hi w (.int .i64 x) wr') :=
     fun h x hx wr' h1 h2 h3 => ⟨j + 1, 2 * P, by omega, by rw [Nat.pow_succ, hP]; omega, h, by rw [hx]; congr 1; omega, h1, h2, h3⟩
    have Hskip : Hid _ := hskip
    have Htake : Hid _ := htake
    have Hst : Hid _ := hst
    have Hhv : Hid _ := hvd
    have Hc : Hid _ := hc
    clear hskip htake hst hvd hc hval hu hd hP
    cases hbit : lo.testBit j
    ·rw [hbit] at hap
     replace hap : lo &&& P = 0 := hap
     rw [hap] at e5
     replace e5 : bits .and .i64 (lo : Int) (P : Int) = 0 := e5
     clear hap
     cases hc2 : hasN b o (cand lo b j)
     ·have Hn : Hid (upTo lo b o (j + 1 + 1) = -1) := Hskip.out (by rw [Hhv.out, hbit, hc2]; rfl)
      clear hbit
      go_wp2_with fail
      refine (c_hasBits _ _ b o (cand lo b j) _ hb ho lC).mono ?_
      rintro e w2 ⟨rfl, hb2⟩
      have hx2 := hbox.below hb2 hz
      have hz2 : w.heap.size < w2.heap.size := by have := hb2.size; omega
      have hbel2 : Below w.heap.size w w2 := hbel.trans (hb2.mono (by omega))
      rw [hc2]
      go_wp2_with fail
      exact ⟨Hfin.out Hn.out _ rfl _ hx2 hbel2 hz2, by simp [intOf]; omega⟩
     ·have Hn : Hid (nextN lo b o = cand lo b j) := by
       have := Htake.out (by rw [Hhv.out, hbit, hc2]; rfl) (by omega)
       have h2 := Hst.out (by rw [this]; omega)
       exact h2.trans this
      clear hbit
      go_wp2_with fail
      refine (c_hasBits _ _ b o (cand lo b j) _ hb ho lC).mono ?_
      rintro e w2 ⟨rfl, hb2⟩
      have hbel2 : Below w.heap.size w w2 := hbel.trans (hb2.mono (by omega))
      rw [hc2]
      go_wp2_with fail
      go_ret
      exact ⟨ret_int Hn.out.symm, hbel2⟩
    ·rw [hbit] at hap
     replace hap : lo &&& P = P := hap
     rw [hap] at e5
     clear hap
     have hne : ((P : Int) == 0) = false := by simp; omega
     have Hn : Hid (upTo lo b o (j + 1 + 1) = -1) := Hskip.out (by rw [Hhv.out, hbit]; rfl)
     clear hbit
     go_wp2_with fail
     exact ⟨Hfin.out Hn.out _ rfl _ hbox hbel hz, by simp [intOf]; omega⟩
   ·obtain rfl : j = 32 := by omega
    have hPe : P = 4294967296 := by rw [← hP]
    have hlt : 4294967295 < (P : Int) := by omega
    have Hu : Hid (upTo lo b o 33 = -1) := hu
    clear hP hu hPe hj hj2
    go_wp2_with fail
    go_ret
    exact ⟨ret_int Hu.out.symm, hbel⟩
 ·have Hn : Hid (nextN lo b o = lo) := by
   have h1 : upTo lo b o 1 = lo := upTo_take (lo := lo) (b := b) (o := o) (k := 0) hh (by rw [upTo]; omega)
   have h2 := upTo_stays (lo := lo) (b := b) (o := o) (k := 1) (m := 33) (by rw [h1]; omega) (by omega)
   exact h2.trans h1
  go_enter Try.func75, Try.ntmps75
  go_wp2_with fail
  refine (c_hasBits _ _ b o lo _ hb ho hl).mono ?_
  rintro e w1 ⟨rfl, hb1⟩
  have hx1 := (Box4.new w lo hi b o 56).below hb1 (by simp)
  have hbel1 : Below w.heap.size w w1 := ((Below.refl _ _).alloc (Nat.le_refl _) _).trans (hb1.mono (by simp))
  have c0 := hx1.c0
  rw [hh]
  go_wp2_with fail
  go_ret
  exact ⟨ret_int Hn.out.symm, hbel1⟩
end Go.Proofs.Ytkaekiodjjhjkaa.H
namespace Go.Proofs.Ytkaekiodjjhjkaa.H
open Go.RowKit
def leastR (lo hi b o : Nat) : Int := if someN lo hi b o then nextN lo b o else -1
theorem next_ge (lo b o : Nat) : -1 ≤ nextN lo b o := upTo_ge
theorem next_top {lo b o : Nat} (hl : lo ≤ 4294967295) (hb : b ≤ 4294967295) : nextN lo b o ≤ 4294967295 := upTo_top hl hb (Nat.le_refl _)
theorem least_gt {lo hi b o : Nat} (h : (hi : Int) < nextN lo b o) : leastR lo hi b o = -1 := by
 rw [leastR, if_neg]; simp [someN]; omega
theorem least_le {lo hi b o : Nat} (h : nextN lo b o ≤ hi) : leastR lo hi b o = nextN lo b o := by
 rw [leastR]
 by_cases g : 0 ≤ nextN lo b o
 ·rw [if_pos]; simp [someN]; omega
 ·have := next_ge lo b o
  rw [if_neg]
  ·omega
  ·simp [someN]; omega
theorem least_some (lo hi b o : Nat) : (leastR lo hi b o != -1) = someN lo hi b o := by
 rw [leastR]
 by_cases g : someN lo hi b o = true
 ·rw [if_pos g, g]
  simp [someN] at g
  simp; omega
 ·rw [if_neg g]
  simp at g; rw [g]; rfl
theorem c_RangeLeast_bad (lo hi b o : Int) (w : World) (h : okB lo hi b o = false) :
 Calls Try.prog 59 #[rv lo hi b o] w fun e w' => e = .returned (.int .i64 (-1)) ∧ Below w.heap.size w w' := by
 go_enter Try.func59, Try.ntmps59
 go_wp2_with fail
 refine (c_RangeOk lo hi b o _).mono ?_
 rintro e w1 ⟨rfl, hb1⟩
 rw [h]
 go_wp2_with fail
 go_ret
 exact ⟨rfl, ((Below.refl _ _).alloc (Nat.le_refl _) _).trans (hb1.mono (by simp))⟩
theorem c_RangeLeast (lo hi b o : Nat) (w : World) (h : OkN lo hi b o) :
 Calls Try.prog 59 #[rv lo hi b o] w fun e w' => e = .returned (.int .i64 (leastR lo hi b o)) ∧ Below w.heap.size w w' := by
 have Hok : Hid _ := okB_of h
 have Hn : Hid _ := h
 have g1 := next_ge lo b o
 have g2 := next_top (o := o) h.lo h.b
 have Hg : Hid _ := @least_gt lo hi b o
 have Hl : Hid _ := @least_le lo hi b o
 clear h
 go_enter Try.func59, Try.ntmps59
 go_wp2_with fail
 refine (c_RangeOk _ _ _ _ _).mono ?_
 rintro e w1 ⟨rfl, hb1⟩
 rw [Hok.out]
 have hx1 := (Box4.new w lo hi b o 56).below hb1 (by simp)
 have hz1 : w.heap.size < w1.heap.size := by have := hb1.size; simp at this; omega
 have hbel1 : Below w.heap.size w w1 := ((Below.refl _ _).alloc (Nat.le_refl _) _).trans (hb1.mono (by simp))
 have c0 := hx1.c0; have c1 := hx1.c1; have c2 := hx1.c2; have c3 := hx1.c3
 clear hb1
 go_wp2_with fail
 refine (c_leastFromMin lo b o hi _ Hn.out.lo Hn.out.b Hn.out.o Hn.out.d).mono ?_
 rintro e w2 ⟨rfl, hb2⟩
 have hx2 := hx1.below hb2 hz1
 have hbel2 : Below w.heap.size w w2 := hbel1.trans (hb2.mono (by omega))
 clear c0 c1 c2 c3
 have c1 := hx2.c1
 by_cases g : (hi : Int) < nextN lo b o
 ·go_wp2_with fail
  go_ret
  exact ⟨ret_int (Hg.out g).symm, hbel2⟩
 ·go_wp2_with fail
  go_ret
  exact ⟨ret_int (Hl.out (by omega)).symm, hbel2⟩
theorem c_RangeSome_bad (lo hi b o : Int) (w : World) (h : okB lo hi b o = false) :
 Calls Try.prog 43 #[rv lo hi b o] w fun e w' => e = .returned (.bool false) ∧ Below w.heap.size w w' := by
 go_enter Try.func43, Try.ntmps43
 go_wp2_with fail
 refine (c_RangeLeast_bad lo hi b o _ h).mono ?_
 rintro e w1 ⟨rfl, hb1⟩
 go_wp2_with fail
 go_ret
 exact ⟨rfl, ((Below.refl _ _).alloc (Nat.le_refl _) _).trans (hb1.mono (by simp))⟩
theorem c_RangeSome (lo hi b o : Nat) (w : World) (h : OkN lo hi b o) :
 Calls Try.prog 43 #[rv lo hi b o] w fun e w' => e = .returned (.bool (someN lo hi b o)) ∧ Below w.heap.size w w' := by
 have Hs : Hid _ := least_some lo hi b o
 go_enter Try.func43, Try.ntmps43
 go_wp2_with fail
 refine (c_RangeLeast lo hi b o _ h).mono ?_
 rintro e w1 ⟨rfl, hb1⟩
 generalize leastR lo hi b o = L at *
 go_wp2_with fail
 go_ret
 exact ⟨ret_bool Hs.out, ((Below.refl _ _).alloc (Nat.le_refl _) _).trans (hb1.mono (by simp))⟩
theorem c_l2Some (lo hi b o : Nat) (w : World) (h : OkN lo hi b o) :
 Calls Try.prog 78 #[rv lo hi b o] w fun e w' => e = .returned (.bool (someN lo hi b o)) ∧ Below w.heap.size w w' := by
 have Hn : Hid _ := h
 have Hs : Hid (someN lo hi b o = (decide (0 ≤ nextN lo b o) && decide (nextN lo b o ≤ hi))) := rfl
 clear h
 go_enter Try.func78, Try.ntmps78
 go_wp2_with fail
 refine (c_l2Next _ _ b o lo _ Hn.out.b Hn.out.o Hn.out.lo Hn.out.d).mono ?_
 rintro e w1 ⟨rfl, hb1⟩
 have hx1 := (Box4.new w lo hi b o 56).below hb1 (by simp)
 have hbel1 : Below w.heap.size w w1 := ((Below.refl _ _).alloc (Nat.le_refl _) _).trans (hb1.mono (by simp))
 have c1 := hx1.c1
 generalize nextN lo b o = L at *
 go_wp2
 all_goals (go_ret; refine ⟨ret_bool ?_, hbel1⟩; rw [Hs.out]; first | (simp_all; done) | (simp_all; omega) | (rw [Bool.eq_iff_iff]; simp; omega))
end Go.Proofs.Ytkaekiodjjhjkaa.H
namespace Go.Proofs.Ytkaekiodjjhjkaa
open Go.RowKit
end Go.Proofs.Ytkaekiodjjhjkaa
namespace Go.Proofs.Ytkaekiodjjhjkaa
open Go.RowKit
theorem _root_.Go.RowKit.Below.to {w w1 w2 : World} (h : Below w.heap.size w w1) (h2 : Below w1.heap.size w1 w2) : Below w.heap.size w w2 := h.trans (h2.mono h.size)
end Go.Proofs.Ytkaekiodjjhjkaa
namespace Go.Proofs.Ytkaekiodjjhjkaa.G
open Go.RowKit
theorem ret_bool {a b : Bool} (h : a = b) : Ending.returned (.bool a) = .returned (.bool b) := by rw [h]
theorem ret_i64 {a b : Int} (h : a = b) : Ending.returned (.int .i64 a) = .returned (.int .i64 b) := by rw [h]
theorem bcell {W w1 : World} (hb : Below W.heap.size W w1) : (∀ b o, b < W.heap.size → w1.cell? ⟨b, o, none⟩ = W.cell? ⟨b, o, none⟩) ∧ (∀ b o, b < W.heap.size → w1.frozen? ⟨b, o, none⟩ = W.frozen? ⟨b, o, none⟩) :=
 ⟨fun b o h => hb.cell (p := ⟨b, o, none⟩) h, fun b o h => hb.frozen (p := ⟨b, o, none⟩) h⟩
def inB (n a b : Int) : Bool := decide (a ≤ n) && decide (n ≤ b)
def shapeB (k s r : Int) : Bool := inB k 1 2 && inB s 1 8 && inB r 1 8
theorem f36 (n a b : Int) (w : World) :
 Calls Try.prog 56 #[.int .i64 n, .int .i64 a, .int .i64 b] w fun e w' => e = .returned (.bool (inB n a b)) ∧ w' = w := by
 go_enter Try.func56, Try.ntmps56
 go_wp2
 all_goals (go_ret; exact ⟨ret_bool (by rw [Bool.eq_iff_iff]; simp [inB]; omega), rfl⟩)
theorem f48 (w : World) : Calls Try.prog 46 #[] w fun e w' => e = .returned (.int .i64 4294967295) ∧ w' = w := by
 go_enter Try.func46, Try.ntmps46
 go_wp2
 go_ret
 exact ⟨rfl, rfl⟩
def IntRow (w : World) (b p : Nat) (ks : List Int) : Prop := ∀ k (h : k < ks.length), w.cell? ⟨b, p + k, none⟩ = some (.int .i64 ks[k])
def StrRow (w : World) (b p : Nat) (ss : List ByteArray) : Prop := ∀ k (h : k < ss.length), w.cell? ⟨b, p + k, none⟩ = some (.string ss[k])
theorem IntRow.below {w w' : World} {b p B : Nat} {xs : List Int} (h : IntRow w b p xs) (hb : Below B w w') (hB : b < B) : IntRow w' b p xs := fun k hk => (hb.cell hB).trans (h k hk)
theorem StrRow.below {w w' : World} {b p B : Nat} {xs : List ByteArray} (h : StrRow w b p xs) (hb : Below B w w') (hB : b < B) : StrRow w' b p xs := fun k hk => (hb.cell hB).trans (h k hk)
def ArgI (w : World) (a : Option Addr) (xs : List Int) : Prop := xs = [] ∨ ∃ b p, a = some ⟨b, p, none⟩ ∧ b < w.heap.size ∧ IntRow w b p xs
def ArgS (w : World) (a : Option Addr) (xs : List ByteArray) : Prop := xs = [] ∨ ∃ b p, a = some ⟨b, p, none⟩ ∧ b < w.heap.size ∧ StrRow w b p xs
theorem ArgI.below {w w' : World} {a : Option Addr} {xs : List Int} {B : Nat} (h : ArgI w a xs) (hb : Below B w w') (hB : w.heap.size ≤ B) : ArgI w' a xs := by
 rcases h with h | ⟨b, p, rfl, hlt, hr⟩
 ·exact .inl h
 ·exact .inr ⟨b, p, rfl, by have := hb.size; omega, hr.below hb (by omega)⟩
theorem ArgS.below {w w' : World} {a : Option Addr} {xs : List ByteArray} {B : Nat} (h : ArgS w a xs) (hb : Below B w w') (hB : w.heap.size ≤ B) : ArgS w' a xs := by
 rcases h with h | ⟨b, p, rfl, hlt, hr⟩
 ·exact .inl h
 ·exact .inr ⟨b, p, rfl, by have := hb.size; omega, hr.below hb (by omega)⟩
theorem ArgI.at {w : World} {a : Option Addr} {xs : List Int} (h : ArgI w a xs) (k : Nat) (hk : k < xs.length) : ∃ b p, a = some ⟨b, p, none⟩ ∧ b < w.heap.size ∧ w.cell? ⟨b, p + k, none⟩ = some (.int .i64 xs[k]) := by
 rcases h with rfl | ⟨b, p, rfl, hlt, hr⟩
 ·simp at hk
 ·exact ⟨b, p, rfl, hlt, hr k hk⟩
theorem ArgS.at {w : World} {a : Option Addr} {xs : List ByteArray} (h : ArgS w a xs) (k : Nat) (hk : k < xs.length) : ∃ b p, a = some ⟨b, p, none⟩ ∧ b < w.heap.size ∧ w.cell? ⟨b, p + k, none⟩ = some (.string xs[k]) := by
 rcases h with rfl | ⟨b, p, rfl, hlt, hr⟩
 ·simp at hk
 ·exact ⟨b, p, rfl, hlt, hr k hk⟩
end Go.Proofs.Ytkaekiodjjhjkaa.G
namespace Go.Proofs.Ytkaekiodjjhjkaa.G
open Go.RowKit
theorem IntRow.set {w : World} {b p : Nat} {xs : List Int} (h : IntRow w b p xs) (a : Addr) (v : Value) (ha : a.block ≠ b) : IntRow (w.setCell a v) b p xs := fun k hk => by
 rw [World.cell?_setCell_other _ _ _ _ (fun e => ha (by rw [e]))]; exact h k hk
theorem StrRow.set {w : World} {b p : Nat} {xs : List ByteArray} (h : StrRow w b p xs) (a : Addr) (v : Value) (ha : a.block ≠ b) : StrRow (w.setCell a v) b p xs := fun k hk => by
 rw [World.cell?_setCell_other _ _ _ _ (fun e => ha (by rw [e]))]; exact h k hk
theorem info3 : (Try.prog.info? 3).map (fun i => (i.zero, i.size, i.bytes)) = some (some (.int .i64 0), 1, 8) := by kernel_rfl
theorem info9 : (Try.prog.info? 9).map (fun i => (i.zero, i.size, i.bytes)) = some (some (.string ⟨#[]⟩), 1, 16) := by kernel_rfl
def Room (w : World) (g m : Nat) : Prop := ∀ j, j < m → (∃ u, w.cell? ⟨g, j, none⟩ = some u) ∧ w.frozen? ⟨g, j, none⟩ = false
theorem Room.below {w w' : World} {g m B : Nat} (h : Room w g m) (hb : Below B w w') (hB : g < B) : Room w' g m := fun j hj => by
 obtain ⟨⟨u, hu⟩, hf⟩ := h j hj
 exact ⟨⟨u, (hb.cell hB).trans hu⟩, (hb.frozen hB).trans hf⟩
theorem Room.set {w : World} {g m : Nat} (h : Room w g m) (a : Addr) (v : Value) : Room (w.setCell a v) g m := fun j hj => by
 obtain ⟨⟨u, hu⟩, hf⟩ := h j hj
 exact ⟨cell?_setCell_some hu, by simpa using hf⟩
theorem room_own {w : World} {base e g n cap : Nat} {xs : List Value} (h : w.ownsRow base e 1 (.slice (some ⟨g, 0, none⟩) n cap) n xs) : Room w g n := fun j hj => by
 have hl := h.1
 refine ⟨⟨xs[j]'(by omega), ?_⟩, h.frozenAt j⟩
 rw [h.cellAt j (by omega), List.getElem?_eq_getElem (by omega)]
end Go.Proofs.Ytkaekiodjjhjkaa.G
namespace Go.Proofs.Ytkaekiodjjhjkaa.G
open Go.RowKit
end Go.Proofs.Ytkaekiodjjhjkaa.G
namespace Go.Proofs.Ytkaekiodjjhjkaa.G
open Go.RowKit
structure Good (k s : Int) (ks : List Int) (vs : List ByteArray) (n : Nat) : Prop where
 size : ∀ i (h : i < vs.length), i < n → (vs[i].size : Int) = s
 num : ∀ i (h : i < ks.length), i < n → inB ks[i] 0 4294967295 = true
 row : k = 1 → ∀ i (h : i < ks.length), i < n → ks[i] = i
 once : ∀ i (h : i < ks.length), i < n → ∀ j (hj : j < i), ks[j] ≠ ks[i]
def shape2B (k s r : Int) (n m : Nat) : Bool := shapeB k s r && ((n : Int) == (m : Int)) && decide ((n : Int) ≤ r)
structure OkP (k s r : Int) (ks : List Int) (vs : List ByteArray) : Prop where
 shape : shape2B k s r ks.length vs.length = true
 full : k = 1 → (ks.length : Int) = r
 good : Good k s ks vs ks.length
theorem shape2_len {k s r : Int} {n m : Nat} (h : shape2B k s r n m = true) : n = m ∧ (n : Int) ≤ r ∧ r ≤ 8 ∧ 1 ≤ k ∧ k ≤ 2 := by
 simp [shape2B, shapeB, inB] at h; omega
theorem f55 (k s r : Int) (a b : Option Addr) (n m c d : Nat) (w : World) :
 Calls Try.prog 101 #[.agg #[.int .i64 k, .int .i64 s, .int .i64 r, .slice a n c, .slice b m d]] w fun e w' => e = .returned (.bool (shape2B k s r n m)) ∧ Below w.heap.size w w' := by
 go_enter Try.func101, Try.ntmps101
 go_wp2_with (first | (go_at_call 56; refine (f36 _ _ _ _).mono ?_; rintro e w' ⟨rfl, rfl⟩))
 all_goals (go_ret; refine ⟨ret_bool ?_, (Below.refl _ _).alloc (Nat.le_refl _) _⟩; simp_all [shape2B, shapeB])
theorem Good.zero (k s : Int) (ks : List Int) (vs : List ByteArray) : Good k s ks vs 0 := ⟨fun _ _ h => absurd h (by omega), fun _ _ h => absurd h (by omega), fun _ _ _ h => absurd h (by omega), fun _ _ h => absurd h (by omega)⟩
theorem Good.next {k s : Int} {ks : List Int} {vs : List ByteArray} {n : Nat} (hg : Good k s ks vs n) (hk : n < ks.length) (hv : n < vs.length) (h1 : (vs[n].size : Int) = s) (h2 : inB ks[n] 0 4294967295 = true) (h3 : k = 1 → ks[n] = n) (h4 : ∀ j (hj : j < n), ks[j] ≠ ks[n]) : Good k s ks vs (n + 1) := by
 refine ⟨fun i h hi => ?_, fun i h hi => ?_, fun hk1 i h hi => ?_, fun i h hi => ?_⟩
 ·by_cases e : i = n
  ·subst e; exact h1
  ·exact hg.size i h (by omega)
 ·by_cases e : i = n
  ·subst e; exact h2
  ·exact hg.num i h (by omega)
 ·by_cases e : i = n
  ·subst e; exact h3 hk1
  ·exact hg.row hk1 i h (by omega)
 ·by_cases e : i = n
  ·subst e; exact h4
  ·exact hg.once i h (by omega)
theorem f28 (k s r : Int) (ks : List Int) (vs : List ByteArray) (a b : Option Addr) (c d : Nat) (w : World) (hA : ArgI w a ks) (hB : ArgS w b vs) :
 Calls Try.prog 85 #[.agg #[.int .i64 k, .int .i64 s, .int .i64 r, .slice a ks.length c, .slice b vs.length d]] w fun e w' => (∃ q : Bool, e = .returned (.bool q) ∧ (q = true ↔ OkP k s r ks vs)) ∧ Below w.heap.size w w' := by
 cases hsh : shape2B k s r ks.length vs.length
 ·go_enter Try.func85, Try.ntmps85
  go_wp2_with fail
  refine (f55 _ _ _ _ _ _ _ _ _ _).mono ?_
  rintro e w1 ⟨rfl, hw1⟩
  go_wp2_with fail
  go_ret
  exact ⟨⟨false, rfl, by simp, fun h => absurd h.shape (by simp [hsh])⟩, ((Below.refl _ _).alloc (Nat.le_refl _) _).trans (hw1.mono (by simp))⟩
 obtain ⟨hlen, hr1, hr8, hk1, hk2⟩ := shape2_len hsh
 have HL : Hid _ := hlen
 have hlen' : (ks.length : Int) ≤ 8 := by omega
 have hl1 : (vs.length : Int) ≤ (ks.length : Int) := by omega
 have hl2 : (ks.length : Int) ≤ (vs.length : Int) := by omega
 have HSH : Hid _ := hsh
 by_cases hbad : k = 1 ∧ (ks.length : Int) ≠ r
 ·obtain ⟨rfl, hne⟩ := hbad
  have hne' : ((ks.length : Int) != r) = true := by simpa using hne
  have HN : Hid _ := hne
  clear hne hlen
  go_enter Try.func85, Try.ntmps85
  go_wp2_with fail
  refine (f55 _ _ _ _ _ _ _ _ _ _).mono ?_
  rintro e w1 ⟨rfl, hw1⟩
  obtain ⟨hc1, hf1⟩ := bcell hw1
  go_wp2_with fail
  go_ret
  exact ⟨⟨false, rfl, by simp, fun h => absurd (h.full rfl) HN.out⟩, ((Below.refl _ _).alloc (Nat.le_refl _) _).trans (hw1.mono (by simp))⟩
 have hfull : k = 1 → (ks.length : Int) = r := fun h => Classical.byContradiction fun hne => hbad ⟨h, hne⟩
 have HFU : Hid _ := hfull
 have hrow : ((k == 1) = true ∧ ((ks.length : Int) != r) = false) ∨ (k == 1) = false := by
  by_cases hk : k = 1
  ·exact .inl ⟨by simp [hk], by simp [hfull hk]⟩
  ·exact .inr (by simpa using hk)
 clear hbad hfull hlen
 go_enter Try.func85, Try.ntmps85
 go_wp2_with fail
 refine (f55 _ _ _ _ _ _ _ _ _ _).mono ?_
 rintro e w1 ⟨rfl, hw1⟩
 obtain ⟨hc1, hf1⟩ := bcell hw1
 have hz1 := hw1.size
 simp only [World.size_alloc] at hz1
 have hz1' : w.heap.size < w1.heap.size := by omega
 have c1 : Below w.heap.size w w1 := ((Below.refl _ _).alloc (Nat.le_refl _) _).trans (hw1.mono (by simp))
 rcases hrow with ⟨hkk, hne⟩ | hkk
 ·go_wp2_with fail
  go_loopw [3] (fun i wr => ∃ n : Nat, n ≤ ks.length ∧ i = .int .i64 n ∧ Below (w.heap.size + 1) w1 wr ∧ Good k s ks vs n) (fun i _ => ks.length - (intOf i).toNat)
  case atStart => exact ⟨0, Nat.zero_le _, rfl, Below.refl _ _, Good.zero _ _ _ _⟩
  case round =>
   obtain ⟨n, hn, rfl, hbw, hg⟩ := hrel
   have HGD : Hid (Good k s ks vs n) := hg
   clear hg
   obtain ⟨wo, rfl⟩ : ∃ wo : World, wo = wr := ⟨_, rfl⟩
   have hcw : ∀ b o, b < w.heap.size + 1 → wo.cell? ⟨b, o, none⟩ = w1.cell? ⟨b, o, none⟩ := fun b o h => hbw.cell (p := ⟨b, o, none⟩) h
   have cw : Below w.heap.size w wo := c1.trans (hbw.mono (by omega))
   by_cases hlt : n < ks.length
   ·have hltv : n < vs.length := by have := HL.out; omega
    have hlt1 : (n : Int) < (ks.length : Int) := by omega
    have hlt2 : (n : Int) < (vs.length : Int) := by omega
    obtain ⟨b1, p1, rfl, hb1, hkey⟩ := (hA.below cw (Nat.le_refl _)).at n hlt
    obtain ⟨b2, p2, rfl, hb2, hval⟩ := (hB.below cw (Nat.le_refl _)).at n hltv
    obtain ⟨y, hy⟩ : ∃ y, y = ks[n] := ⟨_, rfl⟩
    obtain ⟨x, hx⟩ : ∃ x, x = vs[n] := ⟨_, rfl⟩
    rw [← hy] at hkey
    rw [← hx] at hval
    have HY : Hid _ := hy
    have HX : Hid _ := hx
    clear hy hx
    cases hsz : ((x.size : Int) != s)
    case true =>
     go_wp2_with fail
     go_quiet ((first | (go_at_call 46; exact Calls.quiet_of_same (f48 _)) | (go_at_call 56; exact Calls.quiet_of_same (f36 _ _ _ _))))
     go_wp2_with fail
     go_ret
     exact ⟨⟨false, rfl, by simp, fun h => by have := h.good.size n hltv hlt; rw [← HX.out] at this; simp [this] at hsz⟩, below_drewN cw _⟩
    case false =>
     cases hnm : inB y 0 4294967295
     case false =>
      go_wp2_with fail
      go_quiet ((first | (go_at_call 46; exact Calls.quiet_of_same (f48 _)) | (go_at_call 56; exact Calls.quiet_of_same (f36 _ _ _ _))))
      go_wp2_with fail
      go_ret
      exact ⟨⟨false, rfl, by simp, fun h => by have := h.good.num n hlt hlt; rw [← HY.out, hnm] at this; cases this⟩, below_drewN cw _⟩
     case true =>
      cases hyn : (y != (n : Int))
      case true =>
       go_wp2_with fail
       go_quiet ((first | (go_at_call 46; exact Calls.quiet_of_same (f48 _)) | (go_at_call 56; exact Calls.quiet_of_same (f36 _ _ _ _))))
       go_wp2_with fail
       go_ret
       exact ⟨⟨false, rfl, by simp, fun h => by have := h.good.row (by simpa using hkk) n hlt hlt; rw [← HY.out] at this; simp [this] at hyn⟩, below_drewN cw _⟩
      case false =>
       go_wp2_with fail
       go_quiet ((first | (go_at_call 46; exact Calls.quiet_of_same (f48 _)) | (go_at_call 56; exact Calls.quiet_of_same (f36 _ _ _ _))))
       go_wp2_with fail
       go_loopw [4] (fun i wr => ∃ m : Nat, m ≤ n ∧ i = .int .i64 m ∧ Below (w.heap.size + 1) w1 wr ∧ ∀ j (h : j < ks.length), j < m → ks[j] ≠ ks[n]) (fun i _ => n - (intOf i).toNat)
       case atStart => exact ⟨0, Nat.zero_le _, rfl, below_drewN hbw _, fun _ _ h => absurd h (by omega)⟩
       case round =>
        obtain ⟨m, hm, rfl, hbm, hd⟩ := hrel
        have HDI : Hid (∀ j (h : j < ks.length), j < m → ks[j] ≠ ks[n]) := hd
        clear hd
        have hcm : ∀ b o, b < w.heap.size + 1 → wr.cell? ⟨b, o, none⟩ = w1.cell? ⟨b, o, none⟩ := fun b o h => hbm.cell (p := ⟨b, o, none⟩) h
        have cm : Below w.heap.size w wr := c1.trans (hbm.mono (by omega))
        by_cases hmn : m < n
        ·have hmn1 : (m : Int) < (n : Int) := by omega
         have hmk : m < ks.length := by omega
         have hmk1 : (m : Int) < (ks.length : Int) := by omega
         obtain ⟨b3, p3, e3, hb3, hkm⟩ := (hA.below cm (Nat.le_refl _)).at m hmk
         obtain ⟨b4, p4, e4, hb4, hkn⟩ := (hA.below cm (Nat.le_refl _)).at n hlt
         simp only [Option.some.injEq, Addr.mk.injEq, and_true] at e3 e4
         obtain ⟨rfl, rfl⟩ := e3
         obtain ⟨rfl, rfl⟩ := e4
         obtain ⟨z, hz⟩ : ∃ z, z = ks[m] := ⟨_, rfl⟩
         rw [← hz] at hkm
         rw [← HY.out] at hkn
         have HZ : Hid _ := hz
         clear hz
         cases hzy : (z == y)
         case true =>
          go_wp2_with fail
          go_quiet (fail)
          go_wp2_with fail
          go_ret
          exact ⟨⟨false, rfl, by simp, fun h => by have := h.good.once n hlt hlt m hmn; rw [← HY.out, ← HZ.out] at this; exact absurd (by simpa using hzy) this⟩, below_drewN cm _⟩
         case false =>
          go_wp2_with fail
          go_quiet (fail)
          go_wp2_with fail
          go_roundw
          case rel =>
           refine ⟨m + 1, by omega, by go_num, below_drewN hbm _, fun j h hj => ?_⟩
           by_cases e : j = m
           ·subst e; rw [← HY.out, ← HZ.out]; simpa using hzy
           ·exact HDI.out j h (by omega)
          case measure => simp [intOf]; omega
        ·obtain rfl : m = n := by omega
         go_wp2_with fail
         go_roundw
         case rel => exact ⟨m + 1, by omega, by go_num, hbm, HGD.out.next hlt hltv (by have := hsz; simp at this; rw [← HX.out]; exact this) (by rw [← HY.out]; exact hnm) (fun _ => by have := hyn; simp at this; rw [← HY.out]; exact this) (fun j hj => HDI.out j (by omega) hj)⟩
         case measure => simp [intOf]; omega
   ·obtain rfl : n = ks.length := by omega
    go_wp2_with fail
    go_ret
    exact ⟨⟨true, rfl, fun _ => ⟨HSH.out, HFU.out, HGD.out⟩, fun _ => rfl⟩, cw⟩
 ·go_wp2_with fail
  go_loopw [3] (fun i wr => ∃ n : Nat, n ≤ ks.length ∧ i = .int .i64 n ∧ Below (w.heap.size + 1) w1 wr ∧ Good k s ks vs n) (fun i _ => ks.length - (intOf i).toNat)
  case atStart => exact ⟨0, Nat.zero_le _, rfl, Below.refl _ _, Good.zero _ _ _ _⟩
  case round =>
   obtain ⟨n, hn, rfl, hbw, hg⟩ := hrel
   have HGD : Hid (Good k s ks vs n) := hg
   clear hg
   obtain ⟨wo, rfl⟩ : ∃ wo : World, wo = wr := ⟨_, rfl⟩
   have hcw : ∀ b o, b < w.heap.size + 1 → wo.cell? ⟨b, o, none⟩ = w1.cell? ⟨b, o, none⟩ := fun b o h => hbw.cell (p := ⟨b, o, none⟩) h
   have cw : Below w.heap.size w wo := c1.trans (hbw.mono (by omega))
   by_cases hlt : n < ks.length
   ·have hltv : n < vs.length := by have := HL.out; omega
    have hlt1 : (n : Int) < (ks.length : Int) := by omega
    have hlt2 : (n : Int) < (vs.length : Int) := by omega
    obtain ⟨b1, p1, rfl, hb1, hkey⟩ := (hA.below cw (Nat.le_refl _)).at n hlt
    obtain ⟨b2, p2, rfl, hb2, hval⟩ := (hB.below cw (Nat.le_refl _)).at n hltv
    obtain ⟨y, hy⟩ : ∃ y, y = ks[n] := ⟨_, rfl⟩
    obtain ⟨x, hx⟩ : ∃ x, x = vs[n] := ⟨_, rfl⟩
    rw [← hy] at hkey
    rw [← hx] at hval
    have HY : Hid _ := hy
    have HX : Hid _ := hx
    clear hy hx
    cases hsz : ((x.size : Int) != s)
    case true =>
     go_wp2_with fail
     go_quiet ((first | (go_at_call 46; exact Calls.quiet_of_same (f48 _)) | (go_at_call 56; exact Calls.quiet_of_same (f36 _ _ _ _))))
     go_wp2_with fail
     go_ret
     exact ⟨⟨false, rfl, by simp, fun h => by have := h.good.size n hltv hlt; rw [← HX.out] at this; simp [this] at hsz⟩, below_drewN cw _⟩
    case false =>
     cases hnm : inB y 0 4294967295
     case false =>
      go_wp2_with fail
      go_quiet ((first | (go_at_call 46; exact Calls.quiet_of_same (f48 _)) | (go_at_call 56; exact Calls.quiet_of_same (f36 _ _ _ _))))
      go_wp2_with fail
      go_ret
      exact ⟨⟨false, rfl, by simp, fun h => by have := h.good.num n hlt hlt; rw [← HY.out, hnm] at this; cases this⟩, below_drewN cw _⟩
     case true =>
      go_wp2_with fail
      go_quiet ((first | (go_at_call 46; exact Calls.quiet_of_same (f48 _)) | (go_at_call 56; exact Calls.quiet_of_same (f36 _ _ _ _))))
      go_wp2_with fail
      go_loopw [4] (fun i wr => ∃ m : Nat, m ≤ n ∧ i = .int .i64 m ∧ Below (w.heap.size + 1) w1 wr ∧ ∀ j (h : j < ks.length), j < m → ks[j] ≠ ks[n]) (fun i _ => n - (intOf i).toNat)
      case atStart => exact ⟨0, Nat.zero_le _, rfl, below_drewN hbw _, fun _ _ h => absurd h (by omega)⟩
      case round =>
       obtain ⟨m, hm, rfl, hbm, hd⟩ := hrel
       have HDI : Hid (∀ j (h : j < ks.length), j < m → ks[j] ≠ ks[n]) := hd
       clear hd
       have hcm : ∀ b o, b < w.heap.size + 1 → wr.cell? ⟨b, o, none⟩ = w1.cell? ⟨b, o, none⟩ := fun b o h => hbm.cell (p := ⟨b, o, none⟩) h
       have cm : Below w.heap.size w wr := c1.trans (hbm.mono (by omega))
       by_cases hmn : m < n
       ·have hmn1 : (m : Int) < (n : Int) := by omega
        have hmk : m < ks.length := by omega
        have hmk1 : (m : Int) < (ks.length : Int) := by omega
        obtain ⟨b3, p3, e3, hb3, hkm⟩ := (hA.below cm (Nat.le_refl _)).at m hmk
        obtain ⟨b4, p4, e4, hb4, hkn⟩ := (hA.below cm (Nat.le_refl _)).at n hlt
        simp only [Option.some.injEq, Addr.mk.injEq, and_true] at e3 e4
        obtain ⟨rfl, rfl⟩ := e3
        obtain ⟨rfl, rfl⟩ := e4
        obtain ⟨z, hz⟩ : ∃ z, z = ks[m] := ⟨_, rfl⟩
        rw [← hz] at hkm
        rw [← HY.out] at hkn
        have HZ : Hid _ := hz
        clear hz
        cases hzy : (z == y)
        case true =>
         go_wp2_with fail
         go_quiet (fail)
         go_wp2_with fail
         go_ret
         exact ⟨⟨false, rfl, by simp, fun h => by have := h.good.once n hlt hlt m hmn; rw [← HY.out, ← HZ.out] at this; exact absurd (by simpa using hzy) this⟩, below_drewN cm _⟩
        case false =>
         go_wp2_with fail
         go_quiet (fail)
         go_wp2_with fail
         go_roundw
         case rel =>
          refine ⟨m + 1, by omega, by go_num, below_drewN hbm _, fun j h hj => ?_⟩
          by_cases e : j = m
          ·subst e; rw [← HY.out, ← HZ.out]; simpa using hzy
          ·exact HDI.out j h (by omega)
         case measure => simp [intOf]; omega
       ·obtain rfl : m = n := by omega
        go_wp2_with fail
        go_roundw
        case rel => exact ⟨m + 1, by omega, by go_num, hbm, HGD.out.next hlt hltv (by have := hsz; simp at this; rw [← HX.out]; exact this) (by rw [← HY.out]; exact hnm) (fun h => by simp [h] at hkk) (fun j hj => HDI.out j (by omega) hj)⟩
        case measure => simp [intOf]; omega
   ·obtain rfl : n = ks.length := by omega
    go_wp2_with fail
    go_ret
    exact ⟨⟨true, rfl, fun _ => ⟨HSH.out, HFU.out, HGD.out⟩, fun _ => rfl⟩, cw⟩
end Go.Proofs.Ytkaekiodjjhjkaa.G
namespace Go.Proofs.Ytkaekiodjjhjkaa.G
open Go.RowKit
def Ans (e : Ending) (P : Prop) : Prop := ∃ q : Bool, e = .returned (.bool q) ∧ (q = true ↔ P)
theorem Ans.no {P : Prop} (h : ¬ P) : Ans (.returned (.bool false)) P := ⟨false, rfl, by simp, fun hp => absurd hp h⟩
end Go.Proofs.Ytkaekiodjjhjkaa.G
namespace Go.Proofs.Ytkaekiodjjhjkaa.H
open Go.RowKit Go.MapKept
theorem key_int (n : Int) : IsKey (.int .i64) (.int .i64 n) := by simp [IsKey]
theorem set_last {α : Type} (a : Array α) (x y : α) : (a.push x).setIfInBounds a.size y = a.push y := by
 apply Array.ext'
 rw [Array.toList_setIfInBounds, Array.toList_push, Array.toList_push, ← Array.length_toList]
 rw [List.set_append_right _ _ (Nat.le_refl _)]
 simp
theorem upd_new {T K E : TypeId} (hT : Try.prog.underlying T = some (.map K E)) (hK : Try.prog.underlying K = some (.int .i64)) (w : World) (es : Array MapEntry) (c : Nat) (n : Int) (v : Value)
 (hf : Instr.findNow (.int .i64) (.int .i64 n) es.toList 0 = some none) :
 (Instr.mapUpdate T (.map (some w.heap.size)) (.int .i64 n) v).run Try.prog (w.alloc (.map es c)) = .ok () (w.alloc (.map (es.push { key := .int .i64 n, val := v, born := c }) (c + 1))) := by
 have hb : (w.alloc (.map es c)).heap[w.heap.size]? = some (.map es c) := (heap_alloc w _).1
 have hs := set_last w.heap (.map es c) (.map (es.push { key := .int .i64 n, val := v, born := c }) (c + 1))
 have e : ({ w.alloc (.map es c) with heap := (w.alloc (.map es c)).heap.setIfInBounds w.heap.size (.map (es.push { key := .int .i64 n, val := v, born := c }) (c + 1)) } : World) = w.alloc (.map (es.push { key := .int .i64 n, val := v, born := c }) (c + 1)) := by
  show ({ w with heap := (w.heap.push (.map es c)).setIfInBounds w.heap.size _ } : World) = { w with heap := w.heap.push _ }
  rw [hs]
 rw [← e]
 simp [Instr.mapUpdate, run_underlying hT, MapKept.run_getObj_map hb, run_checkKey hK (key_int n), run_findKey hK hf, run_setObj_map _ hb, Result.andThen]
theorem look_at {T K E : TypeId} (hT : Try.prog.underlying T = some (.map K E)) (hK : Try.prog.underlying K = some (.int .i64)) {w : World} {b : Nat} {es : Array MapEntry} {c : Nat} (hb : w.heap[b]? = some (.map es c)) (n : Int) (i : Nat) (v : Value)
 (hf : Instr.findNow (.int .i64) (.int .i64 n) es.toList 0 = some (some (i, v))) :
 (Instr.lookup T (.map (some b)) (.int .i64 n) true).run Try.prog w = .ok (.tuple #[v, .bool true]) w := by
 simp [Instr.lookup, run_underlying hT, MapKept.run_getObj_map hb, run_checkKey hK (key_int n), run_findKey hK hf, Result.andThen]
theorem look_none {T K E : TypeId} (hT : Try.prog.underlying T = some (.map K E)) (hK : Try.prog.underlying K = some (.int .i64)) {w : World} {b : Nat} {es : Array MapEntry} {c : Nat} (hb : w.heap[b]? = some (.map es c)) (n : Int) (z : Value) (hz : (zeroValue E).run Try.prog w = .ok z w)
 (hf : Instr.findNow (.int .i64) (.int .i64 n) es.toList 0 = some none) :
 (Instr.lookup T (.map (some b)) (.int .i64 n) true).run Try.prog w = .ok (.tuple #[z, .bool false]) w := by
 simp [Instr.lookup, run_underlying hT, MapKept.run_getObj_map hb, run_checkKey hK (key_int n), run_findKey hK hf, Result.andThen, hz]
end Go.Proofs.Ytkaekiodjjhjkaa.H
namespace Go.Proofs.Ytkaekiodjjhjkaa.H
open Go.RowKit Go.MapKept
abbrev fnV (k : Nat) : Value := .func (.func k) #[] #[]
def askEs : Array MapEntry := #[{ key := .int .i64 12, val := fnV 36, born := 0 }, { key := .int .i64 13, val := fnV 37, born := 1 }, { key := .int .i64 14, val := fnV 38, born := 2 }, { key := .int .i64 15, val := fnV 39, born := 3 }]
def holdsB (op a b : Int) : Bool := if op = 12 then a == b else if op = 13 then a != b else if op = 14 then decide (a < b) else decide (b < a)
def holdsI (op a b : Int) : Bool := inB op 12 15 && inB a 0 4294967295 && inB b 0 4294967295 && holdsB op a b
theorem find_none (op : Int) (h : inB op 12 15 = false) : Instr.findNow (.int .i64) (.int .i64 op) askEs.toList 0 = some none := by
 have : op ≠ 12 ∧ op ≠ 13 ∧ op ≠ 14 ∧ op ≠ 15 := by simp [inB] at h; omega
 have e1 : (op == 12) = false := by simp [this]
 have e2 : (op == 13) = false := by simp [this]
 have e3 : (op == 14) = false := by simp [this]
 have e4 : (op == 15) = false := by simp [this]
 simp [askEs, Instr.findNow, Instr.sameNow, e1, e2, e3, e4]
theorem c_askers (w : World) :
 Calls Try.prog 20 #[] w fun e w' => e = .returned (.map (some w.heap.size)) ∧ w'.heap[w.heap.size]? = some (.map askEs 4) ∧ Below w.heap.size w w' := by
 have hmm := @run_makeMap Try.prog
 have u1 := upd_new (T := 52) Try.underlying52 Try.underlying3 w #[] 0 12 (fnV 36) rfl
 have u2 := upd_new (T := 52) Try.underlying52 Try.underlying3 w #[{ key := .int .i64 12, val := fnV 36, born := 0 }] 1 13 (fnV 37) rfl
 have u3 := upd_new (T := 52) Try.underlying52 Try.underlying3 w #[{ key := .int .i64 12, val := fnV 36, born := 0 }, { key := .int .i64 13, val := fnV 37, born := 1 }] 2 14 (fnV 38) rfl
 have u4 := upd_new (T := 52) Try.underlying52 Try.underlying3 w #[{ key := .int .i64 12, val := fnV 36, born := 0 }, { key := .int .i64 13, val := fnV 37, born := 1 }, { key := .int .i64 14, val := fnV 38, born := 2 }] 3 15 (fnV 39) rfl
 simp only [List.push_toArray, List.cons_append, List.nil_append, Nat.zero_add, Nat.reduceAdd] at u1 u2 u3 u4
 go_enter Try.func20, Try.ntmps20
 go_wp2
 go_ret
 exact ⟨rfl, (heap_alloc w _).1, (Below.refl _ _).alloc (Nat.le_refl _) _⟩
theorem c_ask1 (a b : Int) (w : World) :
 Calls Try.prog 36 #[.int .i64 a, .int .i64 b] w fun e w' => e = .returned (.bool (a == b)) ∧ w' = w := by
 go_enter Try.func36, Try.ntmps36
 go_wp2
 go_ret
 exact ⟨rfl, rfl⟩
theorem c_ask2 (a b : Int) (w : World) :
 Calls Try.prog 37 #[.int .i64 a, .int .i64 b] w fun e w' => e = .returned (.bool (a != b)) ∧ w' = w := by
 go_enter Try.func37, Try.ntmps37
 go_wp2
 go_ret
 exact ⟨rfl, rfl⟩
theorem c_ask3 (a b : Int) (w : World) :
 Calls Try.prog 38 #[.int .i64 a, .int .i64 b] w fun e w' => e = .returned (.bool (decide (a < b))) ∧ w' = w := by
 go_enter Try.func38, Try.ntmps38
 go_wp2
 go_ret
 exact ⟨rfl, rfl⟩
theorem c_ask4 (a b : Int) (w : World) :
 Calls Try.prog 39 #[.int .i64 a, .int .i64 b] w fun e w' => e = .returned (.bool (decide (b < a))) ∧ w' = w := by
 go_enter Try.func39, Try.ntmps39
 go_wp2
 go_ret
 exact ⟨rfl, rfl⟩
theorem zeroAsk (w : World) : (zeroValue 50).run Try.prog w = .ok .nilFunc w := by kernel_rfl
theorem c_Holds_no (op a b : Int) (w : World) (h : inB op 12 15 = false) :
 Calls Try.prog 8 #[.int .i64 op, .int .i64 a, .int .i64 b] w fun e w' => e = .returned (.bool false) ∧ Below w.heap.size w w' := by
 go_enter Try.func8, Try.ntmps8
 go_wp2_with fail
 refine (c_askers _).mono ?_
 rintro e w1 ⟨rfl, hm, hb1⟩
 have hl := look_none (T := 52) Try.underlying52 Try.underlying3 hm op _ (zeroAsk w1) (find_none op h)
 clear hm h
 go_wp2_with fail
 go_ret
 exact ⟨rfl, hb1⟩
theorem c_Holds_12 (a b : Int) (w : World) :
 Calls Try.prog 8 #[.int .i64 12, .int .i64 a, .int .i64 b] w fun e w' => e = .returned (.bool (inB a 0 4294967295 && inB b 0 4294967295 && (a == b))) ∧ Below w.heap.size w w' := by
 cases h1 : inB a 0 4294967295
 all_goals cases h2 : inB b 0 4294967295
 all_goals
  go_enter Try.func8, Try.ntmps8
  go_wp2_with fail
  refine (c_askers _).mono ?_
  rintro e w1 ⟨rfl, hm, hb1⟩
  have hl := look_at (T := 52) Try.underlying52 Try.underlying3 hm 12 0 (fnV 36) rfl
  clear hm
  go_wp2_with (first | (go_at_call 21; refine (c_isNumber _ _).mono ?_; rintro e w' ⟨rfl, rfl⟩) | (go_at_call 36; refine (c_ask1 _ _ _).mono ?_; rintro e w' ⟨rfl, rfl⟩))
  all_goals (go_ret; refine ⟨ret_bool ?_, hb1⟩; simp [h1, h2])
theorem c_Holds_13 (a b : Int) (w : World) :
 Calls Try.prog 8 #[.int .i64 13, .int .i64 a, .int .i64 b] w fun e w' => e = .returned (.bool (inB a 0 4294967295 && inB b 0 4294967295 && (a != b))) ∧ Below w.heap.size w w' := by
 cases h1 : inB a 0 4294967295
 all_goals cases h2 : inB b 0 4294967295
 all_goals
  go_enter Try.func8, Try.ntmps8
  go_wp2_with fail
  refine (c_askers _).mono ?_
  rintro e w1 ⟨rfl, hm, hb1⟩
  have hl := look_at (T := 52) Try.underlying52 Try.underlying3 hm 13 1 (fnV 37) rfl
  clear hm
  go_wp2_with (first | (go_at_call 21; refine (c_isNumber _ _).mono ?_; rintro e w' ⟨rfl, rfl⟩) | (go_at_call 37; refine (c_ask2 _ _ _).mono ?_; rintro e w' ⟨rfl, rfl⟩))
  all_goals (go_ret; refine ⟨ret_bool ?_, hb1⟩; simp [h1, h2])
theorem c_Holds_14 (a b : Int) (w : World) :
 Calls Try.prog 8 #[.int .i64 14, .int .i64 a, .int .i64 b] w fun e w' => e = .returned (.bool (inB a 0 4294967295 && inB b 0 4294967295 && (decide (a < b)))) ∧ Below w.heap.size w w' := by
 cases h1 : inB a 0 4294967295
 all_goals cases h2 : inB b 0 4294967295
 all_goals
  go_enter Try.func8, Try.ntmps8
  go_wp2_with fail
  refine (c_askers _).mono ?_
  rintro e w1 ⟨rfl, hm, hb1⟩
  have hl := look_at (T := 52) Try.underlying52 Try.underlying3 hm 14 2 (fnV 38) rfl
  clear hm
  go_wp2_with (first | (go_at_call 21; refine (c_isNumber _ _).mono ?_; rintro e w' ⟨rfl, rfl⟩) | (go_at_call 38; refine (c_ask3 _ _ _).mono ?_; rintro e w' ⟨rfl, rfl⟩))
  all_goals (go_ret; refine ⟨ret_bool ?_, hb1⟩; simp [h1, h2])
theorem c_Holds_15 (a b : Int) (w : World) :
 Calls Try.prog 8 #[.int .i64 15, .int .i64 a, .int .i64 b] w fun e w' => e = .returned (.bool (inB a 0 4294967295 && inB b 0 4294967295 && (decide (b < a)))) ∧ Below w.heap.size w w' := by
 cases h1 : inB a 0 4294967295
 all_goals cases h2 : inB b 0 4294967295
 all_goals
  go_enter Try.func8, Try.ntmps8
  go_wp2_with fail
  refine (c_askers _).mono ?_
  rintro e w1 ⟨rfl, hm, hb1⟩
  have hl := look_at (T := 52) Try.underlying52 Try.underlying3 hm 15 3 (fnV 39) rfl
  clear hm
  go_wp2_with (first | (go_at_call 21; refine (c_isNumber _ _).mono ?_; rintro e w' ⟨rfl, rfl⟩) | (go_at_call 39; refine (c_ask4 _ _ _).mono ?_; rintro e w' ⟨rfl, rfl⟩))
  all_goals (go_ret; refine ⟨ret_bool ?_, hb1⟩; simp [h1, h2])
theorem c_Holds (op a b : Int) (w : World) :
 Calls Try.prog 8 #[.int .i64 op, .int .i64 a, .int .i64 b] w fun e w' => e = .returned (.bool (holdsI op a b)) ∧ Below w.heap.size w w' := by
 cases h : inB op 12 15
 ·rw [show holdsI op a b = false by simp [holdsI, h]]
  exact c_Holds_no op a b w h
 ·simp [inB] at h
  rcases (by omega : op = 12 ∨ op = 13 ∨ op = 14 ∨ op = 15) with rfl | rfl | rfl | rfl
  ·exact c_Holds_12 a b w
  ·exact c_Holds_13 a b w
  ·exact c_Holds_14 a b w
  ·exact c_Holds_15 a b w
end Go.Proofs.Ytkaekiodjjhjkaa.H
