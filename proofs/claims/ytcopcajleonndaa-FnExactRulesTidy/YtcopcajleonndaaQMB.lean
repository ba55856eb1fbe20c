/- Plain mathematics of ranges: ok, some, tidy, meet, join, within. -/
import Derived.Test.YtcopcajleonndaaQMA
namespace Go.Proofs.Ytcopcajleonndaa
open Go.RowKit
set_option linter.unusedVariables false
set_option linter.unusedSimpArgs false

structure OkN (l u x y : Nat) : Prop where
  le : l ≤ u
  hi : u ≤ 4294967295
  b : x ≤ 4294967295
  o : y ≤ 4294967295
  d : x &&& y = 0
theorem OkN.lo {lo hi b o : Nat} (h : OkN lo hi b o) : lo ≤ 4294967295 := Nat.le_trans h.le h.hi

def someN (lo hi b o : Nat) : Bool := decide (0 ≤ nextN lo b o) && decide (nextN lo b o ≤ hi)

/-- 'n' is of the range. -/
structure OfN (lo hi b o n : Nat) : Prop where
  lo : lo ≤ n
  hi : n ≤ hi
  has : hasN b o n = true

theorem some_of {lo hi b o n : Nat} (h : OkN lo hi b o) (hn : OfN lo hi b o n) : someN lo hi b o = true := by
  have := next_le h.lo h.b h.o h.d (Nat.le_trans hn.hi h.hi) hn.has hn.lo
  have := hn.hi
  simp [someN]; omega
theorem of_some {lo hi b o : Nat} (h : OkN lo hi b o) (hs : someN lo hi b o = true) : ∃ n : Nat, nextN lo b o = n ∧ OfN lo hi b o n := by
  simp [someN] at hs
  obtain ⟨n, h1, h2, h3, h4⟩ := next_is h.lo h.b hs.1
  exact ⟨n, h1, h2, by omega, h4⟩

theorem bitLen_le32 {x : Nat} (h : x ≤ 4294967295) : bitLen x ≤ 32 := by
  have := (bitLen_spec x).2
  by_cases h0 : x = 0
  · subst h0; decide
  · have := this h0
    by_cases hc : bitLen x ≤ 32
    · exact hc
    · have h2 : 2 ^ 32 ≤ 2 ^ (bitLen x - 1) := Nat.pow_le_pow_right (by omega) (by omega)
      omega

def maskOf (x : Nat) : Nat := 2 ^ bitLen x - 1
theorem maskOf_le {x : Nat} (h : x ≤ 4294967295) : maskOf x ≤ 4294967295 := mask_le (bitLen_le32 h)
theorem maskOf_bit (x i : Nat) : (maskOf x).testBit i = decide (i < bitLen x) := mask_bit _ _
theorem above_len {x i : Nat} (h : bitLen x ≤ i) : x.testBit i = false :=
  Nat.testBit_lt_two_pow (Nat.lt_of_lt_of_le (bitLen_spec x).1 (Nat.pow_le_pow_right (by omega) h))

def tO (lo hi o : Nat) : Nat := o &&& maskOf (lo ^^^ hi)
def tB (lo hi b : Nat) : Nat := b ||| (lo &&& notB (maskOf (lo ^^^ hi)))
def tLo (lo hi b : Nat) : Nat := max lo (tB lo hi b)
def tHi (lo hi b o : Nat) : Nat := min hi (tB lo hi b ||| tO lo hi o)

theorem tO_bit (lo hi o i : Nat) : (tO lo hi o).testBit i = (o.testBit i && decide (i < bitLen (lo ^^^ hi))) := by
  rw [tO, Nat.testBit_and, maskOf_bit]
theorem tB_bit {lo : Nat} (hi b i : Nat) (hl : lo ≤ 4294967295) : (tB lo hi b).testBit i = (b.testBit i || lo.testBit i && !decide (i < bitLen (lo ^^^ hi))) := by
  rw [tB, Nat.testBit_or, Nat.testBit_and, not_bit, maskOf_bit]
  by_cases h : i < 32
  · simp [h]
  · simp [high_bit hl h]
theorem tB_le {lo hi b : Nat} (hl : lo ≤ 4294967295) (hb : b ≤ 4294967295) : tB lo hi b ≤ 4294967295 := or_le hb (and_le _ hl)
theorem tO_le {lo hi o : Nat} (ho : o ≤ 4294967295) : tO lo hi o ≤ 4294967295 := and_le _ ho
theorem tHi_le {lo hi b o : Nat} (h : hi ≤ 4294967295) : tHi lo hi b o ≤ 4294967295 := Nat.le_trans (Nat.min_le_left _ _) h
theorem t_disj {lo hi b o : Nat} (h : OkN lo hi b o) : tB lo hi b &&& tO lo hi o = 0 := by
  apply Nat.eq_of_testBit_eq
  intro i
  rw [Nat.testBit_and, tO_bit, tB_bit _ _ _ h.lo]
  have := disj_bit h.d i
  revert this
  cases b.testBit i <;> cases o.testBit i <;> cases lo.testBit i <;> cases decide (i < bitLen (lo ^^^ hi)) <;> simp

theorem prefix_same {lo hi n i : Nat} (h1 : lo ≤ n) (h2 : n ≤ hi) (hi' : bitLen (lo ^^^ hi) ≤ i) : n.testBit i = lo.testBit i := by
  have e : lo / 2 ^ bitLen (lo ^^^ hi) = hi / 2 ^ bitLen (lo ^^^ hi) := by
    apply Nat.eq_of_testBit_eq
    intro k
    rw [Nat.testBit_div_two_pow, Nat.testBit_div_two_pow]
    have := above_len (x := lo ^^^ hi) (i := bitLen (lo ^^^ hi) + k) (by omega)
    rw [Nat.testBit_xor] at this
    rw [Nat.add_comm]
    simpa using this
  have a1 := Nat.div_le_div_right (c := 2 ^ bitLen (lo ^^^ hi)) h1
  have a2 := Nat.div_le_div_right (c := 2 ^ bitLen (lo ^^^ hi)) h2
  have e2 : n / 2 ^ bitLen (lo ^^^ hi) = lo / 2 ^ bitLen (lo ^^^ hi) := by omega
  have e3 := congrArg (fun z => Nat.testBit z (i - bitLen (lo ^^^ hi))) e2
  simp only [Nat.testBit_div_two_pow] at e3
  rw [show i - bitLen (lo ^^^ hi) + bitLen (lo ^^^ hi) = i by omega] at e3
  exact e3

/-- A number of a range is of the range that is tidied. -/
theorem tidy_of {lo hi b o n : Nat} (h : OkN lo hi b o) (hn : OfN lo hi b o n) : OfN (tLo lo hi b) (tHi lo hi b o) (tB lo hi b) (tO lo hi o) n := by
  have hnt : n ≤ 4294967295 := Nat.le_trans hn.hi h.hi
  have hbit := (has_bit hnt h.b).1 hn.has
  have hb2 : ∀ i, (n.testBit i && !(tO lo hi o).testBit i) = (tB lo hi b).testBit i := by
    intro i
    rw [tO_bit, tB_bit _ _ _ h.lo]
    by_cases hi3 : i < 32
    · have := hbit i hi3
      by_cases hL : i < bitLen (lo ^^^ hi)
      · simp [hL, this]
      · have e := prefix_same hn.lo hn.hi (by omega : bitLen (lo ^^^ hi) ≤ i)
        rw [← e]
        revert this
        simp [hL]
        cases n.testBit i <;> cases o.testBit i <;> cases b.testBit i <;> simp
    · simp [high_bit hnt hi3, high_bit h.b hi3, high_bit h.lo hi3]
  refine ⟨Nat.max_le.2 ⟨hn.lo, le_of_bits fun i hx => ?_⟩, Nat.le_min.2 ⟨hn.hi, le_of_bits fun i hx => ?_⟩, ?_⟩
  · have := hb2 i
    rw [hx] at this
    simp at this; exact this.1
  · have := hb2 i
    rw [Nat.testBit_or, ← this, hx]
    cases (tO lo hi o).testBit i <;> rfl
  · rw [has_bit hnt (tB_le h.lo h.b)]
    intro i _
    exact hb2 i

theorem tidy_ok {lo hi b o n : Nat} (h : OkN lo hi b o) (hn : OfN lo hi b o n) : OkN (tLo lo hi b) (tHi lo hi b o) (tB lo hi b) (tO lo hi o) := by
  have := tidy_of h hn
  exact ⟨Nat.le_trans this.lo this.hi, tHi_le h.hi, tB_le h.lo h.b, tO_le h.o, t_disj h⟩

/-- The specification's Bits of a tidy range. -/
theorem tB_spec {lo hi b o : Nat} (h : OkN lo hi b o) : (b ||| (lo &&& notB (maskOf (lo ^^^ hi)))) &&& notB (tO lo hi o) = tB lo hi b := by
  have h1 := t_disj h
  show tB lo hi b &&& notB (tO lo hi o) = _
  apply Nat.eq_of_testBit_eq
  intro i
  have := disj_bit h1 i
  rw [Nat.testBit_and, not_bit]
  by_cases hi : i < 32
  · revert this
    simp [hi]
  · simp [high_bit (tB_le h.lo h.b) hi]

/-! Join -/
/-! Meet -/
def clashN (c d g h : Nat) : Nat := (c ||| g) &&& notB ((c ||| d) &&& (g ||| h))
theorem clash_spec {a b c d e f g h : Nat} (A : OkN a b c d) (B : OkN e f g h) : notB d &&& notB h &&& (c ^^^ g) = clashN c d g h := by
  apply Nat.eq_of_testBit_eq
  intro i
  have h1 := disj_bit A.d i
  have h2 := disj_bit B.d i
  rw [clashN, Nat.testBit_and, Nat.testBit_and, Nat.testBit_and, Nat.testBit_xor, Nat.testBit_or, not_bit, not_bit, not_bit, Nat.testBit_and, Nat.testBit_or, Nat.testBit_or]
  by_cases hi : i < 32
  · revert h1 h2
    simp [hi]
    cases c.testBit i <;> cases d.testBit i <;> cases g.testBit i <;> cases h.testBit i <;> simp
  · simp [high_bit A.b hi, high_bit B.b hi]
theorem meet_disj {a b c d e f g h : Nat} (A : OkN a b c d) (B : OkN e f g h) : (c ||| g) &&& (d &&& h) = 0 := by
  apply Nat.eq_of_testBit_eq
  intro i
  have h1 := disj_bit A.d i
  have h2 := disj_bit B.d i
  rw [Nat.testBit_and, Nat.testBit_and, Nat.testBit_or]
  revert h1 h2
  cases c.testBit i <;> cases d.testBit i <;> cases g.testBit i <;> cases h.testBit i <;> simp
theorem meet_ok {a b c d e f g h : Nat} (A : OkN a b c d) (B : OkN e f g h) (hle : max a e ≤ min b f) : OkN (max a e) (min b f) (c ||| g) (d &&& h) :=
  ⟨hle, Nat.le_trans (Nat.min_le_left _ _) A.hi, or_le A.b B.b, and_le _ A.o, meet_disj A B⟩

/-! Within -/
end Go.Proofs.Ytcopcajleonndaa
