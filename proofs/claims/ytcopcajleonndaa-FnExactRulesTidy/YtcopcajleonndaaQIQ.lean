/- Ranges that are all numbers from one to another: tidy, branched. -/
import Derived.Test.YtcopcajleonndaaQBV
namespace Go.Proofs.Ytcopcajleonndaa
open Go.RowKit
set_option linter.unusedVariables false
set_option linter.unusedSimpArgs false
theorem bitLen_of_lt {x k : Nat} (h : x < 2 ^ k) : bitLen x ≤ k := by
  by_cases h0 : x = 0
  · subst h0; simp [bitLen]
  · have h2 := (bitLen_spec x).2 h0
    by_cases hc : bitLen x ≤ k
    · exact hc
    · have : 2 ^ k ≤ 2 ^ (bitLen x - 1) := Nat.pow_le_pow_right (by omega) (by omega)
      omega
theorem len_sub {lo lo' hi' hi : Nat} (h1 : lo ≤ lo') (h2 : lo' ≤ hi') (h3 : hi' ≤ hi) : bitLen (lo' ^^^ hi') ≤ bitLen (lo ^^^ hi) := by
  apply bitLen_of_lt
  apply Nat.lt_pow_two_of_testBit
  intro i hi0
  rw [Nat.testBit_xor, prefix_same h1 (Nat.le_trans h2 h3) hi0, prefix_same (Nat.le_trans h1 h2) h3 hi0]
  simp
def iB (lo hi : Nat) : Nat := tB lo hi 0
def iO (lo hi : Nat) : Nat := maskOf (lo ^^^ hi)
theorem iB_bit {lo : Nat} (hi i : Nat) (hl : lo ≤ 4294967295) : (iB lo hi).testBit i = (lo.testBit i && !decide (i < bitLen (lo ^^^ hi))) := by
  rw [iB, tB_bit _ _ _ hl]; simp
theorem iO_bit (lo hi i : Nat) : (iO lo hi).testBit i = decide (i < bitLen (lo ^^^ hi)) := maskOf_bit _ _
/-- The range of all numbers from lo to hi. -/
def ivP (lo hi : Nat) : Int × Int × Int × Int := ((lo : Int), (hi : Int), (iB lo hi : Nat), (iO lo hi : Nat))
theorem iv_ok {lo hi : Nat} (h : lo ≤ hi) (ht : hi ≤ 4294967295) : OkN lo hi (iB lo hi) (iO lo hi) := by
  refine ⟨h, ht, tB_le (by omega) (by omega), maskOf_le (xor_le (by omega) ht), ?_⟩
  apply Nat.eq_of_testBit_eq
  intro i
  rw [Nat.testBit_and, iB_bit _ _ (by omega), iO_bit]
  cases lo.testBit i <;> cases decide (i < bitLen (lo ^^^ hi)) <;> simp
theorem iv_has {lo hi n : Nat} (h1 : lo ≤ n) (h2 : n ≤ hi) (ht : hi ≤ 4294967295) : hasN (iB lo hi) (iO lo hi) n = true := by
  refine (has_bit (by omega) (tB_le (by omega) (by omega))).2 ?_
  intro i _
  rw [iO_bit]
  show _ = (iB lo hi).testBit i
  rw [iB_bit _ _ (by omega)]
  by_cases hL : i < bitLen (lo ^^^ hi)
  · simp [hL]
  · simp [hL, prefix_same h1 h2 (by omega : bitLen (lo ^^^ hi) ≤ i)]
theorem iv_of {lo hi n : Nat} (h1 : lo ≤ n) (h2 : n ≤ hi) (ht : hi ≤ 4294967295) : OfN lo hi (iB lo hi) (iO lo hi) n := ⟨h1, h2, iv_has h1 h2 ht⟩
theorem iv_some {lo hi : Nat} (h : lo ≤ hi) (ht : hi ≤ 4294967295) : someN lo hi (iB lo hi) (iO lo hi) = true := some_of (iv_ok h ht) (iv_of (Nat.le_refl _) h ht)
section
variable {lo hi lo' hi' : Nat}
theorem tO_sub (h1 : lo ≤ lo') (h2 : lo' ≤ hi') (h3 : hi' ≤ hi) : tO lo' hi' (iO lo hi) = iO lo' hi' := by
  apply Nat.eq_of_testBit_eq
  intro i
  rw [tO_bit, iO_bit, iO_bit]
  have := len_sub h1 h2 h3
  by_cases h : i < bitLen (lo' ^^^ hi')
  · simp [h]; omega
  · simp [h]
theorem tB_sub (h1 : lo ≤ lo') (h2 : lo' ≤ hi') (h3 : hi' ≤ hi) (ht : hi ≤ 4294967295) : tB lo' hi' (iB lo hi) = iB lo' hi' := by
  apply Nat.eq_of_testBit_eq
  intro i
  rw [tB_bit _ _ _ (by omega), iB_bit _ _ (by omega), iB_bit _ _ (by omega)]
  have := len_sub h1 h2 h3
  by_cases h : i < bitLen (lo ^^^ hi)
  · simp [h]
  · have h' : ¬ i < bitLen (lo' ^^^ hi') := by omega
    simp [h, h', prefix_same h1 (Nat.le_trans h2 h3) (by omega : bitLen (lo ^^^ hi) ≤ i)]
theorem iB_le (h2 : lo' ≤ hi') (ht : hi' ≤ 4294967295) : iB lo' hi' ≤ lo' := le_of_bits fun i hx => by
  rw [iB_bit _ _ (by omega)] at hx; simp at hx; exact hx.1
theorem iBO_ge (h2 : lo' ≤ hi') (ht : hi' ≤ 4294967295) : hi' ≤ iB lo' hi' ||| iO lo' hi' := le_of_bits fun i hx => by
  rw [Nat.testBit_or, iB_bit _ _ (by omega), iO_bit]
  by_cases h : i < bitLen (lo' ^^^ hi')
  · simp [h]
  · have := prefix_same h2 (Nat.le_refl _) (by omega : bitLen (lo' ^^^ hi') ≤ i)
    rw [hx] at this
    simp [h, ← this]
/-- A range within one of all numbers is tidied so. -/
theorem iv_tidy (h1 : lo ≤ lo') (h2 : lo' ≤ hi') (h3 : hi' ≤ hi) (ht : hi ≤ 4294967295) : tidyP lo' hi' (iB lo hi : Nat) (iO lo hi : Nat) = ivP lo' hi' ∧ someI lo' hi' (iB lo hi : Nat) (iO lo hi : Nat) = true := by
  have A := iv_ok (Nat.le_trans h1 (Nat.le_trans h2 h3)) ht
  have A' : OkN lo' hi' (iB lo hi) (iO lo hi) := ⟨h2, by omega, A.b, A.o, A.d⟩
  have hs : someN lo' hi' (iB lo hi) (iO lo hi) = true := some_of A' ⟨Nat.le_refl _, h2, iv_has h1 (Nat.le_trans h2 h3) ht⟩
  refine ⟨?_, by rw [someI_nat A']; exact hs⟩
  rw [tidyP_yes A' hs, tB_sub h1 h2 h3 ht, tO_sub h1 h2 h3, tLo, tHi, tB_sub h1 h2 h3 ht, tO_sub h1 h2 h3, Nat.max_eq_left (iB_le h2 (by omega)), Nat.min_eq_left (iBO_ge h2 (by omega))]
  rfl
theorem iv_someP (h2 : lo ≤ hi) (ht : hi ≤ 4294967295) : someP (ivP lo hi) = true := by
  show someI lo hi (iB lo hi : Nat) (iO lo hi : Nat) = true
  exact (iv_tidy (Nat.le_refl _) h2 (Nat.le_refl _) ht).2
end
theorem one_iv {n : Nat} (ht : n ≤ 4294967295) : iB n n = n ∧ iO n n = 0 := by
  have h0 : bitLen (n ^^^ n) = 0 := by rw [Nat.xor_self]; simp [bitLen]
  constructor
  · apply Nat.eq_of_testBit_eq
    intro i
    rw [iB_bit _ _ ht, h0]; simp
  · rw [iO, maskOf, h0]
theorem one_ivP {n : Nat} (ht : n ≤ 4294967295) : ivP n n = ((n : Int), (n : Int), (n : Int), (0 : Int)) := by
  obtain ⟨h1, h2⟩ := one_iv ht
  rw [ivP, h1, h2]; rfl
/-- The interval of those of which it holds, or does not. -/
def brN (op : Int) (lo hi n : Nat) (hl : Bool) : Option (Nat × Nat) :=
  if op = 12 then (if hl then (if lo ≤ n ∧ n ≤ hi then some (n, n) else none) else
    if lo = n then (if hi = n then none else some (lo + 1, hi)) else if hi = n then some (lo, hi - 1) else some (lo, hi))
  else if op = 13 then (if hl then (if lo = n then (if hi = n then none else some (lo + 1, hi)) else if hi = n then some (lo, hi - 1) else some (lo, hi)) else
    (if lo ≤ n ∧ n ≤ hi then some (n, n) else none))
  else if op = 14 then (if hl then (if lo < n then some (lo, min hi (n - 1)) else none) else (if n ≤ hi then some (max lo n, hi) else none))
  else (if hl then (if n < hi then some (max lo (n + 1), hi) else none) else (if lo ≤ n then some (lo, min hi n) else none))
def optP : Option (Nat × Nat) → Int × Int × Int × Int
  | some x => ivP x.1 x.2
  | none => noP
theorem brN_in {op : Int} {lo hi n : Nat} {hl : Bool} (h : lo ≤ hi) {x : Nat × Nat} (hx : brN op lo hi n hl = some x) : lo ≤ x.1 ∧ x.1 ≤ x.2 ∧ x.2 ≤ hi := by
  unfold brN at hx
  (repeat' split at hx) <;> simp at hx <;> subst hx <;> (dsimp only; omega)
/-- What both parts answer of an interval and a number. -/
def BothI (op : Int) (hl : Bool) (lo hi n : Nat) : Prop :=
  ∃ (P' R R' : Int × Int × Int × Int),
    (∀ w, Calls Try.prog 49 #[.int .i64 op, rvP (ivP lo hi), rvP (ivP n n), .bool hl] w fun ee w' => ee = .returned (.tuple #[rvP (optP (brN op lo hi n hl)), rvP P', .bool (brN op lo hi n hl).isSome]) ∧ Below w.heap.size w w') ∧
    (∀ w, Calls Try.prog 54 #[.int .i64 op, rvP (ivP lo hi), rvP (ivP n n), .bool hl] w fun ee w' => ee = .returned (.tuple #[rvP R, rvP R']) ∧ Below w.heap.size w w') ∧ Alike2 (optP (brN op lo hi n hl)) R R' (brN op lo hi n hl).isSome
theorem BothV.to {op : Int} {hl : Bool} {lo hi n : Nat} {V : Int × Int × Int × Int} {q : Bool} (H : BothV op hl lo hi (iB lo hi : Nat) (iO lo hi : Nat) n n (iB n n : Nat) (iO n n : Nat) V q) (hq : (brN op lo hi n hl).isSome = q) (hV : q = true → V = optP (brN op lo hi n hl)) : BothI op hl lo hi n := by
  obtain ⟨P', R, R', h1, h2, h3⟩ := H
  refine ⟨P', R, R', fun w => ?_, h2, ?_⟩
  · have := h1 w
    rw [hq]
    cases q
    · have hn : brN op lo hi n hl = none := by simpa using hq
      rw [hn]; exact this
    · rw [← hV rfl]; exact this
  · rw [hq]
    rcases h3 with ⟨h4, h5, h6⟩ | ⟨h4, h5⟩
    · exact .inl ⟨h4, by rw [h5, hV h4], by rw [← hV h4]; exact h6⟩
    · exact .inr ⟨h4, h5⟩
section
variable {lo hi n : Nat} (h : lo ≤ hi) (ht : hi ≤ 4294967295) (hn : n ≤ 4294967295)
include h ht hn
theorem meet_iv : meetB lo hi (iB lo hi) (iO lo hi) n n (iB n n) (iO n n) = decide (lo ≤ n ∧ n ≤ hi) := by
  obtain ⟨e1, e2⟩ := one_iv hn
  have A := iv_ok h ht
  have B := iv_ok (Nat.le_refl n) hn
  by_cases hc : lo ≤ n ∧ n ≤ hi
  · rw [decide_eq_true hc]
    have hb := (has_bit (by omega) A.b).1 (iv_has hc.1 hc.2 ht)
    have cl : clashN (iB lo hi) (iO lo hi) (iB n n) (iO n n) = 0 := by
      rw [clashN, e1, e2]
      apply Nat.eq_of_testBit_eq
      intro i
      rw [Nat.testBit_and, Nat.testBit_or, not_bit, Nat.testBit_and, Nat.testBit_or, Nat.testBit_or]
      by_cases hi3 : i < 32
      · have := hb i hi3
        simp only [Nat.zero_testBit, Bool.or_false, hi3, decide_true]
        revert this
        cases n.testBit i <;> cases (iO lo hi).testBit i <;> cases (iB lo hi).testBit i <;> simp
      · simp [high_bit A.b hi3, high_bit hn hi3]
    have J := meet_ok A B (by omega : max lo n ≤ min hi n)
    have hs : someN (max lo n) (min hi n) (iB lo hi ||| iB n n) (iO lo hi &&& iO n n) = true := by
      refine some_of (n := n) J ⟨by omega, by omega, ?_⟩
      rw [has_bit hn J.b]
      intro i hi3
      have := hb i hi3
      rw [e1, e2]
      simp only [Nat.testBit_and, Nat.testBit_or, Nat.zero_testBit, Bool.and_false, Bool.not_false, Bool.and_true]
      revert this
      cases n.testBit i <;> cases (iO lo hi).testBit i <;> cases (iB lo hi).testBit i <;> simp
    rw [meetB, cl, hs, decide_eq_true (by omega : max lo n ≤ min hi n)]; rfl
  · rw [decide_eq_false hc, meetB, decide_eq_false (by omega : ¬ max lo n ≤ min hi n)]; simp
theorem meetP_iv (h1 : lo ≤ n) (h2 : n ≤ hi) : meetP lo hi (iB lo hi) (iO lo hi) n n (iB n n) (iO n n) = ivP n n := by
  obtain ⟨e1, e2⟩ := one_iv hn
  have A := iv_ok h ht
  have hb := (has_bit (by omega) A.b).1 (iv_has h1 h2 ht)
  have ec : iB lo hi ||| n = n := by
    apply Nat.eq_of_testBit_eq
    intro i
    rw [Nat.testBit_or]
    by_cases hi3 : i < 32
    · have := hb i hi3
      revert this
      cases n.testBit i <;> cases (iO lo hi).testBit i <;> cases (iB lo hi).testBit i <;> simp
    · simp [high_bit A.b hi3]
  have ht2 := iv_tidy (lo := n) (hi := n) (lo' := n) (hi' := n) (Nat.le_refl _) (Nat.le_refl _) (Nat.le_refl _) hn
  have A2 := iv_ok (Nat.le_refl n) hn
  have key := ht2.1
  rw [tidyP_yes A2 (iv_some (Nat.le_refl n) hn)] at key
  rw [meetP, show max lo n = n by omega, show min hi n = n by omega, e1, e2, ec, Nat.and_zero]
  rw [e1, e2] at key
  exact key
theorem apart_iv : apartP lo hi (iB lo hi : Nat) (iO lo hi : Nat) n n = (if lo = n then (if hi = n then noP else ivP (lo + 1) hi) else if hi = n then ivP lo (hi - 1) else ivP lo hi) := by
  rw [apartP, if_pos rfl]
  by_cases k1 : lo = n
  · subst k1
    by_cases k2 : hi = lo
    · rw [if_pos rfl, if_pos k2, butX, if_pos rfl, butY, if_pos (by omega), tidyP_no (someI_gt (by omega))]
    · rw [if_pos rfl, if_neg k2, butX, if_pos rfl, butY, if_neg (by omega)]
      exact (iv_tidy (lo := lo) (hi := hi) (lo' := lo + 1) (hi' := hi) (by omega) (by omega) (Nat.le_refl _) ht).1
  · rw [if_neg k1, butX, if_neg (by omega)]
    by_cases k2 : hi = n
    · rw [if_pos k2, butY, if_pos (by omega), show (hi : Int) - 1 = ((hi - 1 : Nat) : Int) by omega]
      exact (iv_tidy (lo := lo) (hi := hi) (lo' := lo) (hi' := hi - 1) (Nat.le_refl _) (by omega) (by omega) ht).1
    · rw [if_neg k2, butY, if_neg (by omega)]
      exact (iv_tidy (lo := lo) (hi := hi) (Nat.le_refl _) h (Nat.le_refl _) ht).1
theorem apartB_iv : apartB lo hi (iB lo hi : Nat) (iO lo hi : Nat) n n = !(decide (lo = n) && decide (hi = n)) := by
  rw [apartB, apart_iv h ht hn]
  by_cases k1 : lo = n
  · by_cases k2 : hi = n
    · rw [if_pos k1, if_pos k2, decide_eq_true k1, decide_eq_true k2]; exact someI_gt (by decide)
    · rw [if_pos k1, if_neg k2, decide_eq_false k2, Bool.and_false]; exact iv_someP (by omega) ht
  · rw [if_neg k1, decide_eq_false k1]
    by_cases k2 : hi = n
    · rw [if_pos k2]; exact iv_someP (by omega) (by omega)
    · rw [if_neg k2]; exact iv_someP h ht
theorem apartB_one : apartB n n (iB n n : Nat) (iO n n : Nat) lo hi = !(decide (lo = n) && decide (hi = n)) := by
  by_cases hk : lo = hi
  · subst hk
    rw [apartB_iv (Nat.le_refl n) hn ht]
    by_cases k : lo = n
    · subst k; rfl
    · rw [decide_eq_false k, decide_eq_false (Ne.symm k)]
  · have : apartP n n (iB n n : Nat) (iO n n : Nat) lo hi = ivP n n := by rw [apartP, if_neg (by omega)]; rfl
    rw [apartB, this]
    have e : (decide (lo = n) && decide (hi = n)) = false := by
      by_cases k : lo = n
      · rw [decide_eq_false (show ¬ hi = n by omega), Bool.and_false]
      · rw [decide_eq_false k]; rfl
    rw [e]; exact iv_someP (Nat.le_refl n) hn
/-- What both parts answer, whatever is asked. -/
theorem both_iv (op : Int) (hop : inB op 12 15 = true) (hl : Bool) : BothI op hl lo hi n := by
  have A := iv_ok h ht
  have B := iv_ok (Nat.le_refl n) hn
  have hA := iv_some h ht
  have hB := iv_some (Nat.le_refl n) hn
  simp [inB] at hop
  have hm := meet_iv h ht hn
  have ha := apart_iv h ht hn
  have hb := apartB_iv h ht hn
  have hb2 := apartB_one h ht hn
  have low1 : lowQ lo hi (iB lo hi : Nat) (iO lo hi : Nat) n n (iB n n : Nat) (iO n n : Nat) 1 = decide (lo < n) := by
    unfold lowQ
    by_cases k : lo < n
    · rw [decide_eq_true k]
      have e1 : min (hi : Int) ((n : Int) - 1) = ((min hi (n - 1) : Nat) : Int) := by omega
      have e2 : max (n : Int) ((lo : Int) + 1) = ((n : Nat) : Int) := by omega
      rw [e1, e2, (iv_tidy (lo := lo) (hi := hi) (lo' := lo) (hi' := min hi (n - 1)) (Nat.le_refl _) (by omega) (by omega) ht).2, (iv_tidy (lo := n) (hi := n) (lo' := n) (hi' := n) (Nat.le_refl _) (Nat.le_refl _) (Nat.le_refl _) hn).2]; rfl
    · rw [decide_eq_false k, someI_gt (X := (lo : Int)) (Y := min (hi : Int) ((n : Int) - 1)) (by omega)]; rfl
  have low0' : lowQ lo hi (iB lo hi : Nat) (iO lo hi : Nat) n n (iB n n : Nat) (iO n n : Nat) 0 = decide (lo ≤ n) := by
    unfold lowQ
    by_cases k : lo ≤ n
    · rw [decide_eq_true k]
      have e1 : min (hi : Int) ((n : Int) - 0) = ((min hi n : Nat) : Int) := by omega
      have e2 : max (n : Int) ((lo : Int) + 0) = ((n : Nat) : Int) := by omega
      rw [e1, e2, (iv_tidy (lo := lo) (hi := hi) (lo' := lo) (hi' := min hi n) (Nat.le_refl _) (by omega) (by omega) ht).2, (iv_tidy (lo := n) (hi := n) (lo' := n) (hi' := n) (Nat.le_refl _) (Nat.le_refl _) (Nat.le_refl _) hn).2]; rfl
    · rw [decide_eq_false k, someI_gt (X := (lo : Int)) (Y := min (hi : Int) ((n : Int) - 0)) (by omega)]; rfl
  have up1 : lowQ n n (iB n n : Nat) (iO n n : Nat) lo hi (iB lo hi : Nat) (iO lo hi : Nat) 1 = decide (n < hi) := by
    unfold lowQ
    by_cases k : n < hi
    · rw [decide_eq_true k]
      have e1 : min (n : Int) ((hi : Int) - 1) = ((n : Nat) : Int) := by omega
      have e2 : max (lo : Int) ((n : Int) + 1) = ((max lo (n + 1) : Nat) : Int) := by omega
      rw [e1, e2, (iv_tidy (lo := lo) (hi := hi) (lo' := max lo (n + 1)) (hi' := hi) (by omega) (by omega) (Nat.le_refl _) ht).2, (iv_tidy (lo := n) (hi := n) (lo' := n) (hi' := n) (Nat.le_refl _) (Nat.le_refl _) (Nat.le_refl _) hn).2]; rfl
    · rw [decide_eq_false k, someI_gt (X := (n : Int)) (Y := min (n : Int) ((hi : Int) - 1)) (by omega)]; rfl
  have up0 : lowQ n n (iB n n : Nat) (iO n n : Nat) lo hi (iB lo hi : Nat) (iO lo hi : Nat) 0 = decide (n ≤ hi) := by
    unfold lowQ
    by_cases k : n ≤ hi
    · rw [decide_eq_true k]
      have e1 : min (n : Int) ((hi : Int) - 0) = ((n : Nat) : Int) := by omega
      have e2 : max (lo : Int) ((n : Int) + 0) = ((max lo n : Nat) : Int) := by omega
      rw [e1, e2, (iv_tidy (lo := lo) (hi := hi) (lo' := max lo n) (hi' := hi) (by omega) (by omega) (Nat.le_refl _) ht).2, (iv_tidy (lo := n) (hi := n) (lo' := n) (hi' := n) (Nat.le_refl _) (Nat.le_refl _) (Nat.le_refl _) hn).2]; rfl
    · rw [decide_eq_false k, someI_gt (X := (n : Int)) (Y := min (n : Int) ((hi : Int) - 0)) (by omega)]; rfl
  have apQ : (apartB lo hi (iB lo hi : Nat) (iO lo hi : Nat) n n && apartB n n (iB n n : Nat) (iO n n : Nat) lo hi) = !(decide (lo = n) && decide (hi = n)) := by rw [hb, hb2, Bool.and_self]
  rcases (by omega : op = 12 ∨ op = 13 ∨ op = 14 ∨ op = 15) with rfl | rfl | rfl | rfl <;> cases hl
  · refine (vboth_other lo hi _ _ n n _ _ A B hA hB).to ?_ ?_
    · rw [apQ]; simp only [brN, reduceIte, Bool.false_eq_true]
      by_cases k1 : lo = n <;> by_cases k2 : hi = n <;> simp [k1, k2]
    · intro hq; rw [apQ] at hq; rw [ha]; simp only [brN, reduceIte, Bool.false_eq_true]
      by_cases k1 : lo = n <;> by_cases k2 : hi = n <;> simp [k1, k2, optP]
  · refine (vboth_same lo hi _ _ n n _ _ A B).to ?_ ?_
    · rw [hm]; simp only [brN, reduceIte]
      by_cases k : lo ≤ n ∧ n ≤ hi <;> simp [k]
    · intro hq; rw [hm] at hq
      have k : lo ≤ n ∧ n ≤ hi := by simpa using hq
      rw [meetP_iv h ht hn k.1 k.2]; simp [brN, k, optP]
  · refine (vboth_same2 lo hi _ _ n n _ _ A B).to ?_ ?_
    · rw [hm]; simp only [brN, reduceIte, Bool.false_eq_true, show ¬ ((13 : Int) = 12) by decide]
      by_cases k : lo ≤ n ∧ n ≤ hi <;> simp [k]
    · intro hq; rw [hm] at hq
      have k : lo ≤ n ∧ n ≤ hi := by simpa using hq
      rw [meetP_iv h ht hn k.1 k.2]; simp [brN, k, optP]
  · refine (vboth_other2 lo hi _ _ n n _ _ A B hA hB).to ?_ ?_
    · rw [apQ]; simp only [brN, reduceIte, show ¬ ((13 : Int) = 12) by decide]
      by_cases k1 : lo = n <;> by_cases k2 : hi = n <;> simp [k1, k2]
    · intro hq; rw [apQ] at hq; rw [ha]; simp only [brN, reduceIte, show ¬ ((13 : Int) = 12) by decide]
      by_cases k1 : lo = n <;> by_cases k2 : hi = n <;> simp [k1, k2, optP]
  · refine (vboth_notless lo hi _ _ n n _ _ A B).to ?_ ?_
    · rw [up0]; by_cases k : n ≤ hi <;> simp [brN, k]
    · intro hq; rw [up0] at hq
      have k : n ≤ hi := by simpa using hq
      rw [show max (lo : Int) (n : Int) = ((max lo n : Nat) : Int) by omega, (iv_tidy (lo := lo) (hi := hi) (lo' := max lo n) (hi' := hi) (by omega) (by omega) (Nat.le_refl _) ht).1]
      simp [brN, k, optP]
  · refine (vboth_less lo hi _ _ n n _ _ A B).to ?_ ?_
    · rw [low1]; by_cases k : lo < n <;> simp [brN, k]
    · intro hq; rw [low1] at hq
      have k : lo < n := by simpa using hq
      rw [show min (hi : Int) ((n : Int) - 1) = ((min hi (n - 1) : Nat) : Int) by omega, (iv_tidy (lo := lo) (hi := hi) (lo' := lo) (hi' := min hi (n - 1)) (Nat.le_refl _) (by omega) (by omega) ht).1]
      simp [brN, k, optP]
  · refine (vboth_notmore lo hi _ _ n n _ _ A B).to ?_ ?_
    · rw [low0']; by_cases k : lo ≤ n <;> simp [brN, k]
    · intro hq; rw [low0'] at hq
      have k : lo ≤ n := by simpa using hq
      rw [show min (hi : Int) (n : Int) = ((min hi n : Nat) : Int) by omega, (iv_tidy (lo := lo) (hi := hi) (lo' := lo) (hi' := min hi n) (Nat.le_refl _) (by omega) (by omega) ht).1]
      simp [brN, k, optP]
  · refine (vboth_more lo hi _ _ n n _ _ A B).to ?_ ?_
    · rw [up1]; by_cases k : n < hi <;> simp [brN, k]
    · intro hq; rw [up1] at hq
      have k : n < hi := by simpa using hq
      rw [show max (lo : Int) ((n : Int) + 1) = ((max lo (n + 1) : Nat) : Int) by omega, (iv_tidy (lo := lo) (hi := hi) (lo' := max lo (n + 1)) (hi' := hi) (by omega) (by omega) (Nat.le_refl _) ht).1]
      simp [brN, k, optP]
end
/-- The program's RangeBranch of an interval and a number. -/
theorem c_BranchI (op : Int) (hop : inB op 12 15 = true) (hl : Bool) {lo hi n : Nat} (h : lo ≤ hi) (ht : hi ≤ 4294967295) (hn : n ≤ 4294967295) :
    ∃ P' : Int × Int × Int × Int, ∀ w, Calls Try.prog 37 #[.int .i64 op, rvP (ivP lo hi), rvP (ivP n n), .bool hl] w fun ee w' => ee = .returned (.tuple #[rvP (optP (brN op lo hi n hl)), rvP P', .bool (brN op lo hi n hl).isSome]) ∧ Below w.heap.size w w' := by
  obtain ⟨P', R, R', h1, h2, h3⟩ := both_iv h ht hn op hop hl
  have t1 : ∀ w, Calls Try.prog 51 #[rvP (ivP lo hi)] w fun ee w' => ee = .returned (rvP (ivP lo hi)) ∧ Below w.heap.size w w' := fun w => by
    have := c_RangeTidyI (ivP lo hi).1 (ivP lo hi).2.1 (ivP lo hi).2.2.1 (ivP lo hi).2.2.2 w
    rw [show tidyP (ivP lo hi).1 (ivP lo hi).2.1 (ivP lo hi).2.2.1 (ivP lo hi).2.2.2 = ivP lo hi from (iv_tidy (Nat.le_refl _) h (Nat.le_refl _) ht).1] at this
    exact this
  have t2 : ∀ w, Calls Try.prog 51 #[rvP (ivP n n)] w fun ee w' => ee = .returned (rvP (ivP n n)) ∧ Below w.heap.size w w' := fun w => by
    have := c_RangeTidyI (ivP n n).1 (ivP n n).2.1 (ivP n n).2.2.1 (ivP n n).2.2.2 w
    rw [show tidyP (ivP n n).1 (ivP n n).2.1 (ivP n n).2.2.1 (ivP n n).2.2.2 = ivP n n from (iv_tidy (Nat.le_refl _) (Nat.le_refl _) (Nat.le_refl _) hn).1] at this
    exact this
  have s1 : someP (ivP lo hi) = true := iv_someP h ht
  have s2 : someP (ivP n n) = true := iv_someP (Nat.le_refl n) hn
  rcases h3 with ⟨h4, h5, h6, h7⟩ | ⟨h4, h5⟩
  · rw [h4]
    subst h5
    exact ⟨R', fun w => w_Br_yes op _ _ _ _ _ _ _ _ hl _ _ _ _ _ _ _ _ _ _ _ _ _ _ _ _ w hop s1 s2 t1 t2 h2 h6 h7⟩
  · rw [h4]
    have hnone : brN op lo hi n hl = none := by simpa using h4
    rw [hnone]
    refine ⟨noP, fun w => ?_⟩
    cases e : someP R
    · exact w_Br_no4 op _ _ _ _ _ _ _ _ hl _ _ _ _ _ _ _ _ _ _ _ _ _ _ _ _ w hop s1 s2 t1 t2 h2 e
    · rw [e, Bool.true_and] at h5
      exact w_Br_no5 op _ _ _ _ _ _ _ _ hl _ _ _ _ _ _ _ _ _ _ _ _ _ _ _ _ w hop s1 s2 t1 t2 h2 e h5
theorem c_l2BranchI (op : Int) (hop : inB op 12 15 = true) (hl : Bool) {lo hi n : Nat} (h : lo ≤ hi) (ht : hi ≤ 4294967295) (hn : n ≤ 4294967295) :
    ∃ P' : Int × Int × Int × Int, ∀ w, Calls Try.prog 49 #[.int .i64 op, rvP (ivP lo hi), rvP (ivP n n), .bool hl] w fun ee w' => ee = .returned (.tuple #[rvP (optP (brN op lo hi n hl)), rvP P', .bool (brN op lo hi n hl).isSome]) ∧ Below w.heap.size w w' := by
  obtain ⟨P', R, R', h1, h2, h3⟩ := both_iv h ht hn op hop hl
  exact ⟨P', h1⟩
end Go.Proofs.Ytcopcajleonndaa
