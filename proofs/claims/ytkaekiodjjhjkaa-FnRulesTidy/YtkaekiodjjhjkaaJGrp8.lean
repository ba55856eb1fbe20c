/- Ranges that are all numbers from one to another: tidy, branched. -/
import Derived.Test.YtkaekiodjjhjkaaJGrp7
import Derived.Test.YtkaekiodjjhjkaaJGrp3
import Derived.Test.YtkaekiodjjhjkaaJGrp4
import Derived.Test.YtkaekiodjjhjkaaJGrp0
set_option maxRecDepth 100000
set_option maxHeartbeats 8000000
set_option linter.unusedSimpArgs false
set_option linter.unusedVariables false
namespace Go.Proofs.Ytkaekiodjjhjkaa.H
open Go.RowKit
theorem bitLen_of_lt {x k : Nat} (h : x < 2 ^ k) : bitLen x ≤ k := by
 by_cases h0 : x = 0
 ·subst h0; simp [bitLen]
 ·have h2 := (bitLen_spec x).2 h0
  by_cases hc : bitLen x ≤ k
  ·exact hc
  ·have : 2 ^ k ≤ 2 ^ (bitLen x - 1) := Nat.pow_le_pow_right (by omega) (by omega)
   omega
theorem len_sub {lo lo' hi' hi : Nat} (h1 : lo ≤ lo') (h2 : lo' ≤ hi') (h3 : hi' ≤ hi) : bitLen (lo' ^^^ hi') ≤ bitLen (lo ^^^ hi) := by
 apply bitLen_of_lt
 apply Nat.lt_pow_two_of_testBit
 intro i hi0
 rw [Nat.testBit_xor, prefix_same h1 (Nat.le_trans h2 h3) hi0, prefix_same (Nat.le_trans h1 h2) h3 hi0]
 simp
def iB (lo hi : Nat) : Nat := tB lo hi 0
def iO (lo hi : Nat) : Nat := maskOf (lo ^^^ hi)
theorem iB_bit {lo : Nat} (hi i : Nat) (hl : lo ≤ 4294967295) : (iB lo hi).testBit i = (lo.testBit i && !decide (i < bitLen (lo ^^^ hi))) := by
 rw [iB, tB_bit _ _ _ hl]; simp
theorem iO_bit (lo hi i : Nat) : (iO lo hi).testBit i = decide (i < bitLen (lo ^^^ hi)) := maskOf_bit _ _
def ivP (lo hi : Nat) : Int × Int × Int × Int := ((lo : Int), (hi : Int), (iB lo hi : Nat), (iO lo hi : Nat))
theorem iv_ok {lo hi : Nat} (h : lo ≤ hi) (ht : hi ≤ 4294967295) : OkN lo hi (iB lo hi) (iO lo hi) := by
 refine ⟨h, ht, tB_le (by omega) (by omega), maskOf_le (xor_le (by omega) ht), ?_⟩
 apply Nat.eq_of_testBit_eq
 intro i
 rw [Nat.testBit_and, iB_bit _ _ (by omega), iO_bit]
 cases lo.testBit i <;> cases decide (i < bitLen (lo ^^^ hi)) <;> simp
theorem iv_has {lo hi n : Nat} (h1 : lo ≤ n) (h2 : n ≤ hi) (ht : hi ≤ 4294967295) : hasN (iB lo hi) (iO lo hi) n = true := by
 refine (has_bit (by omega) (tB_le (by omega) (by omega))).2 ?_
 intro i _
 rw [iO_bit]
 show _ = (iB lo hi).testBit i
 rw [iB_bit _ _ (by omega)]
 by_cases hL : i < bitLen (lo ^^^ hi)
 ·simp [hL]
 ·simp [hL, prefix_same h1 h2 (by omega : bitLen (lo ^^^ hi) ≤ i)]
theorem iv_of {lo hi n : Nat} (h1 : lo ≤ n) (h2 : n ≤ hi) (ht : hi ≤ 4294967295) : OfN lo hi (iB lo hi) (iO lo hi) n := ⟨h1, h2, iv_has h1 h2 ht⟩
theorem iv_some {lo hi : Nat} (h : lo ≤ hi) (ht : hi ≤ 4294967295) : someN lo hi (iB lo hi) (iO lo hi) = true := some_of (iv_ok h ht) (iv_of (Nat.le_refl _) h ht)
section
variable {lo hi lo' hi' : Nat}
theorem tO_sub (h1 : lo ≤ lo') (h2 : lo' ≤ hi') (h3 : hi' ≤ hi) : tO lo' hi' (iO lo hi) = iO lo' hi' := by
 apply Nat.eq_of_testBit_eq
 intro i
 rw [tO_bit, iO_bit, iO_bit]
 have := len_sub h1 h2 h3
 by_cases h : i < bitLen (lo' ^^^ hi')
 ·simp [h]; omega
 ·simp [h]
theorem tB_sub (h1 : lo ≤ lo') (h2 : lo' ≤ hi') (h3 : hi' ≤ hi) (ht : hi ≤ 4294967295) : tB lo' hi' (iB lo hi) = iB lo' hi' := by
 apply Nat.eq_of_testBit_eq
 intro i
 rw [tB_bit _ _ _ (by omega), iB_bit _ _ (by omega), iB_bit _ _ (by omega)]
 have := len_sub h1 h2 h3
 by_cases h : i < bitLen (lo ^^^ hi)
 ·simp [h]
 ·have h' : ¬ i < bitLen (lo' ^^^ hi') := by omega
  simp [h, h', prefix_same h1 (Nat.le_trans h2 h3) (by omega : bitLen (lo ^^^ hi) ≤ i)]
theorem iB_le (h2 : lo' ≤ hi') (ht : hi' ≤ 4294967295) : iB lo' hi' ≤ lo' := le_of_bits fun i hx => by
 rw [iB_bit _ _ (by omega)] at hx; simp at hx; exact hx.1
theorem iBO_ge (h2 : lo' ≤ hi') (ht : hi' ≤ 4294967295) : hi' ≤ iB lo' hi' ||| iO lo' hi' := le_of_bits fun i hx => by
 rw [Nat.testBit_or, iB_bit _ _ (by omega), iO_bit]
 by_cases h : i < bitLen (lo' ^^^ hi')
 ·simp [h]
 ·have := prefix_same h2 (Nat.le_refl _) (by omega : bitLen (lo' ^^^ hi') ≤ i)
  rw [hx] at this
  simp [h, ← this]
theorem iv_tidy (h1 : lo ≤ lo') (h2 : lo' ≤ hi') (h3 : hi' ≤ hi) (ht : hi ≤ 4294967295) : tidyP lo' hi' (iB lo hi : Nat) (iO lo hi : Nat) = ivP lo' hi' ∧ someI lo' hi' (iB lo hi : Nat) (iO lo hi : Nat) = true := by
 have A := iv_ok (Nat.le_trans h1 (Nat.le_trans h2 h3)) ht
 have A' : OkN lo' hi' (iB lo hi) (iO lo hi) := ⟨h2, by omega, A.b, A.o, A.d⟩
 have hs : someN lo' hi' (iB lo hi) (iO lo hi) = true := some_of A' ⟨Nat.le_refl _, h2, iv_has h1 (Nat.le_trans h2 h3) ht⟩
 refine ⟨?_, by rw [someI_nat A']; exact hs⟩
 rw [tidyP_yes A' hs, tB_sub h1 h2 h3 ht, tO_sub h1 h2 h3, tLo, tHi, tB_sub h1 h2 h3 ht, tO_sub h1 h2 h3, Nat.max_eq_left (iB_le h2 (by omega)), Nat.min_eq_left (iBO_ge h2 (by omega))]
 rfl
theorem iv_someP (h2 : lo ≤ hi) (ht : hi ≤ 4294967295) : someP (ivP lo hi) = true := by
 show someI lo hi (iB lo hi : Nat) (iO lo hi : Nat) = true
 exact (iv_tidy (Nat.le_refl _) h2 (Nat.le_refl _) ht).2
end
theorem one_iv {n : Nat} (ht : n ≤ 4294967295) : iB n n = n ∧ iO n n = 0 := by
 have h0 : bitLen (n ^^^ n) = 0 := by rw [Nat.xor_self]; simp [bitLen]
 constructor
 ·apply Nat.eq_of_testBit_eq
  intro i
  rw [iB_bit _ _ ht, h0]; simp
 ·rw [iO, maskOf, h0]
theorem one_ivP {n : Nat} (ht : n ≤ 4294967295) : ivP n n = ((n : Int), (n : Int), (n : Int), (0 : Int)) := by
 obtain ⟨h1, h2⟩ := one_iv ht
 rw [ivP, h1, h2]; rfl
def brN (op : Int) (lo hi n : Nat) (hl : Bool) : Option (Nat × Nat) :=
 if op = 12 then (if hl then (if lo ≤ n ∧ n ≤ hi then some (n, n) else none) else
  if lo = n then (if hi = n then none else some (lo + 1, hi)) else if hi = n then some (lo, hi - 1) else some (lo, hi))
 else if op = 13 then (if hl then (if lo = n then (if hi = n then none else some (lo + 1, hi)) else if hi = n then some (lo, hi - 1) else some (lo, hi)) else
  (if lo ≤ n ∧ n ≤ hi then some (n, n) else none))
 else if op = 14 then (if hl then (if lo < n then some (lo, min hi (n - 1)) else none) else (if n ≤ hi then some (max lo n, hi) else none))
 else (if hl then (if n < hi then some (max lo (n + 1), hi) else none) else (if lo ≤ n then some (lo, min hi n) else none))
def optP : Option (Nat × Nat) → Int × Int × Int × Int
 | some x => ivP x.1 x.2
 | none => noP
theorem brN_in {op : Int} {lo hi n : Nat} {hl : Bool} (h : lo ≤ hi) {x : Nat × Nat} (hx : brN op lo hi n hl = some x) : lo ≤ x.1 ∧ x.1 ≤ x.2 ∧ x.2 ≤ hi := by
 unfold brN at hx
 (repeat' split at hx) <;> simp at hx <;> subst hx <;> (dsimp only; omega)
def BothI (op : Int) (hl : Bool) (lo hi n : Nat) : Prop :=
 ∃ (P' R R' : Int × Int × Int × Int),
   (∀ w, Calls Try.prog 47 #[.int .i64 op, rvP (ivP lo hi), rvP (ivP n n), .bool hl] w fun ee w' => ee = .returned (.tuple #[rvP (optP (brN op lo hi n hl)), rvP P', .bool (brN op lo hi n hl).isSome]) ∧ Below w.heap.size w w') ∧
   (∀ w, Calls Try.prog 44 #[.int .i64 op, rvP (ivP lo hi), rvP (ivP n n), .bool hl] w fun ee w' => ee = .returned (.tuple #[rvP R, rvP R']) ∧ Below w.heap.size w w') ∧ Alike2 (optP (brN op lo hi n hl)) R R' (brN op lo hi n hl).isSome
theorem BothV.to {op : Int} {hl : Bool} {lo hi n : Nat} {V : Int × Int × Int × Int} {q : Bool} (H : BothV op hl lo hi (iB lo hi : Nat) (iO lo hi : Nat) n n (iB n n : Nat) (iO n n : Nat) V q) (hq : (brN op lo hi n hl).isSome = q) (hV : q = true → V = optP (brN op lo hi n hl)) : BothI op hl lo hi n := by
 obtain ⟨P', R, R', h1, h2, h3⟩ := H
 refine ⟨P', R, R', fun w => ?_, h2, ?_⟩
 ·have := h1 w
  rw [hq]
  cases q
  ·have hn : brN op lo hi n hl = none := by simpa using hq
   rw [hn]; exact this
  ·rw [← hV rfl]; exact this
 ·rw [hq]
  rcases h3 with ⟨h4, h5, h6⟩ | ⟨h4, h5⟩
  ·exact .inl ⟨h4, by rw [h5, hV h4], by rw [← hV h4]; exact h6⟩
  ·exact .inr ⟨h4, h5⟩
section
variable {lo hi n : Nat} (h : lo ≤ hi) (ht : hi ≤ 4294967295) (hn : n ≤ 4294967295)
include h ht hn
theorem meet_iv : meetB lo hi (iB lo hi) (iO lo hi) n n (iB n n) (iO n n) = decide (lo ≤ n ∧ n ≤ hi) := by
 obtain ⟨e1, e2⟩ := one_iv hn
 have A := iv_ok h ht
 have B := iv_ok (Nat.le_refl n) hn
 by_cases hc : lo ≤ n ∧ n ≤ hi
 ·rw [decide_eq_true hc]
  have hb := (has_bit (by omega) A.b).1 (iv_has hc.1 hc.2 ht)
  have cl : clashN (iB lo hi) (iO lo hi) (iB n n) (iO n n) = 0 := by
   rw [clashN, e1, e2]
   apply Nat.eq_of_testBit_eq
   intro i
   rw [Nat.testBit_and, Nat.testBit_or, not_bit, Nat.testBit_and, Nat.testBit_or, Nat.testBit_or]
   by_cases hi3 : i < 32
   ·have := hb i hi3
    simp only [Nat.zero_testBit, Bool.or_false, hi3, decide_true]
    revert this
    cases n.testBit i <;> cases (iO lo hi).testBit i <;> cases (iB lo hi).testBit i <;> simp
   ·simp [high_bit A.b hi3, high_bit hn hi3]
  have J := meet_ok A B (by omega : max lo n ≤ min hi n)
  have hs : someN (max lo n) (min hi n) (iB lo hi ||| iB n n) (iO lo hi &&& iO n n) = true := by
   refine some_of (n := n) J ⟨by omega, by omega, ?_⟩
   rw [has_bit hn J.b]
   intro i hi3
   have := hb i hi3
   rw [e1, e2]
   simp only [Nat.testBit_and, Nat.testBit_or, Nat.zero_testBit, Bool.and_false, Bool.not_false, Bool.and_true]
   revert this
   cases n.testBit i <;> cases (iO lo hi).testBit i <;> cases (iB lo hi).testBit i <;> simp
  rw [meetB, cl, hs, decide_eq_true (by omega : max lo n ≤ min hi n)]; rfl
 ·rw [decide_eq_false hc, meetB, decide_eq_false (by omega : ¬ max lo n ≤ min hi n)]; simp
theorem meetP_iv (h1 : lo ≤ n) (h2 : n ≤ hi) : meetP lo hi (iB lo hi) (iO lo hi) n n (iB n n) (iO n n) = ivP n n := by
 obtain ⟨e1, e2⟩ := one_iv hn
 have A := iv_ok h ht
 have hb := (has_bit (by omega) A.b).1 (iv_has h1 h2 ht)
 have ec : iB lo hi ||| n = n := by
  apply Nat.eq_of_testBit_eq
  intro i
  rw [Nat.testBit_or]
  by_cases hi3 : i < 32
  ·have := hb i hi3
   revert this
   cases n.testBit i <;> cases (iO lo hi).testBit i <;> cases (iB lo hi).testBit i <;> simp
  ·simp [high_bit A.b hi3]
 have ht2 := iv_tidy (lo := n) (hi := n) (lo' := n) (hi' := n) (Nat.le_refl _) (Nat.le_refl _) (Nat.le_refl _) hn
 have A2 := iv_ok (Nat.le_refl n) hn
 have key := ht2.1
 rw [tidyP_yes A2 (iv_some (Nat.le_refl n) hn)] at key
 rw [meetP, show max lo n = n by omega, show min hi n = n by omega, e1, e2, ec, Nat.and_zero]
 rw [e1, e2] at key
 exact key
theorem apart_iv : apartP lo hi (iB lo hi : Nat) (iO lo hi : Nat) n n = (if lo = n then (if hi = n then noP else ivP (lo + 1) hi) else if hi = n then ivP lo (hi - 1) else ivP lo hi) := by
 rw [apartP, if_pos rfl]
 by_cases k1 : lo = n
 ·subst k1
  by_cases k2 : hi = lo
  ·rw [if_pos rfl, if_pos k2, butX, if_pos rfl, butY, if_pos (by omega), tidyP_no (someI_gt (by omega))]
  ·rw [if_pos rfl, if_neg k2, butX, if_pos rfl, butY, if_neg (by omega)]
   exact (iv_tidy (lo := lo) (hi := hi) (lo' := lo + 1) (hi' := hi) (by omega) (by omega) (Nat.le_refl _) ht).1
 ·rw [if_neg k1, butX, if_neg (by omega)]
  by_cases k2 : hi = n
  ·rw [if_pos k2, butY, if_pos (by omega), show (hi : Int) - 1 = ((hi - 1 : Nat) : Int) by omega]
   exact (iv_tidy (lo := lo) (hi := hi) (lo' := lo) (hi' := hi - 1) (Nat.le_refl _) (by omega) (by omega) ht).1
  ·rw [if_neg k2, butY, if_neg (by omega)]
   exact (iv_tidy (lo := lo) (hi := hi) (Nat.le_refl _) h (Nat.le_refl _) ht).1
theorem apartB_iv : apartB lo hi (iB lo hi : Nat) (iO lo hi : Nat) n n = !(decide (lo = n) && decide (hi = n)) := by
 rw [apartB, apart_iv h ht hn]
 by_cases k1 : lo = n
 ·by_cases k2 : hi = n
  ·rw [if_pos k1, if_pos k2, decide_eq_true k1, decide_eq_true k2]; exact someI_gt (by decide)
  ·rw [if_pos k1, if_neg k2, decide_eq_false k2, Bool.and_false]; exact iv_someP (by omega) ht
 ·rw [if_neg k1, decide_eq_false k1]
  by_cases k2 : hi = n
  ·rw [if_pos k2]; exact iv_someP (by omega) (by omega)
  ·rw [if_neg k2]; exact iv_someP h ht
theorem apartB_one : apartB n n (iB n n : Nat) (iO n n : Nat) lo hi = !(decide (lo = n) && decide (hi = n)) := by
 by_cases hk : lo = hi
 ·subst hk
  rw [apartB_iv (Nat.le_refl n) hn ht]
  by_cases k : lo = n
  ·subst k; rfl
  ·rw [decide_eq_false k, decide_eq_false (Ne.symm k)]
 ·have : apartP n n (iB n n : Nat) (iO n n : Nat) lo hi = ivP n n := by rw [apartP, if_neg (by omega)]; rfl
  rw [apartB, this]
  have e : (decide (lo = n) && decide (hi = n)) = false := by
   by_cases k : lo = n
   ·rw [decide_eq_false (show ¬ hi = n by omega), Bool.and_false]
   ·rw [decide_eq_false k]; rfl
  rw [e]; exact iv_someP (Nat.le_refl n) hn
theorem both_iv (op : Int) (hop : inB op 12 15 = true) (hl : Bool) : BothI op hl lo hi n := by
 have A := iv_ok h ht
 have B := iv_ok (Nat.le_refl n) hn
 have hA := iv_some h ht
 have hB := iv_some (Nat.le_refl n) hn
 simp [inB] at hop
 have hm := meet_iv h ht hn
 have ha := apart_iv h ht hn
 have hb := apartB_iv h ht hn
 have hb2 := apartB_one h ht hn
 have low1 : lowQ lo hi (iB lo hi : Nat) (iO lo hi : Nat) n n (iB n n : Nat) (iO n n : Nat) 1 = decide (lo < n) := by
  unfold lowQ
  by_cases k : lo < n
  ·rw [decide_eq_true k]
   have e1 : min (hi : Int) ((n : Int) - 1) = ((min hi (n - 1) : Nat) : Int) := by omega
   have e2 : max (n : Int) ((lo : Int) + 1) = ((n : Nat) : Int) := by omega
   rw [e1, e2, (iv_tidy (lo := lo) (hi := hi) (lo' := lo) (hi' := min hi (n - 1)) (Nat.le_refl _) (by omega) (by omega) ht).2, (iv_tidy (lo := n) (hi := n) (lo' := n) (hi' := n) (Nat.le_refl _) (Nat.le_refl _) (Nat.le_refl _) hn).2]; rfl
  ·rw [decide_eq_false k, someI_gt (X := (lo : Int)) (Y := min (hi : Int) ((n : Int) - 1)) (by omega)]; rfl
 have low0' : lowQ lo hi (iB lo hi : Nat) (iO lo hi : Nat) n n (iB n n : Nat) (iO n n : Nat) 0 = decide (lo ≤ n) := by
  unfold lowQ
  by_cases k : lo ≤ n
  ·rw [decide_eq_true k]
   have e1 : min (hi : Int) ((n : Int) - 0) = ((min hi n : Nat) : Int) := by omega
   have e2 : max (n : Int) ((lo : Int) + 0) = ((n : Nat) : Int) := by omega
   rw [e1, e2, (iv_tidy (lo := lo) (hi := hi) (lo' := lo) (hi' := min hi n) (Nat.le_refl _) (by omega) (by omega) ht).2, (iv_tidy (lo := n) (hi := n) (lo' := n) (hi' := n) (Nat.le_refl _) (Nat.le_refl _) (Nat.le_refl _) hn).2]; rfl
  ·rw [decide_eq_false k, someI_gt (X := (lo : Int)) (Y := min (hi : Int) ((n : Int) - 0)) (by omega)]; rfl
 have up1 : lowQ n n (iB n n : Nat) (iO n n : Nat) lo hi (iB lo hi : Nat) (iO lo hi : Nat) 1 = decide (n < hi) := by
  unfold lowQ
  by_cases k : n < hi
  ·rw [decide_eq_true k]
   have e1 : min (n : Int) ((hi : Int) - 1) = ((n : Nat) : Int) := by omega
   have e2 : max (lo : Int) ((n : Int) + 1) = ((max lo (n + 1) : Nat) : Int) := by omega
   rw [e1, e2, (iv_tidy (lo := lo) (hi := hi) (lo' := max lo (n + 1)) (hi' := hi) (by omega) (by omega) (Nat.le_refl _) ht).2, (iv_tidy (lo := n) (hi := n) (lo' := n) (hi' := n) (Nat.le_refl _) (Nat.le_refl _) (Nat.le_refl _) hn).2]; rfl
  ·rw [decide_eq_false k, someI_gt (X := (n : Int)) (Y := min (n : Int) ((hi : Int) - 1)) (by omega)]; rfl
 have up0 : lowQ n n (iB n n : Nat) (iO n n : Nat) lo hi (iB lo hi : Nat) (iO lo hi : Nat) 0 = decide (n ≤ hi) := by
  unfold lowQ
  by_cases k : n ≤ hi
  ·rw [decide_eq_true k]
   have e1 : min (n : Int) ((hi : Int) - 0) = ((n : Nat) : Int) := by omega
   have e2 : max (lo : Int) ((n : Int) + 0) = ((max lo n : Nat) : Int) := by omega
   rw [e1, e2, (iv_tidy (lo := lo) (hi := hi) (lo' := max lo n) (hi' := hi) (by omega) (by omega) (Nat.le_refl _) ht).2, (iv_tidy (lo := n) (hi := n) (lo' := n) (hi' := n) (Nat.le_refl _) (Nat.le_refl _) (Nat.le_refl _) hn).2]; rfl
  ·rw [decide_eq_false k, someI_gt (X := (n : Int)) (Y := min (n : Int) ((hi : Int) - 0)) (by omega)]; rfl
 have apQ : (apartB lo hi (iB lo hi : Nat) (iO lo hi : Nat) n n && apartB n n (iB n n : Nat) (iO n n : Nat) lo hi) = !(decide (lo = n) && decide (hi = n)) := by rw [hb, hb2, Bool.and_self]
 rcases (by omega : op = 12 ∨ op = 13 ∨ op = 14 ∨ op = 15) with rfl | rfl | rfl | rfl <;> cases hl
 ·refine (vboth_other lo hi _ _ n n _ _ A B hA hB).to ?_ ?_
  ·rw [apQ]; simp only [brN, reduceIte, Bool.false_eq_true]
   by_cases k1 : lo = n <;> by_cases k2 : hi = n <;> simp [k1, k2]
  ·intro hq; rw [apQ] at hq; rw [ha]; simp only [brN, reduceIte, Bool.false_eq_true]
   by_cases k1 : lo = n <;> by_cases k2 : hi = n <;> simp [k1, k2, optP]
 ·refine (vboth_same lo hi _ _ n n _ _ A B).to ?_ ?_
  ·rw [hm]; simp only [brN, reduceIte]
   by_cases k : lo ≤ n ∧ n ≤ hi <;> simp [k]
  ·intro hq; rw [hm] at hq
   have k : lo ≤ n ∧ n ≤ hi := by simpa using hq
   rw [meetP_iv h ht hn k.1 k.2]; simp [brN, k, optP]
 ·refine (vboth_same2 lo hi _ _ n n _ _ A B).to ?_ ?_
  ·rw [hm]; simp only [brN, reduceIte, Bool.false_eq_true, show ¬ ((13 : Int) = 12) by decide]
   by_cases k : lo ≤ n ∧ n ≤ hi <;> simp [k]
  ·intro hq; rw [hm] at hq
   have k : lo ≤ n ∧ n ≤ hi := by simpa using hq
   rw [meetP_iv h ht hn k.1 k.2]; simp [brN, k, optP]
 ·refine (vboth_other2 lo hi _ _ n n _ _ A B hA hB).to ?_ ?_
  ·rw [apQ]; simp only [brN, reduceIte, show ¬ ((13 : Int) = 12) by decide]
   by_cases k1 : lo = n <;> by_cases k2 : hi = n <;> simp [k1, k2]
  ·intro hq; rw [apQ] at hq; rw [ha]; simp only [brN, reduceIte, show ¬ ((13 : Int) = 12) by decide]
   by_cases k1 : lo = n <;> by_cases k2 : hi = n <;> simp [k1, k2, optP]
 ·refine (vboth_notless lo hi _ _ n n _ _ A B).to ?_ ?_
  ·rw [up0]; by_cases k : n ≤ hi <;> simp [brN, k]
  ·intro hq; rw [up0] at hq
   have k : n ≤ hi := by simpa using hq
   rw [show max (lo : Int) (n : Int) = ((max lo n : Nat) : Int) by omega, (iv_tidy (lo := lo) (hi := hi) (lo' := max lo n) (hi' := hi) (by omega) (by omega) (Nat.le_refl _) ht).1]
   simp [brN, k, optP]
 ·refine (vboth_less lo hi _ _ n n _ _ A B).to ?_ ?_
  ·rw [low1]; by_cases k : lo < n <;> simp [brN, k]
  ·intro hq; rw [low1] at hq
   have k : lo < n := by simpa using hq
   rw [show min (hi : Int) ((n : Int) - 1) = ((min hi (n - 1) : Nat) : Int) by omega, (iv_tidy (lo := lo) (hi := hi) (lo' := lo) (hi' := min hi (n - 1)) (Nat.le_refl _) (by omega) (by omega) ht).1]
   simp [brN, k, optP]
 ·refine (vboth_notmore lo hi _ _ n n _ _ A B).to ?_ ?_
  ·rw [low0']; by_cases k : lo ≤ n <;> simp [brN, k]
  ·intro hq; rw [low0'] at hq
   have k : lo ≤ n := by simpa using hq
   rw [show min (hi : Int) (n : Int) = ((min hi n : Nat) : Int) by omega, (iv_tidy (lo := lo) (hi := hi) (lo' := lo) (hi' := min hi n) (Nat.le_refl _) (by omega) (by omega) ht).1]
   simp [brN, k, optP]
 ·refine (vboth_more lo hi _ _ n n _ _ A B).to ?_ ?_
  ·rw [up1]; by_cases k : n < hi <;> simp [brN, k]
  ·intro hq; rw [up1] at hq
   have k : n < hi := by simpa using hq
   rw [show max (lo : Int) ((n : Int) + 1) = ((max lo (n + 1) : Nat) : Int) by omega, (iv_tidy (lo := lo) (hi := hi) (lo' := max lo (n + 1)) (hi' := hi) (by omega) (by omega) (Nat.le_refl _) ht).1]
   simp [brN, k, optP]
end
theorem c_BranchI (op : Int) (hop : inB op 12 15 = true) (hl : Bool) {lo hi n : Nat} (h : lo ≤ hi) (ht : hi ≤ 4294967295) (hn : n ≤ 4294967295) :
 ∃ P' : Int × Int × Int × Int, ∀ w, Calls Try.prog 24 #[.int .i64 op, rvP (ivP lo hi), rvP (ivP n n), .bool hl] w fun ee w' => ee = .returned (.tuple #[rvP (optP (brN op lo hi n hl)), rvP P', .bool (brN op lo hi n hl).isSome]) ∧ Below w.heap.size w w' := by
 obtain ⟨P', R, R', h1, h2, h3⟩ := both_iv h ht hn op hop hl
 have t1 : ∀ w, Calls Try.prog 40 #[rvP (ivP lo hi)] w fun ee w' => ee = .returned (rvP (ivP lo hi)) ∧ Below w.heap.size w w' := fun w => by
  have := c_RangeTidyI (ivP lo hi).1 (ivP lo hi).2.1 (ivP lo hi).2.2.1 (ivP lo hi).2.2.2 w
  rw [show tidyP (ivP lo hi).1 (ivP lo hi).2.1 (ivP lo hi).2.2.1 (ivP lo hi).2.2.2 = ivP lo hi from (iv_tidy (Nat.le_refl _) h (Nat.le_refl _) ht).1] at this
  exact this
 have t2 : ∀ w, Calls Try.prog 40 #[rvP (ivP n n)] w fun ee w' => ee = .returned (rvP (ivP n n)) ∧ Below w.heap.size w w' := fun w => by
  have := c_RangeTidyI (ivP n n).1 (ivP n n).2.1 (ivP n n).2.2.1 (ivP n n).2.2.2 w
  rw [show tidyP (ivP n n).1 (ivP n n).2.1 (ivP n n).2.2.1 (ivP n n).2.2.2 = ivP n n from (iv_tidy (Nat.le_refl _) (Nat.le_refl _) (Nat.le_refl _) hn).1] at this
  exact this
 have s1 : someP (ivP lo hi) = true := iv_someP h ht
 have s2 : someP (ivP n n) = true := iv_someP (Nat.le_refl n) hn
 rcases h3 with ⟨h4, h5, h6, h7⟩ | ⟨h4, h5⟩
 ·rw [h4]
  subst h5
  exact ⟨R', fun w => w_Br_yes op _ _ _ _ _ _ _ _ hl _ _ _ _ _ _ _ _ _ _ _ _ _ _ _ _ w hop s1 s2 t1 t2 h2 h6 h7⟩
 ·rw [h4]
  have hnone : brN op lo hi n hl = none := by simpa using h4
  rw [hnone]
  refine ⟨noP, fun w => ?_⟩
  cases e : someP R
  ·exact w_Br_no4 op _ _ _ _ _ _ _ _ hl _ _ _ _ _ _ _ _ _ _ _ _ _ _ _ _ w hop s1 s2 t1 t2 h2 e
  ·rw [e, Bool.true_and] at h5
   exact w_Br_no5 op _ _ _ _ _ _ _ _ hl _ _ _ _ _ _ _ _ _ _ _ _ _ _ _ _ w hop s1 s2 t1 t2 h2 e h5
theorem c_l2BranchI (op : Int) (hop : inB op 12 15 = true) (hl : Bool) {lo hi n : Nat} (h : lo ≤ hi) (ht : hi ≤ 4294967295) (hn : n ≤ 4294967295) :
 ∃ P' : Int × Int × Int × Int, ∀ w, Calls Try.prog 47 #[.int .i64 op, rvP (ivP lo hi), rvP (ivP n n), .bool hl] w fun ee w' => ee = .returned (.tuple #[rvP (optP (brN op lo hi n hl)), rvP P', .bool (brN op lo hi n hl).isSome]) ∧ Below w.heap.size w w' := by
 obtain ⟨P', R, R', h1, h2, h3⟩ := both_iv h ht hn op hop hl
 exact ⟨P', h1⟩
end Go.Proofs.Ytkaekiodjjhjkaa.H
namespace Go.Proofs.Ytkaekiodjjhjkaa.W
open Go.RowKit
open Go.Proofs.Ytkaekiodjjhjkaa.H
theorem _root_.Go.Proofs.Ytkaekiodjjhjkaa.Rw.ext {α : Type} {arr : α → Array Value} {sz : Nat} (h : ∀ x, (arr x).size = sz) {cur : Array Value} {n cap : Nat} {l : List α} (rw : Rw cur n cap sz (cellsOf arr l)) {i : Nat} {x : α} (hx : l[i]? = some x) (o : Nat) (ho : o = i * sz) : cur.extract o (o + sz) = arr x := by
 subst ho
 have hi := (List.getElem?_eq_some_iff.1 hx).1
 have hlen : i * sz + sz ≤ (cellsOf arr l).length := by
  rw [cellsOf_len h, ← Nat.succ_mul]; exact Nat.mul_le_mul_right _ hi
 have hsz : i * sz + sz ≤ cur.size := by
  have := rw.fit'; have := rw.len; omega
 apply Array.ext'
 apply List.ext_getElem?
 intro j
 rw [Array.getElem?_toList, Array.getElem?_toList, Array.getElem?_extract]
 by_cases hj : j < sz
 ·rw [if_pos (by omega)]
  have hg := cellsOf_get h l i j x hx hj
  rw [← hg, List.getElem?_eq_getElem (by omega)]
  exact rw.get _ _ (List.getElem?_eq_getElem (by omega))
 ·rw [if_neg (by omega), Array.getElem?_eq_none (by rw [h]; omega)]
theorem cellsOf_set {α : Type} {arr : α → Array Value} {sz : Nat} (h : ∀ x, (arr x).size = sz) (l : List α) (i : Nat) (y : α) (hi : i < l.length) (m : Nat) : (cellsOf arr (l.set i y))[m]? = if i * sz ≤ m ∧ m < i * sz + sz then (arr y)[m - i * sz]? else (cellsOf arr l)[m]? := by
 induction l generalizing i m with
 | nil => simp at hi
 | cons x l ih =>
   cases i with
   | zero =>
     rw [List.set_cons_zero, cellsOf_cons, cellsOf_cons, Nat.zero_mul]
     by_cases hm : m < sz
     ·rw [if_pos (by omega), List.getElem?_append_left (by rw [Array.length_toList, h]; exact hm), Array.getElem?_toList, Nat.sub_zero]
     ·rw [if_neg (by omega), List.getElem?_append_right (by rw [Array.length_toList, h]; omega), List.getElem?_append_right (by rw [Array.length_toList, h]; omega), Array.length_toList, Array.length_toList, h, h]
   | succ i =>
     rw [List.set_cons_succ, cellsOf_cons, cellsOf_cons]
     by_cases hm : m < sz
     ·rw [List.getElem?_append_left (by rw [Array.length_toList, h]; exact hm), List.getElem?_append_left (by rw [Array.length_toList, h]; exact hm), if_neg (by rw [Nat.succ_mul]; omega)]
     ·rw [List.getElem?_append_right (by rw [Array.length_toList, h]; omega), List.getElem?_append_right (by rw [Array.length_toList, h]; omega), Array.length_toList, h, ih i (by simpa using hi)]
      rw [Nat.succ_mul]
      by_cases hc : i * sz ≤ m - sz ∧ m - sz < i * sz + sz
      ·rw [if_pos hc, if_pos (by omega), show m - sz - i * sz = m - (i * sz + sz) by omega]
      ·rw [if_neg hc, if_neg (by omega)]
theorem _root_.Go.Proofs.Ytkaekiodjjhjkaa.Rw.set {α : Type} {arr : α → Array Value} {sz : Nat} (h : ∀ x, (arr x).size = sz) {cur : Array Value} {n cap : Nat} {l : List α} (rw : Rw cur n cap sz (cellsOf arr l)) {i : Nat} (hi : i < l.length) (y : α) (o : Nat) (ho : o = i * sz) : Rw (ovw cur o (arr y).toList) n cap sz (cellsOf arr (l.set i y)) := by
 subst ho
 have hyl : (arr y).toList.length = sz := by rw [Array.length_toList, h]
 have hlen := rw.len
 have hl2 := cellsOf_len h l
 have hlen2 : i * sz + sz ≤ (cellsOf arr l).length := by
  rw [cellsOf_len h, ← Nat.succ_mul]; exact Nat.mul_le_mul_right _ hi
 have hfit := rw.fit'
 refine ⟨rw.le, rw.max, by rw [ovw_size]; exact rw.room, ?_⟩
 apply List.ext_getElem?
 intro m
 rw [cellsOf_set h l i y hi m, List.getElem?_take]
 by_cases hm : m < n * sz
 ·rw [if_pos hm, Array.getElem?_toList, ovw_get _ _ _ _ (by rw [hyl]; omega), hyl]
  by_cases hc : i * sz ≤ m ∧ m < i * sz + sz
  ·rw [if_pos hc, if_pos hc, Array.getElem?_toList]
  ·rw [if_neg hc, if_neg hc, List.getElem?_eq_getElem (by omega : m < (cellsOf arr l).length)]
   exact rw.get _ _ (List.getElem?_eq_getElem (by omega))
 ·rw [if_neg hm, if_neg (by omega), List.getElem?_eq_none (by omega)]
def ivArr (x : Nat × Nat) : Array Value := #[.int .i64 ((x.1 : Nat) : Int), .int .i64 ((x.2 : Nat) : Int), .int .i64 ((iB x.1 x.2 : Nat) : Int), .int .i64 ((iO x.1 x.2 : Nat) : Int)]
theorem ivArr.sz (x : Nat × Nat) : (ivArr x).size = 4 := rfl
theorem ivArr.one (x : Nat × Nat) : (ivArr x).all (·.oneCell') = true := by kernel_rfl
theorem el56 : ElT Try.prog 62 56 (.agg #[.int .i64 0, .int .i64 0, .int .i64 0, .int .i64 0]) 4 32 := ⟨by kernel_rfl, by kernel_rfl, by kernel_rfl, by decide⟩
theorem ivArr_one {n : Nat} (h : n ≤ 4294967295) : ivArr (n, n) = #[.int .i64 (n : Int), .int .i64 (n : Int), .int .i64 (n : Int), .int .i64 0] := by
 obtain ⟨h1, h2⟩ := one_iv h
 unfold ivArr
 dsimp only
 rw [h1, h2]; rfl
abbrev full : Nat × Nat := (0, 255)
theorem tidy255 : tidyP 0 255 0 4294967295 = ivP 0 255 ∧ someI 0 255 0 4294967295 = true := by
 have := iv_tidy (lo := 0) (hi := 4294967295) (lo' := 0) (hi' := 255) (by omega) (by omega) (by omega) (by omega)
 have e1 : iB 0 4294967295 = 0 := by decide +kernel
 have e2 : iO 0 4294967295 = 4294967295 := by decide +kernel
 rw [e1, e2] at this
 exact this
theorem c_tidy255 (w : World) : Calls Try.prog 40 #[.agg #[.int .i64 0, .int .i64 255, .int .i64 0, .int .i64 4294967295]] w fun e w' => e = .returned (.agg (ivArr full)) ∧ Below w.heap.size w w' := by
 have := c_RangeTidyI 0 255 0 4294967295 w
 rw [tidy255.1] at this
 exact this
theorem c_l2tidy255 (w : World) : Calls Try.prog 45 #[.agg #[.int .i64 0, .int .i64 255, .int .i64 0, .int .i64 4294967295]] w fun e w' => e = .returned (.agg (ivArr full)) ∧ Below w.heap.size w w' := by
 have := c_l2TidyI tidy255.2 w
 rw [tidy255.1] at this
 exact this
structure OkS (S : List (Nat × Nat)) : Prop where
 len : S.length = 12
 all : ∀ x ∈ S, x.1 ≤ x.2 ∧ x.2 ≤ 255
def atS (S : List (Nat × Nat)) (i : Nat) : Nat × Nat := S.getD i full
theorem OkS.at {S : List (Nat × Nat)} (h : OkS S) (i : Nat) : (atS S i).1 ≤ (atS S i).2 ∧ (atS S i).2 ≤ 255 := by
 unfold atS
 rw [List.getD_eq_getElem?_getD]
 cases hx : S[i]? with
 | none => exact ⟨by decide, by decide⟩
 | some x => exact h.all x (List.mem_of_getElem? hx)
theorem OkS.get {S : List (Nat × Nat)} (h : OkS S) {i : Nat} (hi : i < 12) : S[i]? = some (atS S i) := by
 unfold atS
 rw [List.getD_eq_getElem?_getD, List.getElem?_eq_getElem (by rw [h.len]; exact hi)]; rfl
theorem OkS.full : OkS (List.replicate 12 full) := ⟨by simp, fun x hx => by rw [List.eq_of_mem_replicate hx]; exact ⟨by decide, by decide⟩⟩
def brR (r : Ru) (S : List (Nat × Nat)) (hl : Bool) : Option (Nat × Nat) := brN r.op (atS S r.at_.toNat).1 (atS S r.at_.toNat).2 r.num.toNat hl
theorem OkS.set {S : List (Nat × Nat)} (h : OkS S) {r : Ru} {hl : Bool} {y : Nat × Nat} (hb : brR r S hl = some y) : OkS (S.set r.at_.toNat y) := by
 have h1 := h.at r.at_.toNat
 have h2 := brN_in h1.1 hb
 refine ⟨by rw [List.length_set, h.len], fun x hx => ?_⟩
 rcases List.mem_or_eq_of_mem_set hx with hx | rfl
 ·exact h.all x hx
 ·omega
theorem at_lt12 {r : Ru} (h : ruOk r = true) : r.at_.toNat < 12 := by
 have := (ruOk_is h).at0; have := (ruOk_is h).at1; omega
theorem num_le {r : Ru} (h : ruOk r = true) : r.num.toNat ≤ 255 := by
 have := (ruOk_is h).num0; have := (ruOk_is h).num1; omega
theorem Ru.g_at' (r : Ru) (h : ruOk r = true) : r.arr[0]? = some (.int .i64 ((r.at_.toNat : Nat) : Int)) := by
 have := (ruOk_is h).at0
 show some (Value.int .i64 r.at_) = _
 rw [Int.toNat_of_nonneg this]
theorem Ru.g_num' (r : Ru) (h : ruOk r = true) : r.arr[2]? = some (.int .i64 ((r.num.toNat : Nat) : Int)) := by
 have := (ruOk_is h).num0
 show some (Value.int .i64 r.num) = _
 rw [Int.toNat_of_nonneg this]
def optA : Option (Nat × Nat) → Array Value
 | some y => ivArr y
 | none => #[.int .i64 1, .int .i64 0, .int .i64 0, .int .i64 0]
theorem optA.sz (q : Option (Nat × Nat)) : (optA q).size = 4 := by cases q <;> rfl
theorem optA.one (q : Option (Nat × Nat)) : (optA q).all (·.oneCell') = true := by cases q <;> kernel_rfl
theorem optA_P (q : Option (Nat × Nat)) : rvP (optP q) = .agg (optA q) := by cases q <;> rfl
theorem optA_ext (q : Option (Nat × Nat)) : (optA q).extract 0 (0 + 4) = optA q := by cases q <;> kernel_rfl
theorem optA_ovw (q : Option (Nat × Nat)) (a b c d : Value) : ovw #[a, b, c, d] 0 (optA q).toList = optA q := by cases q <;> kernel_rfl
section
variable {r : Ru} (hr : ruOk r = true) {S : List (Nat × Nat)} (hS : OkS S) (hl : Bool)
include hr hS
theorem c_Br : ∃ P' : Int × Int × Int × Int, ∀ w, Calls Try.prog 24 #[.int .i64 r.op, .agg (ivArr (atS S r.at_.toNat)), .agg (ivArr (r.num.toNat, r.num.toNat)), .bool hl] w fun ee w' => ee = .returned (.tuple #[.agg (optA (brR r S hl)), rvP P', .bool (brR r S hl).isSome]) ∧ Below w.heap.size w w' := by
 have h1 := hS.at r.at_.toNat
 have hi := ruOk_is hr
 have hop : H.inB r.op 12 15 = true := by have := hi.op0; have := hi.op1; simp [H.inB]; omega
 obtain ⟨P', H⟩ := c_BranchI r.op hop hl h1.1 (Nat.le_trans h1.2 (by decide)) (Nat.le_trans (num_le hr) (by decide))
 refine ⟨P', fun w => ?_⟩
 have := H w
 rw [optA_P] at this
 exact this
theorem sp_br (w : World) : Calls Try.prog 26 #[.agg r.arr, .agg (ivArr (atS S r.at_.toNat)), .bool hl] w fun ee w' => ee = .returned (.tuple #[.agg (optA (brR r S hl)), .bool (brR r S hl).isSome]) ∧ Below w.heap.size w w' := by
 have h1 := hS.at r.at_.toNat
 have hi := ruOk_is hr
 have hop : H.inB r.op 12 15 = true := by have := hi.op0; have := hi.op1; simp [H.inB]; omega
 have hn := num_le hr
 obtain ⟨P', H⟩ := c_l2BranchI r.op hop hl h1.1 (Nat.le_trans h1.2 (by decide)) (show r.num.toNat ≤ 4294967295 by omega)
 rw [one_ivP (by omega), Int.toNat_of_nonneg hi.num0] at H
 have := c_l9Range r _ _ _ _ _ _ _ _ _ _ _ _ hl _ w H
 rw [show (Value.agg #[.int .i64 (optP (brN r.op (atS S r.at_.toNat).1 (atS S r.at_.toNat).2 r.num.toNat hl)).1, .int .i64 (optP (brN r.op (atS S r.at_.toNat).1 (atS S r.at_.toNat).2 r.num.toNat hl)).2.1, .int .i64 (optP (brN r.op (atS S r.at_.toNat).1 (atS S r.at_.toNat).2 r.num.toNat hl)).2.2.1, .int .i64 (optP (brN r.op (atS S r.at_.toNat).1 (atS S r.at_.toNat).2 r.num.toNat hl)).2.2.2]) = .agg (optA (brR r S hl)) from optA_P _] at this
 exact this
end
def tidR (f : Nat → Ru) : Nat → Nat → List (Nat × Nat) → List Ru
 | 0, _, _ => []
 | k + 1, i, S => match brR (f i) S true with
   | none => tidR f k (i + 1) S
   | some _ => match brR (f i) S false with
     | none => [f i]
     | some y => f i :: tidR f k (i + 1) (S.set (f i).at_.toNat y)
def tidM (f : Nat → Ru) (n : Nat) : List Ru := tidR f n 0 (List.replicate 12 full)
section
variable {f : Nat → Ru} {n i : Nat} {S : List (Nat × Nat)} {o : List Ru} (h : tidM f n = o ++ tidR f (n - i) i S) (hi : i < n)
include h hi
theorem tid_skip (h1 : brR (f i) S true = none) : tidM f n = o ++ tidR f (n - (i + 1)) (i + 1) S := by
 rw [h, show n - i = (n - (i + 1)) + 1 by omega, tidR, h1]
theorem tid_last {y : Nat × Nat} (h1 : brR (f i) S true = some y) (h2 : brR (f i) S false = none) : tidM f n = o ++ [f i] := by
 rw [h, show n - i = (n - (i + 1)) + 1 by omega, tidR, h1, h2]
theorem tid_keep {x y : Nat × Nat} (h1 : brR (f i) S true = some x) (h2 : brR (f i) S false = some y) : tidM f n = (o ++ [f i]) ++ tidR f (n - (i + 1)) (i + 1) (S.set (f i).at_.toNat y) := by
 rw [h, show n - i = (n - (i + 1)) + 1 by omega, tidR, h1, h2]; simp
end
theorem tid_end {f : Nat → Ru} {n i : Nat} {S : List (Nat × Nat)} {o : List Ru} (h : tidM f n = o ++ tidR f (n - i) i S) (hi : ¬ i < n) : tidM f n = o := by
 rw [h, show n - i = 0 by omega, tidR, List.append_nil]
def initS (i : Nat) : List (Nat × Nat) := List.replicate i full ++ List.replicate (12 - i) (0, 0)
theorem initS_set {i : Nat} (h : i < 12) : (initS i).set i full = initS (i + 1) := by
 rcases (by omega : i = 0 ∨ i = 1 ∨ i = 2 ∨ i = 3 ∨ i = 4 ∨ i = 5 ∨ i = 6 ∨ i = 7 ∨ i = 8 ∨ i = 9 ∨ i = 10 ∨ i = 11) with rfl | rfl | rfl | rfl | rfl | rfl | rfl | rfl | rfl | rfl | rfl | rfl <;> rfl
theorem initS_len {i : Nat} (h : i ≤ 12) : (initS i).length = 12 := by simp [initS]; omega
def zero12 : Array Value := (cellsOf ivArr (initS 0)).toArray
theorem zero12_rw : Rw zero12 12 12 4 (cellsOf ivArr (initS 0)) := Rw.lits ivArr.sz (initS 0) (by simp [maxLen, initS])
abbrev NewRu (w : World) (L : List Ru) (e : Ending) (w' : World) : Prop :=
 NewRow w (fun (x : Nat × Array Value) b => .slice (some ⟨b, 0, none⟩) L.length x.1) 30 (fun x => x.2) (fun x => Rw x.2 L.length x.1 5 (cellsOf Ru.arr L)) e w'
end Go.Proofs.Ytkaekiodjjhjkaa.W
namespace Go.Proofs.Ytkaekiodjjhjkaa.W
open Go.RowKit
open Go.Proofs.Ytkaekiodjjhjkaa.H
def holdsR (r : Ru) (s : ByteArray) : Bool := H.holdsB r.op ((byteAt s r.at_.toNat : Nat) : Int) r.num
theorem Ru.g_at (r : Ru) (h : ruOk r = true) : r.arr[0]? = some (.int .i64 ((r.at_.toNat : Nat) : Int)) := by
 have := (ruOk_is h).at0
 show some (Value.int .i64 r.at_) = _
 rw [Int.toNat_of_nonneg this]
theorem at_lt {r : Ru} (h : ruOk r = true) {s : ByteArray} (hs : s.size = 12) : r.at_.toNat < s.size := by
 have := (ruOk_is h).at0; have := (ruOk_is h).at1; omega
theorem c_HoldsR (r : Ru) (s : ByteArray) (w : World) (h : ruOk r = true) : Calls Try.prog 8 #[.int .i64 r.op, .int .i64 ((byteAt s r.at_.toNat : Nat) : Int), .int .i64 r.num] w fun e w' => e = .returned (.bool (holdsR r s)) ∧ Below w.heap.size w w' := by
 have hi := ruOk_is h
 have e : holdsR r s = H.holdsI r.op ((byteAt s r.at_.toNat : Nat) : Int) r.num := by
  have h1 := hi.op0; have h2 := hi.op1; have h3 := hi.num0; have h4 := hi.num1
  have h5 : byteAt s r.at_.toNat < 256 := byteAt_lt _ _
  have a1 : H.inB r.op 12 15 = true := by simp [H.inB]; omega
  have a2 : H.inB ((byteAt s r.at_.toNat : Nat) : Int) 0 4294967295 = true := by simp [H.inB]; omega
  have a3 : H.inB r.num 0 4294967295 = true := by simp [H.inB]; omega
  rw [H.holdsI, a1, a2, a3]; rfl
 rw [e]
 exact H.c_Holds _ _ _ w
def ofR (f : Nat → Ru) (s : ByteArray) : Nat → Nat → Int × Int
 | 0, _ => (1, 0)
 | k + 1, i => if holdsR (f i) s then ((f i).ver, (f i).key) else ofR f s k (i + 1)
theorem ofR_run {f : Nat → Ru} {s : ByteArray} {n : Nat} : ∀ {i : Nat}, i ≤ n → (∀ j, j < i → holdsR (f j) s = false) → ofR f s n 0 = ofR f s (n - i) i
 | 0, _, _ => rfl
 | i + 1, hi, h => by
   rw [ofR_run (i := i) (by omega) (fun j hj => h j (by omega)), show n - i = (n - (i + 1)) + 1 by omega, ofR, h i (by omega)]; rfl
theorem ofR_at {f : Nat → Ru} {s : ByteArray} {n i : Nat} (hi : i < n) (h : ∀ j, j < i → holdsR (f j) s = false) (hh : holdsR (f i) s = true) : ofR f s n 0 = ((f i).ver, (f i).key) := by
 rw [ofR_run (Nat.le_of_lt hi) h, show n - i = (n - (i + 1)) + 1 by omega, ofR, hh]; rfl
theorem ofR_end {f : Nat → Ru} {s : ByteArray} {n : Nat} (h : ∀ j, j < n → holdsR (f j) s = false) : ofR f s n 0 = (1, 0) := by
 rw [ofR_run (Nat.le_refl n) h, Nat.sub_self]; rfl
def ofM (f : Nat → Ru) (n : Nat) (s : ByteArray) : Int × Int := if ruOks f n && decide (s.size = 12) then ofR f s n 0 else (-1, 0)
theorem ofM_no {f : Nat → Ru} {n : Nat} {s : ByteArray} (h : ruOks f n = false) : ofM f n s = (-1, 0) := by simp [ofM, h]
theorem ofM_no2 {f : Nat → Ru} {n : Nat} {s : ByteArray} (h : s.size ≠ 12) : ofM f n s = (-1, 0) := by simp [ofM, h]
theorem ofM_yes {f : Nat → Ru} {n : Nat} {s : ByteArray} (h : ruOks f n = true) (hs : s.size = 12) : ofM f n s = ofR f s n 0 := by simp [ofM, h, hs]
theorem c_rulingOf (r : Ru) (w : World)  :
 Calls Try.prog 17 #[.agg (Ru.arr (r))] w fun e w' => NewRow w (fun (_ : Unit) b => .func (.func 33) #[] #[.pointer (some ⟨b, 0, none⟩)]) 30 (fun _ => r.arr) (fun _ => True) e w' := by
 refine calls_begin Try.func17 rfl 4 rfl (Nat.le_of_ble_eq_true rfl) [(0, .agg (Ru.arr (r)))] ⟨rfl, trivial⟩ (fun a0 he0 m0 => ?_)
 refine wp_seqR ?_
 refine kx he0 m0 1 (.agg (Ru.arr (r))) (Ru.arr (r)) 30 fun a1 w1 b1 he1 m1 => ?_
 refine wb 1 he1 [(2, .nilFunc)] fun a2 he2 => ?_
 refine wl_end (wp_seqR ?_)
 refine kv he2 (.func (.func 33) #[] #[.pointer (some ⟨b1, 0, none⟩)]) (rn_func _ _ _ rfl _ _ (map0 _) (map1 (he2.tmp 1 _ rfl))) fun a3 he3 => ?_
 refine wb 1 he3 [(2, .func (.func 33) #[] #[.pointer (some ⟨b1, 0, none⟩)])] fun a4 he4 => ?_
 refine wl_end (wp_ret ?_)
 exact bodyPost_ret (results_tmp he4 _ Try.results17 (.func (.func 33) #[] #[.pointer (some ⟨b1, 0, none⟩)]) rfl) he4.defers ⟨(), _, rfl, m1.bx 1 _ _ _ _ rfl, trivial, by have := m1.own 1 _ rfl rfl; simpa using this, m1.below⟩
theorem c_ruling (r : Ru) (b : Nat) (s : ByteArray) (w : World) (hB : BX w b 30 r.arr) (hok : ruOk r = true) (hs12 : s.size = 12) :
 Calls Try.prog 33 #[.string (s), .pointer (some ⟨b, 0, none⟩)] w fun e w' => e = .returned (.bool (holdsR r s)) ∧ Below w.heap.size w w' := by
 refine calls_begin Try.func33 rfl 14 rfl (Nat.le_of_ble_eq_true rfl) [(0, .string (s)), (1, .pointer (some ⟨b, 0, none⟩))] ⟨rfl, rfl, trivial⟩ (fun a0 he0 m0 => ?_)
 have m1 := m0.old 1 b 30 _ rfl hB (by simp)
 refine wp_seqR ?_
 refine wb 1 he0 [(3, zF)] fun a1 he1 => ?_
 refine wl_end (wp_seq ?_)
 refine wh_begin (by kernel_rfl) m1 [(1, ⟨false, b, 30, Ru.arr (r)⟩)] ⟨rfl, trivial⟩ (fun w2 m2 => ?_)
 refine wtd (fuel := 7) [(0, 0), (1, 3), (2, 0), (3, 0)] he1 m2 [(7, zP b 0), (6, .string (s)), (5, zI ((r).op)), (4, zP b 1)] [b] vl0 fun a2 he2 => ?_
 refine tl (fuel := 6) 4 rfl he2 m2 1 one3 (0) (zN ((r).at_.toNat)) (hv := (Ru.g_at _ hok)) fun a3 he3 => ?_
 refine tv (fuel := 5) 5 rfl he3 m2 (.int .u8 (((byteAt (s) ((r).at_.toNat) : Nat) : Int))) (fun wS hmS => rn_sbyte _ (by kernel_rfl) _ _ rfl _ ((r).at_.toNat) (he3.tmp 6 _ rfl) (he3.tmp 8 _ rfl) (at_lt hok hs12)) fun a4 he4 => ?_
 refine tv (fuel := 4) 6 rfl he4 m2 (zN (byteAt (s) ((r).at_.toNat))) (fun wS hmS => rn_conv _ _ _ rfl _ (.int .i64 (IntKind.i64.wrap (((byteAt (s) ((r).at_.toNat) : Nat) : Int)))) _ (he4.tmp 9 _ rfl) (by kernel_rfl) (cvn (n := byteAt (s) ((r).at_.toNat)) (by first | omega | exact Nat.le_trans (Nat.le_of_lt (byteAt_lt _ _)) (by decide)))) fun a5 he5 => ?_
 refine wtd (fuel := 2) [(7, 0), (8, 3)] he5 m2 [(12, zI ((r).num)), (11, zP b 2)] [b] vl0 fun a6 he6 => ?_
 cases hd1 : (holdsR (r) s)
 ·
  refine tc (fuel := 1) 9 rfl he6 m2 (v := zF) (callsV (congrArg Value.bool (hd1)) (c_HoldsR _ s _ hok)) fun a7 w3 he7 m3 => ?_
  refine wtb (fuel := 0) [10] he7 m3 [(3, zF)] fun a8 he8 => ?_
  refine wpAnyH_done (by kernel_rfl) ?_ _
  refine then_normal (wp_ret ?_)
  exact bodyPost_ret (results_tmp he8 _ Try.results33 (.bool false) rfl) he8.defers ⟨(by simp only [hd1]), m3.below⟩
 ·
  refine tc (fuel := 1) 9 rfl he6 m2 (v := zT) (callsV (congrArg Value.bool (hd1)) (c_HoldsR _ s _ hok)) fun a7 w3 he7 m3 => ?_
  refine wtb (fuel := 0) [10] he7 m3 [(3, zT)] fun a8 he8 => ?_
  refine wpAnyH_done (by kernel_rfl) ?_ _
  refine then_normal (wp_ret ?_)
  exact bodyPost_ret (results_tmp he8 _ Try.results33 (.bool true) rfl) he8.defers ⟨(by simp only [hd1]), m3.below⟩
theorem c_Of (f : Nat → Ru) (b p n c : Nat) (s : ByteArray) (w : World) (hR : RowAt w b p n 5 fun i => (f i).arr) (hn : n ≤ 1048576) :
 Calls Try.prog 6 #[.slice (some ⟨b, p, none⟩) (n) (c), .string (s)] w fun e w' => e = .returned (.tuple #[.int .i64 (ofM f n s).1, .int .i64 (ofM f n s).2]) ∧ Below w.heap.size w w' := by
 refine calls_begin Try.func6 rfl 33 rfl (Nat.le_of_ble_eq_true rfl) [(0, .slice (some ⟨b, p, none⟩) (n) (c)), (1, .string (s))] ⟨rfl, rfl, trivial⟩ (fun a0 he0 m0 => ?_)
 refine wp_seqR ?_
 refine wb 2 he0 [(5, zI 0), (4, zI 0)] fun a1 he1 => ?_
 refine wl_end (wp_seq (wp_seqR ?_))
 refine wb 1 he1 [(9, .slice (some ⟨b, p, none⟩) (n) (c))] fun a2 he2 => ?_
 cases hd1 : (ruOks f n)
 ·
  refine kc he2 m0 (v := zF) (callsV (congrArg Value.bool (hd1)) (c_Oks f b p n c _ (hR.kb m0.keep (by simp)) hn)) fun a3 w1 he3 m1 => ?_
  refine wb 6 he3 [(16, zT), (15, zU), (14, zU), (13, zU), (12, zT), (11, zT)] fun a4 he4 => ?_
  refine wl_end (wp_condT (he := he4) rfl (wp_seqR ?_))
  refine wb 2 he4 [(5, zI 0), (4, zI (-1))] fun a5 he5 => ?_
  refine wl_end (wp_ret (ret_then ?_))
  exact bodyPost_ret (results_tmp2 he5 _ _ Try.results6 (.int .i64 ((-1))) (.int .i64 (0)) rfl rfl) he5.defers ⟨(by first | rw [ofM_no (by assumption)] | rw [ofM_no2 (by omega)] | rw [ofM_yes hd1 hs12, ofR_at (i := i) (by omega) hrel1.2 (by assumption)] | rw [ofM_yes hd1 hs12, ofR_end fun j hj => hrel1.2 j (by omega)]), m1.below⟩
 ·
  refine kc he2 m0 (v := zT) (callsV (congrArg Value.bool (hd1)) (c_Oks f b p n c _ (hR.kb m0.keep (by simp)) hn)) fun a3 w1 he3 m1 => ?_
  refine wb 3 he3 [(13, .string (s)), (12, zF), (11, zF)] fun a4 he4 => ?_
  refine kv he4 (zN ((s).size)) (rn_builtin _ _ _ rfl #[.string (s)] (map1 (he4.tmp 13 _ rfl)) (.int .i64 ((((s).size : Nat) : Int))) (by kernel_rfl)) fun a5 he5 => ?_
  cases hd2 : (((((s).size : Nat) : Int) != 12))
  ·
   have hd2p : (((s).size : Nat) : Int) = 12 := by simpa using hd2
   refine wr [1, 0] he5 m1 [(16, zF), (15, zF)] [] (vb (hd2) vl0) fun a6 w2 he6 m2 => ?_
   refine wl_end (wp_condF (he := he6) rfl (wp_skip (then_normal (wp_seq (wp_seqR ?_)))))
   refine wb 1 he6 [(17, .slice (some ⟨b, p, none⟩) (n) (c))] fun a7 he7 => ?_
   refine kv he7 (zN n) (rn_builtin _ _ _ rfl #[.slice (some ⟨b, p, none⟩) (n) (c)] (map1 (he7.tmp 17 _ rfl)) (.int .i64 (((n : Nat) : Int))) (by kernel_rfl)) fun a8 he8 => ?_
   refine wb 1 he8 [(19, zI 0)] fun a9 he9 => ?_
   refine wl_end (wp_block ?_)
   refine wp_loopN (fun mz az wz => ∃ (i : Nat), mz = n - (i) ∧ (i ≤ n ∧ ∀ j, j < i → holdsR (f j) s = false) ∧ EV az 33 [] [(0, .slice (some ⟨b, p, none⟩) (n) (c)), (1, .string (s)), (9, .slice (some ⟨b, p, none⟩) (n) (c)), (10, .bool true), (11, .bool false), (12, .bool false), (13, .string (s)), (14, .int .i64 ((((s).size : Nat) : Int))), (15, .bool false), (16, .bool false), (17, .slice (some ⟨b, p, none⟩) (n) (c)), (18, .int .i64 (((n : Nat) : Int))), (19, .int .i64 (((i : Nat) : Int)))] ∧ MM [] w wz []) ⟨_, 0, rfl, ⟨by omega, fun j hj => by omega⟩, he9.sb, m2.sub _ trivial⟩ ?_
   rintro mz1 a10 w3 ⟨i, rfl, hrel1, he10, m3⟩
   obtain ⟨hall, hn6⟩ := ruOks_all hd1
   have hs12 : s.size = 12 := by omega
   have hrel1a := hrel1.1
   refine wp_seqR ?_
   cases hd3 : (decide (((i : Nat) : Int) < ((n : Nat) : Int)))
   ·
    have hd3p := of_decide_eq_false hd3
    refine wr [1] he10 m3 [(20, zF)] [] (vb (hd3) vl0) fun a11 w4 he11 m4 => ?_
    refine wl_end (wp_seq (wp_condF (he := he11) rfl (wp_exit (exit_then (exit_then (exit_here (then_normal (wp_seqR ?_))))))))
    refine wb 2 he11 [(5, zI 0), (4, zI 1)] fun a12 he12 => ?_
    refine wl_end (wp_ret ?_)
    exact bodyPost_ret (results_tmp2 he12 _ _ Try.results6 (.int .i64 (1)) (.int .i64 (0)) rfl rfl) he12.defers ⟨(by first | rw [ofM_no (by assumption)] | rw [ofM_no2 (by omega)] | rw [ofM_yes hd1 hs12, ofR_at (i := i) (by omega) hrel1.2 (by assumption)] | rw [ofM_yes hd1 hs12, ofR_end fun j hj => hrel1.2 j (by omega)]), m4.below⟩
   ·
    have hd3p := of_decide_eq_true hd3
    refine wr [1] he10 m3 [(20, zT)] [] (vb (hd3) vl0) fun a11 w4 he11 m4 => ?_
    refine wl_end (wp_seq (wp_condT (he := he11) rfl (wp_skip (then_normal (wp_seq (wp_block (wp_seqR ?_)))))))
    refine kv he11 (.pointer (some ⟨b, p + i * 5, none⟩)) (rn_indexA _ _ _ rfl _ _ (.pointer (some ⟨b, p + i * 5, none⟩)) (he11.tmp 17 _ rfl) (he11.tmp 19 _ rfl) (ixS 30 5 (by kernel_rfl) (fun w => by kernel_rfl) (b) (p) (n) (c) (i) (by omega) _)) fun a12 he12 => ?_
    refine krA he12 m4 agg30 hR (i) fun a13 he13 => ?_
    refine ka he13 m4 1 30 (.agg #[.int .i64 0, .int .i64 0, .int .i64 0, .int .i64 0, .int .i64 0]) (#[zI 0, zI 0, zI 0, zI 0, zI 0]) fun a14 w5 b1 he14 m5 => ?_
    refine ks he14 m5 1 agg30.sz (0) (.agg (Ru.arr (f i))) (Ru.arr (f i)) (hc := (Ru.one _)) (hA := (by kernel_rfl)) fun w6 m6 => ?_
    refine wl_end (wp_seqR ?_)
    refine wr [3] he14 m6 [(23, .agg (Ru.arr (f i)))] [b1] vl0 fun a15 w7 he15 m7 => ?_
    refine kn he15 m7 2 (c_rulingOf (f i) _) fun x2 b2 a16 w8 hx2 he16 m8 => ?_
    refine wb 1 he16 [(8, .func (.func 33) #[] #[.pointer (some ⟨b2, 0, none⟩)])] fun a17 he17 => ?_
    refine wl_end (wp_seqR ?_)
    refine wb 2 he17 [(26, .string (s)), (25, .func (.func 33) #[] #[.pointer (some ⟨b2, 0, none⟩)])] fun a18 he18 => ?_
    cases hd4 : (holdsR (f i) s)
    ·
     refine kc he18 m8 (v := zF) (callsV (congrArg Value.bool (hd4)) (c_ruling (f i) b2 s _ (m8.bx 2 _ _ _ _ rfl) (hall i (by omega)) hs12)) fun a19 w9 he19 m9 => ?_
     refine wl_end (wp_condF (he := he19) rfl (wp_skip (in_normal (then_normal (wp_region_lit ?_)))))
     refine wr [1, 0] he19 m9 [(19, zN (i + 1)), (32, zN (i + 1))] [] (vn i 1 vl0) fun a20 w10 he20 m10 => ?_
     refine wpList_nil ?_
     exact ⟨n - (i + 1), by omega, i + 1, rfl, ⟨by omega, fun j hj => by rcases Nat.lt_or_ge j i with hh | hh; exact hrel1.2 j hh; rw [show j = i by omega]; assumption⟩, he20.sb, m10.sub _ trivial⟩
    ·
     refine kc he18 m8 (v := zT) (callsV (congrArg Value.bool (hd4)) (c_ruling (f i) b2 s _ (m8.bx 2 _ _ _ _ rfl) (hall i (by omega)) hs12)) fun a19 w9 he19 m9 => ?_
     refine wl_end (wp_condT (he := he19) rfl (wp_seq ?_))
     refine wh_begin (by kernel_rfl) m9 [(1, ⟨true, b1, 30, Ru.arr (f i)⟩), (2, ⟨true, b2, 30, Ru.arr (f i)⟩)] ⟨rfl, rfl, trivial⟩ (fun w10 m10 => ?_)
     refine wtd (fuel := 0) [(0, 0), (1, 3), (2, 0), (3, 3), (4, 0), (5, 0)] he19 m10 [(5, zI ((f i).key)), (4, zI ((f i).ver)), (31, zI ((f i).key)), (30, zP b1 4), (29, zI ((f i).ver)), (28, zP b1 3)] [b1, b1] vl0 fun a20 he20 => ?_
     refine wpAnyH_done (by kernel_rfl) ?_ _
     refine then_normal (wp_ret (ret_in (ret_then (ret_then (ret_in (ret_then ?_))))))
     exact bodyPost_ret (results_tmp2 he20 _ _ Try.results6 (.int .i64 ((f i).ver)) (.int .i64 ((f i).key)) rfl rfl) he20.defers ⟨(by first | rw [ofM_no (by assumption)] | rw [ofM_no2 (by omega)] | rw [ofM_yes hd1 hs12, ofR_at (i := i) (by omega) hrel1.2 (by assumption)] | rw [ofM_yes hd1 hs12, ofR_end fun j hj => hrel1.2 j (by omega)]), m10.below⟩
  ·
   have hd2p : (((s).size : Nat) : Int) ≠ 12 := by simpa using hd2
   refine wr [1, 0] he5 m1 [(16, zT), (15, zT)] [] (vb (hd2) vl0) fun a6 w2 he6 m2 => ?_
   refine wl_end (wp_condT (he := he6) rfl (wp_seqR ?_))
   refine wb 2 he6 [(5, zI 0), (4, zI (-1))] fun a7 he7 => ?_
   refine wl_end (wp_ret (ret_then ?_))
   exact bodyPost_ret (results_tmp2 he7 _ _ Try.results6 (.int .i64 ((-1))) (.int .i64 (0)) rfl rfl) he7.defers ⟨(by first | rw [ofM_no (by assumption)] | rw [ofM_no2 (by omega)] | rw [ofM_yes hd1 hs12, ofR_at (i := i) (by omega) hrel1.2 (by assumption)] | rw [ofM_yes hd1 hs12, ofR_end fun j hj => hrel1.2 j (by omega)]), m2.below⟩
end Go.Proofs.Ytkaekiodjjhjkaa.W
namespace Go.Proofs.Ytkaekiodjjhjkaa.W
open Go.RowKit
open Go.Proofs.Ytkaekiodjjhjkaa.H
theorem c_ends255  (w : World)  :
 Calls Try.prog 25 #[.int .i64 (0), .int .i64 (255)] w fun e w' => e = .returned (.agg (ivArr full)) ∧ Below w.heap.size w w' := by
 refine calls_begin Try.func25 rfl 10 rfl (Nat.le_of_ble_eq_true rfl) [(0, .int .i64 (0)), (1, .int .i64 (255))] ⟨rfl, rfl, trivial⟩ (fun a0 he0 m0 => ?_)
 refine wp_seqR ?_
 refine ka he0 m0 1 56 (.agg #[.int .i64 0, .int .i64 0, .int .i64 0, .int .i64 0]) (#[zI 0, zI 0, zI 0, zI 0]) fun a1 w1 b1 he1 m1 => ?_
 refine wl_end (wp_seqR ?_)
 refine wb 2 he1 [(6, zI 255), (5, zI 0)] fun a2 he2 => ?_
 refine kc he2 m1 (v := zI 4294967295) (c_top _) fun a3 w2 he3 m2 => ?_
 refine kv he3 (.agg (#[zI 0, zI 255, zI 0, zI 4294967295])) (rn_build _ _ rfl #[(0, .int .i64 (0)), (1, .int .i64 (255)), (3, .int .i64 (4294967295))] (pmap3 (he3.tmp 5 _ rfl) (he3.tmp 6 _ rfl) (he3.tmp 7 _ rfl)) _ (by kernel_rfl)) fun a4 he4 => ?_
 refine kc he4 m2 (v := .agg (ivArr (full))) (c_l2tidy255 _) fun a5 w3 he5 m3 => ?_
 refine ks he5 m3 1 agg56.sz (0) (.agg (ivArr (full))) (ivArr (full)) (hc := (ivArr.one _)) (hA := (by kernel_rfl)) fun w4 m4 => ?_
 refine wl_end (wp_ret ?_)
 exact bodyPost_ret (results_cell he5 m4 _ _ Try.results25 _ rfl 1 rfl 4 agg56 (by first | rfl | assumption)) he5.defers ⟨rfl, m4.below⟩
theorem c_spRTidy (f : Nat → Ru) (b p n c : Nat) (w : World) (hR : RowAt w b p n 5 fun i => (f i).arr) (hn : n ≤ 1048576) (hok : ruOks f n = true) :
 Calls Try.prog 12 #[.slice (some ⟨b, p, none⟩) (n) (c)] w fun e w' => NewRu w (tidM f n) e w' := by
 refine calls_begin Try.func12 rfl 78 rfl (Nat.le_of_ble_eq_true rfl) [(0, .slice (some ⟨b, p, none⟩) (n) (c))] ⟨rfl, trivial⟩ (fun a0 he0 m0 => ?_)
 obtain ⟨hall, hn6⟩ := ruOks_all hok
 refine wp_seqR ?_
 refine wb 1 he0 [(2, .slice none 0 0)] fun a1 he1 => ?_
 refine wl_end (wp_seqR ?_)
 refine kb he1 m0 1 23 0 30 ((cellsOf Ru.arr []).toArray) (vs := #[]) (by kernel_rfl) fun a2 w1 b1 he2 m1 => ?_
 have rw1_0 : Rw ((cellsOf Ru.arr []).toArray) 0 0 5 (cellsOf Ru.arr ([])) := Rw.lits Ru.sz [] (by simp [maxLen])
 refine wb 1 he2 [(3, zS b1 0 0)] fun a3 he3 => ?_
 refine wl_end (wp_seq (wp_seqR ?_))
 refine wb 1 he3 [(13, .slice (some ⟨b, p, none⟩) (n) (c))] fun a4 he4 => ?_
 refine kc he4 m1 (v := zT) (callsV (congrArg Value.bool (hok)) (c_oks f b p n c _ (hR.kb m1.keep (by simp)) hn)) fun a5 w2 he5 m2 => ?_
 refine wb 1 he5 [(15, zF)] fun a6 he6 => ?_
 refine wl_end (wp_condF (he := he6) rfl (wp_skip (then_normal (wp_seqR ?_))))
 refine kb he6 m2 2 62 0 56 ((cellsOf ivArr []).toArray) (vs := #[]) (by kernel_rfl) fun a7 w3 b2 he7 m3 => ?_
 have rw2_0 : Rw ((cellsOf ivArr []).toArray) 0 0 4 (cellsOf ivArr ([])) := Rw.lits ivArr.sz [] (by simp [maxLen])
 refine wb 1 he7 [(4, zS b2 0 0)] fun a8 he8 => ?_
 refine wl_end (wp_seq (wp_seqR ?_))
 refine wb 1 he8 [(5, zI 0)] fun a9 he9 => ?_
 refine wl_end (wp_block ?_)
 refine wp_loopN (fun mz az wz => ∃ (i0 : Nat), ∃ (pb : Nat), ∃ (pc : Nat), ∃ (cur0 : Array Value), mz = 12 - (i0) ∧ (i0 ≤ 12 ∧ Rw (cur0) (i0) (pc) 4 (cellsOf ivArr (List.replicate i0 full))) ∧ EV az 78 [] [(0, .slice (some ⟨b, p, none⟩) (n) (c)), (2, .slice none 0 0), (12, .slice (some ⟨b1, 0, none⟩) (0) (0)), (3, .slice (some ⟨b1, 0, none⟩) (0) (0)), (13, .slice (some ⟨b, p, none⟩) (n) (c)), (14, .bool true), (15, .bool false), (17, .slice (some ⟨b2, 0, none⟩) (0) (0)), (5, .int .i64 (((i0 : Nat) : Int))), (4, .slice (some ⟨pb, 0, none⟩) (i0) (pc))] ∧ MM [] w wz [(1, ⟨true, b1, 30, (cellsOf Ru.arr []).toArray⟩), (2, ⟨true, pb, 56, cur0⟩)]) ⟨_, 0, b2, 0, (cellsOf ivArr []).toArray, rfl, ⟨by omega, rw2_0⟩, he9.sb, m3.sb⟩ ?_
 rintro mz1 a10 w4 ⟨i0, pb, pc, cur0, rfl, hrel1, he10, m4⟩
 obtain ⟨hra, hrw⟩ := hrel1
 refine wp_seq (wp_seqR ?_)
 refine wb 1 he10 [(18, zN i0)] fun a11 he11 => ?_
 cases hd1 : (decide (((i0 : Nat) : Int) < 12))
 ·
  have hd1p := of_decide_eq_false hd1
  refine wr [1] he11 m4 [(19, zF)] [] (vb (hd1) vl0) fun a12 w5 he12 m5 => ?_
  refine wl_end (wp_condF (he := he12) rfl (wp_exit (exit_then (exit_then (exit_here (then_normal (wp_seq (wp_seqR ?_))))))))
  refine wb 1 he12 [(6, zI 0)] fun a13 he13 => ?_
  refine wl_end (wp_block ?_)
  refine wp_loopN (fun mz az wz => ∃ (i : Nat), ∃ (S : List (Nat × Nat)), ∃ (cur : Array Value), ∃ (o : List Ru), ∃ (on : Nat), ∃ (ob : Nat), ∃ (oc : Nat), ∃ (oa : Array Value), mz = n - (i) ∧ (i ≤ n ∧ OkS (S) ∧ Rw (cur) 12 pc 4 (cellsOf ivArr (S)) ∧ tidM f n = (o) ++ tidR f (n - (i)) (i) (S) ∧ on = (o).length ∧ on ≤ i ∧ Rw (oa) (on) (oc) 5 (cellsOf Ru.arr (o))) ∧ EV az 78 [] [(0, .slice (some ⟨b, p, none⟩) (n) (c)), (12, .slice (some ⟨b1, 0, none⟩) (0) (0)), (13, .slice (some ⟨b, p, none⟩) (n) (c)), (14, .bool true), (15, .bool false), (17, .slice (some ⟨b2, 0, none⟩) (0) (0)), (5, .int .i64 (((i0 : Nat) : Int))), (4, .slice (some ⟨pb, 0, none⟩) (i0) (pc)), (18, .int .i64 (((i0 : Nat) : Int))), (19, .bool false), (6, .int .i64 (((i : Nat) : Int))), (3, .slice (some ⟨ob, 0, none⟩) (on) (oc))] ∧ MM [] w wz [(1, ⟨true, ob, 30, oa⟩), (2, ⟨true, pb, 56, cur⟩)]) ⟨_, 0, (List.replicate 12 full), cur0, [], 0, b1, 0, (cellsOf Ru.arr []).toArray, rfl, ⟨by omega, OkS.full, by have := hrw; rw [show i0 = 12 by omega] at this; exact this, rfl, rfl, by omega, rw1_0⟩, he13.sb, m5.sb⟩ ?_
  rintro mz2 a14 w6 ⟨i, S, cur, o, on, ob, oc, oa, rfl, hrel2, he14, m6⟩
  have hi12 : i0 = 12 := by omega
  obtain ⟨hra, hS, hrw, htd, hon, honi, horw⟩ := hrel2
  refine wp_seq (wp_seqR ?_)
  refine wb 2 he14 [(27, .slice (some ⟨b, p, none⟩) (n) (c)), (26, zN i)] fun a15 he15 => ?_
  refine kv he15 (zN n) (rn_builtin _ _ _ rfl #[.slice (some ⟨b, p, none⟩) (n) (c)] (map1 (he15.tmp 27 _ rfl)) (.int .i64 (((n : Nat) : Int))) (by kernel_rfl)) fun a16 he16 => ?_
  cases hd2 : (decide (((i : Nat) : Int) < ((n : Nat) : Int)))
  ·
   have hd2p := of_decide_eq_false hd2
   refine wr [1] he16 m6 [(29, zF)] [] (vb (hd2) vl0) fun a17 w7 he17 m7 => ?_
   refine wl_end (wp_condF (he := he17) rfl (wp_exit (exit_then (exit_then (exit_here (then_normal (wp_seqR ?_)))))))
   refine wb 2 he17 [(2, zS ob on oc), (77, zS ob on oc)] fun a18 he18 => ?_
   refine wl_end (wp_ret ?_)
   have htm : tidM f n = o := tid_end htd (by omega)
   have hN : on = (tidM f n).length := by rw [htm]; simp [hon]
   have hL : cellsOf Ru.arr (o) = cellsOf Ru.arr (tidM f n) := by rw [htm]
   exact bodyPost_ret (results_tmp he18 _ Try.results12 (.slice (some ⟨ob, 0, none⟩) (on) (oc)) rfl) he18.defers ⟨(oc, oa), _, congrArg (fun k => Ending.returned (.slice (some ⟨ob, 0, none⟩) k (oc))) hN, m7.bx 1 _ _ _ _ rfl, horw.cast hN hL, by have := m7.own 1 _ rfl rfl; simpa using this, m7.below⟩
  ·
   have hd2p := of_decide_eq_true hd2
   have hri := hall i (by omega)
   have hat := at_lt12 hri
   refine wr [1] he16 m6 [(29, zT)] [] (vb (hd2) vl0) fun a17 w7 he17 m7 => ?_
   refine wl_end (wp_condT (he := he17) rfl (wp_skip (then_normal (wp_seq (wp_block (wp_seqR ?_))))))
   refine wb 2 he17 [(33, zN i), (32, .slice (some ⟨b, p, none⟩) (n) (c))] fun a18 he18 => ?_
   refine kv he18 (.pointer (some ⟨b, p + i * 5, none⟩)) (rn_indexA _ _ _ rfl _ _ (.pointer (some ⟨b, p + i * 5, none⟩)) (he18.tmp 32 _ rfl) (he18.tmp 33 _ rfl) (ixS 30 5 (by kernel_rfl) (fun w => by kernel_rfl) (b) (p) (n) (c) (i) (by omega) _)) fun a19 he19 => ?_
   refine kv he19 (.pointer (some ⟨b, p + i * 5, none⟩)) (rn_field _ _ _ rfl _ (.pointer (some ⟨b, p + i * 5, none⟩)) (he19.tmp 34 _ rfl) (by kernel_rfl)) fun a20 he20 => ?_
   refine kr he20 m7 one3 hR (i) 0 (.int .i64 ((((f i).at_.toNat : Nat) : Int))) (hv := (Ru.g_at' _ hri)) fun a21 he21 => ?_
   refine wb 1 he21 [(7, zN ((f i).at_.toNat))] fun a22 he22 => ?_
   refine wl_end (wp_seq ?_)
   refine rg_cut (fun az wz => ∃ (b3 : Nat), EV az 78 [] [(0, .slice (some ⟨b, p, none⟩) (n) (c)), (12, .slice (some ⟨b1, 0, none⟩) (0) (0)), (13, .slice (some ⟨b, p, none⟩) (n) (c)), (14, .bool true), (15, .bool false), (17, .slice (some ⟨b2, 0, none⟩) (0) (0)), (5, .int .i64 (((i0 : Nat) : Int))), (4, .slice (some ⟨pb, 0, none⟩) (i0) (pc)), (18, .int .i64 (((i0 : Nat) : Int))), (19, .bool false), (6, .int .i64 (((i : Nat) : Int))), (3, .slice (some ⟨ob, 0, none⟩) (on) (oc)), (26, .int .i64 (((i : Nat) : Int))), (27, .slice (some ⟨b, p, none⟩) (n) (c)), (28, .int .i64 (((n : Nat) : Int))), (29, .bool true), (32, .slice (some ⟨b, p, none⟩) (n) (c)), (33, .int .i64 (((i : Nat) : Int))), (34, .pointer (some ⟨b, p + i * 5, none⟩)), (35, .pointer (some ⟨b, p + i * 5, none⟩)), (36, .int .i64 ((((f i).at_.toNat : Nat) : Int))), (7, .int .i64 ((((f i).at_.toNat : Nat) : Int))), (38, .slice (some ⟨b, p, none⟩) (n) (c)), (39, .int .i64 (((i : Nat) : Int))), (40, .pointer (some ⟨b, p + i * 5, none⟩)), (41, .agg (Ru.arr (f i))), (42, .slice (some ⟨pb, 0, none⟩) (i0) (pc)), (43, .int .i64 ((((f i).at_.toNat : Nat) : Int))), (44, .pointer (some ⟨pb, 0 + (f i).at_.toNat * 4, none⟩)), (45, .agg (ivArr (atS (S) ((f i).at_.toNat)))), (46, .tuple #[.agg (optA (brR (f i) S true)), .bool ((brR (f i) S true).isSome)]), (37, .tuple #[.agg (optA (brR (f i) S true)), .bool ((brR (f i) S true).isSome)]), (47, .agg (optA (brR (f i) S true))), (48, .bool ((brR (f i) S true).isSome)), (8, .pointer (some ⟨b3, 0, none⟩)), (9, .bool ((brR (f i) S true).isSome))] ∧ MM [] w wz [(1, ⟨true, ob, 30, oa⟩), (2, ⟨true, pb, 56, cur⟩), (3, ⟨true, b3, 56, optA (brR (f i) S true)⟩)]) ?tree1_01 ?cont1_01
   case tree1_01 =>
    refine wh_begin (by kernel_rfl) m7 [(1, ⟨true, ob, 30, oa⟩), (2, ⟨true, pb, 56, cur⟩)] ⟨rfl, rfl, trivial⟩ (fun w8 m8 => ?_)
    refine wtb (fuel := 13) [0, 1] he22 m8 [(39, zN i), (38, .slice (some ⟨b, p, none⟩) (n) (c))] fun a23 he23 => ?_
    refine tv (fuel := 12) 2 rfl he23 m8 (.pointer (some ⟨b, p + i * 5, none⟩)) (fun wS hmS => rn_indexA _ _ _ rfl _ _ (.pointer (some ⟨b, p + i * 5, none⟩)) (he23.tmp 38 _ rfl) (he23.tmp 39 _ rfl) (ixS 30 5 (by kernel_rfl) (fun w => by kernel_rfl) (b) (p) (n) (c) (i) (by omega) _)) fun a24 he24 => ?_
    refine tv (fuel := 11) 3 rfl he24 m8 (.agg (Ru.arr (f i))) (fun wS hmS => rn_rowA hmS hR (by simp) (i) (by omega) _ _ rfl (he24.tmp 40 _ rfl) agg30 (by kernel_rfl)) fun a25 he25 => ?_
    refine wtb (fuel := 9) [4, 5] he25 m8 [(43, zN ((f i).at_.toNat)), (42, zS pb i0 pc)] fun a26 he26 => ?_
    refine tv (fuel := 8) 6 rfl he26 m8 (.pointer (some ⟨pb, 0 + (f i).at_.toNat * 4, none⟩)) (fun wS hmS => rn_indexA _ _ _ rfl _ _ (.pointer (some ⟨pb, 0 + (f i).at_.toNat * 4, none⟩)) (he26.tmp 42 _ rfl) (he26.tmp 43 _ rfl) (ixS 56 4 (by kernel_rfl) (fun w => by kernel_rfl) (pb) (0) (i0) (pc) ((f i).at_.toNat) (by omega) _)) fun a27 he27 => ?_
    refine tlA (fuel := 7) 7 rfl he27 m8 2 agg56 (0 + (f i).at_.toNat * 4) (ivArr (atS (S) ((f i).at_.toNat))) (hC := (hrw.ext ivArr.sz (hS.get hat) _ (by omega))) fun a28 he28 => ?_
    refine up2 (fuel := 6) 8 12 rfl rfl ?st1e01_9_0 ?st1e01_9_1
    case st1e01_9_0 =>
     refine sc he28 m8 (v := .tuple #[.agg (optA (brR (f i) S true)), .bool ((brR (f i) S true).isSome)]) (sp_br hri hS true _) fun a29 w9 he29 m9 => ?_
     refine wtb (fuel := 3) [9, 10, 11] he29 m9 [(48, .bool ((brR (f i) S true).isSome)), (47, .agg (optA (brR (f i) S true))), (37, .tuple #[.agg (optA (brR (f i) S true)), .bool ((brR (f i) S true).isSome)])] fun a30 he30 => ?_
     refine up1 (fuel := 2) 12 rfl ?st1e01_13_0
     case st1e01_13_0 =>
      refine sa he30 m9 ⟨rfl, rfl, trivial⟩ 3 56 (.agg #[.int .i64 0, .int .i64 0, .int .i64 0, .int .i64 0]) (#[zI 0, zI 0, zI 0, zI 0]) (fun _ => ⟨rfl, rfl, trivial⟩) fun a31 w10 b3 he31 m10 => ?_
      refine ts (fuel := 1) 13 rfl he31 m10 3 agg56.sz (0) (.agg (optA (brR (f i) S true))) (optA (brR (f i) S true)) ⟨rfl, rfl, trivial⟩ (hz := (optA.sz _)) (hc := (optA.one _)) (hA := (optA_ovw _ _ _ _ _)) fun w11 m11 => ?_
      refine wtb (fuel := 0) [14] he31 m11 [(9, .bool ((brR (f i) S true).isSome))] fun a32 he32 => ?_
      refine wpAnyH_done (by kernel_rfl) ?_ _
      exact ⟨b3, he32.sb, m11.sb⟩
    case st1e01_9_1 =>
     refine sa he28 m8 ⟨rfl, rfl, trivial⟩ 3 56 (.agg #[.int .i64 0, .int .i64 0, .int .i64 0, .int .i64 0]) (#[zI 0, zI 0, zI 0, zI 0]) (fun _ => ⟨rfl, rfl, trivial⟩) fun a29 w9 b3 he29 m9 => ?_
     refine up1 (fuel := 5) 8 rfl ?st1e01_16_0
     case st1e01_16_0 =>
      refine sc he29 m9 (v := .tuple #[.agg (optA (brR (f i) S true)), .bool ((brR (f i) S true).isSome)]) (sp_br hri hS true _) fun a30 w10 he30 m10 => ?_
      refine wtb (fuel := 2) [9, 10, 11] he30 m10 [(48, .bool ((brR (f i) S true).isSome)), (47, .agg (optA (brR (f i) S true))), (37, .tuple #[.agg (optA (brR (f i) S true)), .bool ((brR (f i) S true).isSome)])] fun a31 he31 => ?_
      refine ts (fuel := 1) 13 rfl he31 m10 3 agg56.sz (0) (.agg (optA (brR (f i) S true))) (optA (brR (f i) S true)) ⟨rfl, rfl, trivial⟩ (hz := (optA.sz _)) (hc := (optA.one _)) (hA := (optA_ovw _ _ _ _ _)) fun w11 m11 => ?_
      refine wtb (fuel := 0) [14] he31 m11 [(9, .bool ((brR (f i) S true).isSome))] fun a32 he32 => ?_
      refine wpAnyH_done (by kernel_rfl) ?_ _
      exact ⟨b3, he32.sb, m11.sb⟩
   rintro a33 w13 ⟨b3, he33, m13⟩
   refine then_normal (wp_seq ?_)
   refine rg_cut (fun az wz => ∃ (b4 : Nat), EV az 78 [] [(0, .slice (some ⟨b, p, none⟩) (n) (c)), (12, .slice (some ⟨b1, 0, none⟩) (0) (0)), (13, .slice (some ⟨b, p, none⟩) (n) (c)), (14, .bool true), (15, .bool false), (17, .slice (some ⟨b2, 0, none⟩) (0) (0)), (5, .int .i64 (((i0 : Nat) : Int))), (4, .slice (some ⟨pb, 0, none⟩) (i0) (pc)), (18, .int .i64 (((i0 : Nat) : Int))), (19, .bool false), (6, .int .i64 (((i : Nat) : Int))), (3, .slice (some ⟨ob, 0, none⟩) (on) (oc)), (26, .int .i64 (((i : Nat) : Int))), (27, .slice (some ⟨b, p, none⟩) (n) (c)), (28, .int .i64 (((n : Nat) : Int))), (29, .bool true), (32, .slice (some ⟨b, p, none⟩) (n) (c)), (33, .int .i64 (((i : Nat) : Int))), (34, .pointer (some ⟨b, p + i * 5, none⟩)), (35, .pointer (some ⟨b, p + i * 5, none⟩)), (36, .int .i64 ((((f i).at_.toNat : Nat) : Int))), (7, .int .i64 ((((f i).at_.toNat : Nat) : Int))), (38, .slice (some ⟨b, p, none⟩) (n) (c)), (39, .int .i64 (((i : Nat) : Int))), (40, .pointer (some ⟨b, p + i * 5, none⟩)), (41, .agg (Ru.arr (f i))), (42, .slice (some ⟨pb, 0, none⟩) (i0) (pc)), (43, .int .i64 ((((f i).at_.toNat : Nat) : Int))), (44, .pointer (some ⟨pb, 0 + (f i).at_.toNat * 4, none⟩)), (45, .agg (ivArr (atS (S) ((f i).at_.toNat)))), (46, .tuple #[.agg (optA (brR (f i) S true)), .bool ((brR (f i) S true).isSome)]), (37, .tuple #[.agg (optA (brR (f i) S true)), .bool ((brR (f i) S true).isSome)]), (47, .agg (optA (brR (f i) S true))), (48, .bool ((brR (f i) S true).isSome)), (8, .pointer (some ⟨b3, 0, none⟩)), (9, .bool ((brR (f i) S true).isSome)), (50, .slice (some ⟨b, p, none⟩) (n) (c)), (51, .int .i64 (((i : Nat) : Int))), (52, .pointer (some ⟨b, p + i * 5, none⟩)), (53, .agg (Ru.arr (f i))), (54, .slice (some ⟨pb, 0, none⟩) (i0) (pc)), (55, .int .i64 ((((f i).at_.toNat : Nat) : Int))), (56, .pointer (some ⟨pb, 0 + (f i).at_.toNat * 4, none⟩)), (57, .agg (ivArr (atS (S) ((f i).at_.toNat)))), (58, .tuple #[.agg (optA (brR (f i) S false)), .bool ((brR (f i) S false).isSome)]), (49, .tuple #[.agg (optA (brR (f i) S false)), .bool ((brR (f i) S false).isSome)]), (59, .agg (optA (brR (f i) S false))), (60, .bool ((brR (f i) S false).isSome)), (10, .pointer (some ⟨b4, 0, none⟩)), (11, .bool ((brR (f i) S false).isSome))] ∧ MM [] w wz [(1, ⟨true, ob, 30, oa⟩), (2, ⟨true, pb, 56, cur⟩), (3, ⟨true, b3, 56, optA (brR (f i) S true)⟩), (4, ⟨true, b4, 56, optA (brR (f i) S false)⟩)]) ?tree2_01 ?cont2_01
   case tree2_01 =>
    refine wh_begin (by kernel_rfl) m13 [(1, ⟨true, ob, 30, oa⟩), (2, ⟨true, pb, 56, cur⟩), (3, ⟨true, b3, 56, optA (brR (f i) S true)⟩)] ⟨rfl, rfl, rfl, trivial⟩ (fun w14 m14 => ?_)
    refine wtb (fuel := 13) [0, 1] he33 m14 [(51, zN i), (50, .slice (some ⟨b, p, none⟩) (n) (c))] fun a34 he34 => ?_
    refine tv (fuel := 12) 2 rfl he34 m14 (.pointer (some ⟨b, p + i * 5, none⟩)) (fun wS hmS => rn_indexA _ _ _ rfl _ _ (.pointer (some ⟨b, p + i * 5, none⟩)) (he34.tmp 50 _ rfl) (he34.tmp 51 _ rfl) (ixS 30 5 (by kernel_rfl) (fun w => by kernel_rfl) (b) (p) (n) (c) (i) (by omega) _)) fun a35 he35 => ?_
    refine tv (fuel := 11) 3 rfl he35 m14 (.agg (Ru.arr (f i))) (fun wS hmS => rn_rowA hmS hR (by simp) (i) (by omega) _ _ rfl (he35.tmp 52 _ rfl) agg30 (by kernel_rfl)) fun a36 he36 => ?_
    refine wtb (fuel := 9) [4, 5] he36 m14 [(55, zN ((f i).at_.toNat)), (54, zS pb i0 pc)] fun a37 he37 => ?_
    refine tv (fuel := 8) 6 rfl he37 m14 (.pointer (some ⟨pb, 0 + (f i).at_.toNat * 4, none⟩)) (fun wS hmS => rn_indexA _ _ _ rfl _ _ (.pointer (some ⟨pb, 0 + (f i).at_.toNat * 4, none⟩)) (he37.tmp 54 _ rfl) (he37.tmp 55 _ rfl) (ixS 56 4 (by kernel_rfl) (fun w => by kernel_rfl) (pb) (0) (i0) (pc) ((f i).at_.toNat) (by omega) _)) fun a38 he38 => ?_
    refine tlA (fuel := 7) 7 rfl he38 m14 2 agg56 (0 + (f i).at_.toNat * 4) (ivArr (atS (S) ((f i).at_.toNat))) (hC := (hrw.ext ivArr.sz (hS.get hat) _ (by omega))) fun a39 he39 => ?_
    refine up2 (fuel := 6) 8 12 rfl rfl ?st2e01_9_0 ?st2e01_9_1
    case st2e01_9_0 =>
     refine sc he39 m14 (v := .tuple #[.agg (optA (brR (f i) S false)), .bool ((brR (f i) S false).isSome)]) (sp_br hri hS false _) fun a40 w15 he40 m15 => ?_
     refine wtb (fuel := 3) [9, 10, 11] he40 m15 [(60, .bool ((brR (f i) S false).isSome)), (59, .agg (optA (brR (f i) S false))), (49, .tuple #[.agg (optA (brR (f i) S false)), .bool ((brR (f i) S false).isSome)])] fun a41 he41 => ?_
     refine up1 (fuel := 2) 12 rfl ?st2e01_13_0
     case st2e01_13_0 =>
      refine sa he41 m15 ⟨rfl, rfl, rfl, trivial⟩ 4 56 (.agg #[.int .i64 0, .int .i64 0, .int .i64 0, .int .i64 0]) (#[zI 0, zI 0, zI 0, zI 0]) (fun _ => ⟨rfl, rfl, rfl, trivial⟩) fun a42 w16 b4 he42 m16 => ?_
      refine ts (fuel := 1) 13 rfl he42 m16 4 agg56.sz (0) (.agg (optA (brR (f i) S false))) (optA (brR (f i) S false)) ⟨rfl, rfl, rfl, trivial⟩ (hz := (optA.sz _)) (hc := (optA.one _)) (hA := (optA_ovw _ _ _ _ _)) fun w17 m17 => ?_
      refine wtb (fuel := 0) [14] he42 m17 [(11, .bool ((brR (f i) S false).isSome))] fun a43 he43 => ?_
      refine wpAnyH_done (by kernel_rfl) ?_ _
      exact ⟨b4, he43.sb, m17.sb⟩
    case st2e01_9_1 =>
     refine sa he39 m14 ⟨rfl, rfl, rfl, trivial⟩ 4 56 (.agg #[.int .i64 0, .int .i64 0, .int .i64 0, .int .i64 0]) (#[zI 0, zI 0, zI 0, zI 0]) (fun _ => ⟨rfl, rfl, rfl, trivial⟩) fun a40 w15 b4 he40 m15 => ?_
     refine up1 (fuel := 5) 8 rfl ?st2e01_16_0
     case st2e01_16_0 =>
      refine sc he40 m15 (v := .tuple #[.agg (optA (brR (f i) S false)), .bool ((brR (f i) S false).isSome)]) (sp_br hri hS false _) fun a41 w16 he41 m16 => ?_
      refine wtb (fuel := 2) [9, 10, 11] he41 m16 [(60, .bool ((brR (f i) S false).isSome)), (59, .agg (optA (brR (f i) S false))), (49, .tuple #[.agg (optA (brR (f i) S false)), .bool ((brR (f i) S false).isSome)])] fun a42 he42 => ?_
      refine ts (fuel := 1) 13 rfl he42 m16 4 agg56.sz (0) (.agg (optA (brR (f i) S false))) (optA (brR (f i) S false)) ⟨rfl, rfl, rfl, trivial⟩ (hz := (optA.sz _)) (hc := (optA.one _)) (hA := (optA_ovw _ _ _ _ _)) fun w17 m17 => ?_
      refine wtb (fuel := 0) [14] he42 m17 [(11, .bool ((brR (f i) S false).isSome))] fun a43 he43 => ?_
      refine wpAnyH_done (by kernel_rfl) ?_ _
      exact ⟨b4, he43.sb, m17.sb⟩
   rintro a44 w19 ⟨b4, he44, m19⟩
   refine then_normal (wp_seq (wp_seqR ?_))
   refine wb 1 he44 [(61, .bool ((brR (f i) S true).isSome))] fun a45 he45 => ?_
   cases hd3 : ((brR (f i) S true).isSome)
   ·
    have hb1 : brR (f i) S true = none := by simpa using hd3
    refine kv he45 (zT) (rn_un _ _ _ rfl _ (.bool (!(brR (f i) S true).isSome)) _ (he45.tmp 61 _ rfl) rfl (congrArg (fun q => Value.bool (!q)) hd3)) fun a46 he46 => ?_
    refine wl_end (wp_condT (he := he46) rfl (wp_exit (exit_then (exit_here (then_normal (wp_region_lit ?_))))))
    refine wr [0, 1, 0] he46 m19 [(6, zN (i + 1)), (31, zN (i + 1)), (30, zN i)] [] (vn i 1 vl0) fun a47 w20 he47 m20 => ?_
    refine wpList_nil ?_
    exact ⟨n - (i + 1), by omega, i + 1, S, cur, o, on, ob, oc, oa, rfl, ⟨by omega, hS, hrw, tid_skip htd (by omega) hb1, by simp [hon], by omega, horw⟩, he47.sb, m20.sb⟩
   ·
    obtain ⟨y1, hb1⟩ := Option.isSome_iff_exists.1 hd3
    refine kv he45 (zF) (rn_un _ _ _ rfl _ (.bool (!(brR (f i) S true).isSome)) _ (he45.tmp 61 _ rfl) rfl (congrArg (fun q => Value.bool (!q)) hd3)) fun a46 he46 => ?_
    refine wl_end (wp_condF (he := he46) rfl (wp_skip (then_normal (wp_seqR ?_))))
    refine wb 3 he46 [(65, zN i), (64, .slice (some ⟨b, p, none⟩) (n) (c)), (63, zS ob on oc)] fun a47 he47 => ?_
    refine kv he47 (.pointer (some ⟨b, p + i * 5, none⟩)) (rn_indexA _ _ _ rfl _ _ (.pointer (some ⟨b, p + i * 5, none⟩)) (he47.tmp 64 _ rfl) (he47.tmp 65 _ rfl) (ixS 30 5 (by kernel_rfl) (fun w => by kernel_rfl) (b) (p) (n) (c) (i) (by omega) _)) fun a48 he48 => ?_
    refine krA he48 m19 agg30 hR (i) fun a49 he49 => ?_
    refine kb he49 m19 5 23 1 30 ((cellsOf Ru.arr [f i]).toArray) (vs := #[(0, .agg (Ru.arr (f i)))]) (by kernel_rfl) fun a50 w20 b5 he50 m20 => ?_
    have rw5_0 : Rw ((cellsOf Ru.arr [f i]).toArray) 1 1 5 (cellsOf Ru.arr ([f i])) := Rw.lits Ru.sz [f i] (by simp [maxLen])
    refine kpR he50 m20 1 5 el30 horw rw5_0 (cellsOf_one Ru.one _) fun a51 w21 b1_51 cap1_51 cur1_51 he51 m21 rw1_51 => ?_
    replace rw1_51 := rw1_51.app
    refine wb 1 he51 [(3, zS b1_51 (on + 1) cap1_51)] fun a52 he52 => ?_
    refine wl_end (wp_seq (wp_seqR ?_))
    refine wb 1 he52 [(70, .bool ((brR (f i) S false).isSome))] fun a53 he53 => ?_
    cases hd4 : ((brR (f i) S false).isSome)
    ·
     have hb2 : brR (f i) S false = none := by simpa using hd4
     refine kv he53 (zT) (rn_un _ _ _ rfl _ (.bool (!(brR (f i) S false).isSome)) _ (he53.tmp 70 _ rfl) rfl (congrArg (fun q => Value.bool (!q)) hd4)) fun a54 he54 => ?_
     refine wl_end (wp_condT (he := he54) rfl (wp_seqR ?_))
     refine wb 2 he54 [(2, zS b1_51 (on + 1) cap1_51), (72, zS b1_51 (on + 1) cap1_51)] fun a55 he55 => ?_
     refine wl_end (wp_ret (ret_then (ret_in (ret_then (ret_then (ret_in (ret_then ?_)))))))
     have htm : tidM f n = (o) ++ ([f i]) := tid_last htd (by omega) hb1 hb2
     have hN : on + 1 = (tidM f n).length := by rw [htm]; simp [hon]
     have hL : cellsOf Ru.arr ((o) ++ ([f i])) = cellsOf Ru.arr (tidM f n) := by rw [htm]
     exact bodyPost_ret (results_tmp he55 _ Try.results12 (.slice (some ⟨b1_51, 0, none⟩) (on + 1) (cap1_51)) rfl) he55.defers ⟨(cap1_51, cur1_51), _, congrArg (fun k => Ending.returned (.slice (some ⟨b1_51, 0, none⟩) k (cap1_51))) hN, m21.bx 1 _ _ _ _ rfl, rw1_51.cast hN hL, by have := m21.own 1 _ rfl rfl; simpa using this, m21.below⟩
    ·
     obtain ⟨y2, hb2⟩ := Option.isSome_iff_exists.1 hd4
     refine kv he53 (zF) (rn_un _ _ _ rfl _ (.bool (!(brR (f i) S false).isSome)) _ (he53.tmp 70 _ rfl) rfl (congrArg (fun q => Value.bool (!q)) hd4)) fun a54 he54 => ?_
     refine wl_end (wp_condF (he := he54) rfl (wp_skip (then_normal (wp_region_lit ?_))))
     refine wb 2 he54 [(74, zN ((f i).at_.toNat)), (73, zS pb i0 pc)] fun a55 he55 => ?_
     refine klA he55 m21 4 agg56 (0) (optA (brR (f i) S false)) (hC := (optA_ext _)) (hz := (optA.sz _)) fun a56 he56 => ?_
     refine kv he56 (.pointer (some ⟨pb, 0 + (f i).at_.toNat * 4, none⟩)) (rn_indexA _ _ _ rfl _ _ (.pointer (some ⟨pb, 0 + (f i).at_.toNat * 4, none⟩)) (he56.tmp 73 _ rfl) (he56.tmp 74 _ rfl) (ixS 56 4 (by kernel_rfl) (fun w => by kernel_rfl) (pb) (0) (i0) (pc) ((f i).at_.toNat) (by omega) _)) fun a57 he57 => ?_
     obtain ⟨q1, hq1⟩ : ∃ q1 : Array Value, q1 = ovw (cur) (0 + (f i).at_.toNat * 4) (optA (brR (f i) S false)).toList := ⟨_, rfl⟩
     have rq1 : Rw q1 12 pc 4 (cellsOf ivArr ((S).set ((f i).at_.toNat) (y2))) := by rw [hq1, hb2]; exact hrw.set ivArr.sz (by rw [hS.len]; omega) _ _ (by omega)
     have fq1 := hrw.fit'
     refine ks he57 m21 2 agg56.sz (0 + (f i).at_.toNat * 4) (.agg (optA (brR (f i) S false))) (q1) (hz := (optA.sz _)) (hc := (optA.one _)) (hA := hq1.symm) fun w22 m22 => ?_
     refine wpList_nil (in_normal (then_normal (wp_region_lit ?_)))
     refine wr [0, 1, 0] he57 m22 [(6, zN (i + 1)), (31, zN (i + 1)), (30, zN i)] [] (vn i 1 vl0) fun a58 w23 he58 m23 => ?_
     refine wpList_nil ?_
     exact ⟨n - (i + 1), by omega, i + 1, S.set (f i).at_.toNat y2, q1, (o) ++ ([f i]), on + 1, b1_51, cap1_51, cur1_51, rfl, ⟨by omega, (hS.set hb2), rq1, tid_keep htd (by omega) hb1 hb2, by simp [hon], by omega, rw1_51⟩, he58.sb, m23.sb⟩
 ·
  have hd1p := of_decide_eq_true hd1
  refine wr [1] he11 m4 [(19, zT)] [] (vb (hd1) vl0) fun a12 w5 he12 m5 => ?_
  refine wl_end (wp_condT (he := he12) rfl (wp_skip (then_normal (wp_seq (wp_block (wp_region_lit ?_))))))
  refine wb 1 he12 [(22, zS pb i0 pc)] fun a13 he13 => ?_
  refine kc he13 m5 (v := .agg (ivArr (full))) (c_ends255 _) fun a14 w6 he14 m6 => ?_
  refine kb he14 m6 3 62 1 56 ((cellsOf ivArr [full]).toArray) (vs := #[(0, .agg (ivArr (full)))]) (by kernel_rfl) fun a15 w7 b3 he15 m7 => ?_
  have rw3_0 : Rw ((cellsOf ivArr [full]).toArray) 1 1 4 (cellsOf ivArr ([full])) := Rw.lits ivArr.sz [full] (by simp [maxLen])
  refine kpR he15 m7 2 3 el56 hrw rw3_0 (cellsOf_one ivArr.one _) fun a16 w8 b2_16 cap2_16 cur2_16 he16 m8 rw2_16 => ?_
  replace rw2_16 := rw2_16.app
  refine wb 1 he16 [(4, zS b2_16 (i0 + 1) cap2_16)] fun a17 he17 => ?_
  refine wpList_nil (in_normal (then_normal (wp_region_lit ?_)))
  refine wr [0, 1, 0] he17 m8 [(5, zN (i0 + 1)), (21, zN (i0 + 1)), (20, zN i0)] [] (vn i0 1 vl0) fun a18 w9 he18 m9 => ?_
  refine wpList_nil ?_
  exact ⟨12 - (i0 + 1), by omega, i0 + 1, b2_16, cap2_16, cur2_16, rfl, ⟨by omega, by have := rw2_16; rw [show List.replicate i0 full ++ [full] = List.replicate (i0 + 1) full from List.replicate_succ'.symm] at this; exact this⟩, he18.sb, m9.sb⟩
end Go.Proofs.Ytkaekiodjjhjkaa.W
