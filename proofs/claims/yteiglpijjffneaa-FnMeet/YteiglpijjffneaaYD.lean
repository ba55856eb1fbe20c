/- Answers: joining, meeting, telling no less, of two ranges. -/
import Derived.Test.YteiglpijjffneaaYC
import Derived.Test.YteiglpijjffneaaPV
import Derived.Test.YteiglpijjffneaaRS
import Derived.Test.YteiglpijjffneaaRU
namespace Go.Proofs.Yteiglpijjffneaa
open Go.RowKit
set_option linter.unusedVariables false
set_option linter.unusedSimpArgs false

theorem some_nat {lo hi b o : Nat} (h : someI lo hi b o = true) : OkN lo hi b o ∧ someN lo hi b o = true ∧ ∃ n, OfN lo hi b o n := by
  obtain ⟨L, H, B, O, e1, e2, e3, e4, A, s⟩ := someI_yes h
  obtain rfl : lo = L := by omega
  obtain rfl : hi = H := by omega
  obtain rfl : b = B := by omega
  obtain rfl : o = O := by omega
  obtain ⟨n, _, hn⟩ := of_some A s
  exact ⟨A, s, n, hn⟩
theorem ok_okN {lo hi b o : Nat} (h : okB lo hi b o = true) : OkN lo hi b o := by
  obtain ⟨L, H, B, O, e1, e2, e3, e4, A⟩ := ok_nat h
  obtain rfl : lo = L := by omega
  obtain rfl : hi = H := by omega
  obtain rfl : b = B := by omega
  obtain rfl : o = O := by omega
  exact A

/-- Two ranges of which numbers are, joined. -/
structure Joined (a b c d e f g h x y z u : Nat) : Prop where
  A : OkN a b c d
  B : OkN e f g h
  someA : ∃ n, OfN a b c d n
  someB : ∃ n, OfN e f g h n
  ok : OkN x y z u
  ofA : ∀ n, OfN a b c d n → OfN x y z u n
  ofB : ∀ n, OfN e f g h n → OfN x y z u n
  imp : AnsV 35 #[rv a b c d, rv e f g h] (rv x y z u)
  spc : AnsV 36 #[rv a b c d, rv e f g h] (rv x y z u)
  imp' : AnsV 35 #[rv e f g h, rv a b c d] (rv x y z u)

theorem join_cases (a b c d e f g h : Nat) : (∃ x y z u : Nat, Joined a b c d e f g h x y z u) ∨
    (AnsV 35 #[rv a b c d, rv e f g h] (rv 1 0 0 0) ∧ AnsV 36 #[rv a b c d, rv e f g h] (rv 1 0 0 0)) := by
  cases hs : (someI a b c d && someI e f g h)
  · exact .inr ⟨fun w => c_Join_no a b c d e f g h w hs, fun w => c_specJoin_no a b c d e f g h w hs⟩
  · obtain ⟨h1, h2⟩ := Bool.and_eq_true_iff.1 hs
    obtain ⟨A, s1, n, hn⟩ := some_nat h1
    obtain ⟨B, s2, m, hm⟩ := some_nat h2
    have J := join_ok A B
    have M := join_of A B hn
    refine .inl ⟨_, _, _, _, A, B, ⟨n, hn⟩, ⟨m, hm⟩, tidy_ok J M, fun k hk => tidy_of J (join_of A B hk), fun k hk => tidy_of J ?_, fun w => c_Join_yes a b c d e f g h w A B s1 s2 hn, fun w => c_specJoin_yes a b c d e f g h w A B s1 s2, fun w => ?_⟩
    · have := join_of B A hk
      rwa [Nat.min_comm, Nat.max_comm, Nat.and_comm, Nat.or_comm h d, Nat.xor_comm g c] at this
    · have := c_Join_yes e f g h a b c d w B A s2 s1 hm
      rwa [Nat.min_comm e a, Nat.max_comm f b, Nat.and_comm g c, Nat.or_comm h d, Nat.xor_comm g c] at this

theorem okB_none : okB 1 0 0 0 = false := by decide

/-- The first tells no less. -/
structure InR (a b c d e f g h : Nat) : Prop where
  A : OkN a b c d
  B : OkN e f g h
  someA : ∃ n, OfN a b c d n
  sub : ∀ n, OfN a b c d n → OfN e f g h n
  imp : AnsB 39 #[rv a b c d, rv e f g h] true
  spc : AnsB 40 #[rv a b c d, rv e f g h] true
  self : AnsB 39 #[rv a b c d, rv a b c d] true

theorem in_sub {a b c d e f g h n : Nat} (A : OkN a b c d) (B : OkN e f g h) (hi : inR a b c d e f g h = true) (hn : OfN a b c d n) : OfN e f g h n := by
  simp only [inR, Bool.and_eq_true, decide_eq_true_eq, beq_iff_eq] at hi
  obtain ⟨⟨⟨h1, h2⟩, h3⟩, h4⟩ := hi
  refine ⟨Nat.le_trans h1 hn.lo, Nat.le_trans hn.hi h2, ?_⟩
  have hc : n &&& notB d = c := by simpa [hasN] using hn.has
  simp only [hasN, beq_iff_eq]
  rw [← h4, ← hc]
  apply Nat.eq_of_testBit_eq
  intro i
  simp only [Nat.testBit_and, not_bit]
  have k := congrArg (fun z => z.testBit i) h3
  simp only [Nat.testBit_and] at k
  by_cases hi : i < 32
  · revert k
    simp only [hi, decide_true]
    cases n.testBit i <;> cases d.testBit i <;> cases h.testBit i <;> simp
  · simp [high_bit (Nat.le_trans hn.hi A.hi) hi]
theorem in_self {a b c d : Nat} (A : OkN a b c d) : inR a b c d a b c d = true := by
  simp only [inR, Bool.and_eq_true, decide_eq_true_eq, beq_iff_eq]
  refine ⟨⟨⟨Nat.le_refl _, Nat.le_refl _⟩, Nat.and_self _⟩, ?_⟩
  apply Nat.eq_of_testBit_eq
  intro i
  rw [Nat.testBit_and, not_bit]
  have k := disj_bit A.d i
  by_cases hi : i < 32
  · revert k
    cases c.testBit i <;> cases d.testBit i <;> simp [hi]
  · simp [high_bit A.b hi]

theorem in_cases (a b c d e f g h : Nat) : InR a b c d e f g h ∨ (AnsB 39 #[rv a b c d, rv e f g h] false ∧ AnsB 40 #[rv a b c d, rv e f g h] false) := by
  cases hs : (someI a b c d && someI e f g h)
  · exact .inr ⟨fun w => c_In_no a b c d e f g h w hs, fun w => c_specIn_no a b c d e f g h w hs⟩
  · obtain ⟨h1, h2⟩ := Bool.and_eq_true_iff.1 hs
    obtain ⟨A, s1, n, hn⟩ := some_nat h1
    obtain ⟨B, s2, m, hm⟩ := some_nat h2
    cases hi : inR a b c d e f g h
    · exact .inr ⟨fun w => by have := c_In_yes a b c d e f g h w A B s1 s2; rwa [hi] at this, fun w => by have := c_specIn_yes a b c d e f g h w A B s1 s2; rwa [hi] at this⟩
    · exact .inl ⟨A, B, ⟨n, hn⟩, fun k hk => in_sub A B hi hk, fun w => by have := c_In_yes a b c d e f g h w A B s1 s2; rwa [hi] at this, fun w => by have := c_specIn_yes a b c d e f g h w A B s1 s2; rwa [hi] at this, fun w => by have := c_In_yes a b c d a b c d w A A s1 s1; rwa [in_self A] at this⟩

/-- What is of both. -/
structure Met (a b c d e f g h x y z u : Nat) : Prop where
  ok : OkN x y z u
  has : ∀ n : Int, hasI x y z u n = (hasI a b c d n && hasI e f g h n)
  imp : AnsV 32 #[rv a b c d, rv e f g h] (.tuple #[rv x y z u, .bool true])
  spc : AnsV 33 #[rv a b c d, rv e f g h] (.tuple #[rv x y z u, .bool true])
  imp' : AnsV 32 #[rv e f g h, rv a b c d] (.tuple #[rv x y z u, .bool true])
structure Apart (a b c d e f g h : Nat) : Prop where
  has : ∀ n : Int, (hasI a b c d n && hasI e f g h n) = false
  imp : AnsV 32 #[rv a b c d, rv e f g h] (.tuple #[rv 1 0 0 0, .bool false])
  spc : AnsV 33 #[rv a b c d, rv e f g h] (.tuple #[rv 1 0 0 0, .bool false])
  imp' : AnsV 32 #[rv e f g h, rv a b c d] (.tuple #[rv 1 0 0 0, .bool false])

/-- Of both, and of what they have in common. -/
theorem meet_of {a b c d e f g h n : Nat} (A : OkN a b c d) (B : OkN e f g h) : (OfN a b c d n ∧ OfN e f g h n) ↔ (clashN c d g h = 0 ∧ OfN (max a e) (min b f) (c ||| g) (d &&& h) n) := by
  constructor
  · rintro ⟨h1, h2⟩
    have e1 : n &&& notB d = c := by simpa [hasN] using h1.has
    have e2 : n &&& notB h = g := by simpa [hasN] using h2.has
    have hn : n ≤ 4294967295 := Nat.le_trans h1.hi A.hi
    have b1 : ∀ i, c.testBit i = (n.testBit i && (notB d).testBit i) := fun i => by rw [← e1, Nat.testBit_and]
    have b2 : ∀ i, g.testBit i = (n.testBit i && (notB h).testBit i) := fun i => by rw [← e2, Nat.testBit_and]
    refine ⟨?_, ⟨Nat.max_le.2 ⟨h1.lo, h2.lo⟩, Nat.le_min.2 ⟨h1.hi, h2.hi⟩, ?_⟩⟩
    · apply Nat.eq_of_testBit_eq
      intro i
      simp only [clashN, Nat.testBit_and, Nat.testBit_or, not_bit, b1, b2, Nat.zero_testBit]
      by_cases hi : i < 32
      · simp only [hi, decide_true]
        cases n.testBit i <;> cases d.testBit i <;> cases h.testBit i <;> rfl
      · simp [hi, high_bit hn hi]
    · simp only [hasN, beq_iff_eq]
      apply Nat.eq_of_testBit_eq
      intro i
      simp only [Nat.testBit_and, Nat.testBit_or, not_bit, b1, b2]
      by_cases hi : i < 32
      · simp only [hi, decide_true]
        cases n.testBit i <;> cases d.testBit i <;> cases h.testBit i <;> rfl
      · simp [hi, high_bit hn hi]
  · rintro ⟨hc, hm⟩
    have l1 := hm.lo
    have l2 := hm.hi
    have hn : n ≤ 4294967295 := by have := A.hi; omega
    have e1 : n &&& notB (d &&& h) = c ||| g := by simpa [hasN] using hm.has
    have key : ∀ i, i < 32 → (n.testBit i && !(d.testBit i && h.testBit i)) = (c.testBit i || g.testBit i) := by
      intro i hi
      have := congrArg (fun z => z.testBit i) e1
      simpa [Nat.testBit_and, Nat.testBit_or, not_bit, hi] using this
    have kc : ∀ i, i < 32 → ((c.testBit i || g.testBit i) && !((c.testBit i || d.testBit i) && (g.testBit i || h.testBit i))) = false := by
      intro i hi
      have := congrArg (fun z => z.testBit i) hc
      simpa [clashN, Nat.testBit_and, Nat.testBit_or, not_bit, hi] using this
    refine ⟨⟨by omega, by omega, ?_⟩, ⟨by omega, by omega, ?_⟩⟩
    · rw [has_bit hn A.b]
      intro i hi
      have k1 := key i hi
      have k2 := kc i hi
      have k3 := disj_bit A.d i
      have k4 := disj_bit B.d i
      revert k1 k2 k3 k4
      cases n.testBit i <;> cases d.testBit i <;> cases h.testBit i <;> cases c.testBit i <;> cases g.testBit i <;> simp
    · rw [has_bit hn B.b]
      intro i hi
      have k1 := key i hi
      have k2 := kc i hi
      have k3 := disj_bit A.d i
      have k4 := disj_bit B.d i
      revert k1 k2 k3 k4
      cases n.testBit i <;> cases d.testBit i <;> cases h.testBit i <;> cases c.testBit i <;> cases g.testBit i <;> simp

theorem hasI_iff {a b c d : Nat} (A : OkN a b c d) (n : Int) : hasI a b c d n = true ↔ ∃ N : Nat, n = N ∧ OfN a b c d N := by
  constructor
  · intro h
    obtain ⟨L, H, B, O, N, e1, e2, e3, e4, rfl, k1, k2⟩ := of_hasI h
    obtain rfl : a = L := by omega
    obtain rfl : b = H := by omega
    obtain rfl : c = B := by omega
    obtain rfl : d = O := by omega
    exact ⟨N, rfl, k2⟩
  · rintro ⟨N, rfl, h⟩
    exact hasI_of A h

theorem clash_comm (c d g h : Nat) : clashN g h c d = clashN c d g h := by
  rw [clashN, clashN, Nat.or_comm g c, Nat.and_comm (g ||| h)]
theorem meetB_comm (a b c d e f g h : Nat) : meetB e f g h a b c d = meetB a b c d e f g h := by
  rw [meetB, meetB, clash_comm, Nat.max_comm e a, Nat.min_comm f b, Nat.or_comm g c, Nat.and_comm h d]

theorem meet_no_imp {a b c d e f g h : Nat} (A : OkN a b c d) (B : OkN e f g h) (hm : meetB a b c d e f g h = false) : AnsV 32 #[rv a b c d, rv e f g h] (.tuple #[rv 1 0 0 0, .bool false]) := by
  intro w
  by_cases hc : clashN c d g h = 0
  · refine c_Meet_no4 a b c d e f g h w A B hc (fun w => ?_)
    by_cases hle : max a e ≤ min b f
    · have J := meet_ok A B hle
      have e1 : decide (max a e ≤ min b f) = true := by simpa using hle
      have e2 : (clashN c d g h == 0) = true := by simpa using hc
      rw [meetB, e2, e1] at hm
      have := c_RangeSome (max a e) (min b f) (c ||| g) (d &&& h) w J
      rw [show someN (max a e) (min b f) (c ||| g) (d &&& h) = false by simpa using hm, show ((max a e : Nat) : Int) = max (a : Int) e by omega, show ((min b f : Nat) : Int) = min (b : Int) f by omega] at this
      exact this
    · exact c_RangeSome_bad _ _ _ _ w (by simp [okB, inB]; omega)
  · exact c_Meet_no3 a b c d e f g h w A B hc

theorem meet_cases (a b c d e f g h : Nat) : (∃ x y z u : Nat, Met a b c d e f g h x y z u) ∨ Apart a b c d e f g h := by
  cases k1 : okB a b c d
  · refine .inr ⟨fun n => by simp [hasI, k1], fun w => c_Meet_no1 a b c d e f g h w k1, fun w => c_specMeet_no1 a b c d e f g h w k1, fun w => ?_⟩
    cases k2 : okB e f g h
    · exact c_Meet_no1 e f g h a b c d w k2
    · exact c_Meet_no2 e f g h a b c d w k2 k1
  cases k2 : okB e f g h
  · exact .inr ⟨fun n => by simp [hasI, k2], fun w => c_Meet_no2 a b c d e f g h w k1 k2, fun w => c_specMeet_no2 a b c d e f g h w k1 k2, fun w => c_Meet_no1 e f g h a b c d w k2⟩
  have A := ok_okN k1
  have B := ok_okN k2
  cases hm : meetB a b c d e f g h
  · refine .inr ⟨fun n => ?_, meet_no_imp A B hm, fun w => c_specMeet_no3 a b c d e f g h w A B hm, meet_no_imp B A ((meetB_comm a b c d e f g h).trans hm)⟩
    cases hh : (hasI a b c d n && hasI e f g h n)
    · rfl
    · obtain ⟨q1, q2⟩ := Bool.and_eq_true_iff.1 hh
      obtain ⟨N, rfl, o1⟩ := (hasI_iff A n).1 q1
      obtain ⟨M, e0, o2⟩ := (hasI_iff B N).1 q2
      obtain rfl : N = M := by omega
      obtain ⟨hc, hof⟩ := (meet_of A B).1 ⟨o1, o2⟩
      have hle : max a e ≤ min b f := Nat.le_trans hof.lo hof.hi
      have := some_of (meet_ok A B hle) hof
      rw [meetB, this] at hm
      simp [hc] at hm
      omega
  · obtain ⟨hc, J, hs⟩ := meet_yes A B hm
    obtain ⟨m, _, hof⟩ := of_some J hs
    have V : ∀ w, Calls Try.prog 32 #[rv e f g h, rv a b c d] w fun ee w' => ee = .returned (.tuple #[meetV a b c d e f g h, .bool true]) ∧ Below w.heap.size w w' := by
      intro w
      have := c_Meet_yes e f g h a b c d w B A ((clash_comm c d g h).trans hc) (by rw [Nat.max_comm, Nat.min_comm, Nat.or_comm, Nat.and_comm h d]; exact J) (by rw [Nat.max_comm, Nat.min_comm, Nat.or_comm, Nat.and_comm h d]; exact hs)
      unfold meetV at this ⊢
      rwa [Nat.max_comm e a, Nat.min_comm f b, Nat.or_comm g c, Nat.and_comm h d] at this
    refine .inl ⟨_, _, _, _, tidy_ok J hof, fun n => ?_, fun w => c_Meet_yes a b c d e f g h w A B hc J hs, fun w => c_specMeet_yes a b c d e f g h w A B hm, V⟩
    rw [Bool.eq_iff_iff, Bool.and_eq_true, hasI_iff (tidy_ok J hof), hasI_iff A, hasI_iff B]
    constructor
    · rintro ⟨N, rfl, hN⟩
      obtain ⟨o1, o2⟩ := (meet_of A B).2 ⟨hc, of_tidy J hof hN⟩
      exact ⟨⟨N, rfl, o1⟩, ⟨N, rfl, o2⟩⟩
    · rintro ⟨⟨N, rfl, o1⟩, ⟨M, e0, o2⟩⟩
      obtain rfl : N = M := by omega
      exact ⟨N, rfl, tidy_of J ((meet_of A B).1 ⟨o1, o2⟩).2⟩
end Go.Proofs.Yteiglpijjffneaa
