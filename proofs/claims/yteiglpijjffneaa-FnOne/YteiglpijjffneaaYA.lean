/- Answers: what the functions over ranges answer, in the two cases that matter. -/
import Derived.Test.YteiglpijjffneaaPT
import Derived.Test.YteiglpijjffneaaRN
import Derived.Test.YteiglpijjffneaaRP
namespace Go.Proofs.Yteiglpijjffneaa
open Go.RowKit
set_option linter.unusedVariables false
set_option linter.unusedSimpArgs false

abbrev AnsB (f : Nat) (args : Array Value) (q : Bool) : Prop := ∀ w, Calls Try.prog f args w fun e w' => e = .returned (.bool q) ∧ Below w.heap.size w w'
abbrev AnsI (f : Nat) (args : Array Value) (q : Int) : Prop := ∀ w, Calls Try.prog f args w fun e w' => e = .returned (.int .i64 q) ∧ Below w.heap.size w w'
abbrev AnsV (f : Nat) (args : Array Value) (v : Value) : Prop := ∀ w, Calls Try.prog f args w fun e w' => e = .returned v ∧ Below w.heap.size w w'

theorem of_hasI {lo hi b o n : Int} (h : hasI lo hi b o n = true) : ∃ L H B O N : Nat, lo = L ∧ hi = H ∧ b = B ∧ o = O ∧ n = N ∧ OkN L H B O ∧ OfN L H B O N := by
  simp only [hasI, Bool.and_eq_true, decide_eq_true_eq] at h
  obtain ⟨⟨⟨h1, h2⟩, h3⟩, h4⟩ := h
  obtain ⟨L, H, B, O, rfl, rfl, rfl, rfl, hok⟩ := ok_nat h1
  refine ⟨L, H, B, O, n.toNat, rfl, rfl, rfl, rfl, by omega, hok, ⟨by omega, by omega, ?_⟩⟩
  simpa using h4
theorem hasI_of {L H B O N : Nat} (h : OkN L H B O) (hn : OfN L H B O N) : hasI L H B O N = true := by
  rw [has_in h]
  simp [hn.lo, hn.hi, hn.has]
theorem hasI_eq {L H B O L' H' B' O' : Nat} {n : Int} (h : OkN L H B O) (h' : OkN L' H' B' O') (hh : ∀ N : Nat, OfN L H B O N ↔ OfN L' H' B' O' N) : hasI L H B O n = hasI L' H' B' O' n := by
  rw [Bool.eq_iff_iff]
  constructor
  · intro k
    obtain ⟨l, hi, b, o, N, e1, e2, e3, e4, rfl, k1, k2⟩ := of_hasI k
    obtain rfl : L = l := by omega
    obtain rfl : H = hi := by omega
    obtain rfl : B = b := by omega
    obtain rfl : O = o := by omega
    exact hasI_of h' ((hh N).1 k2)
  · intro k
    obtain ⟨l, hi, b, o, N, e1, e2, e3, e4, rfl, k1, k2⟩ := of_hasI k
    obtain rfl : L' = l := by omega
    obtain rfl : H' = hi := by omega
    obtain rfl : B' = b := by omega
    obtain rfl : O' = o := by omega
    exact hasI_of h ((hh N).2 k2)

/-- A range with a least number. -/
structure Least (lo hi b o : Int) (L H B O n : Nat) : Prop where
  e1 : lo = L
  e2 : hi = H
  e3 : b = B
  e4 : o = O
  ok : OkN L H B O
  of : OfN L H B O n
  least : ∀ m, OfN L H B O m → n ≤ m
  some : someN L H B O = true
  imp : AnsI 20 #[rv lo hi b o] n
  spc : AnsI 29 #[rv lo hi b o] n
  imps : AnsB 24 #[rv lo hi b o] true
  spcs : AnsB 28 #[rv lo hi b o] true
structure Empty (lo hi b o : Int) : Prop where
  has : ∀ n : Int, hasI lo hi b o n = false
  imp : AnsI 20 #[rv lo hi b o] (-1)
  spc : AnsI 29 #[rv lo hi b o] (-1)
  imps : AnsB 24 #[rv lo hi b o] false
  spcs : AnsB 28 #[rv lo hi b o] false

theorem least_cases (lo hi b o : Int) : (∃ L H B O n : Nat, Least lo hi b o L H B O n) ∨ Empty lo hi b o := by
  cases hb : okB lo hi b o
  · refine .inr ⟨fun n => by simp [hasI, hb], fun w => c_RangeLeast_bad lo hi b o w hb, fun w => c_specLeast_bad lo hi b o w hb, fun w => c_RangeSome_bad lo hi b o w hb, fun w => c_specSome_bad lo hi b o w hb⟩
  · obtain ⟨L, H, B, O, rfl, rfl, rfl, rfl, hok⟩ := ok_nat hb
    cases hs : someN L H B O
    · have hl : leastR L H B O = -1 := by simp [leastR, hs]
      refine .inr ⟨fun n => ?_, fun w => by have := c_RangeLeast L H B O w hok; rwa [hl] at this, fun w => by have := c_specLeast L H B O w hok; rwa [hl] at this, fun w => by have := c_RangeSome L H B O w hok; rwa [hs] at this, fun w => by have := c_specSome L H B O w hok; rwa [hs] at this⟩
      cases hh : hasI L H B O n
      · rfl
      · obtain ⟨l, hi, b, o, N, e1, e2, e3, e4, rfl, k1, k2⟩ := of_hasI hh
        obtain rfl : L = l := by omega
        obtain rfl : H = hi := by omega
        obtain rfl : B = b := by omega
        obtain rfl : O = o := by omega
        rw [some_of k1 k2] at hs
        cases hs
    · obtain ⟨n, hn, hof⟩ := of_some hok hs
      have hl : leastR L H B O = n := by simp [leastR, hs, hn]
      refine .inl ⟨L, H, B, O, n, rfl, rfl, rfl, rfl, hok, hof, fun m hm => ?_, hs, fun w => by have := c_RangeLeast L H B O w hok; rwa [hl] at this, fun w => by have := c_specLeast L H B O w hok; rwa [hl] at this, fun w => by have := c_RangeSome L H B O w hok; rwa [hs] at this, fun w => by have := c_specSome L H B O w hok; rwa [hs] at this⟩
      have h3 := (next_le hok.lo hok.b hok.o hok.d (Nat.le_trans hm.hi hok.hi) hm.has hm.lo).2
      omega

theorem Empty.nok {lo hi b o : Nat} {n : Nat} (h : Empty lo hi b o) (hok : OkN lo hi b o) (hn : OfN lo hi b o n) : False := by
  have := hasI_of hok hn
  rw [h.has] at this
  cases this
theorem Least.has {lo hi b o : Int} {L H B O n : Nat} (h : Least lo hi b o L H B O n) : hasI lo hi b o n = true := by
  rw [h.e1, h.e2, h.e3, h.e4]
  exact hasI_of h.ok h.of
theorem Least.okB {lo hi b o : Int} {L H B O n : Nat} (h : Least lo hi b o L H B O n) : okB lo hi b o = true := by
  rw [h.e1, h.e2, h.e3, h.e4]
  exact okB_of h.ok

theorem ans_has (lo hi b o n : Int) {q : Bool} (h : hasI lo hi b o n = q) : AnsB 19 #[rv lo hi b o, .int .i64 n] q := fun w => h ▸ c_RangeHas lo hi b o n w
theorem ans_specHas (lo hi b o n : Int) {q : Bool} (h : hasI lo hi b o n = q) : AnsB 23 #[rv lo hi b o, .int .i64 n] q := fun w => h ▸ c_specHas lo hi b o n w
theorem ans_ok (lo hi b o : Int) {q : Bool} (h : okB lo hi b o = q) : AnsB 18 #[rv lo hi b o] q := fun w => h ▸ c_RangeOk lo hi b o w

/-- What tidying makes: the same numbers. -/
structure Tidied (lo hi b o : Int) (x y z u : Nat) : Prop where
  ok : OkN x y z u
  imp : AnsV 21 #[rv lo hi b o] (rv x y z u)
  spc : AnsV 26 #[rv lo hi b o] (rv x y z u)

theorem Least.tidy {lo hi b o : Int} {L H B O n : Nat} (h : Least lo hi b o L H B O n) : ∃ x y z u : Nat, Tidied lo hi b o x y z u ∧ (∀ m, OfN L H B O m ↔ OfN x y z u m) ∧ L ≤ x ∧ y ≤ H ∧ u &&& O = u := by
  obtain ⟨rfl, rfl, rfl, rfl, hok, hof, hle, hs, -, -, -, -⟩ := h
  refine ⟨_, _, _, _, ⟨tidy_ok hok hof, fun w => c_RangeTidy L H B O w hok hs, fun w => c_specTidy L H B O w hok hs⟩, fun m => ⟨fun k => tidy_of hok k, fun k => of_tidy hok hof k⟩, Nat.le_max_left _ _, Nat.min_le_left _ _, ?_⟩
  rw [tO, Nat.and_assoc, Nat.and_comm (maskOf _) O, ← Nat.and_assoc, Nat.and_self]
theorem Empty.tidy {lo hi b o : Int} (h : Empty lo hi b o) : AnsV 21 #[rv lo hi b o] (rv 1 0 0 0) ∧ AnsV 26 #[rv lo hi b o] (rv 1 0 0 0) := by
  cases hb : Go.Proofs.Yteiglpijjffneaa.okB lo hi b o
  · exact ⟨fun w => c_RangeTidy_bad lo hi b o w hb, fun w => c_specTidy_bad lo hi b o w hb⟩
  · obtain ⟨L, H, B, O, rfl, rfl, rfl, rfl, hok⟩ := ok_nat hb
    cases hs : someN L H B O
    · exact ⟨fun w => c_RangeTidy_none L H B O w hok hs, fun w => c_specTidy_none L H B O w hok hs⟩
    · obtain ⟨n, hn, hof⟩ := of_some hok hs
      exact (h.nok hok hof).elim
end Go.Proofs.Yteiglpijjffneaa
