/- The contract of sgSome. -/
import Derived.Test.YtnebjocnbfoafaaOK2
namespace Go.Proofs.Ytnebjocnbfoafaa
open Go.RowKit
set_option linter.unusedVariables false
set_option linter.unusedSimpArgs false

/-- What a round of sgSome leaves: x begins further on, and has a number. -/
def RoundS (lo hi b o : Nat) (w : World) (R X : Nat) (t : Value) (wr : World) : Prop :=
  ∃ (n m : Nat), t = .int .i64 n ∧ n ≤ 4 ∧ lo ≤ m ∧ (∃ k, OfN m hi b o k) ∧ OkN m hi b o ∧ RBox wr R lo hi b o ∧ RBox wr X m hi b o ∧ Below w.heap.size w wr

theorem OfN.wider {lo m hi b o k : Nat} (h : OfN m hi b o k) (hl : lo ≤ m) : OfN lo hi b o k := ⟨Nat.le_trans hl h.lo, h.hi, h.has⟩

/-- The least of a range that is ok and has a number. -/
theorem least_of {lo hi b o k : Nat} (hok : OkN lo hi b o) (hk : OfN lo hi b o k) : ∃ n : Nat, OfN lo hi b o n ∧ CR 12 #[rv lo hi b o] (.int .i64 n) := by
  obtain ⟨n, hn, hof⟩ := of_some hok (some_of hok hk)
  exact ⟨n, hof, least_is hok hn hof⟩
/-- The least of a range that begins further on. -/
theorem least_at (m hi b o : Nat) : (∃ n : Nat, OkN m hi b o ∧ OfN m hi b o n ∧ CR 12 #[rv m hi b o] (.int .i64 n)) ∨ CR 12 #[rv m hi b o] (.int .i64 (-1)) := by
  cases hb : okB (m : Int) hi b o
  · exact .inr fun w => c_RangeLeast_bad m hi b o w hb
  · obtain ⟨L, H, B, O, e1, e2, e3, e4, hok⟩ := ok_nat hb
    obtain rfl : m = L := by omega
    obtain rfl : hi = H := by omega
    obtain rfl : b = B := by omega
    obtain rfl : o = O := by omega
    cases hs : someN m hi b o
    · have hl : leastR m hi b o = -1 := by simp [leastR, hs]
      exact .inr fun w => by have := c_RangeLeast m hi b o w hok; rw [hl] at this; exact this
    · obtain ⟨n, hn, hof⟩ := of_some hok hs
      exact .inl ⟨n, hok, hof, least_is hok hn hof⟩
theorem int_predO {n : Nat} (h : 0 < n) : (Value.int .i64 ((n : Int) - 1)) = .int .i64 ((n - 1 : Nat) : Int) := by congr 1; omega

set_option maxRecDepth 100000 in
set_option maxHeartbeats 4000000 in
theorem some_s (lo hi b o k far : Nat) (w : World) (hok : OkN lo hi b o) (hk : OfN lo hi b o k) (hf : far ≤ 1048576) :
    Calls Try.prog 9 #[rv lo hi b o, .int .i64 far] w fun e w' => (∃ n : Nat, e = .returned (.int .i64 n) ∧ OfN lo hi b o n) ∧ Below w.heap.size w w' := by
  have hf5 : (far : Int) % 5 ≤ 4 := by omega
  have hf6 : (far : Int) % 5 = ((far % 5 : Nat) : Int) := by omega
  have R0 := hid ((RBox.new w lo hi b o).alloc (cellsR4 lo hi b o))
  have X0 : Hid (RBox ((w.alloc (cellsR4 lo hi b o)).alloc (cellsR4 lo hi b o)) (w.heap.size + 1) lo hi b o) := by
    have h0 := RBox.new (w.alloc (cellsR4 lo hi b o)) lo hi b o
    simp only [World.size_alloc] at h0
    exact h0
  have B0 := hid (newB w (cellsR4 lo hi b o) (cellsR4 lo hi b o))
  go_enter Try.func9, Try.ntmps9
  go_wp2_with fail
  generalize (w.alloc (cellsR4 lo hi b o)).alloc (cellsR4 lo hi b o) = w1 at *
  have Hst := hid (show RoundS lo hi b o w w.heap.size (w.heap.size + 1) (.int .i64 ((far % 5 : Nat) : Int)) w1 from ⟨far % 5, lo, rfl, by omega, Nat.le_refl _, ⟨k, hk⟩, hok, R0.out, X0.out, B0.out⟩)
  have HO := hid hok
  have HKK := hid hk
  clear R0 X0 B0 hok hk
  go_loopw [6] (fun t wr => RoundS lo hi b o w w.heap.size (w.heap.size + 1) t wr) (fun t _ => (intOf t).toNat)
  case atStart =>
    have := Hst.out
    rw [← hf6] at this
    simpa using this
  case round =>
    obtain ⟨n, m, rfl, hn4, hm, ⟨k1, hk1⟩, hokm, r, x, bb⟩ := hrel
    obtain ⟨n1, hn1, a1⟩ := least_of hokm hk1
    have A1 := hid a1
    have HR := hid r
    have HX := hid x
    have HB := hid bb
    have hn1' : n1 ≤ 4294967295 := Nat.le_trans hn1.hi hokm.hi
    have hn1l : lo ≤ n1 := Nat.le_trans hm hn1.lo
    clear a1 r x bb Hst hf5 hf6 hk1 hokm
    by_cases hn : (n : Int) > 0
    · obtain ⟨c0, c1, c2, c3⟩ := RBox.box HX.out
      go_wp2_with fail
      refine (A1.out _).mono ?_
      rintro e w2 ⟨rfl, b2⟩
      have HX2 := hid (HX.out.below b2)
      have HR2 := hid (HR.out.below b2)
      have HB2 := hid (HB.out.to b2)
      clear b2 HX HR HB c0 c1 c2 c3
      obtain ⟨M, hM⟩ : ∃ M : Nat, (M : Int) = (n1 : Int) + 1 + far * 31 := ⟨n1 + 1 + far * 31, by omega⟩
      have hM' : lo ≤ M := by omega
      have q1 : IntKind.i64.wrap ((far : Int) * 31) = far * 31 := wrap_id (by omega) (by omega)
      have q2 : IntKind.i64.wrap ((n1 : Int) + 1 + far * 31) = (M : Int) := by rw [← hM]; exact wrap_id (by omega) (by omega)
      have fx := RBox.frozen HX2.out
      obtain ⟨c0, c1, c2, c3⟩ := RBox.box HX2.out
      have HX3 := hid (HX2.out.set0 M)
      have HR3 := hid (HR2.out.other ⟨w.heap.size + 1, 0, none⟩ (.int .i64 M) (show w.heap.size ≠ w.heap.size + 1 by omega))
      have HB3 := hid (HB2.out.setCell (p := ⟨w.heap.size + 1, 0, none⟩) (show w.heap.size ≤ w.heap.size + 1 by omega) (.int .i64 M))
      obtain ⟨d0, d1, d2, d3⟩ := RBox.box HX3.out
      clear HX2 HR2 HB2
      rw [hM] at d0 d1 d2 d3
      go_wp2_with fail
      rw [← hM]
      clear d0 d1 d2 d3 c0 c1 c2 c3 q1 q2 hM fx A1
      generalize w2.setCell ⟨w.heap.size + 1, 0, none⟩ (.int .i64 (M : Int)) = w3 at *
      have ec : (Value.int .i64 ((n : Int) - 1)) = .int .i64 ((n - 1 : Nat) : Int) := int_predO (by omega)
      have en : n - 1 ≤ 4 := by omega
      rcases least_at M hi b o with ⟨n2, hokM, hn2, a2⟩ | a2
      · refine (a2 _).mono ?_
        rintro e w4 ⟨rfl, b4⟩
        have HX4 := hid (HX3.out.below b4)
        have HR4 := hid (HR3.out.below b4)
        have HB4 := hid (HB3.out.to b4)
        have n20 : (0 : Int) ≤ n2 := by omega
        have hn2' := hid hn2
        clear b4 HX3 HR3 HB3 a2 hn2
        go_wp2_with fail
        refine ⟨?_, by simp [intOf]; omega⟩
        rw [ec]
        exact ⟨n - 1, M, rfl, en, hM', ⟨n2, hn2'.out⟩, hokM, HR4.out, HX4.out, HB4.out⟩
      · obtain ⟨n0, hn0, a0⟩ := least_of HO.out HKK.out
        have A0 := hid a0
        have HN0 := hid hn0
        refine (a2 _).mono ?_
        rintro e w4 ⟨rfl, b4⟩
        have HR4 := hid (HR3.out.below b4)
        have HB4 := hid (HB3.out.to b4)
        clear b4 HX3 HR3 HB3 a2 a0 hn0
        obtain ⟨c0, c1, c2, c3⟩ := RBox.box HR4.out
        go_wp2_with fail
        refine (A0.out _).mono ?_
        rintro e w5 ⟨rfl, b5⟩
        have HB5 := hid (HB4.out.to b5)
        clear b5 HR4 HB4
        go_wp2_with fail
        go_ret
        exact ⟨⟨n0, rfl, HN0.out⟩, HB5.out⟩
    · obtain ⟨c0, c1, c2, c3⟩ := RBox.box HX.out
      have HN := hid (hn1.wider hm)
      clear hn1 hn1'
      go_wp2_with fail
      refine (A1.out _).mono ?_
      rintro e w5 ⟨rfl, b5⟩
      have HB5 := hid (HB.out.to b5)
      clear b5 HR HB HX
      go_wp2_with fail
      go_ret
      exact ⟨⟨n1, rfl, HN.out⟩, HB5.out⟩

theorem some_i (lo hi b o k : Nat) (far : Int) (w : World) (hok : OkN lo hi b o) (hk : OfN lo hi b o k) (h0 : 0 ≤ far) (hf : far ≤ 1048576) :
    Calls Try.prog 9 #[rv lo hi b o, .int .i64 far] w fun e w' => (∃ n : Nat, e = .returned (.int .i64 n) ∧ OfN lo hi b o n) ∧ Below w.heap.size w w' := by
  obtain ⟨f, rfl⟩ : ∃ f : Nat, far = f := ⟨far.toNat, by omega⟩
  exact some_s lo hi b o k f w hok hk (by omega)
end Go.Proofs.Ytnebjocnbfoafaa
