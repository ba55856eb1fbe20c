/- Branches: both part alike, whatever is asked. -/
import Derived.Test.YtcigdckmiibgmabBI
namespace Go.Proofs.Ytcigdckmiibgmab
open Go.RowKit
set_option linter.unusedVariables false
set_option linter.unusedSimpArgs false

abbrev someP (p : Int × Int × Int × Int) : Bool := someI p.1 p.2.1 p.2.2.1 p.2.2.2
abbrev noP : Int × Int × Int × Int := (1, 0, 0, 0)
def Alike (P P' R R' : Int × Int × Int × Int) (q : Bool) : Prop :=
  (q = true ∧ P = R ∧ P' = R' ∧ someP R = true ∧ someP R' = true) ∨ (q = false ∧ P = noP ∧ P' = noP ∧ (someP R && someP R') = false)
/-- What the specification's parting answers, and what the program's does. -/
def Both (op : Int) (hl : Bool) (a b c d e f g h : Int) : Prop :=
  ∃ (P P' R R' : Int × Int × Int × Int) (q : Bool),
    (∀ w, Calls Try.prog 35 #[.int .i64 op, rv a b c d, rv e f g h, .bool hl] w fun ee w' => ee = .returned (.tuple #[rvP P, rvP P', .bool q]) ∧ Below w.heap.size w w') ∧
    (∀ w, Calls Try.prog 38 #[.int .i64 op, rv a b c d, rv e f g h, .bool hl] w fun ee w' => ee = .returned (.tuple #[rvP R, rvP R']) ∧ Below w.heap.size w w') ∧ Alike P P' R R' q

theorem both_less (a b c d e f g h : Nat) (A : OkN a b c d) (B : OkN e f g h) : Both 14 true a b c d e f g h := by
  have hA := A.le; have hA2 := A.hi; have hB := B.hi
  have I : ∀ w, Calls Try.prog 38 #[.int .i64 14, rv a b c d, rv e f g h, .bool true] w fun ee w' => ee = .returned (.tuple #[rvP (tidyP a (min b (f - 1)) c d), rvP (tidyP (max e (a + 1)) f g h)]) ∧ Below w.heap.size w w' := fun w =>
    w_part_less a b c d e f g h _ _ _ _ _ _ _ _ w (fun w => w_below a b c d e f g h _ _ _ _ _ _ _ _ w (by omega) (by omega) (by omega) (by omega) (fun w => c_RangeTidyI _ _ _ _ w) (fun w => c_RangeTidyI _ _ _ _ w))
  cases hq : lowQ a b c d e f g h 1
  · refine ⟨noP, noP, _, _, false, fun w => w_SB_less a b c d e f g h 1 0 0 0 1 0 0 0 false w (fun w => low_no a b c d e f g h 1 (by omega) (by omega) A B hq w), I, .inr ⟨rfl, rfl, rfl, ?_⟩⟩
    rw [someP, someP, someI_tidy, someI_tidy]; exact hq
  · refine ⟨_, _, _, _, true, fun w => w_SB_less a b c d e f g h _ _ _ _ _ _ _ _ true w (fun w => low_yes a b c d e f g h 1 (by omega) (by omega) A B hq w), I, .inl ⟨rfl, rfl, rfl, ?_, ?_⟩⟩
    · rw [someP, someI_tidy]; unfold lowQ at hq; simp at hq; exact hq.1
    · rw [someP, someI_tidy]; unfold lowQ at hq; simp at hq; exact hq.2

theorem both_more (a b c d e f g h : Nat) (A : OkN a b c d) (B : OkN e f g h) : Both 15 true a b c d e f g h := by
  have hA := A.le; have hA2 := A.hi; have hB := B.hi; have hB2 := B.le
  have I : ∀ w, Calls Try.prog 38 #[.int .i64 15, rv a b c d, rv e f g h, .bool true] w fun ee w' => ee = .returned (.tuple #[rvP (tidyP (max a (e + 1)) b c d), rvP (tidyP e (min f (b - 1)) g h)]) ∧ Below w.heap.size w w' := fun w =>
    w_part_more a b c d e f g h true _ _ _ _ _ _ _ _ w (fun w => w_part_less e f g h a b c d _ _ _ _ _ _ _ _ w (fun w => w_below e f g h a b c d _ _ _ _ _ _ _ _ w (by omega) (by omega) (by omega) (by omega) (fun w => c_RangeTidyI _ _ _ _ w) (fun w => c_RangeTidyI _ _ _ _ w)))
  cases hq : lowQ e f g h a b c d 1
  · refine ⟨noP, noP, _, _, false, fun w => w_SB_more a b c d e f g h 1 0 0 0 1 0 0 0 false w (fun w => low_no e f g h a b c d 1 (by omega) (by omega) B A hq w), I, .inr ⟨rfl, rfl, rfl, ?_⟩⟩
    rw [someP, someP, someI_tidy, someI_tidy, Bool.and_comm]; exact hq
  · refine ⟨_, _, _, _, true, fun w => w_SB_more a b c d e f g h _ _ _ _ _ _ _ _ true w (fun w => low_yes e f g h a b c d 1 (by omega) (by omega) B A hq w), I, .inl ⟨rfl, rfl, rfl, ?_, ?_⟩⟩
    · rw [someP, someI_tidy]; unfold lowQ at hq; simp at hq; exact hq.2
    · rw [someP, someI_tidy]; unfold lowQ at hq; simp at hq; exact hq.1

theorem low0 (a b c d e f g h : Int) : lowQ a b c d e f g h 0 = (someI a (min b f) c d && someI (max e a) f g h) := by
  rw [lowQ, Int.sub_zero, Int.add_zero]

theorem both_notless (a b c d e f g h : Nat) (A : OkN a b c d) (B : OkN e f g h) : Both 14 false a b c d e f g h := by
  have I : ∀ w, Calls Try.prog 38 #[.int .i64 14, rv a b c d, rv e f g h, .bool false] w fun ee w' => ee = .returned (.tuple #[rvP (tidyP (max a e) b c d), rvP (tidyP e (min f b) g h)]) ∧ Below w.heap.size w w' := fun w =>
    w_part_notless a b c d e f g h _ _ _ _ _ _ _ _ w (fun w => w_notBelow a b c d e f g h _ _ _ _ _ _ _ _ w (fun w => c_RangeTidyI _ _ _ _ w) (fun w => c_RangeTidyI _ _ _ _ w))
  cases hq : lowQ e f g h a b c d 0
  · refine ⟨noP, noP, _, _, false, fun w => w_SB_notless a b c d e f g h 1 0 0 0 1 0 0 0 false w (fun w => low_no e f g h a b c d 0 (by omega) (by omega) B A hq w), I, .inr ⟨rfl, rfl, rfl, ?_⟩⟩
    rw [low0] at hq
    rw [someP, someP, someI_tidy, someI_tidy, Bool.and_comm]; exact hq
  · have L := fun w => low_yes e f g h a b c d 0 (by omega) (by omega) B A hq w
    rw [Int.sub_zero, Int.add_zero] at L
    rw [low0] at hq
    refine ⟨_, _, _, _, true, fun w => w_SB_notless a b c d e f g h _ _ _ _ _ _ _ _ true w L, I, .inl ⟨rfl, rfl, rfl, ?_, ?_⟩⟩
    · rw [someP, someI_tidy]; simp at hq; exact hq.2
    · rw [someP, someI_tidy]; simp at hq; exact hq.1

theorem both_notmore (a b c d e f g h : Nat) (A : OkN a b c d) (B : OkN e f g h) : Both 15 false a b c d e f g h := by
  have I : ∀ w, Calls Try.prog 38 #[.int .i64 15, rv a b c d, rv e f g h, .bool false] w fun ee w' => ee = .returned (.tuple #[rvP (tidyP a (min b f) c d), rvP (tidyP (max e a) f g h)]) ∧ Below w.heap.size w w' := fun w =>
    w_part_more a b c d e f g h false _ _ _ _ _ _ _ _ w (fun w => w_part_notless e f g h a b c d _ _ _ _ _ _ _ _ w (fun w => w_notBelow e f g h a b c d _ _ _ _ _ _ _ _ w (fun w => c_RangeTidyI _ _ _ _ w) (fun w => c_RangeTidyI _ _ _ _ w)))
  cases hq : lowQ a b c d e f g h 0
  · refine ⟨noP, noP, _, _, false, fun w => w_SB_notmore a b c d e f g h 1 0 0 0 1 0 0 0 false w (fun w => low_no a b c d e f g h 0 (by omega) (by omega) A B hq w), I, .inr ⟨rfl, rfl, rfl, ?_⟩⟩
    rw [low0] at hq
    rw [someP, someP, someI_tidy, someI_tidy]; exact hq
  · have L := fun w => low_yes a b c d e f g h 0 (by omega) (by omega) A B hq w
    rw [Int.sub_zero, Int.add_zero] at L
    rw [low0] at hq
    refine ⟨_, _, _, _, true, fun w => w_SB_notmore a b c d e f g h _ _ _ _ _ _ _ _ true w L, I, .inl ⟨rfl, rfl, rfl, ?_, ?_⟩⟩
    · rw [someP, someI_tidy]; simp at hq; exact hq.1
    · rw [someP, someI_tidy]; simp at hq; exact hq.2

/-! the same, another one -/
def meetP (a b c d e f g h : Nat) : Int × Int × Int × Int := (((tLo (max a e) (min b f) (c ||| g) : Nat) : Int), ((tHi (max a e) (min b f) (c ||| g) (d &&& h) : Nat) : Int), ((tB (max a e) (min b f) (c ||| g) : Nat) : Int), ((tO (max a e) (min b f) (d &&& h) : Nat) : Int))
theorem someP_meet {a b c d e f g h : Nat} (A : OkN a b c d) (B : OkN e f g h) (hm : meetB a b c d e f g h = true) : someP (meetP a b c d e f g h) = true := by
  obtain ⟨hc, J, hs⟩ := meet_yes A B hm
  obtain ⟨n, _, hn⟩ := of_some J hs
  show someI _ _ _ _ = true
  rw [meetP]
  dsimp only
  rw [someI_nat (tidy_ok J hn)]
  exact some_of (tidy_ok J hn) (tidy_of J hn)
theorem impl_meet_no (a b c d e f g h : Nat) (A : OkN a b c d) (B : OkN e f g h) (hm : meetB a b c d e f g h = false) (w : World) :
    Calls Try.prog 15 #[rv a b c d, rv e f g h] w fun ee w' => ee = .returned (.tuple #[rv 1 0 0 0, .bool false]) ∧ Below w.heap.size w w' := by
  by_cases hc : clashN c d g h = 0
  · refine c_Meet_no4 a b c d e f g h w A B hc (fun w => ?_)
    by_cases hle : max a e ≤ min b f
    · have J := meet_ok A B hle
      have e1 : decide (max a e ≤ min b f) = true := by simpa using hle
      have e2 : (clashN c d g h == 0) = true := by simpa using hc
      rw [meetB, e2, e1] at hm
      have := c_RangeSome (max a e) (min b f) (c ||| g) (d &&& h) w J
      rw [show someN (max a e) (min b f) (c ||| g) (d &&& h) = false by simpa using hm, show ((max a e : Nat) : Int) = max (a : Int) e by omega, show ((min b f : Nat) : Int) = min (b : Int) f by omega] at this
      exact this
    · exact c_RangeSome_bad _ _ _ _ w (by simp [okB, inB]; omega)
  · exact c_Meet_no3 a b c d e f g h w A B hc
theorem impl_meet_yes (a b c d e f g h : Nat) (A : OkN a b c d) (B : OkN e f g h) (hm : meetB a b c d e f g h = true) (w : World) :
    Calls Try.prog 15 #[rv a b c d, rv e f g h] w fun ee w' => ee = .returned (.tuple #[rvP (meetP a b c d e f g h), .bool true]) ∧ Below w.heap.size w w' := by
  obtain ⟨hc, J, hs⟩ := meet_yes A B hm
  exact c_Meet_yes a b c d e f g h w A B hc J hs

theorem both_same (a b c d e f g h : Nat) (A : OkN a b c d) (B : OkN e f g h) : Both 12 true a b c d e f g h := by
  cases hm : meetB a b c d e f g h
  · exact ⟨noP, noP, noP, noP, false, fun w => w_SB_same a b c d e f g h 1 0 0 0 false w (fun w => c_l2Meet_no a b c d e f g h w A B hm), fun w => w_part_same a b c d e f g h 1 0 0 0 false w (fun w => impl_meet_no a b c d e f g h A B hm w), .inr ⟨rfl, rfl, rfl, by rw [show someP noP = false from someI_gt (by decide)]; rfl⟩⟩
  · exact ⟨meetP a b c d e f g h, meetP a b c d e f g h, meetP a b c d e f g h, meetP a b c d e f g h, true, fun w => w_SB_same a b c d e f g h _ _ _ _ true w (fun w => c_l2Meet_yes a b c d e f g h w A B hm), fun w => w_part_same a b c d e f g h _ _ _ _ true w (fun w => impl_meet_yes a b c d e f g h A B hm w), .inl ⟨rfl, rfl, rfl, someP_meet A B hm, someP_meet A B hm⟩⟩
theorem both_same2 (a b c d e f g h : Nat) (A : OkN a b c d) (B : OkN e f g h) : Both 13 false a b c d e f g h := by
  cases hm : meetB a b c d e f g h
  · exact ⟨noP, noP, noP, noP, false, fun w => w_SB_same2 a b c d e f g h 1 0 0 0 false w (fun w => c_l2Meet_no a b c d e f g h w A B hm), fun w => w_part_same2 a b c d e f g h 1 0 0 0 false w (fun w => impl_meet_no a b c d e f g h A B hm w), .inr ⟨rfl, rfl, rfl, by rw [show someP noP = false from someI_gt (by decide)]; rfl⟩⟩
  · exact ⟨meetP a b c d e f g h, meetP a b c d e f g h, meetP a b c d e f g h, meetP a b c d e f g h, true, fun w => w_SB_same2 a b c d e f g h _ _ _ _ true w (fun w => c_l2Meet_yes a b c d e f g h w A B hm), fun w => w_part_same2 a b c d e f g h _ _ _ _ true w (fun w => impl_meet_yes a b c d e f g h A B hm w), .inl ⟨rfl, rfl, rfl, someP_meet A B hm, someP_meet A B hm⟩⟩

theorem both_other (a b c d e f g h : Nat) (A : OkN a b c d) (B : OkN e f g h) (hA : someN a b c d = true) (hB : someN e f g h = true) : Both 12 false a b c d e f g h := by
  have S1 := fun w => apart_spec a b c d e f g h A B hA w
  have S2 := fun w => apart_spec e f g h a b c d B A hB w
  have I := fun w => w_part_other a b c d e f g h _ _ _ _ _ _ _ _ w (fun w => without_c a b c d e f g h A B w) (fun w => without_c e f g h a b c d B A w)
  cases q1 : apartB a b c d e f
  · rw [q1] at S1
    exact ⟨noP, noP, _, _, false, fun w => w_SB_other_no1 a b c d e f g h _ _ _ _ _ _ _ _ _ w S1 S2, I, .inr ⟨rfl, rfl, rfl, by rw [show someP (apartP a b c d e f) = false from q1]; rfl⟩⟩
  · rw [q1] at S1
    cases q2 : apartB e f g h a b
    · rw [q2] at S2
      exact ⟨noP, noP, _, _, false, fun w => w_SB_other_no2 a b c d e f g h _ _ _ _ _ _ _ _ w S1 S2, I, .inr ⟨rfl, rfl, rfl, by rw [show someP (apartP e f g h a b) = false from q2]; simp⟩⟩
    · rw [q2] at S2
      exact ⟨_, _, _, _, true, fun w => w_SB_other_yes a b c d e f g h _ _ _ _ _ _ _ _ w S1 S2, I, .inl ⟨rfl, rfl, rfl, q1, q2⟩⟩
theorem both_other2 (a b c d e f g h : Nat) (A : OkN a b c d) (B : OkN e f g h) (hA : someN a b c d = true) (hB : someN e f g h = true) : Both 13 true a b c d e f g h := by
  have S1 := fun w => apart_spec a b c d e f g h A B hA w
  have S2 := fun w => apart_spec e f g h a b c d B A hB w
  have I := fun w => w_part_other2 a b c d e f g h _ _ _ _ _ _ _ _ w (fun w => without_c a b c d e f g h A B w) (fun w => without_c e f g h a b c d B A w)
  cases q1 : apartB a b c d e f
  · rw [q1] at S1
    exact ⟨noP, noP, _, _, false, fun w => w_SB_other2_no1 a b c d e f g h _ _ _ _ _ _ _ _ _ w S1 S2, I, .inr ⟨rfl, rfl, rfl, by rw [show someP (apartP a b c d e f) = false from q1]; rfl⟩⟩
  · rw [q1] at S1
    cases q2 : apartB e f g h a b
    · rw [q2] at S2
      exact ⟨noP, noP, _, _, false, fun w => w_SB_other2_no2 a b c d e f g h _ _ _ _ _ _ _ _ w S1 S2, I, .inr ⟨rfl, rfl, rfl, by rw [show someP (apartP e f g h a b) = false from q2]; simp⟩⟩
    · rw [q2] at S2
      exact ⟨_, _, _, _, true, fun w => w_SB_other2_yes a b c d e f g h _ _ _ _ _ _ _ _ w S1 S2, I, .inl ⟨rfl, rfl, rfl, q1, q2⟩⟩

theorem both_all (op : Int) (hop : inB op 12 15 = true) (hl : Bool) (a b c d e f g h : Nat) (A : OkN a b c d) (B : OkN e f g h) (hA : someN a b c d = true) (hB : someN e f g h = true) : Both op hl a b c d e f g h := by
  simp [inB] at hop
  rcases (by omega : op = 12 ∨ op = 13 ∨ op = 14 ∨ op = 15) with rfl | rfl | rfl | rfl <;> cases hl
  · exact both_other a b c d e f g h A B hA hB
  · exact both_same a b c d e f g h A B
  · exact both_same2 a b c d e f g h A B
  · exact both_other2 a b c d e f g h A B hA hB
  · exact both_notless a b c d e f g h A B
  · exact both_less a b c d e f g h A B
  · exact both_notmore a b c d e f g h A B
  · exact both_more a b c d e f g h A B
end Go.Proofs.Ytcigdckmiibgmab
