/- Branches: what both parts answer, by formulas. -/
import Derived.Test.YtcopcajleonndaaQBJ
namespace Go.Proofs.Ytcopcajleonndaa
open Go.RowKit
set_option linter.unusedVariables false
set_option linter.unusedSimpArgs false
def Alike2 (V R R' : Int × Int × Int × Int) (q : Bool) : Prop :=
  (q = true ∧ R = V ∧ someP V = true ∧ someP R' = true) ∨ (q = false ∧ (someP R && someP R') = false)
/-- What the specification's parting answers, and what the program's does: V, if q. -/
def BothV (op : Int) (hl : Bool) (a b c d e f g h : Int) (V : Int × Int × Int × Int) (q : Bool) : Prop :=
  ∃ (P' R R' : Int × Int × Int × Int),
    (∀ w, Calls Try.prog 49 #[.int .i64 op, rv a b c d, rv e f g h, .bool hl] w fun ee w' => ee = .returned (.tuple #[rvP (if q then V else noP), rvP P', .bool q]) ∧ Below w.heap.size w w') ∧
    (∀ w, Calls Try.prog 54 #[.int .i64 op, rv a b c d, rv e f g h, .bool hl] w fun ee w' => ee = .returned (.tuple #[rvP R, rvP R']) ∧ Below w.heap.size w w') ∧ Alike2 V R R' q
theorem vboth_less (a b c d e f g h : Nat) (A : OkN a b c d) (B : OkN e f g h) : BothV 14 true a b c d e f g h (tidyP a (min b ((f : Int) - 1)) c d) (lowQ a b c d e f g h 1) := by
  have hA := A.le; have hA2 := A.hi; have hB := B.hi
  have I : ∀ w, Calls Try.prog 54 #[.int .i64 14, rv a b c d, rv e f g h, .bool true] w fun ee w' => ee = .returned (.tuple #[rvP (tidyP a (min b (f - 1)) c d), rvP (tidyP (max e (a + 1)) f g h)]) ∧ Below w.heap.size w w' := fun w =>
    w_part_less a b c d e f g h _ _ _ _ _ _ _ _ w (fun w => w_below a b c d e f g h _ _ _ _ _ _ _ _ w (by omega) (by omega) (by omega) (by omega) (fun w => c_RangeTidyI _ _ _ _ w) (fun w => c_RangeTidyI _ _ _ _ w))
  cases hq : lowQ a b c d e f g h 1
  · refine ⟨noP, _, _, fun w => w_SB_less a b c d e f g h 1 0 0 0 1 0 0 0 false w (fun w => low_no a b c d e f g h 1 (by omega) (by omega) A B hq w), I, .inr ⟨rfl, ?_⟩⟩
    rw [someP, someP, someI_tidy, someI_tidy]; exact hq
  · refine ⟨_, _, _, fun w => w_SB_less a b c d e f g h _ _ _ _ _ _ _ _ true w (fun w => low_yes a b c d e f g h 1 (by omega) (by omega) A B hq w), I, .inl ⟨rfl, rfl, ?_, ?_⟩⟩
    · rw [someP, someI_tidy]; unfold lowQ at hq; simp at hq; exact hq.1
    · rw [someP, someI_tidy]; unfold lowQ at hq; simp at hq; exact hq.2
theorem vboth_more (a b c d e f g h : Nat) (A : OkN a b c d) (B : OkN e f g h) : BothV 15 true a b c d e f g h (tidyP (max a ((e : Int) + 1)) b c d) (lowQ e f g h a b c d 1) := by
  have hA := A.le; have hA2 := A.hi; have hB := B.hi; have hB2 := B.le
  have I : ∀ w, Calls Try.prog 54 #[.int .i64 15, rv a b c d, rv e f g h, .bool true] w fun ee w' => ee = .returned (.tuple #[rvP (tidyP (max a (e + 1)) b c d), rvP (tidyP e (min f (b - 1)) g h)]) ∧ Below w.heap.size w w' := fun w =>
    w_part_more a b c d e f g h true _ _ _ _ _ _ _ _ w (fun w => w_part_less e f g h a b c d _ _ _ _ _ _ _ _ w (fun w => w_below e f g h a b c d _ _ _ _ _ _ _ _ w (by omega) (by omega) (by omega) (by omega) (fun w => c_RangeTidyI _ _ _ _ w) (fun w => c_RangeTidyI _ _ _ _ w)))
  cases hq : lowQ e f g h a b c d 1
  · refine ⟨noP, _, _, fun w => w_SB_more a b c d e f g h 1 0 0 0 1 0 0 0 false w (fun w => low_no e f g h a b c d 1 (by omega) (by omega) B A hq w), I, .inr ⟨rfl, ?_⟩⟩
    rw [someP, someP, someI_tidy, someI_tidy, Bool.and_comm]; exact hq
  · refine ⟨_, _, _, fun w => w_SB_more a b c d e f g h _ _ _ _ _ _ _ _ true w (fun w => low_yes e f g h a b c d 1 (by omega) (by omega) B A hq w), I, .inl ⟨rfl, rfl, ?_, ?_⟩⟩
    · rw [someP, someI_tidy]; unfold lowQ at hq; simp at hq; exact hq.2
    · rw [someP, someI_tidy]; unfold lowQ at hq; simp at hq; exact hq.1
theorem vboth_notless (a b c d e f g h : Nat) (A : OkN a b c d) (B : OkN e f g h) : BothV 14 false a b c d e f g h (tidyP (max a (e : Int)) b c d) (lowQ e f g h a b c d 0) := by
  have I : ∀ w, Calls Try.prog 54 #[.int .i64 14, rv a b c d, rv e f g h, .bool false] w fun ee w' => ee = .returned (.tuple #[rvP (tidyP (max a e) b c d), rvP (tidyP e (min f b) g h)]) ∧ Below w.heap.size w w' := fun w =>
    w_part_notless a b c d e f g h _ _ _ _ _ _ _ _ w (fun w => w_notBelow a b c d e f g h _ _ _ _ _ _ _ _ w (fun w => c_RangeTidyI _ _ _ _ w) (fun w => c_RangeTidyI _ _ _ _ w))
  cases hq : lowQ e f g h a b c d 0
  · refine ⟨noP, _, _, fun w => w_SB_notless a b c d e f g h 1 0 0 0 1 0 0 0 false w (fun w => low_no e f g h a b c d 0 (by omega) (by omega) B A hq w), I, .inr ⟨rfl, ?_⟩⟩
    rw [low0] at hq
    rw [someP, someP, someI_tidy, someI_tidy, Bool.and_comm]; exact hq
  · have L := fun w => low_yes e f g h a b c d 0 (by omega) (by omega) B A hq w
    rw [Int.sub_zero, Int.add_zero] at L
    rw [low0] at hq
    refine ⟨_, _, _, fun w => w_SB_notless a b c d e f g h _ _ _ _ _ _ _ _ true w L, I, .inl ⟨rfl, rfl, ?_, ?_⟩⟩
    · rw [someP, someI_tidy]; simp at hq; exact hq.2
    · rw [someP, someI_tidy]; simp at hq; exact hq.1
theorem vboth_notmore (a b c d e f g h : Nat) (A : OkN a b c d) (B : OkN e f g h) : BothV 15 false a b c d e f g h (tidyP a (min b (f : Int)) c d) (lowQ a b c d e f g h 0) := by
  have I : ∀ w, Calls Try.prog 54 #[.int .i64 15, rv a b c d, rv e f g h, .bool false] w fun ee w' => ee = .returned (.tuple #[rvP (tidyP a (min b f) c d), rvP (tidyP (max e a) f g h)]) ∧ Below w.heap.size w w' := fun w =>
    w_part_more a b c d e f g h false _ _ _ _ _ _ _ _ w (fun w => w_part_notless e f g h a b c d _ _ _ _ _ _ _ _ w (fun w => w_notBelow e f g h a b c d _ _ _ _ _ _ _ _ w (fun w => c_RangeTidyI _ _ _ _ w) (fun w => c_RangeTidyI _ _ _ _ w)))
  cases hq : lowQ a b c d e f g h 0
  · refine ⟨noP, _, _, fun w => w_SB_notmore a b c d e f g h 1 0 0 0 1 0 0 0 false w (fun w => low_no a b c d e f g h 0 (by omega) (by omega) A B hq w), I, .inr ⟨rfl, ?_⟩⟩
    rw [low0] at hq
    rw [someP, someP, someI_tidy, someI_tidy]; exact hq
  · have L := fun w => low_yes a b c d e f g h 0 (by omega) (by omega) A B hq w
    rw [Int.sub_zero, Int.add_zero] at L
    rw [low0] at hq
    refine ⟨_, _, _, fun w => w_SB_notmore a b c d e f g h _ _ _ _ _ _ _ _ true w L, I, .inl ⟨rfl, rfl, ?_, ?_⟩⟩
    · rw [someP, someI_tidy]; simp at hq; exact hq.1
    · rw [someP, someI_tidy]; simp at hq; exact hq.2
theorem vboth_same (a b c d e f g h : Nat) (A : OkN a b c d) (B : OkN e f g h) : BothV 12 true a b c d e f g h (meetP a b c d e f g h) (meetB a b c d e f g h) := by
  cases hm : meetB a b c d e f g h
  · exact ⟨noP, noP, noP, fun w => w_SB_same a b c d e f g h 1 0 0 0 false w (fun w => c_l2Meet_no a b c d e f g h w A B hm), fun w => w_part_same a b c d e f g h 1 0 0 0 false w (fun w => impl_meet_no a b c d e f g h A B hm w), .inr ⟨rfl, by rw [show someP noP = false from someI_gt (by decide)]; rfl⟩⟩
  · exact ⟨meetP a b c d e f g h, meetP a b c d e f g h, meetP a b c d e f g h, fun w => w_SB_same a b c d e f g h _ _ _ _ true w (fun w => c_l2Meet_yes a b c d e f g h w A B hm), fun w => w_part_same a b c d e f g h _ _ _ _ true w (fun w => impl_meet_yes a b c d e f g h A B hm w), .inl ⟨rfl, rfl, someP_meet A B hm, someP_meet A B hm⟩⟩
theorem vboth_same2 (a b c d e f g h : Nat) (A : OkN a b c d) (B : OkN e f g h) : BothV 13 false a b c d e f g h (meetP a b c d e f g h) (meetB a b c d e f g h) := by
  cases hm : meetB a b c d e f g h
  · exact ⟨noP, noP, noP, fun w => w_SB_same2 a b c d e f g h 1 0 0 0 false w (fun w => c_l2Meet_no a b c d e f g h w A B hm), fun w => w_part_same2 a b c d e f g h 1 0 0 0 false w (fun w => impl_meet_no a b c d e f g h A B hm w), .inr ⟨rfl, by rw [show someP noP = false from someI_gt (by decide)]; rfl⟩⟩
  · exact ⟨meetP a b c d e f g h, meetP a b c d e f g h, meetP a b c d e f g h, fun w => w_SB_same2 a b c d e f g h _ _ _ _ true w (fun w => c_l2Meet_yes a b c d e f g h w A B hm), fun w => w_part_same2 a b c d e f g h _ _ _ _ true w (fun w => impl_meet_yes a b c d e f g h A B hm w), .inl ⟨rfl, rfl, someP_meet A B hm, someP_meet A B hm⟩⟩
theorem vboth_other (a b c d e f g h : Nat) (A : OkN a b c d) (B : OkN e f g h) (hA : someN a b c d = true) (hB : someN e f g h = true) : BothV 12 false a b c d e f g h (apartP a b c d e f) ((apartB a b c d e f && apartB e f g h a b)) := by
  have S1 := fun w => apart_spec a b c d e f g h A B hA w
  have S2 := fun w => apart_spec e f g h a b c d B A hB w
  have I := fun w => w_part_other a b c d e f g h _ _ _ _ _ _ _ _ w (fun w => without_c a b c d e f g h A B w) (fun w => without_c e f g h a b c d B A w)
  cases q1 : apartB a b c d e f
  · rw [q1] at S1
    exact ⟨noP, _, _, fun w => w_SB_other_no1 a b c d e f g h _ _ _ _ _ _ _ _ _ w S1 S2, I, .inr ⟨rfl, by rw [show someP (apartP a b c d e f) = false from q1]; rfl⟩⟩
  · rw [q1] at S1
    cases q2 : apartB e f g h a b
    · rw [q2] at S2
      exact ⟨noP, _, _, fun w => w_SB_other_no2 a b c d e f g h _ _ _ _ _ _ _ _ w S1 S2, I, .inr ⟨rfl, by rw [show someP (apartP e f g h a b) = false from q2]; simp⟩⟩
    · rw [q2] at S2
      exact ⟨_, _, _, fun w => w_SB_other_yes a b c d e f g h _ _ _ _ _ _ _ _ w S1 S2, I, .inl ⟨rfl, rfl, q1, q2⟩⟩
theorem vboth_other2 (a b c d e f g h : Nat) (A : OkN a b c d) (B : OkN e f g h) (hA : someN a b c d = true) (hB : someN e f g h = true) : BothV 13 true a b c d e f g h (apartP a b c d e f) ((apartB a b c d e f && apartB e f g h a b)) := by
  have S1 := fun w => apart_spec a b c d e f g h A B hA w
  have S2 := fun w => apart_spec e f g h a b c d B A hB w
  have I := fun w => w_part_other2 a b c d e f g h _ _ _ _ _ _ _ _ w (fun w => without_c a b c d e f g h A B w) (fun w => without_c e f g h a b c d B A w)
  cases q1 : apartB a b c d e f
  · rw [q1] at S1
    exact ⟨noP, _, _, fun w => w_SB_other2_no1 a b c d e f g h _ _ _ _ _ _ _ _ _ w S1 S2, I, .inr ⟨rfl, by rw [show someP (apartP a b c d e f) = false from q1]; rfl⟩⟩
  · rw [q1] at S1
    cases q2 : apartB e f g h a b
    · rw [q2] at S2
      exact ⟨noP, _, _, fun w => w_SB_other2_no2 a b c d e f g h _ _ _ _ _ _ _ _ w S1 S2, I, .inr ⟨rfl, by rw [show someP (apartP e f g h a b) = false from q2]; simp⟩⟩
    · rw [q2] at S2
      exact ⟨_, _, _, fun w => w_SB_other2_yes a b c d e f g h _ _ _ _ _ _ _ _ w S1 S2, I, .inl ⟨rfl, rfl, q1, q2⟩⟩
end Go.Proofs.Ytcopcajleonndaa
