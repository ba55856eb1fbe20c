/- Ops and their bytes: what is put is got. -/
import Derived.Test.YtbbecofgmodfiaaGreatDoorPGet3
import Derived.Test.YtbbecofgmodfiaaGreatDoorKP
import Derived.Test.YtbbecofgmodfiaaGreatDoorOB
namespace Go.Proofs.YtbbecofgmodfiaaGreatDoor
open Go.RowKit
set_option linter.unusedVariables false
set_option linter.unusedSimpArgs false


theorem inB_iff (n a b : Int) : inB n a b = true ↔ a ≤ n ∧ n ≤ b := by simp [inB]
theorem bare_bounds {o d s f i z : Int} (h : bareB o d s f i z = true) : (1 ≤ o ∧ o ≤ 20) ∧ (0 ≤ z ∧ z ≤ 4) := by
  unfold bareB at h
  by_cases a0 : inB o 1 11 = true
  · rw [if_pos a0] at h
    simp only [isB, Bool.and_eq_true, Bool.or_eq_true, beq_iff_eq, decide_eq_true_eq, inB_iff] at h a0
    omega
  rw [if_neg a0] at h
  by_cases a1 : inB o 12 15 = true
  · rw [if_pos a1] at h
    simp only [isB, Bool.and_eq_true, Bool.or_eq_true, beq_iff_eq, decide_eq_true_eq, inB_iff] at h a1
    omega
  rw [if_neg a1] at h
  by_cases a2 : isB o 16 = true
  · rw [if_pos a2] at h
    simp only [isB, Bool.and_eq_true, Bool.or_eq_true, beq_iff_eq, decide_eq_true_eq, inB_iff] at h a2
    omega
  rw [if_neg a2] at h
  by_cases a3 : isB o 17 = true
  · rw [if_pos a3] at h
    simp only [isB, Bool.and_eq_true, Bool.or_eq_true, beq_iff_eq, decide_eq_true_eq, inB_iff] at h a3
    omega
  rw [if_neg a3] at h
  by_cases a4 : isB o 18 = true
  · rw [if_pos a4] at h
    simp only [isB, Bool.and_eq_true, Bool.or_eq_true, beq_iff_eq, decide_eq_true_eq, inB_iff] at h a4
    omega
  rw [if_neg a4] at h
  by_cases a5 : isB o 19 = true
  · rw [if_pos a5] at h
    simp only [isB, Bool.and_eq_true, Bool.or_eq_true, beq_iff_eq, decide_eq_true_eq, inB_iff] at h a5
    omega
  rw [if_neg a5] at h
  by_cases a6 : isB o 20 = true
  · rw [if_pos a6] at h
    simp only [isB, Bool.and_eq_true, Bool.or_eq_true, beq_iff_eq, decide_eq_true_eq, inB_iff] at h a6
    omega
  rw [if_neg a6] at h
  cases h
theorem sok_bounds {o d s f i z : Int} (h : sokB o d s f i z = true) : (1 ≤ o ∧ o ≤ 20) ∧ (0 ≤ d ∧ d ≤ 10) ∧ (-1 ≤ s ∧ s ≤ 10) ∧ (-128 ≤ f ∧ f ≤ 127) ∧ (0 ≤ i ∧ i ≤ 4294967295) ∧ (0 ≤ z ∧ z ≤ 4) := by
  simp only [sokB, Bool.and_eq_true, inB_iff] at h
  obtain ⟨⟨⟨⟨h1, h2⟩, h3⟩, h4⟩, h5⟩ := h
  have h6 := bare_bounds h5
  exact ⟨h6.1, h1, h2, h3, h4, h6.2⟩
theorem byte_back (n : Int) : ((UInt8.ofNat (n % 256).toNat).toNat : Int) = n % 256 := by
  rw [UInt8.toNat_ofNat']
  omega
theorem get_put {o d s f i z : Int} (h : sokB o d s f i z = true) : getI (putS o d s f i z) = some ⟨o, d, s, f, i, z⟩ := by
  obtain ⟨h1, h2, h3, h4, h5, h6⟩ := sok_bounds h
  have e : (putS o d s f i z).data.toList = [UInt8.ofNat (o % 256).toNat, UInt8.ofNat ((d * 16 + s + 1) % 256).toNat, UInt8.ofNat (f % 256).toNat, UInt8.ofNat (z % 256).toNat, UInt8.ofNat (i % 256).toNat, UInt8.ofNat (i / 256 % 256).toNat, UInt8.ofNat (i / 65536 % 256).toNat, UInt8.ofNat (i / 16777216 % 256).toNat] := rfl
  have eo : ((UInt8.ofNat (o % 256).toNat).toNat : Int) = o := by rw [byte_back]; omega
  have ed : ((UInt8.ofNat ((d * 16 + s + 1) % 256).toNat).toNat : Int) / 16 = d := by rw [byte_back]; omega
  have es : ((UInt8.ofNat ((d * 16 + s + 1) % 256).toNat).toNat : Int) % 16 - 1 = s := by rw [byte_back]; omega
  have ef : offV (UInt8.ofNat (f % 256).toNat) = f := by unfold offV; rw [byte_back]; split <;> omega
  have ez : ((UInt8.ofNat (z % 256).toNat).toNat : Int) = z := by rw [byte_back]; omega
  have ei : immO (UInt8.ofNat (i % 256).toNat) (UInt8.ofNat (i / 256 % 256).toNat) (UInt8.ofNat (i / 65536 % 256).toNat) (UInt8.ofNat (i / 16777216 % 256).toNat) = i := by
    rw [imm_sum, byte_back, byte_back, byte_back, byte_back]; omega
  unfold getI
  rw [e]
  simp only [eo, ed, es, ef, ei, ez, h, if_true]
theorem put_of_get {s : ByteArray} {x : I6} (h : getI s = some x) : sokB x.o x.d x.s x.f x.i x.z = true ∧ putS x.o x.d x.s x.f x.i x.z = s ∧ s.size = 8 := by
  unfold getI at h
  split at h
  · rename_i b0 b1 b2 b3 b4 b5 b6 b7 hs
    split at h
    · rename_i hok
      simp only [Option.some.injEq] at h
      subst h
      have e : s = ⟨#[b0, b1, b2, b3, b4, b5, b6, b7]⟩ := by
        obtain ⟨⟨l⟩⟩ := s
        simp at hs
        rw [hs]
      refine ⟨hok, (put_get _ _ _ _ _ _ _ _).trans e.symm, ?_⟩
      rw [e]; rfl
    · cases h
  · cases h
theorem putS_size (o d s f i z : Int) : (putS o d s f i z).size = 8 := rfl
end Go.Proofs.YtbbecofgmodfiaaGreatDoor
