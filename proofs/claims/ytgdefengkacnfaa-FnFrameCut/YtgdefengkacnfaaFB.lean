/- Contracts of frames: the first frame of bytes. -/
import Derived.Test.YtgdefengkacnfaaFA
namespace Go.Proofs.Ytgdefengkacnfaa
open Go.RowKit
set_option linter.unusedVariables false
set_option linter.unusedSimpArgs false

/-- The first byte, as a number. -/
def hdN (s : ByteArray) : Nat := if h : 0 < s.size then (s[0]'h).toNat else 0
def firstF (s : ByteArray) : Option ByteArray :=
  if 0 < s.size ∧ inB (hdN s) 1 12 = true ∧ hdN s + 1 ≤ s.size then some (s.extract 1 (hdN s + 1)) else none
theorem firstF_some {s x : ByteArray} (h : firstF s = some x) : 0 < s.size ∧ 1 ≤ hdN s ∧ hdN s ≤ 12 ∧ hdN s + 1 ≤ s.size ∧ x = s.extract 1 (hdN s + 1) ∧ x.size = hdN s := by
  unfold firstF at h
  split at h
  · rename_i hc
    obtain ⟨h0, h1, h2⟩ := hc
    simp [inB] at h1
    simp at h
    subst h
    exact ⟨h0, by omega, by omega, h2, rfl, by simp; omega⟩
  · cases h
theorem hd_at {s : ByteArray} (h : 0 < s.size) : ∃ b : UInt8, (∀ h', s[0]'h' = b) ∧ hdN s = b.toNat := ⟨s[0]'h, fun _ => rfl, by simp [hdN, h]⟩
theorem hd_lt (s : ByteArray) : hdN s ≤ 255 := by
  unfold hdN
  split
  · rename_i h; have := (s[0]'h).toNat_lt; omega
  · omega
theorem empty_is {s : ByteArray} (h : ¬ 0 < s.size) : s = ⟨#[]⟩ := by
  obtain ⟨⟨l⟩⟩ := s
  cases l with
  | nil => rfl
  | cons x l => exact absurd (Nat.succ_pos _) h
theorem list_ne {s : ByteArray} (h : 0 < s.size) : s.toList.isEmpty = false := by
  cases hc : s.toList.isEmpty
  · rfl
  · rw [List.isEmpty_iff] at hc
    have h1 : s.toList.length = s.size := by rw [ByteArray.toList_eq]; simp
    rw [hc] at h1
    simp at h1
    omega

set_option maxRecDepth 100000 in
set_option maxHeartbeats 2000000 in
theorem first_c (s : ByteArray) (w : World) (hs : s.size ≤ 1000000) :
    Calls Try.prog 22 #[.string s] w fun e w' => e = .returned (.tuple #[.string ((firstF s).getD ⟨#[]⟩), .bool (firstF s).isSome]) ∧ Below w.heap.size w w' := by
  by_cases h0 : 0 < s.size
  · obtain ⟨b, e0, hb⟩ := hd_at h0
    have h0' : (0 : Int) < (s.size : Int) := by omega
    have hsI : (s.size : Int) ≤ 1000000 := by omega
    have l0 : (b.toNat : Int) ≤ 255 := by have := b.toNat_lt; omega
    have m0 : (0 : Int) ≤ (b.toNat : Int) := by omega
    have hne := list_ne h0
    cases h1 : inB (b.toNat : Int) 1 12
    · have hf : firstF s = none := by simp [firstF, hb, h1]
      rw [hf]
      clear hf hb
      go_enter Try.func22, Try.ntmps22
      go_wp2_with (go_at_call 23; refine (size_c _ _).mono ?_; rintro e w' ⟨rfl, hw⟩; rw [hw, h1]; clear hw w')
      refine bodyPost_ret (v := .tuple #[.string ⟨#[]⟩, .bool false]) (by simp [results, Try.results22, go_sem]) rfl ?_
      exact ⟨rfl, Below.refl _ _⟩
    · by_cases h2 : b.toNat + 1 ≤ s.size
      · have hf : firstF s = some (s.extract 1 (b.toNat + 1)) := by simp [firstF, hb, h1, h0]; omega
        have h2' : (b.toNat : Int) + 1 ≤ (s.size : Int) := by omega
        rw [hf]
        clear hf hb
        go_enter Try.func22, Try.ntmps22
        go_wp2_with (go_at_call 23; refine (size_c _ _).mono ?_; rintro e w' ⟨rfl, hw⟩; rw [hw, h1]; clear hw w')
        refine bodyPost_ret (v := .tuple #[.string (s.extract 1 (b.toNat + 1)), .bool true]) (by simp [results, Try.results22, go_sem]; congr 1; omega) rfl ?_
        exact ⟨rfl, Below.refl _ _⟩
      · have hf : firstF s = none := by simp [firstF, hb, h1]; omega
        have h2' : (s.size : Int) < (b.toNat : Int) + 1 := by omega
        clear h2
        rw [hf]
        clear hf hb
        go_enter Try.func22, Try.ntmps22
        go_wp2_with (go_at_call 23; refine (size_c _ _).mono ?_; rintro e w' ⟨rfl, hw⟩; rw [hw, h1]; clear hw w')
        refine bodyPost_ret (v := .tuple #[.string ⟨#[]⟩, .bool false]) (by simp [results, Try.results22, go_sem]) rfl ?_
        exact ⟨rfl, Below.refl _ _⟩
  · obtain rfl := empty_is h0
    go_enter Try.func22, Try.ntmps22
    go_wp2_with fail
    refine bodyPost_ret (v := .tuple #[.string ⟨#[]⟩, .bool false]) (by simp [results, Try.results22, go_sem]) rfl ?_
    exact ⟨rfl, Below.refl _ _⟩
end Go.Proofs.Ytgdefengkacnfaa
