/- Contracts of frames: how one is put, and how the first is cut. -/
import Derived.Test.YtgdefengkacnfaaFO
namespace Go.Proofs.Ytgdefengkacnfaa
open Go.RowKit
set_option linter.unusedVariables false
set_option linter.unusedSimpArgs false

def putF (s : ByteArray) : ByteArray := if inB s.size 1 12 then strOfNums [(s.size : Int)] ++ s else ⟨#[]⟩

set_option maxHeartbeats 400000 in
theorem size_c (n : Int) (w : World) :
    Calls Try.prog 23 #[.int .i64 n] w fun e w' => e = .returned (.bool (inB n 1 12)) ∧ w' = w := by
  go_enter Try.func23, Try.ntmps23
  go_wp2
  all_goals (go_ret; exact ⟨ret_bool (by rw [Bool.eq_iff_iff]; simp [inB]; omega), rfl⟩)

set_option maxHeartbeats 400000 in
theorem isFrame_c (s : ByteArray) (w : World) :
    Calls Try.prog 20 #[.string s] w fun e w' => e = .returned (.bool (inB s.size 1 12)) ∧ w' = w := by
  go_enter Try.func20, Try.ntmps20
  go_wp2_with (go_at_call 23; refine (size_c _ _).mono ?_; rintro e w' ⟨rfl, rfl⟩)
  all_goals (go_ret; exact ⟨rfl, rfl⟩)

set_option maxHeartbeats 1000000 in
theorem fput_c (s : ByteArray) (w : World) :
    Calls Try.prog 8 #[.string s] w fun e w' => e = .returned (.string (putF s)) ∧ Below w.heap.size w w' := by
  have hk := conv1
  have hsn := strOfNums_size
  have hone : ∀ x : Int, ([x] : List Int).length = 1 := fun _ => rfl
  cases hc : inB s.size 1 12
  · go_enter Try.func8, Try.ntmps8
    go_wp2_with (go_at_call 20; refine (isFrame_c _ _).mono ?_; rintro e w' ⟨rfl, rfl⟩; rw [hc])
    go_ret
    exact ⟨ret_str (by simp [putF, hc]), Below.refl _ _⟩
  · have hc' : 1 ≤ (s.size : Int) ∧ (s.size : Int) ≤ 12 := by simpa [inB] using hc
    obtain ⟨hc1, hc2⟩ := hc'
    go_enter Try.func8, Try.ntmps8
    go_wp2_with (go_at_call 20; refine (isFrame_c _ _).mono ?_; rintro e w' ⟨rfl, rfl⟩; rw [hc])
    go_ret
    exact ⟨ret_str (by simp [putF, hc]), (Below.refl _ _).alloc (Nat.le_refl _) _⟩

set_option maxHeartbeats 1000000 in
theorem sfput_c (s : ByteArray) (w : World) :
    Calls Try.prog 9 #[.string s] w fun e w' => e = .returned (.string (putF s)) ∧ Below w.heap.size w w' := by
  have hk := conv1
  have hsn := strOfNums_size
  have hone : ∀ x : Int, ([x] : List Int).length = 1 := fun _ => rfl
  cases hc : inB s.size 1 12
  · go_enter Try.func9, Try.ntmps9
    go_wp2_with (go_at_call 21; refine (f36 _ _ _ _).mono ?_; rintro e w' ⟨rfl, rfl⟩; rw [hc])
    go_ret
    exact ⟨ret_str (by simp [putF, hc]), Below.refl _ _⟩
  · have hc' : 1 ≤ (s.size : Int) ∧ (s.size : Int) ≤ 12 := by simpa [inB] using hc
    obtain ⟨hc1, hc2⟩ := hc'
    go_enter Try.func9, Try.ntmps9
    go_wp2_with (go_at_call 21; refine (f36 _ _ _ _).mono ?_; rintro e w' ⟨rfl, rfl⟩; rw [hc])
    go_ret
    exact ⟨ret_str (by simp [putF, hc]), (Below.refl _ _).alloc (Nat.le_refl _) _⟩
end Go.Proofs.Ytgdefengkacnfaa
