/- Tables held against each other. -/
import Derived.Test.YtghcknbpipaghaaTB
namespace Go.Proofs.Ytghcknbpipaghaa
open Go.RowKit
set_option linter.unusedSimpArgs false

set_option maxRecDepth 100000 in
set_option maxHeartbeats 2000000 in
theorem f34 (xs : List Int) (b1 b2 c1 c2 : Nat) (w : World) (hr1 : IntRow w b1 0 xs) (hr2 : IntRow w b2 0 xs) (hn : xs.length ≤ 1048576) (hb1 : b1 < w.heap.size) (hb2 : b2 < w.heap.size) :
    Calls Try.prog 21 #[.slice (some ⟨b1, 0, none⟩) xs.length c1, .slice (some ⟨b2, 0, none⟩) xs.length c2] w fun e w' => e = .returned (.bool true) ∧ Below w.heap.size w w' := by
  go_enter Try.func21, Try.ntmps21
  go_wp2_with fail
  go_loopw [5] (fun i wr => ∃ k : Nat, k ≤ xs.length ∧ i = .int .i64 k ∧ Below w.heap.size w wr) (fun i _ => xs.length - (intOf i).toNat)
  case atStart => exact ⟨0, Nat.zero_le _, rfl, Below.refl _ _⟩
  case round =>
    obtain ⟨k, hk, rfl, hbw⟩ := hrel
    by_cases hlt : k < xs.length
    · have hlt' : (k : Int) < (xs.length : Int) := by omega
      have hk0 : (0 : Int) ≤ (k : Int) := by omega
      obtain ⟨x, hx⟩ : ∃ x, x = xs[k] := ⟨_, rfl⟩
      have h1 := (hr1.below hbw hb1) k hlt
      have h2 := (hr2.below hbw hb2) k hlt
      rw [← hx, Nat.zero_add] at h1 h2
      clear hx
      go_wp2_with fail
      go_quiet (fail)
      go_wp2_with fail
      go_roundw
      case rel => exact ⟨k + 1, by omega, by go_num, below_drewN hbw _⟩
      case measure => simp [intOf]; omega
    · obtain rfl : k = xs.length := by omega
      go_wp2_with fail
      go_ret
      exact ⟨rfl, hbw⟩

set_option maxRecDepth 100000 in
set_option maxHeartbeats 2000000 in
theorem f35 (xs : List ByteArray) (b1 b2 c1 c2 : Nat) (w : World) (hr1 : StrRow w b1 0 xs) (hr2 : StrRow w b2 0 xs) (hn : xs.length ≤ 1048576) (hb1 : b1 < w.heap.size) (hb2 : b2 < w.heap.size) :
    Calls Try.prog 51 #[.slice (some ⟨b1, 0, none⟩) xs.length c1, .slice (some ⟨b2, 0, none⟩) xs.length c2] w fun e w' => e = .returned (.bool true) ∧ Below w.heap.size w w' := by
  go_enter Try.func51, Try.ntmps51
  go_wp2_with fail
  go_loopw [5] (fun i wr => ∃ k : Nat, k ≤ xs.length ∧ i = .int .i64 k ∧ Below w.heap.size w wr) (fun i _ => xs.length - (intOf i).toNat)
  case atStart => exact ⟨0, Nat.zero_le _, rfl, Below.refl _ _⟩
  case round =>
    obtain ⟨k, hk, rfl, hbw⟩ := hrel
    by_cases hlt : k < xs.length
    · have hlt' : (k : Int) < (xs.length : Int) := by omega
      have hk0 : (0 : Int) ≤ (k : Int) := by omega
      obtain ⟨x, hx⟩ : ∃ x, x = xs[k] := ⟨_, rfl⟩
      have h1 := (hr1.below hbw hb1) k hlt
      have h2 := (hr2.below hbw hb2) k hlt
      rw [← hx, Nat.zero_add] at h1 h2
      clear hx
      go_wp2_with fail
      go_quiet (fail)
      go_wp2_with fail
      go_roundw
      case rel => exact ⟨k + 1, by omega, by go_num, below_drewN hbw _⟩
      case measure => simp [intOf]; omega
    · obtain rfl : k = xs.length := by omega
      go_wp2_with fail
      go_ret
      exact ⟨rfl, hbw⟩

set_option maxRecDepth 100000 in
set_option maxHeartbeats 2000000 in
theorem f13 (k s r : Int) (ks : List Int) (vs : List ByteArray) (b1 b2 d1 d2 c1 c2 e1 e2 : Nat) (w : World) (hr1 : IntRow w b1 0 ks) (hr2 : IntRow w b2 0 ks) (hv1 : StrRow w d1 0 vs) (hv2 : StrRow w d2 0 vs) (hn : ks.length ≤ 1048576) (hm : vs.length ≤ 1048576)
    (hb1 : b1 < w.heap.size) (hb2 : b2 < w.heap.size) (hd1 : d1 < w.heap.size) (hd2 : d2 < w.heap.size) :
    Calls Try.prog 36 #[.agg #[.int .i64 k, .int .i64 s, .int .i64 r, .slice (some ⟨b1, 0, none⟩) ks.length c1, .slice (some ⟨d1, 0, none⟩) vs.length e1], .agg #[.int .i64 k, .int .i64 s, .int .i64 r, .slice (some ⟨b2, 0, none⟩) ks.length c2, .slice (some ⟨d2, 0, none⟩) vs.length e2]] w
      fun e w' => e = .returned (.bool true) ∧ Below w.heap.size w w' := by
  have c0 : ∀ X Y, Below w.heap.size w ((w.alloc X).alloc Y) := fun X Y => ((Below.refl _ _).alloc (Nat.le_refl _) _).alloc (by simp) _
  go_enter Try.func36, Try.ntmps36
  go_wp2_with fail
  refine (f34 ks _ _ _ _ _ (hr1.below (c0 _ _) hb1) (hr2.below (c0 _ _) hb2) hn (by simp; omega) (by simp; omega)).mono ?_
  rintro e w1 ⟨rfl, hw1⟩
  obtain ⟨hc1, hf1⟩ := bcell hw1
  have z1 := hw1.size
  simp only [World.size_alloc] at z1 hc1 hf1
  have q1 : w.heap.size < w1.heap.size := by omega
  have q2 : w.heap.size + 1 < w1.heap.size := by omega
  have k1 : Below w.heap.size w w1 := (c0 _ _).trans (hw1.mono (by simp; omega))
  go_wp2_with fail
  refine (f35 vs _ _ _ _ _ (hv1.below k1 hd1) (hv2.below k1 hd2) hm (by omega) (by omega)).mono ?_
  rintro e w2 ⟨rfl, hw2⟩
  go_wp2_with fail
  go_ret
  exact ⟨rfl, k1.trans (hw2.mono (by omega))⟩

end Go.Proofs.Ytghcknbpipaghaa
