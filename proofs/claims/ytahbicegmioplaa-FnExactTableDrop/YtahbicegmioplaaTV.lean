/- Marks in tables; tables held against each other, be a list nil or not. -/
import Derived.Test.YtahbicegmioplaaTU
namespace Go.Proofs.Ytahbicegmioplaa
open Go.RowKit
set_option linter.unusedSimpArgs false
set_option linter.unusedVariables false

set_option maxRecDepth 100000 in
set_option maxHeartbeats 2000000 in
theorem f34g (xs : List Int) (a1 a2 : Option Addr) (c1 c2 : Nat) (w : World) (hA1 : ArgI w a1 xs) (hA2 : ArgI w a2 xs) (hn : xs.length ≤ 1048576) :
    Calls Try.prog 64 #[.slice a1 xs.length c1, .slice a2 xs.length c2] w fun e w' => e = .returned (.bool true) ∧ Below w.heap.size w w' := by
  go_enter Try.func64, Try.ntmps64
  go_wp2_with fail
  go_loopw [5] (fun i wr => ∃ k : Nat, k ≤ xs.length ∧ i = .int .i64 k ∧ Below w.heap.size w wr) (fun i _ => xs.length - (intOf i).toNat)
  case atStart => exact ⟨0, Nat.zero_le _, rfl, Below.refl _ _⟩
  case round =>
    obtain ⟨k, hk, rfl, hbw⟩ := hrel
    by_cases hlt : k < xs.length
    · have hlt' : (k : Int) < (xs.length : Int) := by omega
      have hk0 : (0 : Int) ≤ (k : Int) := by omega
      obtain ⟨b1, p1, rfl, hb1, h1⟩ := (hA1.below hbw (Nat.le_refl _)).at k hlt
      obtain ⟨b2, p2, rfl, hb2, h2⟩ := (hA2.below hbw (Nat.le_refl _)).at k hlt
      obtain ⟨x, hx⟩ : ∃ x, x = xs[k] := ⟨_, rfl⟩
      rw [← hx] at h1 h2
      clear hx
      go_wp2_with fail
      go_quiet (fail)
      go_wp2_with fail
      go_roundw
      case rel => exact ⟨k + 1, by omega, by go_num, below_drewN hbw _⟩
      case measure => simp [intOf]; omega
    · obtain rfl : k = xs.length := by omega
      go_wp2_with fail
      go_ret
      exact ⟨rfl, hbw⟩

set_option maxRecDepth 100000 in
set_option maxHeartbeats 2000000 in
theorem f35g (xs : List ByteArray) (a1 a2 : Option Addr) (c1 c2 : Nat) (w : World) (hA1 : ArgS w a1 xs) (hA2 : ArgS w a2 xs) (hn : xs.length ≤ 1048576) :
    Calls Try.prog 65 #[.slice a1 xs.length c1, .slice a2 xs.length c2] w fun e w' => e = .returned (.bool true) ∧ Below w.heap.size w w' := by
  go_enter Try.func65, Try.ntmps65
  go_wp2_with fail
  go_loopw [5] (fun i wr => ∃ k : Nat, k ≤ xs.length ∧ i = .int .i64 k ∧ Below w.heap.size w wr) (fun i _ => xs.length - (intOf i).toNat)
  case atStart => exact ⟨0, Nat.zero_le _, rfl, Below.refl _ _⟩
  case round =>
    obtain ⟨k, hk, rfl, hbw⟩ := hrel
    by_cases hlt : k < xs.length
    · have hlt' : (k : Int) < (xs.length : Int) := by omega
      have hk0 : (0 : Int) ≤ (k : Int) := by omega
      obtain ⟨b1, p1, rfl, hb1, h1⟩ := (hA1.below hbw (Nat.le_refl _)).at k hlt
      obtain ⟨b2, p2, rfl, hb2, h2⟩ := (hA2.below hbw (Nat.le_refl _)).at k hlt
      obtain ⟨x, hx⟩ : ∃ x, x = xs[k] := ⟨_, rfl⟩
      rw [← hx] at h1 h2
      clear hx
      go_wp2_with fail
      go_quiet (fail)
      go_wp2_with fail
      go_roundw
      case rel => exact ⟨k + 1, by omega, by go_num, below_drewN hbw _⟩
      case measure => simp [intOf]; omega
    · obtain rfl : k = xs.length := by omega
      go_wp2_with fail
      go_ret
      exact ⟨rfl, hbw⟩

set_option maxRecDepth 100000 in
set_option maxHeartbeats 2000000 in
theorem f13g (k s r : Int) (ks : List Int) (vs : List ByteArray) (a1 a2 b1 b2 : Option Addr) (c1 c2 e1 e2 : Nat) (w : World) (hA1 : ArgI w a1 ks) (hA2 : ArgI w a2 ks) (hB1 : ArgS w b1 vs) (hB2 : ArgS w b2 vs) (hn : ks.length ≤ 1048576) (hm : vs.length ≤ 1048576) :
    Calls Try.prog 29 #[.agg #[.int .i64 k, .int .i64 s, .int .i64 r, .slice a1 ks.length c1, .slice b1 vs.length e1], .agg #[.int .i64 k, .int .i64 s, .int .i64 r, .slice a2 ks.length c2, .slice b2 vs.length e2]] w
      fun e w' => e = .returned (.bool true) ∧ Below w.heap.size w w' := by
  have c0 : ∀ X Y, Below w.heap.size w ((w.alloc X).alloc Y) := fun X Y => ((Below.refl _ _).alloc (Nat.le_refl _) _).alloc (by simp) _
  have H1 : Hid (ArgI w a1 ks) := hA1
  have H2 : Hid (ArgI w a2 ks) := hA2
  have H3 : Hid (ArgS w b1 vs) := hB1
  have H4 : Hid (ArgS w b2 vs) := hB2
  clear hA1 hA2 hB1 hB2
  go_enter Try.func29, Try.ntmps29
  go_wp2_with fail
  refine (f34g ks _ _ _ _ _ (ArgI.below H1.out (c0 _ _) (Nat.le_refl _)) (ArgI.below H2.out (c0 _ _) (Nat.le_refl _)) hn).mono ?_
  rintro e w1 ⟨rfl, hw1⟩
  obtain ⟨hc1, hf1⟩ := bcell hw1
  have z1 := hw1.size
  simp only [World.size_alloc] at z1 hc1 hf1
  have q1 : w.heap.size < w1.heap.size := by omega
  have q2 : w.heap.size + 1 < w1.heap.size := by omega
  have k1 : Below w.heap.size w w1 := (c0 _ _).trans (hw1.mono (by simp; omega))
  go_wp2_with fail
  refine (f35g vs _ _ _ _ _ (ArgS.below H3.out k1 (Nat.le_refl _)) (ArgS.below H4.out k1 (Nat.le_refl _)) hm).mono ?_
  rintro e w2 ⟨rfl, hw2⟩
  go_wp2_with fail
  go_ret
  exact ⟨rfl, k1.trans (hw2.mono (by omega))⟩

set_option maxRecDepth 100000 in
set_option maxHeartbeats 2000000 in
theorem f16 (k s r : Int) (a b : Option Addr) (n m c d : Nat) (w : World) (hA : Wr w a n) (hB : Wr w b m) (hn : n ≤ 1048576) (hm : m ≤ 1048576) (hla : ∀ q, isBlk a q → q < w.heap.size) (hlb : ∀ q, isBlk b q → q < w.heap.size) (hab : ∀ q, isBlk a q → ¬ isBlk b q) :
    Calls Try.prog 30 #[.agg #[.int .i64 k, .int .i64 s, .int .i64 r, .slice a n c, .slice b m d], .int .i64 1] w fun e w' => e = .returned (.int .i64 ((1 + n + m : Nat) : Int)) ∧ ArgI w' a (marksI 1 n) ∧ ArgS w' b (marksS (1 + n) m) ∧ Exc (fun q => isBlk a q ∨ isBlk b q) w w' := by
  have hcA : ∀ X, Below w.heap.size w (w.alloc X) := fun X => (Below.refl _ _).alloc (Nat.le_refl _) _
  obtain ⟨k1, hk1⟩ : ∃ k1 : Nat, k1 = 1 + n := ⟨_, rfl⟩
  obtain ⟨k2, hk2⟩ : ∃ k2 : Nat, k2 = k1 + m := ⟨_, rfl⟩
  have H1 : Hid (Wr w a n) := hA
  have H2 : Hid (Wr w b m) := hB
  have HK1 : Hid (k1 = 1 + n) := hk1
  have HK2 : Hid (k2 = k1 + m) := hk2
  have HAB : Hid (∀ q, isBlk a q → ¬ isBlk b q) := hab
  have HLA : Hid (∀ q, isBlk a q → q < w.heap.size) := hla
  have HLB : Hid (∀ q, isBlk b q → q < w.heap.size) := hlb
  clear hA hB hk1 hk2 hab hla hlb
  go_enter Try.func30, Try.ntmps30
  go_wp2_with fail
  refine (f41 a n c 1 _ (Wr.exc H1.out (Exc.of (hcA _)) (fun q _ => id) (S := fun _ => False)) hn (by omega) (by omega)).mono ?_
  rw [← HK1.out]
  rintro e w1 ⟨rfl, ha1, hwa1, he1⟩
  have HA1 : Hid (ArgI w1 a (marksI 1 n)) := ha1
  have HE1 : Hid (Exc (isBlk a) (w.alloc (.cells #[.int .i64 k, .int .i64 s, .int .i64 r, .slice a n c, .slice b m d] 28)) w1) := he1
  have hx1 : ∀ o, w1.cell? ⟨w.heap.size, o, none⟩ = (w.alloc (.cells #[.int .i64 k, .int .i64 s, .int .i64 r, .slice a n c, .slice b m d] 28)).cell? ⟨w.heap.size, o, none⟩ := fun o => he1.cell (p := ⟨w.heap.size, o, none⟩) (by simp) (fun h => by have := HLA.out _ h; simp at this)
  have z1 := he1.size
  simp only [World.size_alloc] at z1
  clear ha1 hwa1 he1
  go_wp2_with fail
  refine (f42 b m d k1 _ (Wr.exc (Wr.exc H2.out (Exc.of (hcA _)) (fun q _ => id) (S := fun _ => False)) HE1.out (fun q h1 h2 => HAB.out q h2 h1)) hm (by have := HK1.out; omega) (by have := HK1.out; omega)).mono ?_
  rw [← HK2.out]
  rintro e w2 ⟨rfl, hb2, hwb2, he2⟩
  have HB2 : Hid (ArgS w2 b (marksS k1 m)) := hb2
  have HE2 : Hid (Exc (isBlk b) w1 w2) := he2
  clear hb2 hwb2 he2
  go_wp2_with fail
  go_ret
  refine ⟨by rw [HK2.out, HK1.out]; rfl, ArgI.exc HA1.out HE2.out (fun q h => HAB.out q h), by rw [← HK1.out]; exact HB2.out, ?_⟩
  exact ((Exc.of (hcA _)).trans (HE1.out.mono fun q h => .inl h)).trans (HE2.out.mono fun q h => .inr h)

set_option maxRecDepth 100000 in
set_option maxHeartbeats 2000000 in
theorem f17 (k s r : Int) (a b : Option Addr) (n m c d : Nat) (w : World) (hA : ArgI w a (marksI 1 n)) (hB : ArgS w b (marksS (1 + n) m)) (hn : n ≤ 1048576) (hm : m ≤ 1048576) :
    Calls Try.prog 31 #[.agg #[.int .i64 k, .int .i64 s, .int .i64 r, .slice a n c, .slice b m d], .int .i64 1] w fun e w' => e = .returned (.int .i64 ((1 + n + m : Nat) : Int)) ∧ Below w.heap.size w w' := by
  have hcA : ∀ X, Below w.heap.size w (w.alloc X) := fun X => (Below.refl _ _).alloc (Nat.le_refl _) _
  obtain ⟨k1, hk1⟩ : ∃ k1 : Nat, k1 = 1 + n := ⟨_, rfl⟩
  obtain ⟨k2, hk2⟩ : ∃ k2 : Nat, k2 = k1 + m := ⟨_, rfl⟩
  rw [← hk1] at hB
  have HA : Hid (ArgI w a (marksI 1 n)) := hA
  have HB : Hid (ArgS w b (marksS k1 m)) := hB
  have hk1n : (0 : Int) ≤ (k1 : Int) := by omega
  have hk2n : (0 : Int) ≤ (k2 : Int) := by omega
  have HK1 : Hid (k1 = 1 + n) := hk1
  have HK2 : Hid (k2 = k1 + m) := hk2
  clear hA hB hk1 hk2
  go_enter Try.func31, Try.ntmps31
  go_wp2_with fail
  refine (f43 a n c 1 _ (ArgI.below HA.out (hcA _) (Nat.le_refl _)) hn (by omega) (by omega)).mono ?_
  rw [← HK1.out]
  rintro e w1 ⟨rfl, rfl⟩
  go_wp2_with fail
  refine (f44 b m d k1 _ (ArgS.below HB.out (hcA _) (Nat.le_refl _)) hm (by have := HK1.out; omega) (by have := HK1.out; omega)).mono ?_
  rw [← HK2.out]
  rintro e w2 ⟨rfl, hb2⟩
  go_wp2_with fail
  go_ret
  exact ⟨by rw [HK2.out, HK1.out]; rfl, (hcA _).trans (hb2.mono (by simp))⟩

end Go.Proofs.Ytahbicegmioplaa
