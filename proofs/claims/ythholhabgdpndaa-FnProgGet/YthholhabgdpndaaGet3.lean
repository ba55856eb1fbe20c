/- InsGet of the specification; eqIns; the walk of the law FnExactInsGet. -/
import Derived.Test.YthholhabgdpndaaGet2
namespace Go.Proofs.Ythholhabgdpndaa
open Go.RowKit
set_option linter.unusedSimpArgs false

theorem or_low (a b k m : Nat) (hm : m = 2 ^ k) (ha : a < m) : a ||| b * m = a + b * m := by
  subst hm
  have := Nat.two_pow_add_eq_or_of_lt ha b
  rw [Nat.or_comm, Nat.mul_comm b, ← this]; omega
theorem imm_sum (b4 b5 b6 b7 : UInt8) : immO b4 b5 b6 b7 = (b4.toNat : Int) + b5.toNat * 256 + b6.toNat * 65536 + b7.toNat * 16777216 := by
  have h4 := b4.toNat_lt
  have h5 := b5.toNat_lt
  have h6 := b6.toNat_lt
  have h7 := b7.toNat_lt
  unfold immO
  rw [show ((b5.toNat : Int) * 256) = ((b5.toNat * 256 : Nat) : Int) from by omega, b_or_i64 _ _ (by omega) (by omega), or_low _ _ 8 256 (by decide) (by omega),
    show ((b6.toNat : Int) * 65536) = ((b6.toNat * 65536 : Nat) : Int) from by omega, b_or_i64 _ _ (by omega) (by omega), or_low _ _ 16 65536 (by decide) (by omega),
    show ((b7.toNat : Int) * 16777216) = ((b7.toNat * 16777216 : Nat) : Int) from by omega, b_or_i64 _ _ (by omega) (by omega), or_low _ _ 24 16777216 (by decide) (by omega)]
  omega
theorem byte_of (b : UInt8) (n : Int) (h : n = (b.toNat : Int)) : UInt8.ofNat n.toNat = b := by
  subst h; simp
theorem put_get (b0 b1 b2 b3 b4 b5 b6 b7 : UInt8) : putS (b0.toNat : Int) ((b1.toNat : Int) / 16) ((b1.toNat : Int) % 16 - 1) (offV b2) (immO b4 b5 b6 b7) (b3.toNat : Int) = ⟨#[b0, b1, b2, b3, b4, b5, b6, b7]⟩ := by
  have h0 := b0.toNat_lt
  have h1 := b1.toNat_lt
  have h2 := b2.toNat_lt
  have h3 := b3.toNat_lt
  have h4 := b4.toNat_lt
  have h5 := b5.toNat_lt
  have h6 := b6.toNat_lt
  have h7 := b7.toNat_lt
  unfold putS headN fourN strOfNums
  rw [imm_sum]
  simp only [List.cons_append, List.nil_append, List.map_cons, List.map_nil]
  rw [byte_of b0 _ (by omega), byte_of b1 _ (by omega), byte_of b2 _ (by unfold offV; split <;> omega), byte_of b3 _ (by omega), byte_of b4 _ (by omega), byte_of b5 _ (by omega), byte_of b6 _ (by omega), byte_of b7 _ (by omega)]

set_option maxRecDepth 100000 in
set_option maxHeartbeats 1000000 in
theorem f14s (s : ByteArray) (w : World) (hs : ((s.size : Int) != 8) = true) :
    Calls Try.prog 15 #[.string s] w fun e w' => e = .returned (.tuple #[.agg #[.int .i64 0, .int .i64 0, .int .i64 0, .int .i64 0, .int .i64 0, .int .i64 0], .bool false]) ∧ Below w.heap.size w w' := by
  go_enter Try.func15, Try.ntmps15
  go_wp2
  exact bodyPost_ret (v := .tuple #[.agg #[.int .i64 0, .int .i64 0, .int .i64 0, .int .i64 0, .int .i64 0, .int .i64 0], .bool false]) (by simp [results, Try.results15, go_sem]) rfl ⟨rfl, (Below.refl _ _).alloc (Nat.le_refl _) _⟩

set_option maxRecDepth 100000 in
set_option maxHeartbeats 1000000 in
theorem f15s (s : ByteArray) (w : World) (hs : ((s.size : Int) != 8) = true) :
    Calls Try.prog 13 #[.string s] w fun e w' => e = .returned (.tuple #[.agg #[.int .i64 0, .int .i64 0, .int .i64 0, .int .i64 0, .int .i64 0, .int .i64 0], .bool false]) ∧ Below w.heap.size w w' := by
  go_enter Try.func13, Try.ntmps13
  go_wp2
  exact bodyPost_ret (v := .tuple #[.agg #[.int .i64 0, .int .i64 0, .int .i64 0, .int .i64 0, .int .i64 0, .int .i64 0], .bool false]) (by simp [results, Try.results13, go_sem]) rfl ⟨rfl, (Below.refl _ _).alloc (Nat.le_refl _) _⟩

set_option maxRecDepth 100000 in
set_option maxHeartbeats 1000000 in
theorem f14y (b0 b1 b2 b3 b4 b5 b6 b7 : UInt8) (w : World) (hok : sokB (b0.toNat : Int) ((b1.toNat : Int) / 16) ((b1.toNat : Int) % 16 - 1) (offV b2) (immO b4 b5 b6 b7) (b3.toNat : Int) = true) :
    Calls Try.prog 15 #[.string ⟨#[b0, b1, b2, b3, b4, b5, b6, b7]⟩] w fun e w' => e = .returned (.tuple #[.agg #[.int .i64 (b0.toNat : Int), .int .i64 ((b1.toNat : Int) / 16), .int .i64 ((b1.toNat : Int) % 16 - 1), .int .i64 (offV b2), .int .i64 (immO b4 b5 b6 b7), .int .i64 (b3.toNat : Int)], .bool true]) ∧ Below w.heap.size w w' := by
  have hpg := put_get b0 b1 b2 b3 b4 b5 b6 b7
  go_enter Try.func15, Try.ntmps15
  go_wp2_with fail
  refine (f35 _ _ _ _ _ _ _ _ _).mono ?_
  rintro e w1 ⟨rfl, hb1⟩
  obtain ⟨hc1, hf1⟩ := bcell hb1
  have hz1 : w.heap.size < w1.heap.size := by have := hb1.size; simp at this; omega
  have c1 : Below w.heap.size w w1 := ((Below.refl _ _).alloc (Nat.le_refl _) _).trans (hb1.mono (by simp))
  go_wp2_with fail
  refine (f28 _ _ _ _ _ _ _).mono ?_
  rintro e w2 ⟨rfl, hb2⟩
  obtain ⟨hc2, hf2⟩ := bcell hb2
  have hz2 : w1.heap.size < w2.heap.size := by have := hb2.size; simp at this; omega
  have hz2' : w.heap.size < w2.heap.size := by omega
  have c2 : Below w.heap.size w w2 := (c1.alloc (by omega) _).trans (hb2.mono (by simp; omega))
  go_wp2_with fail
  refine (f34 _ _ _ _ _ _ _).mono ?_
  rintro e w3 ⟨rfl, hb3⟩
  obtain ⟨hc3, hf3⟩ := bcell hb3
  have hz3 : w1.heap.size < w3.heap.size := by have := hb3.size; omega
  have c3 : Below w.heap.size w w3 := c2.trans (hb3.mono (by omega))
  rw [hpg]
  go_wp2_with fail
  have q0 : ∀ k, k < 6 → w3.cell? ⟨w.heap.size, k, none⟩ = some (.int .i64 0) := by
    intro k hk
    rw [hc3 _ _ (by omega), hc2 _ _ (by simp; omega), World.cell?_alloc_lt _ _ _ hz1, hc1 _ _ (by simp)]
    rcases (by omega : k = 0 ∨ k = 1 ∨ k = 2 ∨ k = 3 ∨ k = 4 ∨ k = 5) with rfl | rfl | rfl | rfl | rfl | rfl <;> simp
  exact bodyPost_ret (v := .tuple #[.agg #[.int .i64 (b0.toNat : Int), .int .i64 ((b1.toNat : Int) / 16), .int .i64 ((b1.toNat : Int) % 16 - 1), .int .i64 (offV b2), .int .i64 (immO b4 b5 b6 b7), .int .i64 (b3.toNat : Int)], .bool true]) (by simp [results, Try.results15, go_sem, q0]) rfl ⟨rfl, ((((((c3.setCell (Nat.le_refl _) _).setCell (Nat.le_refl _) _).setCell (Nat.le_refl _) _).setCell (Nat.le_refl _) _).setCell (Nat.le_refl _) _).setCell (Nat.le_refl _) _)⟩

set_option maxRecDepth 100000 in
set_option maxHeartbeats 1000000 in
theorem f14n (b0 b1 b2 b3 b4 b5 b6 b7 : UInt8) (w : World) (hok : sokB (b0.toNat : Int) ((b1.toNat : Int) / 16) ((b1.toNat : Int) % 16 - 1) (offV b2) (immO b4 b5 b6 b7) (b3.toNat : Int) = false) :
    Calls Try.prog 15 #[.string ⟨#[b0, b1, b2, b3, b4, b5, b6, b7]⟩] w fun e w' => e = .returned (.tuple #[.agg #[.int .i64 0, .int .i64 0, .int .i64 0, .int .i64 0, .int .i64 0, .int .i64 0], .bool false]) ∧ Below w.heap.size w w' := by
  go_enter Try.func15, Try.ntmps15
  go_wp2_with fail
  refine (f35 _ _ _ _ _ _ _ _ _).mono ?_
  rintro e w1 ⟨rfl, hb1⟩
  obtain ⟨hc1, hf1⟩ := bcell hb1
  have hz1 : w.heap.size < w1.heap.size := by have := hb1.size; simp at this; omega
  have c1 : Below w.heap.size w w1 := ((Below.refl _ _).alloc (Nat.le_refl _) _).trans (hb1.mono (by simp))
  go_wp2_with fail
  refine (f28 _ _ _ _ _ _ _).mono ?_
  rintro e w2 ⟨rfl, hb2⟩
  obtain ⟨hc2, hf2⟩ := bcell hb2
  have hz2 : w1.heap.size < w2.heap.size := by have := hb2.size; simp at this; omega
  have hz2' : w.heap.size < w2.heap.size := by omega
  have c2 : Below w.heap.size w w2 := (c1.alloc (by omega) _).trans (hb2.mono (by simp; omega))
  go_wp2_with fail
  have q0 : ∀ k, k < 6 → w2.cell? ⟨w.heap.size, k, none⟩ = some (.int .i64 0) := by
    intro k hk
    rw [hc2 _ _ (by simp; omega), World.cell?_alloc_lt _ _ _ hz1, hc1 _ _ (by simp)]
    rcases (by omega : k = 0 ∨ k = 1 ∨ k = 2 ∨ k = 3 ∨ k = 4 ∨ k = 5) with rfl | rfl | rfl | rfl | rfl | rfl <;> simp
  exact bodyPost_ret (v := .tuple #[.agg #[.int .i64 0, .int .i64 0, .int .i64 0, .int .i64 0, .int .i64 0, .int .i64 0], .bool false]) (by simp [results, Try.results15, go_sem, q0]) rfl ⟨rfl, ((((((c2.setCell (Nat.le_refl _) _).setCell (Nat.le_refl _) _).setCell (Nat.le_refl _) _).setCell (Nat.le_refl _) _).setCell (Nat.le_refl _) _).setCell (Nat.le_refl _) _)⟩

/-- What both InsGet answer. -/
theorem get_both (s : ByteArray) : ∃ o d s' f i z : Int, ∃ b : Bool,
    (∀ w : World, Calls Try.prog 15 #[.string s] w fun e w' => e = .returned (.tuple #[.agg #[.int .i64 o, .int .i64 d, .int .i64 s', .int .i64 f, .int .i64 i, .int .i64 z], .bool b]) ∧ Below w.heap.size w w') ∧
    (∀ w : World, Calls Try.prog 13 #[.string s] w fun e w' => e = .returned (.tuple #[.agg #[.int .i64 o, .int .i64 d, .int .i64 s', .int .i64 f, .int .i64 i, .int .i64 z], .bool b]) ∧ Below w.heap.size w w') := by
  by_cases hs : s.size = 8
  · obtain ⟨⟨l⟩⟩ := s
    match l, hs with
    | [b0, b1, b2, b3, b4, b5, b6, b7], _ =>
      cases hok : sokB (b0.toNat : Int) ((b1.toNat : Int) / 16) ((b1.toNat : Int) % 16 - 1) (offV b2) (immO b4 b5 b6 b7) (b3.toNat : Int)
      · exact ⟨0, 0, 0, 0, 0, 0, false, fun w => f14n b0 b1 b2 b3 b4 b5 b6 b7 w hok, fun w => f15n b0 b1 b2 b3 b4 b5 b6 b7 w (by rw [ok_same]; exact hok)⟩
      · exact ⟨_, _, _, _, _, _, true, fun w => f14y b0 b1 b2 b3 b4 b5 b6 b7 w hok, fun w => f15y b0 b1 b2 b3 b4 b5 b6 b7 w (by rw [ok_same]; exact hok)⟩
  · have hs' : ((s.size : Int) != 8) = true := by rw [bne_iff_ne]; omega
    exact ⟨0, 0, 0, 0, 0, 0, false, fun w => f14s s w hs', fun w => f15s s w hs'⟩

end Go.Proofs.Ythholhabgdpndaa
