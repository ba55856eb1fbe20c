/- Contracts of the draws: a reader opened; the draws of numbers. -/
import Derived.Test.YthahkgbkdlfioaaPM
namespace Go.Proofs.Ythahkgbkdlfioaa
open Go.RowKit
set_option linter.unusedVariables false
set_option linter.unusedSimpArgs false

/-- The bytes of an argument. -/
def Src (w : World) (a : Option Addr) (len : Nat) : Prop :=
  len = 0 ∨ ∃ g off, a = some ⟨g, off, none⟩ ∧ g < w.heap.size ∧ ∀ j, j < len → ∃ v : Nat, v < 256 ∧ w.cell? ⟨g, off + j, none⟩ = some (.int .u8 v)

theorem RS.new (w : World) (a : Option Addr) (len cap n : Nat) (hs : Src w a len) (hn : n ≤ len) (h2 : n ≤ 2000) :
    RS w (w.alloc (.cells #[.slice a n cap, .int .i64 0] 65 (0, 0))) w.heap.size a n cap 0 := by
  refine ⟨?_, Nat.le_refl _, (Below.refl _ _).alloc (Nat.le_refl _) _, ?_, h2⟩
  · show (w.heap.push _)[w.heap.size]? = _
    simp
  · rcases hs with h0 | ⟨g, off, ha, hg, hc⟩
    · exact .inl (by omega)
    · exact .inr ⟨g, off, ha, hg, fun j hj => hc j (by omega)⟩

set_option maxRecDepth 100000 in
set_option maxHeartbeats 2000000 in
theorem open_s (w : World) (a : Option Addr) (len cap : Nat) (hc : len ≤ cap) (hs : Src w a len) (hl : cap < 2 ^ 63) :
    Calls Try.prog 30 #[.slice a len cap] w fun e w' => ∃ (n : Nat), e = .returned (.pointer (some ⟨w.heap.size, 0, none⟩)) ∧ RS w w' w.heap.size a n cap 0 := by
  have HS := hid hs
  clear hs
  go_enter Try.func30, Try.ntmps30
  go_wp2_with fail
  · go_ret
    exact ⟨2000, rfl, RS.new w a len cap 2000 HS.out (by omega) (by omega)⟩
  · go_ret
    exact ⟨len, rfl, RS.new w a len cap len HS.out (by omega) (by omega)⟩

set_option maxRecDepth 100000 in
set_option maxHeartbeats 4000000 in
theorem drawHolds_s (w : World) (a : Option Addr) (len cap : Nat) (hc : len ≤ cap) (hs : Src w a len) (hl : cap < 2 ^ 63) :
    Calls Try.prog 12 #[.slice a len cap] w fun e w' => ∃ (k x y : Int), e = .returned (.tuple #[.int .i64 k, .int .i64 x, .int .i64 y]) ∧ 11 ≤ k ∧ k ≤ 16 ∧ 0 ≤ x ∧ x ≤ 4294967295 ∧ -1 ≤ y ∧ y ≤ 4294967295 ∧ Below w.heap.size w w' := by
  have HS := hid hs
  clear hs
  go_enter Try.func12, Try.ntmps12
  go_wp2_with fail
  refine (open_s w a len cap hc HS.out hl).mono ?_
  rintro e w1 ⟨n, rfl, h1⟩
  have H1 := hid h1
  clear h1
  go_wp2_with fail
  refine (number_s H1.out (by omega)).mono ?_
  rintro e w2 ⟨x, q, rfl, x0, x1, hq, h2⟩
  have H2 := hid h2
  clear h2
  go_wp2_with fail
  refine (one_of H2.out (by omega) [12, 13, 14, 15, 11, 16] 3 (by decide) (by decide)).mono ?_
  rintro e w3 ⟨k, hk, rfl, h3⟩
  have hk2 : 11 ≤ k ∧ k ≤ 16 := by
    simp only [List.mem_cons, List.not_mem_nil, or_false] at hk
    omega
  have H3 := hid h3
  clear h3 hk
  go_wp2_with fail
  refine (number_s H3.out (by omega)).mono ?_
  rintro e w4 ⟨z, q2, rfl, z0, z1, hq2, h4⟩
  have H4 := hid h4
  clear h4
  go_wp2_with fail
  refine (one_of H4.out (by omega) [x, z, 0, -1] 3 (by simp) (by simp)).mono ?_
  rintro e w5 ⟨y, hy, rfl, h5⟩
  have hy2 : -1 ≤ y ∧ y ≤ 4294967295 := by
    simp only [List.mem_cons, List.not_mem_nil, or_false] at hy
    omega
  have H5 := hid h5
  clear h5 hy
  go_wp2_with fail
  go_ret3
  exact ⟨k, x, y, rfl, hk2.1, hk2.2, x0, x1, hy2.1, hy2.2, H5.out.bel⟩
end Go.Proofs.Ythahkgbkdlfioaa
