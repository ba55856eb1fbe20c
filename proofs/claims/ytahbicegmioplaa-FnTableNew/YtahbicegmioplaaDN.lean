/- The draw of a kind, a size and room. -/
import Derived.Test.YtahbicegmioplaaPN
namespace Go.Proofs.Ytahbicegmioplaa
open Go.RowKit
set_option linter.unusedVariables false
set_option linter.unusedSimpArgs false

set_option maxRecDepth 100000 in
set_option maxHeartbeats 4000000 in
theorem drawNew_s (w : World) (a : Option Addr) (len cap : Nat) (hc : len ≤ cap) (hs : Src w a len) (hl : cap < 2 ^ 63) :
    Calls Try.prog 9 #[.slice a len cap] w fun e w' => ∃ (k s r : Int), e = .returned (.tuple #[.int .i64 k, .int .i64 s, .int .i64 r]) ∧ 0 ≤ k ∧ k ≤ 3 ∧ 0 ≤ s ∧ s ≤ 9 ∧ 0 ≤ r ∧ r ≤ 9 ∧ Below w.heap.size w w' := by
  have HS := hid hs
  clear hs
  go_enter Try.func9, Try.ntmps9
  go_wp2_with fail
  refine (open_s w a len cap hc HS.out hl).mono ?_
  rintro e w1 ⟨n, rfl, h1⟩
  have H1 := hid h1
  clear h1
  go_wp2_with fail
  refine (one_of H1.out (by omega) [1, 2, 1, 2, 0, 3] 3 (by decide) (by decide)).mono ?_
  rintro e w2 ⟨k, hk, rfl, h2⟩
  have hk2 : 0 ≤ k ∧ k ≤ 3 := by
    simp only [List.mem_cons, List.not_mem_nil, or_false] at hk
    omega
  have H2 := hid h2
  clear h2 hk
  go_wp2_with fail
  refine (one_of H2.out (by omega) [1, 4, 8, 0, 9] 3 (by decide) (by decide)).mono ?_
  rintro e w3 ⟨s, hs, rfl, h3⟩
  have hs2 : 0 ≤ s ∧ s ≤ 9 := by
    simp only [List.mem_cons, List.not_mem_nil, or_false] at hs
    omega
  have H3 := hid h3
  clear h3 hs
  go_wp2_with fail
  refine (one_of H3.out (by omega) [1, 4, 8, 0, 9] 3 (by decide) (by decide)).mono ?_
  rintro e w4 ⟨r, hr, rfl, h4⟩
  have hr2 : 0 ≤ r ∧ r ≤ 9 := by
    simp only [List.mem_cons, List.not_mem_nil, or_false] at hr
    omega
  have H4 := hid h4
  clear h4 hr
  go_wp2_with fail
  go_ret3
  exact ⟨k, s, r, rfl, hk2.1, hk2.2, hs2.1, hs2.2, hr2.1, hr2.2, H4.out.bel⟩
end Go.Proofs.Ytahbicegmioplaa
