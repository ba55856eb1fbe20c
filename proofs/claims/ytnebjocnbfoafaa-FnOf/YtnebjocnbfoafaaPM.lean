/- Contracts of the draws: the constants. -/
import Derived.Test.YtnebjocnbfoafaaPL
namespace Go.Proofs.Ytnebjocnbfoafaa
open Go.RowKit
set_option linter.unusedVariables false
set_option linter.unusedSimpArgs false

/-- The cells of a list of ints that was just made. -/
theorem fresh_ints (w : World) (l : List Int) (t : TypeId) (i : Nat) (hi : i < l.length) :
    (w.alloc (.cells (l.map fun v => Value.int .i64 v).toArray t (0, 0))).cell? ⟨w.heap.size, i, none⟩ = some (.int .i64 (l.getD i 0)) := by
  have hb : (w.alloc (.cells (l.map fun v => Value.int .i64 v).toArray t (0, 0))).heap[w.heap.size]? = some (.cells (l.map fun v => Value.int .i64 v).toArray t (0, 0)) := by
    show (w.heap.push _)[w.heap.size]? = _
    simp
  simp only [World.cell?, hb]
  simp [hi]

set_option maxRecDepth 100000 in
set_option maxHeartbeats 2000000 in
/-- One of a list that was just made: the value is in the list. -/
theorem one_of {w0 w : World} {B : Nat} {a : Option Addr} {len cap p : Nat} (h : RS w0 w B a len cap p) (hp : p ≤ 1000000) (l : List Int) (t : TypeId) (m0 : 0 < l.length) (m1 : l.length ≤ 1000) :
    Calls Try.prog 18 #[.pointer (some ⟨B, 0, none⟩), .slice (some ⟨w.heap.size, 0, none⟩) l.length l.length] (w.alloc (.cells (l.map fun v => Value.int .i64 v).toArray t (0, 0)))
      fun e w' => ∃ v : Int, v ∈ l ∧ e = .returned (.int .i64 v) ∧ RS w0 w' B a len cap (p + 1) := by
  refine (one_s (h.alloc _) hp w.heap.size l.length (fun i => l.getD i 0) (by have := h.lt; omega) m0 m1 (fun i hi => fresh_ints w l t i hi)).mono ?_
  rintro e w' ⟨i, hi, rfl, h1, -, -⟩
  refine ⟨l.getD i 0, ?_, rfl, h1⟩
  simp [hi]

set_option maxRecDepth 100000 in
set_option maxHeartbeats 2000000 in
theorem imm_s {w0 w : World} {B : Nat} {a : Option Addr} {len cap p : Nat} (h : RS w0 w B a len cap p) (hp : p ≤ 1000000) :
    Calls Try.prog 39 #[.pointer (some ⟨B, 0, none⟩)] w fun e w' => ∃ v : Int, e = .returned (.int .i64 v) ∧ 0 ≤ v ∧ v ≤ 4294967295 ∧ RS w0 w' B a len cap (p + 1) := by
  have H := hid h
  clear h
  go_enter Try.func39, Try.ntmps39
  go_wp2_with fail
  refine (one_of H.out hp [0, 1, 2, 3, 7, 8, 15, 31, 100, 255, 65535, 2147483647, 2147483648, 4294967295] 3 (by decide) (by decide)).mono ?_
  rintro e w1 ⟨v, hv, rfl, h1⟩
  have hv2 : 0 ≤ v ∧ v ≤ 4294967295 := by
    simp only [List.mem_cons, List.not_mem_nil, or_false] at hv
    omega
  have H1 := hid h1
  clear h1 hv
  go_wp2_with fail
  go_ret
  exact ⟨v, rfl, hv2.1, hv2.2, H1.out⟩

set_option maxRecDepth 100000 in
set_option maxHeartbeats 2000000 in
/-- A number: some int of 0 up to 255 * 2^24, or a constant. -/
theorem number_s {w0 w : World} {B : Nat} {a : Option Addr} {len cap p : Nat} (h : RS w0 w B a len cap p) (hp : p ≤ 900000) :
    Calls Try.prog 34 #[.pointer (some ⟨B, 0, none⟩)] w fun e w' => ∃ (v : Int) (q : Nat), e = .returned (.int .i64 v) ∧ 0 ≤ v ∧ v ≤ 4294967295 ∧ q ≤ p + 3 ∧ RS w0 w' B a len cap q := by
  have H := hid h
  clear h
  go_enter Try.func34, Try.ntmps34
  go_wp2_with fail
  refine (pick_s H.out (by omega) 3 (by omega) (by omega)).mono ?_
  rintro e w1 ⟨m, rfl, hm, h1, -, -⟩
  have H1 := hid h1
  clear h1
  go_wp2_with fail
  · refine (imm_s H1.out (by omega)).mono ?_
    rintro e w2 ⟨v, rfl, v0, v1, h2⟩
    have H2 := hid h2
    clear h2
    go_wp2_with fail
    go_ret
    exact ⟨v, p + 1 + 1, rfl, v0, v1, by omega, H2.out⟩
  · refine (pick_s H1.out (by omega) 256 (by omega) (by omega)).mono ?_
    rintro e w2 ⟨k, rfl, hk, h2, -, -⟩
    have H2 := hid h2
    clear h2
    go_wp2_with fail
    go_ret
    exact ⟨k, p + 1 + 1, rfl, by omega, by omega, by omega, H2.out⟩
  · refine (pick_s H1.out (by omega) 256 (by omega) (by omega)).mono ?_
    rintro e w2 ⟨k, rfl, hk, h2, -, -⟩
    have H2 := hid h2
    clear h2
    go_wp2_with fail
    refine (one_of H2.out (by omega) [0, 4, 8, 16, 24] 3 (by decide) (by decide)).mono ?_
    rintro e w3 ⟨s, hs, rfl, h3⟩
    have H3 := hid h3
    clear h3
    simp only [List.mem_cons, List.not_mem_nil, or_false] at hs
    rcases hs with rfl | rfl | rfl | rfl | rfl
    all_goals go_wp2_with fail
    all_goals go_ret
    all_goals exact ⟨_, p + 1 + 1 + 1, rfl, by omega, by omega, by omega, H3.out⟩
end Go.Proofs.Ytnebjocnbfoafaa
