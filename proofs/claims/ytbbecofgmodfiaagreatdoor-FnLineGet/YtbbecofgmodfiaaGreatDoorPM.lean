/- Contracts of the draws: the constants. -/
import Derived.Test.YtbbecofgmodfiaaGreatDoorPL
namespace Go.Proofs.YtbbecofgmodfiaaGreatDoor
open Go.RowKit
set_option linter.unusedVariables false
set_option linter.unusedSimpArgs false

/-- The cells of a list of ints that was just made. -/
theorem fresh_ints (w : World) (l : List Int) (t : TypeId) (i : Nat) (hi : i < l.length) :
    (w.alloc (.cells (l.map fun v => Value.int .i64 v).toArray t (0, 0))).cell? ⟨w.heap.size, i, none⟩ = some (.int .i64 (l.getD i 0)) := by
  have hb : (w.alloc (.cells (l.map fun v => Value.int .i64 v).toArray t (0, 0))).heap[w.heap.size]? = some (.cells (l.map fun v => Value.int .i64 v).toArray t (0, 0)) := by
    show (w.heap.push _)[w.heap.size]? = _
    simp
  simp only [World.cell?, hb]
  simp [hi]

set_option maxRecDepth 100000 in
set_option maxHeartbeats 2000000 in
/-- One of a list that was just made: the value is in the list. -/
theorem one_of {w0 w : World} {B : Nat} {a : Option Addr} {len cap p : Nat} (h : RS w0 w B a len cap p) (hp : p ≤ 1000000) (l : List Int) (t : TypeId) (m0 : 0 < l.length) (m1 : l.length ≤ 1000) :
    Calls Tryz.prog 57 #[.pointer (some ⟨B, 0, none⟩), .slice (some ⟨w.heap.size, 0, none⟩) l.length l.length] (w.alloc (.cells (l.map fun v => Value.int .i64 v).toArray t (0, 0)))
      fun e w' => ∃ v : Int, v ∈ l ∧ e = .returned (.int .i64 v) ∧ RS w0 w' B a len cap (p + 1) := by
  refine (one_s (h.alloc _) hp w.heap.size l.length (fun i => l.getD i 0) (by have := h.lt; omega) m0 m1 (fun i hi => fresh_ints w l t i hi)).mono ?_
  rintro e w' ⟨i, hi, rfl, h1, -, -⟩
  refine ⟨l.getD i 0, ?_, rfl, h1⟩
  simp [hi]

set_option maxRecDepth 100000 in
set_option maxHeartbeats 2000000 in
theorem imm_s {w0 w : World} {B : Nat} {a : Option Addr} {len cap p : Nat} (h : RS w0 w B a len cap p) (hp : p ≤ 1000000) :
    Calls Tryz.prog 56 #[.pointer (some ⟨B, 0, none⟩)] w fun e w' => ∃ v : Int, e = .returned (.int .i64 v) ∧ 0 ≤ v ∧ v ≤ 4294967295 ∧ RS w0 w' B a len cap (p + 1) := by
  have H := hid h
  clear h
  go_enter Tryz.func56, Tryz.ntmps56
  go_wp2_with fail
  refine (one_of H.out hp [0, 1, 2, 3, 7, 8, 15, 31, 100, 255, 65535, 2147483647, 2147483648, 4294967295] 3 (by decide) (by decide)).mono ?_
  rintro e w1 ⟨v, hv, rfl, h1⟩
  have hv2 : 0 ≤ v ∧ v ≤ 4294967295 := by
    simp only [List.mem_cons, List.not_mem_nil, or_false] at hv
    omega
  have H1 := hid h1
  clear h1 hv
  go_wp2_with fail
  go_ret
  exact ⟨v, rfl, hv2.1, hv2.2, H1.out⟩

end Go.Proofs.YtbbecofgmodfiaaGreatDoor
