/- Contracts of the draws: a reader's state; one of a list; a number. -/
import Derived.Test.YtkaekiodjjhjkaaDoorPK
import Derived.RangeFuncRecord
namespace Go.Proofs.YtkaekiodjjhjkaaDoor
open Go.RowKit
set_option linter.unusedVariables false
set_option linter.unusedSimpArgs false

/-- A reader that the call has made, over bytes that were there ahead of it. -/
structure RS (w0 w : World) (B : Nat) (a : Option Addr) (len cap p : Nat) : Prop where
  box : w.heap[B]? = some (.cells #[.slice a len cap, .int .i64 p] 52 (0, 0))
  ge : w0.heap.size ≤ B
  bel : Below w0.heap.size w0 w
  src : len = 0 ∨ ∃ g off, a = some ⟨g, off, none⟩ ∧ g < w0.heap.size ∧ ∀ j, j < len → ∃ v : Nat, v < 256 ∧ w0.cell? ⟨g, off + j, none⟩ = some (.int .u8 v)
  le : len ≤ 2000
section
variable {w0 w w' : World} {B : Nat} {a : Option Addr} {len cap p : Nat}
theorem RS.lt (h : RS w0 w B a len cap p) : B < w.heap.size := (Array.getElem?_eq_some_iff.1 h.box).1
theorem RS.rd (h : RS w0 w B a len cap p) : Rd w B a len cap p :=
  ⟨by simp [World.cell?, h.box], by simp [World.cell?, h.box], by simp [World.frozen?, h.box]⟩
theorem RS.bytes (h : RS w0 w B a len cap p) : Bytes w B a len := by
  rcases h.src with h0 | ⟨g, off, ha, hg, hc⟩
  · exact .inl h0
  · refine .inr ⟨g, off, ha, by have := h.ge; omega, fun j hj => ?_⟩
    obtain ⟨v, hv, hcv⟩ := hc j hj
    exact ⟨v, hv, (h.bel.cell (p := ⟨g, off + j, none⟩) hg).trans hcv⟩
theorem RS.below (h : RS w0 w B a len cap p) (hb : Below w.heap.size w w') : RS w0 w' B a len cap p :=
  ⟨(hb.block B h.lt).trans h.box, h.ge, h.bel.trans (hb.mono h.bel.size), h.src, h.le⟩
theorem RS.alloc (h : RS w0 w B a len cap p) (o : Obj) : RS w0 (w.alloc o) B a len cap p := h.below ((Below.refl _ _).alloc (Nat.le_refl _) _)
theorem RS.drewN (h : RS w0 w B a len cap p) (k : Nat) : RS w0 (w.drewN k) B a len cap p := ⟨h.box, h.ge, ⟨h.bel.os, h.bel.tape, h.bel.output, h.bel.size, h.bel.block⟩, h.src, h.le⟩
theorem RS.step (h : RS w0 w B a len cap p) : RS w0 (w.setCell ⟨B, 1, none⟩ (.int .i64 ((p : Int) + 1))) B a len cap (p + 1) := by
  refine ⟨?_, h.ge, h.bel.setCell h.ge _, h.src, h.le⟩
  obtain ⟨hlt, hk⟩ := Array.getElem?_eq_some_iff.1 h.box
  show (w.heap.modify B _)[B]? = _
  rw [Array.getElem?_eq_getElem (by rw [Array.size_modify]; exact hlt), Array.getElem_modify_self, hk]
  rfl
end

/-- A pick, and what it leaves: the reader one further, all other blocks as they were. -/
theorem pick_s {w0 w : World} {B : Nat} {a : Option Addr} {len cap p : Nat} (h : RS w0 w B a len cap p) (hp : p ≤ 1000000) (n : Int) (n0 : 1 ≤ n) (n1 : n ≤ 2147483647) :
    Calls Tryd.prog 23 #[.pointer (some ⟨B, 0, none⟩), .int .i64 n] w fun e w' => ∃ m : Nat, e = .returned (.int .i64 m) ∧ (m : Int) < n ∧ RS w0 w' B a len cap (p + 1) ∧ w'.heap.size = w.heap.size ∧ ∀ k, k ≠ B → w'.heap[k]? = w.heap[k]? := by
  refine (pick_c w B cap p len a n h.rd h.bytes hp n0 n1 h.le).mono ?_
  rintro e w' ⟨m, k, rfl, hm, rfl⟩
  refine ⟨m, rfl, by omega, h.step.drewN k, ?_, fun q hq => ?_⟩
  · show (w.heap.modify B _).size = _
    rw [Array.size_modify]
  · exact Below.heap_setCell w ⟨B, 1, none⟩ _ q hq

set_option maxRecDepth 100000 in
set_option maxHeartbeats 2000000 in
theorem one_s {w0 w : World} {B : Nat} {a : Option Addr} {len cap p : Nat} (h : RS w0 w B a len cap p) (hp : p ≤ 1000000) (L m : Nat) (f : Nat → Int) (hL : L ≠ B) (m0 : 0 < m) (m1 : m ≤ 1000) (hf : ∀ i, i < m → w.cell? ⟨L, i, none⟩ = some (.int .i64 (f i))) :
    Calls Tryd.prog 27 #[.pointer (some ⟨B, 0, none⟩), .slice (some ⟨L, 0, none⟩) m m] w fun e w' => ∃ i : Nat, i < m ∧ e = .returned (.int .i64 (f i)) ∧ RS w0 w' B a len cap (p + 1) ∧ w'.heap.size = w.heap.size ∧ ∀ k, k ≠ B → w'.heap[k]? = w.heap[k]? := by
  have H := hid h
  have HF := hid hf
  have q0 : (1 : Int) ≤ m := by omega
  have q1 : (m : Int) ≤ 1000 := by omega
  clear h hf
  go_enter Tryd.func27, Tryd.ntmps27
  go_wp2_with fail
  refine (pick_s H.out hp m (by omega) (by omega)).mono ?_
  rintro e w1 ⟨i, rfl, hi, h1, h2, h3⟩
  have hi0 : (0 : Int) ≤ i := by omega
  have hin : i < m := by omega
  have hc : w1.cell? ⟨L, i, none⟩ = some (.int .i64 (f i)) := (World.cell?_of_block (w := w) (h3 L hL)).trans (HF.out i hin)
  have H1 := hid h1
  have H2 := hid h2
  have H3 := hid h3
  clear h1 h2 h3
  go_wp2_with fail
  go_ret
  exact ⟨i, hin, rfl, H1.out, H2.out, H3.out⟩
end Go.Proofs.YtkaekiodjjhjkaaDoor
