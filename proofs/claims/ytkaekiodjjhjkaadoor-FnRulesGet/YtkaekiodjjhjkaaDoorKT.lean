/- Contracts of the draws: what a draw keeps (no ranges). -/
import Derived.Test.YtkaekiodjjhjkaaDoorPN
namespace Go.Proofs.YtkaekiodjjhjkaaDoor
open Go.RowKit
set_option linter.unusedVariables false
set_option linter.unusedSimpArgs false

/-- All blocks that were there are as they were, but one. -/
def Kept (B : Nat) (w w' : World) : Prop := w.heap.size ≤ w'.heap.size ∧ ∀ k, k < w.heap.size → k ≠ B → w'.heap[k]? = w.heap[k]?

/-- A reader's state in w', and all that was in w kept but the reader. -/
structure K3 (w0 w w' : World) (B : Nat) (a : Option Addr) (len cap p : Nat) : Prop where
  rs : RS w0 w' B a len cap p
  kp : Kept B w w'
  lt : B < w.heap.size
  le : w0.heap.size ≤ w.heap.size
section
variable {w0 w w' w'' : World} {B : Nat} {a : Option Addr} {len cap p q : Nat}
theorem K3.start (h : RS w0 w B a len cap p) : K3 w0 w w B a len cap p := ⟨h, ⟨Nat.le_refl _, fun _ _ _ => rfl⟩, h.lt, h.bel.size⟩
theorem K3.draw (h : K3 w0 w w' B a len cap p) (h2 : K3 w0 w' w'' B a len cap q) : K3 w0 w w'' B a len cap q :=
  ⟨h2.rs, ⟨Nat.le_trans h.kp.1 h2.kp.1, fun k hk hB => (h2.kp.2 k (Nat.lt_of_lt_of_le hk h.kp.1) hB).trans (h.kp.2 k hk hB)⟩, h.lt, h.le⟩
theorem K3.below (h : K3 w0 w w' B a len cap p) (hb : Below w'.heap.size w' w'') : K3 w0 w w'' B a len cap p :=
  ⟨h.rs.below hb, ⟨Nat.le_trans h.kp.1 hb.size, fun k hk hB => (hb.block k (Nat.lt_of_lt_of_le hk h.kp.1)).trans (h.kp.2 k hk hB)⟩, h.lt, h.le⟩
theorem K3.alloc (h : K3 w0 w w' B a len cap p) (o : Obj) : K3 w0 w (w'.alloc o) B a len cap p := h.below ((Below.refl _ _).alloc (Nat.le_refl _) _)
theorem K3.drew (h : K3 w0 w w' B a len cap p) : K3 w0 w w'.drew B a len cap p := h.below (Below.refl _ _).drew
theorem K3.set (h : K3 w0 w w' B a len cap p) (ad : Addr) (v : Value) (hk : w.heap.size ≤ ad.block) : K3 w0 w (w'.setCell ad v) B a len cap p := by
  have hlt := h.lt
  have hle := h.le
  refine ⟨⟨?_, h.rs.ge, h.rs.bel.setCell (by omega) v, h.rs.src, h.rs.le⟩, ⟨?_, fun k hk2 hB => ?_⟩, h.lt, h.le⟩
  · exact (Below.heap_setCell w' ad v B (by omega)).trans h.rs.box
  · have : (w'.setCell ad v).heap.size = w'.heap.size := by
      show (w'.heap.modify _ _).size = _
      rw [Array.size_modify]
    rw [this]; exact h.kp.1
  · exact (Below.heap_setCell w' ad v k (by omega)).trans (h.kp.2 k hk2 hB)
theorem RS.k3 (h : RS w0 w B a len cap p) (h1 : RS w0 w' B a len cap q) (hs : w.heap.size ≤ w'.heap.size) (hb : ∀ k, k < w.heap.size → k ≠ B → w'.heap[k]? = w.heap[k]?) : K3 w0 w w' B a len cap q :=
  ⟨h1, ⟨hs, hb⟩, h.lt, h.bel.size⟩
end

theorem pick_k {w0 w : World} {B : Nat} {a : Option Addr} {len cap p : Nat} (h : RS w0 w B a len cap p) (hp : p ≤ 1000000) (n : Int) (n0 : 1 ≤ n) (n1 : n ≤ 2147483647) :
    Calls Tryd.prog 23 #[.pointer (some ⟨B, 0, none⟩), .int .i64 n] w fun e w' => ∃ m : Nat, e = .returned (.int .i64 m) ∧ (m : Int) < n ∧ K3 w0 w w' B a len cap (p + 1) := by
  refine (pick_s h hp n n0 n1).mono ?_
  rintro e w' ⟨m, rfl, hm, h1, h2, h3⟩
  exact ⟨m, rfl, hm, h.k3 h1 (by omega) (fun k _ hk => h3 k hk)⟩

theorem one_k {w0 w : World} {B : Nat} {a : Option Addr} {len cap p : Nat} (h : RS w0 w B a len cap p) (hp : p ≤ 1000000) (l : List Int) (t : TypeId) (m0 : 0 < l.length) (m1 : l.length ≤ 1000) :
    Calls Tryd.prog 27 #[.pointer (some ⟨B, 0, none⟩), .slice (some ⟨w.heap.size, 0, none⟩) l.length l.length] (w.alloc (.cells (l.map fun v => Value.int .i64 v).toArray t (0, 0)))
      fun e w' => ∃ v : Int, v ∈ l ∧ e = .returned (.int .i64 v) ∧ K3 w0 w w' B a len cap (p + 1) := by
  refine (one_s (h.alloc _) hp w.heap.size l.length (fun i => l.getD i 0) (by have := h.lt; omega) m0 m1 (fun i hi => fresh_ints w l t i hi)).mono ?_
  rintro e w' ⟨i, hi, rfl, h1, h2, h3⟩
  refine ⟨l.getD i 0, by simp [hi], rfl, h.k3 h1 ?_ (fun k hk hB => (h3 k hB).trans (Below.heap_alloc w _ k hk))⟩
  rw [h2]; simp

end Go.Proofs.YtkaekiodjjhjkaaDoor
