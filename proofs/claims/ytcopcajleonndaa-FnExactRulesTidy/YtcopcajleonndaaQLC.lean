/- The walks of the laws of two ranges. -/
import Derived.Test.YtcopcajleonndaaQRQ
import Derived.Deep.DeepCutAuto
namespace Go.Proofs.Ytcopcajleonndaa
open Go.RowKit
set_option linter.unusedVariables false
set_option linter.unusedSimpArgs false

theorem st4_heap {k B : Nat} (hk : k ≠ B) (x y z u : Int) (w1 : World) : (Go.Proofs.Ytcopcajleonndaa.st4 w1 B x y z u).heap[k]? = w1.heap[k]? :=
  (Below.heap_setCell _ _ _ k hk).trans ((Below.heap_setCell _ _ _ k hk).trans ((Below.heap_setCell _ _ _ k hk).trans (Below.heap_setCell _ _ _ k hk)))
theorem cell_heap {w1 w2 : World} {k : Nat} (j : Nat) (e : w2.heap[k]? = w1.heap[k]?) : w2.cell? ⟨k, j, none⟩ = w1.cell? ⟨k, j, none⟩ := World.cell?_of_block (w := w1) e
theorem Box4.heap {k : Nat} {lo hi b o : Int} {w1 w2 : World} (h : Box4 k lo hi b o w1) (e : w2.heap[k]? = w1.heap[k]?) : Box4 k lo hi b o w2 :=
  ⟨(cell_heap 0 e).trans h.c0, (cell_heap 1 e).trans h.c1, (cell_heap 2 e).trans h.c2, (cell_heap 3 e).trans h.c3⟩
theorem Box4.st4 {k B : Nat} {lo hi b o x y z u : Int} {w1 : World} (h : Box4 k lo hi b o w1) (hk : k ≠ B) : Box4 k lo hi b o (Go.Proofs.Ytcopcajleonndaa.st4 w1 B x y z u) := h.heap (st4_heap hk x y z u w1)
theorem RBox.st4o {W : World} {B k : Nat} {x y z u : Int} (h : RBox W B x y z u) (hk : B ≠ k) (x' y' z' u' : Int) : RBox (Go.Proofs.Ytcopcajleonndaa.st4 W k x' y' z' u') B x y z u := (st4_heap hk x' y' z' u' W).trans h
theorem Box4.drew {k : Nat} {lo hi b o : Int} {w1 : World} (h : Box4 k lo hi b o w1) : Box4 k lo hi b o w1.drew := ⟨h.c0, h.c1, h.c2, h.c3⟩
theorem st4_size (w1 : World) (B : Nat) (x y z u : Int) : w1.heap.size ≤ (st4 w1 B x y z u).heap.size := (st4_below (n₀ := 0) B x y z u (Below.refl 0 w1) (Nat.zero_le _)).size

/-- What a law of two ranges knows of the world: its two arguments, and that nothing old has turned. -/
structure Two (w : World) (a b c d e f g h : Int) (wr : World) : Prop where
  A : Box4 w.heap.size a b c d wr
  B : Box4 (w.heap.size + 1) e f g h wr
  l : w.heap.size + 1 < wr.heap.size
  bel : Below w.heap.size w wr
section
variable {w wr w' : World} {a b c d e f g h : Int}
theorem Two.below (t : Two w a b c d e f g h wr) (hb : Below wr.heap.size wr w') : Two w a b c d e f g h w' := by
  have := t.l; have := hb.size
  exact ⟨t.A.below hb (by omega), t.B.below hb t.l, by omega, t.bel.trans (hb.mono (by omega))⟩
theorem Two.drew (t : Two w a b c d e f g h wr) : Two w a b c d e f g h wr.drew := ⟨t.A.drew, t.B.drew, t.l, t.bel.drew⟩
theorem Two.alloc (t : Two w a b c d e f g h wr) (o : Obj) : Two w a b c d e f g h (wr.alloc o) := t.below ((Below.refl _ _).alloc (Nat.le_refl _) _)
theorem Two.st4 (t : Two w a b c d e f g h wr) {k : Nat} (hk : w.heap.size + 1 < k) (x y z u : Int) : Two w a b c d e f g h (Go.Proofs.Ytcopcajleonndaa.st4 wr k x y z u) :=
  ⟨t.A.st4 (by omega), t.B.st4 (by omega), Nat.lt_of_lt_of_le t.l (st4_size _ _ _ _ _ _), st4_below _ _ _ _ _ t.bel (by omega)⟩
theorem Two.new (w : World) (a b c d e f g h : Int) (T : TypeId) : Two w a b c d e f g h ((w.alloc (.cells #[.int .i64 a, .int .i64 b, .int .i64 c, .int .i64 d] T)).alloc (.cells #[.int .i64 e, .int .i64 f, .int .i64 g, .int .i64 h] T)) := by
  refine ⟨(Box4.new w a b c d T).alloc (by simp) _, ?_, by simp, newB w _ _⟩
  have h0 := Box4.new (w.alloc (.cells #[.int .i64 a, .int .i64 b, .int .i64 c, .int .i64 d] T)) e f g h T
  simp only [World.size_alloc] at h0
  exact h0
end

end Go.Proofs.Ytcopcajleonndaa
