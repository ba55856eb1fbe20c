/- A range that lies in a block of its own. -/
import Derived.Test.YtcopcajleonndaaQRH
import Derived.Deep.RegionHeld3
import Derived.RangeFuncRecord
namespace Go.Proofs.Ytcopcajleonndaa
open Go.RowKit
set_option linter.unusedVariables false
set_option linter.unusedSimpArgs false

/-- Block B holds a range. -/
def RBox (W : World) (B : Nat) (x y z u : Int) : Prop := W.heap[B]? = some (.cells #[.int .i64 x, .int .i64 y, .int .i64 z, .int .i64 u] 54 (0, 0))
section
variable {W W' : World} {B B' : Nat} {x y z u : Int}
theorem RBox.lt (h : RBox W B x y z u) : B < W.heap.size := (Array.getElem?_eq_some_iff.1 h).1
theorem RBox.box (h : RBox W B x y z u) : Box4 B x y z u W := by
  refine ⟨?_, ?_, ?_, ?_⟩ <;> simp [World.cell?, show W.heap[B]? = _ from h]
theorem RBox.frozen (h : RBox W B x y z u) (j : Nat) : W.frozen? ⟨B, j, none⟩ = false := by simp [World.frozen?, show W.heap[B]? = _ from h]
theorem RBox.below (h : RBox W B x y z u) (hb : Below W.heap.size W W') : RBox W' B x y z u := (hb.block B (RBox.lt h)).trans h
theorem RBox.alloc (h : RBox W B x y z u) (obj : Obj) : RBox (W.alloc obj) B x y z u := (Below.heap_alloc W obj B (RBox.lt h)).trans h
theorem RBox.new (W : World) (x y z u : Int) : RBox (W.alloc (.cells #[.int .i64 x, .int .i64 y, .int .i64 z, .int .i64 u] 54)) W.heap.size x y z u := World.alloc_heap_new W _
theorem RBox.drewN (h : RBox W B x y z u) (n : Nat) : RBox (W.drewN n) B x y z u := h
theorem RBox.drew (h : RBox W B x y z u) : RBox W.drew B x y z u := h
theorem RBox.other (h : RBox W B x y z u) (a : Addr) (v : Value) (hne : B ≠ a.block) : RBox (W.setCell a v) B x y z u := (Below.heap_setCell W a v B hne).trans h
theorem RBox.set0 (h : RBox W B x y z u) (n : Int) : RBox (W.setCell ⟨B, 0, none⟩ (.int .i64 n)) B n y z u := by
  obtain ⟨hlt, hk⟩ := Array.getElem?_eq_some_iff.1 h
  show (W.heap.modify B _)[B]? = _
  rw [Array.getElem?_eq_getElem (by rw [Array.size_modify]; exact hlt), Array.getElem_modify_self, hk]
  rfl
theorem RBox.set1 (h : RBox W B x y z u) (n : Int) : RBox (W.setCell ⟨B, 1, none⟩ (.int .i64 n)) B x n z u := by
  obtain ⟨hlt, hk⟩ := Array.getElem?_eq_some_iff.1 h
  show (W.heap.modify B _)[B]? = _
  rw [Array.getElem?_eq_getElem (by rw [Array.size_modify]; exact hlt), Array.getElem_modify_self, hk]
  rfl
theorem RBox.set2 (h : RBox W B x y z u) (n : Int) : RBox (W.setCell ⟨B, 2, none⟩ (.int .i64 n)) B x y n u := by
  obtain ⟨hlt, hk⟩ := Array.getElem?_eq_some_iff.1 h
  show (W.heap.modify B _)[B]? = _
  rw [Array.getElem?_eq_getElem (by rw [Array.size_modify]; exact hlt), Array.getElem_modify_self, hk]
  rfl
theorem RBox.set3 (h : RBox W B x y z u) (n : Int) : RBox (W.setCell ⟨B, 3, none⟩ (.int .i64 n)) B x y z n := by
  obtain ⟨hlt, hk⟩ := Array.getElem?_eq_some_iff.1 h
  show (W.heap.modify B _)[B]? = _
  rw [Array.getElem?_eq_getElem (by rw [Array.size_modify]; exact hlt), Array.getElem_modify_self, hk]
  rfl
end
/-- The four stores of a range. -/
def st4 (W : World) (B : Nat) (x y z u : Int) : World := (((W.setCell ⟨B, 0, none⟩ (.int .i64 x)).setCell ⟨B, 1, none⟩ (.int .i64 y)).setCell ⟨B, 2, none⟩ (.int .i64 z)).setCell ⟨B, 3, none⟩ (.int .i64 u)
theorem RBox.st4 {W : World} {B : Nat} {x y z u x' y' z' u' : Int} (h : RBox W B x y z u) : RBox (st4 W B x' y' z' u') B x' y' z' u' := (((h.set0 x').set1 y').set2 z').set3 u'
theorem st4_below {W₀ W : World} {n₀ : Nat} (B : Nat) (x y z u : Int) (h : Below n₀ W₀ W) (hB : n₀ ≤ B) : Below n₀ W₀ (st4 W B x y z u) := (((h.setCell hB _).setCell hB _).setCell hB _).setCell hB _
end Go.Proofs.Ytcopcajleonndaa
