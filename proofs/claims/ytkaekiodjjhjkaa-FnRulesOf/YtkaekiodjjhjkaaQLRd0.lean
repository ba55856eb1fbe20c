/- The specification's l1Read: what it reads, loosely: boxes of ops. -/
import Derived.Test.YtkaekiodjjhjkaaQLLin2
namespace Go.Proofs.Ytkaekiodjjhjkaa
open Go.RowKit
set_option linter.unusedVariables false
set_option linter.unusedSimpArgs false


section
variable {W W' : World} {B : Nat} {o d s f i z : Int}
theorem Box6.set0 (v : Int) (h : Box6 W B o d s f i z) : Box6 (W.setCell ⟨B, 0, none⟩ (.int .i64 v)) B v d s f i z := by
  obtain ⟨hlt, hk⟩ := Array.getElem?_eq_some_iff.1 h
  show (W.heap.modify B _)[B]? = _
  rw [Array.getElem?_eq_getElem (by rw [Array.size_modify]; exact hlt), Array.getElem_modify_self, hk]
  rfl
theorem Box6.set1 (v : Int) (h : Box6 W B o d s f i z) : Box6 (W.setCell ⟨B, 1, none⟩ (.int .i64 v)) B o v s f i z := by
  obtain ⟨hlt, hk⟩ := Array.getElem?_eq_some_iff.1 h
  show (W.heap.modify B _)[B]? = _
  rw [Array.getElem?_eq_getElem (by rw [Array.size_modify]; exact hlt), Array.getElem_modify_self, hk]
  rfl
theorem Box6.set2 (v : Int) (h : Box6 W B o d s f i z) : Box6 (W.setCell ⟨B, 2, none⟩ (.int .i64 v)) B o d v f i z := by
  obtain ⟨hlt, hk⟩ := Array.getElem?_eq_some_iff.1 h
  show (W.heap.modify B _)[B]? = _
  rw [Array.getElem?_eq_getElem (by rw [Array.size_modify]; exact hlt), Array.getElem_modify_self, hk]
  rfl
theorem Box6.set3 (v : Int) (h : Box6 W B o d s f i z) : Box6 (W.setCell ⟨B, 3, none⟩ (.int .i64 v)) B o d s v i z := by
  obtain ⟨hlt, hk⟩ := Array.getElem?_eq_some_iff.1 h
  show (W.heap.modify B _)[B]? = _
  rw [Array.getElem?_eq_getElem (by rw [Array.size_modify]; exact hlt), Array.getElem_modify_self, hk]
  rfl
theorem Box6.set4 (v : Int) (h : Box6 W B o d s f i z) : Box6 (W.setCell ⟨B, 4, none⟩ (.int .i64 v)) B o d s f v z := by
  obtain ⟨hlt, hk⟩ := Array.getElem?_eq_some_iff.1 h
  show (W.heap.modify B _)[B]? = _
  rw [Array.getElem?_eq_getElem (by rw [Array.size_modify]; exact hlt), Array.getElem_modify_self, hk]
  rfl
theorem Box6.set5 (v : Int) (h : Box6 W B o d s f i z) : Box6 (W.setCell ⟨B, 5, none⟩ (.int .i64 v)) B o d s f i v := by
  obtain ⟨hlt, hk⟩ := Array.getElem?_eq_some_iff.1 h
  show (W.heap.modify B _)[B]? = _
  rw [Array.getElem?_eq_getElem (by rw [Array.size_modify]; exact hlt), Array.getElem_modify_self, hk]
  rfl
theorem Box6.frozen (h : Box6 W B o d s f i z) (j : Nat) : W.frozen? ⟨B, j, none⟩ = false := by simp [World.frozen?, show W.heap[B]? = _ from h]
theorem Box6.setO (h : Box6 W B o d s f i z) (C j : Nat) (v : Value) (hne : B ≠ C) : Box6 (W.setCell ⟨C, j, none⟩ v) B o d s f i z := (Below.heap_setCell W ⟨C, j, none⟩ v B hne).trans h
def st6b (W : World) (B : Nat) (o d s f i z : Int) : World := (((((W.setCell ⟨B, 0, none⟩ (.int .i64 o)).setCell ⟨B, 1, none⟩ (.int .i64 d)).setCell ⟨B, 2, none⟩ (.int .i64 s)).setCell ⟨B, 3, none⟩ (.int .i64 f)).setCell ⟨B, 4, none⟩ (.int .i64 i)).setCell ⟨B, 5, none⟩ (.int .i64 z)
theorem Box6.st (h : Box6 W B o d s f i z) (o' d' s' f' i' z' : Int) : Box6 (st6b W B o' d' s' f' i' z') B o' d' s' f' i' z' := Box6.set5 _ (Box6.set4 _ (Box6.set3 _ (Box6.set2 _ (Box6.set1 _ (Box6.set0 _ h)))))
theorem Box6.stO (h : Box6 W B o d s f i z) (C : Nat) (hne : B ≠ C) (o' d' s' f' i' z' : Int) : Box6 (st6b W C o' d' s' f' i' z') B o d s f i z := ((((((h.setO C 0 _ hne).setO C 1 _ hne).setO C 2 _ hne).setO C 3 _ hne).setO C 4 _ hne).setO C 5 _ hne)
theorem st6b_below {W₀ : World} {n : Nat} (h : Below n W₀ W) (hB : n ≤ B) (o' d' s' f' i' z' : Int) : Below n W₀ (st6b W B o' d' s' f' i' z') := (((((h.setCell hB _).setCell hB _).setCell hB _).setCell hB _).setCell hB _).setCell hB _
theorem SL.set {w : World} {g C j : Nat} {l : List ByteArray} (h : SL w g l) (v : Value) (hne : g ≠ C) : SL (w.setCell ⟨C, j, none⟩ v) g l := by
  refine ⟨by show g < (w.heap.modify C _).size; rw [Array.size_modify]; exact h.1, fun i hi => ?_⟩
  rw [World.cell?_of_block (w := w) (w' := w.setCell ⟨C, j, none⟩ v) (Below.heap_setCell w ⟨C, j, none⟩ v g hne)]
  exact h.2 i hi
theorem SL.st {w : World} {g C : Nat} {l : List ByteArray} (h : SL w g l) (hne : g ≠ C) (o' d' s' f' i' z' : Int) : SL (st6b w C o' d' s' f' i' z') g l := (((((h.set _ hne).set _ hne).set _ hne).set _ hne).set _ hne).set _ hne
end
def AnX (e : Ending) : Prop := ∃ o d s f i z : Int, e = .returned (.agg #[.int .i64 o, .int .i64 d, .int .i64 s, .int .i64 f, .int .i64 i, .int .i64 z])

end Go.Proofs.Ytkaekiodjjhjkaa
